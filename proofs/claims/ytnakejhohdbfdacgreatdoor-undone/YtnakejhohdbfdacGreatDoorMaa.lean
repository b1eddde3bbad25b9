import Derived.Test.YtnakejhohdbfdacGreatDoorRows
import Derived.WalkKit
import Derived.WalkSpells
import Derived.RegionTactic
import Derived.Deep.QuietTactic
import Derived.BigQuiet
import Derived.Shelf.Abstract
import Derived.ProofKit
import Derived.OpenShut
import Derived.Deep.Strs
import Derived.Lib.LaidTab
import Derived.Stop.LaidErr
import Derived.Test.YtnakejhohdbfdacGreatDoorM0k
set_option maxHeartbeats 1000000
namespace Go.Proofs.YtnakejhohdbfdacGreatDoor.jg
open Go.Proofs.Tryz
def iY:List (Int × Int × Int):=[(0,8,9),(9,9,11),(10,10,10),(11,11,11),(12,12,12),(13,13,10),(14,27,9),(28,30,10),(31,31,11),(32,32,12),(33,34,13),(35,37,5),(38,42,13),(43,43,4),(44,44,7),(45,45,4),(46,47,7),(48,57,3),(58,58,7),(59,64,13),(91,96,13),(123,126,13),(127,132,9),(133,133,10),(134,159,9),(160,160,7),(161,161,13),(162,165,5),(166,169,13),(171,172,13),(173,173,9),(174,175,13),(176,177,5),(178,179,3),(180,180,13),(768,879,8),(1425,1469,8),(1470,1470,1),(1488,1514,1),(1536,1541,6),(1544,1544,2),(1548,1548,7),(1564,1564,2),(1568,1610,2),(1611,1631,8),(1632,1641,6),(1642,1642,5),(1643,1644,6),(1645,1647,2),(1648,1648,8),(1649,1747,2),(1776,1785,3),(8203,8205,9),(8207,8207,1),(8232,8232,12),(8233,8233,10),(8234,8234,14),(8235,8235,16),(8236,8236,18),(8237,8237,15),(8238,8238,17),(8239,8239,7),(8260,8260,7),(8294,8294,19),(8295,8295,20),(8296,8296,21),(8297,8297,22),(8352,8383,5),(8592,8595,13),(9728,10175,13),(12296,12299,13),(65024,65039,8),(65279,65279,9),(65533,65533,13),(127744,129535,13)]
def jv:List (Int × Int × Int):=[(0,8,9),(9,9,11),(10,10,10),(11,11,11),(12,12,12),(13,13,10),(14,27,9),(28,30,10),(31,31,11),(32,32,12),(33,34,13),(35,37,5),(38,42,13),(43,43,4),(44,44,7),(45,45,4),(46,47,7),(48,57,3),(58,58,7),(59,64,13),(91,96,13),(123,126,13),(127,132,9),(133,133,10),(134,159,9),(160,160,7),(161,161,13),(162,165,5),(166,169,13),(171,172,13),(173,173,9),(174,175,13),(176,177,5),(178,179,3),(180,180,13)]
def jh:List (Int × Int × Int):=[(768,879,8),(1425,1469,8),(1470,1470,1),(1488,1514,1),(1536,1541,6),(1544,1544,2),(1548,1548,7),(1564,1564,2),(1568,1610,2),(1611,1631,8),(1632,1641,6),(1642,1642,5),(1643,1644,6),(1645,1647,2),(1648,1648,8),(1649,1747,2),(1776,1785,3),(8203,8205,9),(8207,8207,1),(8232,8232,12),(8233,8233,10),(8239,8239,7),(8260,8260,7),(8352,8383,5),(8592,8595,13),(9728,10175,13),(12296,12299,13),(65024,65039,8),(65279,65279,9),(65533,65533,13),(127744,129535,13)]
def pG:List (Int × Int × Int):=[(8234,8234,14),(8235,8235,16),(8236,8236,18),(8237,8237,15),(8238,8238,17),(8294,8294,19),(8295,8295,20),(8296,8296,21),(8297,8297,22)]
def jr:List (Int × Int × Int):=[(0,9,3),(10,10,2),(11,12,3),(13,13,1),(14,31,3),(127,159,3),(169,169,14),(173,173,3),(174,174,14),(768,879,4),(1425,1469,4),(1536,1541,7),(1564,1564,3),(1611,1631,4),(1648,1648,4),(2307,2307,8),(2366,2368,8),(4352,4447,9),(4448,4519,10),(4520,4607,11),(8203,8203,3),(8204,8204,4),(8205,8205,5),(8206,8207,3),(8232,8238,3),(8294,8297,3),(9728,10175,14),(65024,65039,4),(65279,65279,3),(127462,127487,6),(127744,127994,14),(127995,127999,4),(128000,129535,14)]
def hit (r:Int)(x:Int × Int × Int):Bool:=decide (x.1<=r) && decide (r<=x.2.1)
def look:List (Int × Int × Int)->Int->Int
 | [],_=>0
 | x :: l,r=>if hit r x then x.2.2 else look l r
def rising:Int->List (Int × Int × Int)->Bool
 | _,[]=>true
 | z,x :: l=>decide (z<x.1) && decide (x.1<=x.2.1) && rising x.2.1 l
def Az (l:List (Int × Int × Int))(i:Nat):Int:=(l.getD i (0,0,0)).1
def zL (l:List (Int × Int × Int))(i:Nat):Int:=(l.getD i (0,0,0)).2.1
def NY (l:List (Int × Int × Int))(i:Nat):Int:=(l.getD i (0,0,0)).2.2
theorem su:∀(l:List (Int × Int × Int)) (z:Int),rising z l=true->∀x∈l,z<x.1/\x.1<=x.2.1
 | [],_,_,x,hx=>by cases hx
 | y :: l,z,h,x,hx=>by
   simp only[rising,dK,decide_eq_true_eq]at h
   rcases bA.1 hx with rfl | hx
   ·exact⟨h.1.1,h.1.2⟩
   ·have:=su l _ h.2 x hx
    exact⟨by omega,this.2⟩
theorem pR:∀(l:List (Int × Int × Int)) (r:Int),(∀x∈l,hit r x=false)->look l r=0
 | [],_,_=>rfl
 | x :: l,r,h=>by
   rw[look,ay (by rw[h x bX];exact aG)];exact pR l r fun y hy=>h y (dH _ hy)
theorem pY:∀(l:List (Int × Int × Int)) (z r:Int),rising z l=true->∀x∈l,hit r x=true->look l r=x.2.2
 | [],_,_,_,x,hx,_=>by cases hx
 | y :: l,z,r,h,x,hx,hr=>by
   simp only[rising,dK,decide_eq_true_eq]at h
   rcases bA.1 hx with rfl | hx
   ·rw[look,aE hr]
   ·have hm:=su l _ h.2 x hx
    have hy:hit r y=false:=by
     simp only[hit,dK,decide_eq_true_eq]at hr;simp only[hit,eu,dP];omega
    rw[look,ay (by rw[hy];exact aG)];exact pY l _ r h.2 x hx hr
theorem NZ (r:Int)(l:List (Int × Int × Int)):(∃x∈l,hit r x=true)\/∀x∈l,hit r x=false:=by
 by_cases h:∃x∈l,hit r x=true
 ·exact .inl h
 ·refine .inr fun x hx=>?_
  cases e:hit r x with
  | false=>rfl
  | true=>exact absurd ⟨x,hx,e⟩ h
theorem yH (l:List (Int × Int × Int))(i:Nat)(h:i<l.length):(Az l i,zL l i,NY l i)∈l:=by
 have:l.getD i (0,0,0)=l[i]:=by simp[List.getD,h]
 unfold Az zL NY;rw[this];exact bB h
theorem Lb {l:List (Int × Int × Int)}{x:Int × Int × Int}(h:x∈l):∃i,i<l.length/\x=(Az l i,zL l i,NY l i):=by
 obtain⟨i,hi,rfl⟩:=bU h;refine⟨i,hi,?_⟩;have:l.getD i (0,0,0)=l[i]:=by simp[List.getD,hi]
 unfold Az zL NY;rw[this]
theorem vT:∀(l:List (Int × Int × Int)) (z:Int),rising z l=true->∀i j,i<j->j<l.length->zL l i<Az l j
 | [],_,_,i,j,_,hj=>by simp at hj
 | y :: l,z,h,i,j,hij,hj=>by
   simp only[rising,dK,decide_eq_true_eq]at h;cases j with
   | zero=>omega
   | succ j =>
     have hj':j<l.length:=by simpa using hj
     cases i with
     | zero =>
       have:=su l _ h.2 _ (yH l j hj');show y.2.1<Az l j;exact this.1
     | succ i=>exact vT l _ h.2 i j (by omega) hj'
theorem Bq (l:List (Int × Int × Int))(z:Int)(h:rising z l=true)(i:Nat)(hi:i<l.length):Az l i<=zL l i:=(su l z h _ (yH l i hi)).2
theorem Bt (l:List (Int × Int × Int))(z:Int)(h:rising z l=true)(r:Int)(a b:Nat)(hab:a<=b)(hb:b<l.length)(hr:decide (r<=zL l a)=true):decide (r<=zL l b)=true:=by
 simp only[decide_eq_true_eq]at hr ⊢
 rcases aH hab with h1 | h1
 ·have:=vT l z h a b h1 hb
  have:=Bq l z h b hb;omega
 ·subst h1;exact hr
theorem Bu (l:List (Int × Int × Int))(z:Int)(h:rising z l=true)(r:Int)(k:Nat)(hk:k<l.length)(h1:Az l k<=r)(h2:decide (r<=zL l k)=true):look l r=NY l k:=by
 refine pY l z r h _ (yH l k hk) ?_;show(decide (Az l k<=r) && decide (r<=zL l k))=true;rw[h2,bQ h1];rfl
theorem uE (l:List (Int × Int × Int))(z:Int)(h:rising z l=true)(r:Int)(k:Nat)(hlo:∀t,t<k->decide (r<=zL l t)=false)(h1:k<l.length->r<Az l k):look l r=0:=by
 refine pR l r fun x hx=>?_
 obtain⟨i,hi,rfl⟩:=Lb hx;simp only[hit,eu,dP]
 rcases b8 i k with h3 | h3 | h3
 ·have:=hlo i h3
  simp only[dP]at this;exact .inr this
 ·subst h3
  have:=h1 hi;omega
 ·have:=h1 (by omega)
  have:=vT l z h k i h3 hi;have:=Bq l z h k (by omega);omega
theorem qy:jv.length=35:=by decide
theorem oX:jh.length=31:=by decide
theorem oY:jr.length=33:=by decide
theorem vY:rising (-1) iY=true:=by decide
theorem tC:rising (-1) jv=true:=by decide
theorem qR:rising (-1) jh=true:=by decide
theorem uF:rising (-1) jr=true:=by decide
theorem J7:∀x∈jv,x∈iY/\x.2.1<256:=by decide
theorem FD:∀x∈jh,x∈iY/\256<=x.1:=by decide
theorem FE:∀x∈pG,x∈iY/\x.1=x.2.1:=by decide
theorem DL:∀x∈iY,x∈jv\/x∈jh\/x∈pG:=by decide
theorem lU (r c:Int)(h:(r,r,c)∈pG):look iY r=c :=
 pY iY (-1) r vY _ (FE _ h).1 (by simp[hit])
theorem Lc (r:Int)(h:r<256):look iY r=look jv r:=by
 rcases NZ r jv with⟨x,hx,he⟩ | hn
 ·rw[pY jv (-1) r tC x hx he,pY iY (-1) r vY x (J7 x hx).1 he]
 ·rw[pR jv r hn]
  refine pR iY r fun x hx=>?_
  rcases DL x hx with h1 | h1 | h1
  ·exact hn x h1
  ·have:=(FD x h1).2
   simp only[hit,eu,dP];omega
  ·have:∀x∈pG,256<=x.1:=by decide
   have:=this x h1;simp only[hit,eu,dP];omega
theorem Im (r:Int)(h:256<=r)(h9:∀x∈pG,r≠x.1):look iY r=look jh r:=by
 rcases NZ r jh with⟨x,hx,he⟩ | hn
 ·rw[pY jh (-1) r qR x hx he,pY iY (-1) r vY x (FD x hx).1 he]
 ·rw[pR jh r hn]
  refine pR iY r fun x hx=>?_
  rcases DL x hx with h1 | h1 | h1
  ·have:=(J7 x h1).2
   simp only[hit,eu,dP];omega
  ·exact hn x h1
  ·have:=(FE x h1).2
   have:=h9 x h1;simp only[hit,eu,dP];omega
def kindOf (r:Int):Int:=if 44032<=r/\r<=55203 then(if(r - 44032) % 28=0 then 12 else 13)else look jr r
end Go.Proofs.YtnakejhohdbfdacGreatDoor.jg
namespace Go.Proofs.YtnakejhohdbfdacGreatDoor.Cls
open Go.RowKit jg Go.Proofs.Tryz
theorem hide {p:Prop}(h:p):Hid p:=h
def TabAt (w:World)(g:Nat)(l:List (Int × Int × Int)):Prop :=
 ∀i,i<l.length->w.cell? ⟨g,i * 3,none⟩=some (.int .i32 (Az l i))/\w.cell? ⟨g,i * 3+1,none⟩=some (.int .i32 (zL l i))/\w.cell? ⟨g,i * 3+2,none⟩=some (.int .i64 (NY l i))
theorem TabAt.below {w w':World}{g B:Nat}{l:List (Int × Int × Int)}(h:TabAt w g l)(hg:g<B)(hb:Below B w w'):TabAt w' g l:=fun i hi =>
 ⟨(hb.cell (p:=⟨g,i * 3,none⟩) hg).trans (h i hi).1,(hb.cell (p:=⟨g,i * 3+1,none⟩) hg).trans (h i hi).2.1,(hb.cell (p:=⟨g,i * 3+2,none⟩) hg).trans (h i hi).2.2⟩
theorem TabAt.lt {w:World}{g:Nat}{l:List (Int × Int × Int)}(h:TabAt w g l)(hl:0<l.length):g<w.heap.size:=fC _ _ (h 0 hl).1
theorem below_drewN (B:Nat)(w:World)(q:Nat):Below B w (w.drewN q):=⟨rfl,rfl,rfl,au _,fun _ _=>rfl⟩
theorem Ld (i:Nat)(hi:i<35)(r z:Int)(b:Nat)(w:World)(hr:w.cell? ⟨b,0,none⟩=some (.int .i32 r))(hz:w.cell? ⟨1,i * 3+1,none⟩=some (.int .i32 z)) :
 Calls prog 79 (#[.int .i64 i]++#[.pointer (some ⟨b,0,none⟩)]) w fun e w'=>e=.returned (.bool (decide (r<=z)))/\∃q,w'=w.drewN q:=by
 have hi1:(i:Int)<35:=by omega
 go_enter func79,ntmps79;go_wp2;go_quiet (fail);go_wp2;go_ret;exact⟨rfl,_,rfl⟩
theorem N0 (args:Array Value)(w:World):(callFunc 79 args).run prog w=.ok (.enter 79 args) w:=by kernel_rfl
theorem Le (i:Nat)(hi:i<31)(r z:Int)(b:Nat)(w:World)(hr:w.cell? ⟨b,0,none⟩=some (.int .i32 r))(hz:w.cell? ⟨2,i * 3+1,none⟩=some (.int .i32 z)) :
 Calls prog 80 (#[.int .i64 i]++#[.pointer (some ⟨b,0,none⟩)]) w fun e w'=>e=.returned (.bool (decide (r<=z)))/\∃q,w'=w.drewN q:=by
 have hi1:(i:Int)<31:=by omega
 go_enter func80,ntmps80;go_wp2;go_quiet (fail);go_wp2;go_ret;exact⟨rfl,_,rfl⟩
theorem N1 (args:Array Value)(w:World):(callFunc 80 args).run prog w=.ok (.enter 80 args) w:=by kernel_rfl
theorem v_ (g:Nat)(cb:Array Value)(n:Nat)(p:Nat->Bool)(w:World)(eg:∀args w,(callFunc g args).run prog w=.ok (.enter g args) w)(hsz:n<1000000)
 (hf:∀(m:Nat) (i:Nat),i<n->Calls prog g (#[.int .i64 i]++cb) (w.drewN m) fun e w'=>e=.returned (.bool (p i))/\∃q,w'=(w.drewN m).drewN q)
 (hmono:∀a b,a<=b->b<n->p a=true->p b=true) :
 Calls prog 73 #[.int .i64 n,.func (.func g) #[] cb] w fun e w'=>∃k:Nat,k<=n/\(∀t,t<k->p t=false)/\(∀t,k<=t->t<n->p t=true)/\e=.returned (.int .i64 k)/\∃q,w'=w.drewN q:=by
 have HF:Hid _:=hf;have M:Hid _:=hmono;clear hf hmono;go_enter func73,ntmps73;go_wp2
 go_loopw [5,6] (fun s5 s6 wr=>∃(lo hi q:Nat),s5=.int .i64 lo/\s6=.int .i64 hi/\lo<=hi/\hi<=n/\wr=w.drewN q /\
  Hid ((∀t,t<lo->p t=false)/\(∀t,hi<=t->t<n->p t=true))) (fun s5 s6 _=>(intOf s6 - intOf s5).toNat)
 case atStart=>exact⟨0,n,0,rfl,rfl,aN _,au _,rfl,hide ⟨fun t ht=>absurd ht (cu _),fun t h1 h2=>by omega⟩⟩
 case round =>
  obtain⟨lo,hi,q,rfl,rfl,hlh,hin,rfl,I⟩:=hrel;by_cases hlt:lo<hi
  ·have hc:=HF.out q ((lo+hi) / 2) (by omega)
   rw[show(((lo+hi) / 2:Nat):Int)=((lo:Int)+(hi:Int)) / 2 by omega]at hc;have hl2:(lo+hi) / 2<hi:=by omega
   have hl3:lo<=(lo+hi) / 2:=by omega
   cases hp:p ((lo+hi) / 2) <;> rw[hp]at hc
   ·have HP:Hid (p ((lo+hi) / 2)=false):=hide hp
    clear hp;go_wp2_with (go_at_fn g;refine hc.mono ?_;rintro e w' ⟨rfl,nq,rfl⟩);go_roundw
    case measure=>simp[intOf];omega
    case rel =>
     have I2:(∀t,t<(lo+hi) / 2+1->p t=false)/\(∀t,hi<=t->t<n->p t=true):=⟨fun t ht=>(by
      cases h:p t with
      | false=>rfl
      | true=>have:=M.out t ((lo+hi) / 2) (by omega) (by omega) h;rw[HP.out]at this;cases this),I.out.2⟩
     exact⟨(lo+hi) / 2+1,hi,q+nq,by rw[show((lo:Int)+(hi:Int)) / 2+1=(((lo+hi) / 2+1:Nat):Int) by omega],rfl,by omega,hin,rfl,hide I2⟩
   ·have HP:Hid (p ((lo+hi) / 2)=true):=hide hp
    clear hp;go_wp2_with (go_at_fn g;refine hc.mono ?_;rintro e w' ⟨rfl,nq,rfl⟩);go_roundw
    case measure=>simp[intOf];omega
    case rel =>
     have I2:(∀t,t<lo->p t=false)/\(∀t,(lo+hi) / 2<=t->t<n->p t=true):=⟨I.out.1,fun t ht htn=>M.out ((lo+hi) / 2) t ht htn HP.out⟩;exact⟨lo,(lo+hi) / 2,q+nq,rfl,by rw[show((lo:Int)+(hi:Int)) / 2=(((lo+hi) / 2:Nat):Int) by omega],by omega,by omega,rfl,hide I2⟩
  ·obtain rfl:hi=lo:=by omega
   go_wp2;go_ret;exact⟨hi,hin,I.out.1,I.out.2,rfl,q,rfl⟩
theorem SQ (r:Int)(b:Nat)(w:World)(ht:TabAt w 1 jv)(hr:w.cell? ⟨b,0,none⟩=some (.int .i32 r)) :
 Calls prog 73 #[.int .i64 35,.func (.func 79) #[] #[.pointer (some ⟨b,0,none⟩)]] w fun e w'=>∃k:Nat,k<=35/\(∀t,t<k->decide (r<=zL jv t)=false)/\(∀t,k<=t->t<35->decide (r<=zL jv t)=true)/\e=.returned (.int .i64 k)/\∃q,w'=w.drewN q :=
 v_ 79 #[.pointer (some ⟨b,0,none⟩)] 35 (fun i=>decide (r<=zL jv i)) w N0 (by decide)
  (fun m i hi=>Ld i hi r (zL jv i) b (w.drewN m) (by simpa using hr) (by simpa using (ht i (by rw[qy];exact hi)).2.1))
  (fun x y hxy hy h=>Bt jv (-1) tC r x y hxy (by rw[qy];exact hy) h)
theorem SR (r:Int)(b:Nat)(w:World)(ht:TabAt w 2 jh)(hr:w.cell? ⟨b,0,none⟩=some (.int .i32 r)) :
 Calls prog 73 #[.int .i64 31,.func (.func 80) #[] #[.pointer (some ⟨b,0,none⟩)]] w fun e w'=>∃k:Nat,k<=31/\(∀t,t<k->decide (r<=zL jh t)=false)/\(∀t,k<=t->t<31->decide (r<=zL jh t)=true)/\e=.returned (.int .i64 k)/\∃q,w'=w.drewN q :=
 v_ 80 #[.pointer (some ⟨b,0,none⟩)] 31 (fun i=>decide (r<=zL jh i)) w N1 (by decide)
  (fun m i hi=>Le i hi r (zL jh i) b (w.drewN m) (by simpa using hr) (by simpa using (ht i (by rw[oX];exact hi)).2.1))
  (fun x y hxy hy h=>Bt jh (-1) qR r x y hxy (by rw[oX];exact hy) h)
theorem Bv (r:Int)(w:World)(ht:TabAt w 1 jv) :
 Calls prog 41 #[.int .i32 r] w fun e w'=>e=.returned (.int .i64 (jg.look jv r))/\Below w.heap.size w w':=by
 have hg:=ht.lt (by rw[qy];decide);have hb1:Below w.heap.size w (w.alloc (.cells #[.int .i32 r] 21)):=(fN _ _).alloc (au _) _;have hs:=SQ r w.heap.size (w.alloc (.cells #[.int .i32 r] 21)) (ht.below hg hb1) (by simp);have HT:Hid (TabAt w 1 jv):=ht;clear ht;generalize hv:jg.look jv r=v;have HV:Hid (jg.look jv r=v):=hv;clear hv;go_enter func41,ntmps41;go_wp2_with (go_at_call 73;refine hs.mono ?_;rintro e w' ⟨k,hk,hlo,hhi,rfl,q,rfl⟩);have LO:Hid _:=hlo;clear hs hlo;by_cases hkn:k<35
 ·obtain⟨c0,c1,c2⟩:=(HT.out.below hg hb1) k (by rw[qy];exact hkn)
  clear c1;have hr2:=hhi k (au _) hkn;clear hhi hb1;have Bx:(k:Int)<35:=by omega
  have hd:decide ((k:Int)<35)=true:=by simpa using Bx
  by_cases hfr:Az jv k<=r
  ·have E:NY jv k=v:=(Bu jv (-1) tC r k (by rw[qy];exact hkn) hfr hr2).symm.trans HV.out
   rw[E]at c2;clear E;generalize Az jv k=z at c0 hfr;clear hr2;go_quiet (fail);go_wp2;go_ret;exact⟨rfl,((fN _ _).alloc (au _) _).trans (below_drewN _ _ _)⟩
  ·have E:(0:Int)=v:=(uE jv (-1) tC r k LO.out (fun _=>by omega)).symm.trans HV.out
   have hfr2:decide (Az jv k<=r)=false:=by simpa using hfr
   subst E;generalize Az jv k=z at c0 hfr hfr2;clear hr2;go_quiet (fail);go_wp2;go_ret;exact⟨rfl,((fN _ _).alloc (au _) _).trans (below_drewN _ _ _)⟩
 ·have E:(0:Int)=v:=(uE jv (-1) tC r k LO.out (fun h=>by rw[qy]at h;omega)).symm.trans HV.out
  subst E;have Bx:¬(k:Int)<35:=by omega
  have hd:decide ((k:Int)<35)=false:=by simpa using Bx
  clear hhi hb1;go_quiet (fail);go_wp2;go_ret;exact⟨rfl,((fN _ _).alloc (au _) _).trans (below_drewN _ _ _)⟩
theorem Bz (r:Int)(w:World)(ht:TabAt w 2 jh) :
 Calls prog 42 #[.int .i32 r] w fun e w'=>e=.returned (.int .i64 (jg.look jh r))/\Below w.heap.size w w':=by
 have hg:=ht.lt (by rw[oX];decide);have hb1:Below w.heap.size w (w.alloc (.cells #[.int .i32 r] 21)):=(fN _ _).alloc (au _) _;have hs:=SR r w.heap.size (w.alloc (.cells #[.int .i32 r] 21)) (ht.below hg hb1) (by simp);have HT:Hid (TabAt w 2 jh):=ht;clear ht;generalize hv:jg.look jh r=v;have HV:Hid (jg.look jh r=v):=hv;clear hv;go_enter func42,ntmps42;go_wp2_with (go_at_call 73;refine hs.mono ?_;rintro e w' ⟨k,hk,hlo,hhi,rfl,q,rfl⟩);have LO:Hid _:=hlo;clear hs hlo;by_cases hkn:k<31
 ·obtain⟨c0,c1,c2⟩:=(HT.out.below hg hb1) k (by rw[oX];exact hkn)
  clear c1;have hr2:=hhi k (au _) hkn;clear hhi hb1;have Bx:(k:Int)<31:=by omega
  have hd:decide ((k:Int)<31)=true:=by simpa using Bx
  by_cases hfr:Az jh k<=r
  ·have E:NY jh k=v:=(Bu jh (-1) qR r k (by rw[oX];exact hkn) hfr hr2).symm.trans HV.out
   rw[E]at c2;clear E;generalize Az jh k=z at c0 hfr;clear hr2;go_quiet (fail);go_wp2;go_ret;exact⟨rfl,((fN _ _).alloc (au _) _).trans (below_drewN _ _ _)⟩
  ·have E:(0:Int)=v:=(uE jh (-1) qR r k LO.out (fun _=>by omega)).symm.trans HV.out
   have hfr2:decide (Az jh k<=r)=false:=by simpa using hfr
   subst E;generalize Az jh k=z at c0 hfr hfr2;clear hr2;go_quiet (fail);go_wp2;go_ret;exact⟨rfl,((fN _ _).alloc (au _) _).trans (below_drewN _ _ _)⟩
 ·have E:(0:Int)=v:=(uE jh (-1) qR r k LO.out (fun h=>by rw[oX]at h;omega)).symm.trans HV.out
  subst E;have Bx:¬(k:Int)<31:=by omega
  have hd:decide ((k:Int)<31)=false:=by simpa using Bx
  clear hhi hb1;go_quiet (fail);go_wp2;go_ret;exact⟨rfl,((fN _ _).alloc (au _) _).trans (below_drewN _ _ _)⟩
theorem Lf (w:World):Calls prog 22 #[.int .i32 8234] w fun e w'=>e=.returned (.int .i64 14)/\w'=w:=by
 go_enter func22,ntmps22;go_wp2;go_ret;exact⟨rfl,rfl⟩
theorem Lg (w:World):Calls prog 22 #[.int .i32 8235] w fun e w'=>e=.returned (.int .i64 16)/\w'=w:=by
 go_enter func22,ntmps22;go_wp2;go_ret;exact⟨rfl,rfl⟩
theorem Lh (w:World):Calls prog 22 #[.int .i32 8236] w fun e w'=>e=.returned (.int .i64 18)/\w'=w:=by
 go_enter func22,ntmps22;go_wp2;go_ret;exact⟨rfl,rfl⟩
theorem Li (w:World):Calls prog 22 #[.int .i32 8237] w fun e w'=>e=.returned (.int .i64 15)/\w'=w:=by
 go_enter func22,ntmps22;go_wp2;go_ret;exact⟨rfl,rfl⟩
theorem Lj (w:World):Calls prog 22 #[.int .i32 8238] w fun e w'=>e=.returned (.int .i64 17)/\w'=w:=by
 go_enter func22,ntmps22;go_wp2;go_ret;exact⟨rfl,rfl⟩
theorem Ll (w:World):Calls prog 22 #[.int .i32 8294] w fun e w'=>e=.returned (.int .i64 19)/\w'=w:=by
 go_enter func22,ntmps22;go_wp2;go_ret;exact⟨rfl,rfl⟩
theorem Lm (w:World):Calls prog 22 #[.int .i32 8295] w fun e w'=>e=.returned (.int .i64 20)/\w'=w:=by
 go_enter func22,ntmps22;go_wp2;go_ret;exact⟨rfl,rfl⟩
theorem Lo (w:World):Calls prog 22 #[.int .i32 8296] w fun e w'=>e=.returned (.int .i64 21)/\w'=w:=by
 go_enter func22,ntmps22;go_wp2;go_ret;exact⟨rfl,rfl⟩
theorem Lp (w:World):Calls prog 22 #[.int .i32 8297] w fun e w'=>e=.returned (.int .i64 22)/\w'=w:=by
 go_enter func22,ntmps22;go_wp2;go_ret;exact⟨rfl,rfl⟩
theorem N3 (r:Int)(w:World)(ht:TabAt w 1 jv)(hl:r<256) :
 Calls prog 22 #[.int .i32 r] w fun e w'=>e=.returned (.int .i64 (jg.look jv r))/\Below w.heap.size w w':=by
 have hc:=Bv r w ht;clear ht;generalize jg.look jv r=v at hc ⊢;have ZV:(r == 8234)=false:=aQ.2 (by omega);have ZW:(r == 8235)=false:=aQ.2 (by omega);have ZX:(r == 8236)=false:=aQ.2 (by omega);have ZY:(r == 8237)=false:=aQ.2 (by omega);have ZZ:(r == 8238)=false:=aQ.2 (by omega);have Z0:(r == 8294)=false:=aQ.2 (by omega);have Z1:(r == 8295)=false:=aQ.2 (by omega);have Z2:(r == 8296)=false:=aQ.2 (by omega);have Z4:(r == 8297)=false:=aQ.2 (by omega);go_enter func22,ntmps22;go_wp2_with (go_at_call 41;refine hc.mono ?_;rintro e w' ⟨rfl,hb⟩);go_ret;exact⟨rfl,hb⟩
theorem Lq (r:Int)(w:World)(ht:TabAt w 2 jh)(hl:256<=r)(h9:∀x∈pG,r≠x.1) :
 Calls prog 22 #[.int .i32 r] w fun e w'=>e=.returned (.int .i64 (jg.look jh r))/\Below w.heap.size w w':=by
 have hc:=Bz r w ht;clear ht;generalize jg.look jh r=v at hc ⊢;have ZV:(r == 8234)=false:=aQ.2 (h9 (8234,8234,14) (by decide));have ZW:(r == 8235)=false:=aQ.2 (h9 (8235,8235,16) (by decide));have ZX:(r == 8236)=false:=aQ.2 (h9 (8236,8236,18) (by decide));have ZY:(r == 8237)=false:=aQ.2 (h9 (8237,8237,15) (by decide));have ZZ:(r == 8238)=false:=aQ.2 (h9 (8238,8238,17) (by decide));have Z0:(r == 8294)=false:=aQ.2 (h9 (8294,8294,19) (by decide));have Z1:(r == 8295)=false:=aQ.2 (h9 (8295,8295,20) (by decide));have Z2:(r == 8296)=false:=aQ.2 (h9 (8296,8296,21) (by decide));have Z4:(r == 8297)=false:=aQ.2 (h9 (8297,8297,22) (by decide));clear h9;go_enter func22,ntmps22;go_wp2_with (go_at_call 42;refine hc.mono ?_;rintro e w' ⟨rfl,hb⟩);go_ret;exact⟨rfl,hb⟩
theorem tD (r:Int)(w:World)(h3:TabAt w 1 jv)(h4:TabAt w 2 jh) :
 Calls prog 22 #[.int .i32 r] w fun e w'=>e=.returned (.int .i64 (jg.look iY r))/\Below w.heap.size w w':=by
 by_cases hl:r<256
 ·rw[Lc r hl];exact N3 r w h3 hl
 ·by_cases h9:∀x∈pG,r≠x.1
  ·rw[Im r (by omega) h9];exact Lq r w h4 (by omega) h9
  ·have hex:∃x∈pG,r=x.1:=by
    refine Classical.byContradiction fun h=>h9 fun x hx e=>h ⟨x,hx,e⟩
   obtain⟨x,hx,rfl⟩:=hex;simp only[pG,bA,aj,fB]at hx
   rcases hx with rfl | rfl | rfl | rfl | rfl | rfl | rfl | rfl | rfl
   ·rw[lU 8234 14 (by decide)];exact(Lf w).mono fun e w' h=>⟨h.1,h.2 ▸ fN _ _⟩
   ·rw[lU 8235 16 (by decide)];exact(Lg w).mono fun e w' h=>⟨h.1,h.2 ▸ fN _ _⟩
   ·rw[lU 8236 18 (by decide)];exact(Lh w).mono fun e w' h=>⟨h.1,h.2 ▸ fN _ _⟩
   ·rw[lU 8237 15 (by decide)];exact(Li w).mono fun e w' h=>⟨h.1,h.2 ▸ fN _ _⟩
   ·rw[lU 8238 17 (by decide)];exact(Lj w).mono fun e w' h=>⟨h.1,h.2 ▸ fN _ _⟩
   ·rw[lU 8294 19 (by decide)];exact(Ll w).mono fun e w' h=>⟨h.1,h.2 ▸ fN _ _⟩
   ·rw[lU 8295 20 (by decide)];exact(Lm w).mono fun e w' h=>⟨h.1,h.2 ▸ fN _ _⟩
   ·rw[lU 8296 21 (by decide)];exact(Lo w).mono fun e w' h=>⟨h.1,h.2 ▸ fN _ _⟩
   ·rw[lU 8297 22 (by decide)];exact(Lp w).mono fun e w' h=>⟨h.1,h.2 ▸ fN _ _⟩
def wh (r:Int):Bool:=decide ((r - 44032) % 28=0)
theorem SV {r:Int}(h:wh r=true):((r - 44032) % 28 == 0)=true:=by simpa[wh] using h
theorem W4 {r:Int}(h:wh r=false):((r - 44032) % 28 == 0)=false:=by simpa[wh] using h
theorem N4 {r:Int}(h1:44032<=r)(h2:r<=55203)(h:wh r=true):kindOf r=12:=by
 unfold kindOf;rw[aE ⟨h1,h2⟩,aE (by simpa[wh] using h)]
theorem SW {r:Int}(h1:44032<=r)(h2:r<=55203)(h:wh r=false):kindOf r=13:=by
 unfold kindOf;rw[aE ⟨h1,h2⟩,ay (by simpa[wh] using h)]
theorem N5 {r:Int}(h:¬(44032<=r/\r<=55203)):kindOf r=jg.look jr r:=by
 unfold kindOf;rw[ay h]
def rowData {H:Type}(x:Int × Int × Int):DataW H:=.agg [.lit (.int .i32 x.1),.lit (.int .i32 x.2.1),.lit (.int .i64 x.2.2)]
theorem Io {k:IntKind}{cs:List Value}{o:Nat}{z:Int}(h:(cs.drop o).take 1=[Value.int k z]):cs[o]?=some (.int k z):=by
 have:=congrArg (·[0]?) h;simpa[d_,dG] using this
theorem Ds {H:Type}{enc:TypeId × Value->H}{P:Program}{w:World}{base:Nat}{sp:Nat->Bool}{held:Bool}{fuel:Nat}{t e:TypeId}{n:Nat}{f0 f1 f2:Field}{cs:List Value}{l:List (Int × Int × Int)}{p:List MemPlace}
 (ht:P.underlying t=some (.array n e)) (he:P.underlying e=some (.struct #[f0,f1,f2])) (hce:P.cellsOf e=3)
 (o0:f0.offset=0) (o1:f1.offset=1) (o2:f2.offset=2) (u0:P.underlying f0.type=some (.int .i32)) (u1:P.underlying f1.type=some (.int .i32)) (u2:P.underlying f2.type=some (.int .i64))
 (s0:P.cellsOf f0.type=1) (s1:P.cellsOf f1.type=1) (s2:P.cellsOf f2.type=1) (hn:n=l.length)
 (h:DataW.trod enc P w base sp held fuel t cs=some (.agg (l.map rowData),p)) (i:Nat) (hi:i<l.length) :
 cs[i * 3]?=some (.int .i32 (Az l i))/\cs[i * 3+1]?=some (.int .i32 (zL l i))/\cs[i * 3+2]?=some (.int .i64 (NY l i)):=by
 cases fuel with
 | zero=>simp[DataW.trod]at h
 | succ fuel =>
   simp only[DataW.trod,ht,hce]at h;split at h
   ·obtain⟨xs,hm,hx⟩:=Option.map_eq_some_iff.1 h
    have hxs:xs.map (·.1)=l.map (rowData (H:=H)):=by
     have:=congrArg Prod.fst hx;simpa using this
    obtain⟨b,hb,hf⟩:=Lib.mapM_at hm i i (by simp[hn,hi]);obtain⟨y0,y1,y2,m,hy,_,t0,t1,t2⟩:=Deep.trod_struct3 he hf;rw[o0,s0]at t0;rw[o1,s1]at t1;rw[o2,s2]at t2;obtain⟨z0,c0,e0,_⟩:=iy u0 t0;obtain⟨z1,c1,e1,_⟩:=iy u1 t1;obtain⟨z2,c2,e2,_⟩:=iy u2 t2;subst e0 e1 e2 hy;have hb1:(xs.map (·.1))[i]?=some (DataW.agg [.lit (.int .i32 z0),.lit (.int .i32 z1),.lit (.int .i64 z2)]):=by simp[hb]
    rw[hxs]at hb1;have hr:(l.map (rowData (H:=H)))[i]?=some (rowData (l[i])):=by simp[hi]
    rw[hr]at hb1;simp only[rowData,eV,DataW.agg.injEq,List.cons.injEq,DataW.lit.injEq,Lit.int.injEq,true_and,and_true]at hb1;have hg:l.getD i (0,0,0)=l[i]:=by simp[List.getD,hi]
    unfold Az zL NY;rw[hg,hb1.1,hb1.2.1,hb1.2.2];have k0:=Io c0;have k1:=Io c1;have k2:=Io c2;simp only[d_,dG]at k0 k1 k2;exact⟨by simpa using k0,by simpa using k1,by simpa using k2⟩
   ·cases h
theorem qK {P:Program}{W:World}{name:String}{l:List (Int × Int × Int)}{rest:List (String × DataW Unit)}{g:Nat}{t e:TypeId}{n:Nat}{f0 f1 f2:Field}
 (hg:P.globalNamed name=some g) (hty:(P.globals[g]?).map (·.type)=some t) (ht:P.underlying t=some (.array n e)) (he:P.underlying e=some (.struct #[f0,f1,f2])) (hce:P.cellsOf e=3)
 (o0:f0.offset=0) (o1:f1.offset=1) (o2:f2.offset=2) (u0:P.underlying f0.type=some (.int .i32)) (u1:P.underlying f1.type=some (.int .i32)) (u2:P.underlying f2.type=some (.int .i64))
 (s0:P.cellsOf f0.type=1) (s1:P.cellsOf f1.type=1) (s2:P.cellsOf f2.type=1) (hn:n=l.length)
 (h:laidMet P ((name,.agg (l.map rowData)) :: rest) W):TabAt W g l:=by
 obtain⟨ps,⟨g',t',cs,fuel,p,q,hg',ht',hvar,hd,_,_⟩,_⟩:=h;obtain rfl:=aZ (hg.symm.trans hg');obtain rfl:=aZ (hty.symm.trans ht');intro i hi;obtain⟨c0,c1,c2⟩:=Ds ht he hce o0 o1 o2 u0 u1 u2 s0 s1 s2 hn hd i hi;have v:=World.var?_cell hg hvar;simp only[dS]at c0 c1 c2;exact⟨(v _).trans c0,(v _).trans c1,(v _).trans c2⟩
theorem adF:(Tryz.prog.globals[1]?).map (·.type)=some 167:=by kernel_rfl
theorem Z5:(Tryz.prog.globals[2]?).map (·.type)=some 168:=by kernel_rfl
theorem J8:Tryz.prog.cellsOf 166=3:=by kernel_rfl
theorem uG:Tryz.prog.cellsOf 21=1:=by kernel_rfl
theorem J9:Tryz.prog.cellsOf 49=1:=by kernel_rfl
theorem SX:(Rows.laid_caret_runes_lowClasses:DataW Unit)=.agg (jv.map rowData):=by kernel_rfl
theorem N6:(Rows.laid_caret_runes_highClasses:DataW Unit)=.agg (jh.map rowData):=by kernel_rfl
theorem FF {W:World}{n:String}{rest:List (String × DataW Unit)}(h:laidMet prog ((n,Rows.laid_caret_runes_lowClasses) :: rest) W)(hn:Tryz.prog.globalNamed n=some 1):TabAt W 1 jv:=by
 rw[SX]at h;exact qK hn adF underlying167 underlying166 J8 rfl rfl rfl underlying21 underlying21 underlying49 uG uG J9 qy.symm h
theorem Ez {W:World}{n:String}{rest:List (String × DataW Unit)}(h:laidMet prog ((n,Rows.laid_caret_runes_highClasses) :: rest) W)(hn:Tryz.prog.globalNamed n=some 2):TabAt W 2 jh:=by
 rw[N6]at h;exact qK hn Z5 underlying168 underlying166 J8 rfl rfl rfl underlying21 underlying21 underlying49 uG uG J9 oX.symm h
end Go.Proofs.YtnakejhohdbfdacGreatDoor.Cls
