import Derived.Test.YtnakejhohdbfdaaGreatDoorRows
import Derived.WalkKit
import Derived.WalkSpells
import Derived.RegionTactic
import Derived.Deep.QuietTactic
import Derived.BigQuiet
import Derived.Shelf.Abstract
import Derived.ProofKit
import Derived.OpenShut
import Derived.Deep.Strs
import Derived.Lib.LaidTab
import Derived.Stop.LaidErr
import Derived.Test.YtnakejhohdbfdaaGreatDoorV0k
set_option maxHeartbeats 1000000
set_option maxRecDepth 100000
namespace Go.Proofs.YtnakejhohdbfdaaGreatDoor.iK
open Go.Proofs.Tryz
def gm:List (Int × Int × Int):=[(0,8,9),(9,9,11),(10,10,10),(11,11,11),(12,12,12),(13,13,10),(14,27,9),(28,30,10),(31,31,11),(32,32,12),(33,34,13),(35,37,5),(38,42,13),(43,43,4),(44,44,7),(45,45,4),(46,47,7),(48,57,3),(58,58,7),(59,64,13),(91,96,13),(123,126,13),(127,132,9),(133,133,10),(134,159,9),(160,160,7),(161,161,13),(162,165,5),(166,169,13),(171,172,13),(173,173,9),(174,175,13),(176,177,5),(178,179,3),(180,180,13),(768,879,8),(1425,1469,8),(1470,1470,1),(1488,1514,1),(1536,1541,6),(1544,1544,2),(1548,1548,7),(1564,1564,2),(1568,1610,2),(1611,1631,8),(1632,1641,6),(1642,1642,5),(1643,1644,6),(1645,1647,2),(1648,1648,8),(1649,1747,2),(1776,1785,3),(8203,8205,9),(8207,8207,1),(8232,8232,12),(8233,8233,10),(8234,8234,14),(8235,8235,16),(8236,8236,18),(8237,8237,15),(8238,8238,17),(8239,8239,7),(8260,8260,7),(8294,8294,19),(8295,8295,20),(8296,8296,21),(8297,8297,22),(8352,8383,5),(8592,8595,13),(9728,10175,13),(12296,12299,13),(65024,65039,8),(65279,65279,9),(65533,65533,13),(127744,129535,13)]
def iN:List (Int × Int × Int):=[(0,8,9),(9,9,11),(10,10,10),(11,11,11),(12,12,12),(13,13,10),(14,27,9),(28,30,10),(31,31,11),(32,32,12),(33,34,13),(35,37,5),(38,42,13),(43,43,4),(44,44,7),(45,45,4),(46,47,7),(48,57,3),(58,58,7),(59,64,13),(91,96,13),(123,126,13),(127,132,9),(133,133,10),(134,159,9),(160,160,7),(161,161,13),(162,165,5),(166,169,13),(171,172,13),(173,173,9),(174,175,13),(176,177,5),(178,179,3),(180,180,13)]
def g_:List (Int × Int × Int):=[(768,879,8),(1425,1469,8),(1470,1470,1),(1488,1514,1),(1536,1541,6),(1544,1544,2),(1548,1548,7),(1564,1564,2),(1568,1610,2),(1611,1631,8),(1632,1641,6),(1642,1642,5),(1643,1644,6),(1645,1647,2),(1648,1648,8),(1649,1747,2),(1776,1785,3),(8203,8205,9),(8207,8207,1),(8232,8232,12),(8233,8233,10),(8239,8239,7),(8260,8260,7),(8352,8383,5),(8592,8595,13),(9728,10175,13),(12296,12299,13),(65024,65039,8),(65279,65279,9),(65533,65533,13),(127744,129535,13)]
def pI:List (Int × Int × Int):=[(8234,8234,14),(8235,8235,16),(8236,8236,18),(8237,8237,15),(8238,8238,17),(8294,8294,19),(8295,8295,20),(8296,8296,21),(8297,8297,22)]
def gD:List (Int × Int × Int):=[(0,9,3),(10,10,2),(11,12,3),(13,13,1),(14,31,3),(127,159,3),(169,169,14),(173,173,3),(174,174,14),(768,879,4),(1425,1469,4),(1536,1541,7),(1564,1564,3),(1611,1631,4),(1648,1648,4),(2307,2307,8),(2366,2368,8),(4352,4447,9),(4448,4519,10),(4520,4607,11),(8203,8203,3),(8204,8204,4),(8205,8205,5),(8206,8207,3),(8232,8238,3),(8294,8297,3),(9728,10175,14),(65024,65039,4),(65279,65279,3),(127462,127487,6),(127744,127994,14),(127995,127999,4),(128000,129535,14)]
def hit (r:Int)(x:Int × Int × Int):Bool:=decide (x.1<=r) && decide (r<=x.2.1)
def look:List (Int × Int × Int)->Int->Int
 | [],_=>0
 | x :: l,r=>if hit r x then x.2.2 else look l r
def rising:Int->List (Int × Int × Int)->Bool
 | _,[]=>true
 | z,x :: l=>decide (z<x.1) && decide (x.1<=x.2.1) && rising x.2.1 l
def pJ (l:List (Int × Int × Int))(i:Nat):Int:=(l.getD i (0,0,0)).1
def ql (l:List (Int × Int × Int))(i:Nat):Int:=(l.getD i (0,0,0)).2.1
def Dw (l:List (Int × Int × Int))(i:Nat):Int:=(l.getD i (0,0,0)).2.2
theorem sM:∀(l:List (Int × Int × Int)) (z:Int),rising z l=true->∀x∈l,z<x.1/\x.1<=x.2.1
 | [],_,_,x,hx=>by cases hx
 | y :: l,z,h,x,hx=>by
   simp only[rising,b7,dJ]at h
   rcases bK.1 hx with rfl | hx
   ·exact⟨h.1.1,h.1.2⟩
   ·have:=sM l _ h.2 x hx
    exact⟨by omega,this.2⟩
theorem oA:∀(l:List (Int × Int × Int)) (r:Int),(∀x∈l,hit r x=false)->look l r=0
 | [],_,_=>rfl
 | x :: l,r,h=>by
   rw[look,au (by rw[h x bA];exact aE)];exact oA l r fun y hy=>h y (cP _ hy)
theorem nN:∀(l:List (Int × Int × Int)) (z r:Int),rising z l=true->∀x∈l,hit r x=true->look l r=x.2.2
 | [],_,_,_,x,hx,_=>by cases hx
 | y :: l,z,r,h,x,hx,hr=>by
   simp only[rising,b7,dJ]at h
   rcases bK.1 hx with rfl | hx
   ·rw[look,ay hr]
   ·have hm:=sM l _ h.2 x hx
    have hy:hit r y=false:=by
     simp only[hit,b7,dJ]at hr;simp only[hit,dM,cN];omega
    rw[look,au (by rw[hy];exact aE)];exact nN l _ r h.2 x hx hr
theorem Pb (r:Int)(l:List (Int × Int × Int)):(∃x∈l,hit r x=true)\/∀x∈l,hit r x=false:=by
 by_cases h:∃x∈l,hit r x=true
 ·exact .inl h
 ·refine .inr fun x hx=>?_
  cases e:hit r x with
  | false=>rfl
  | true=>exact absurd ⟨x,hx,e⟩ h
theorem rE (l:List (Int × Int × Int))(i:Nat)(h:i<l.length):(pJ l i,ql l i,Dw l i)∈l:=by
 have:l.getD i (0,0,0)=l[i]:=by simp[List.getD,h]
 unfold pJ ql Dw;rw[this];exact aT h
theorem Ei {l:List (Int × Int × Int)}{x:Int × Int × Int}(h:x∈l):∃i,i<l.length/\x=(pJ l i,ql l i,Dw l i):=by
 obtain⟨i,hi,rfl⟩:=bz h;refine⟨i,hi,?_⟩;have:l.getD i (0,0,0)=l[i]:=by simp[List.getD,hi]
 unfold pJ ql Dw;rw[this]
theorem wO:∀(l:List (Int × Int × Int)) (z:Int),rising z l=true->∀i j,i<j->j<l.length->ql l i<pJ l j
 | [],_,_,i,j,_,hj=>by simp at hj
 | y :: l,z,h,i,j,hij,hj=>by
   simp only[rising,b7,dJ]at h;cases j with
   | zero=>omega
   | succ j =>
     have hj':j<l.length:=by simpa using hj
     cases i with
     | zero =>
       have:=sM l _ h.2 _ (rE l j hj');show y.2.1<pJ l j;exact this.1
     | succ i=>exact wO l _ h.2 i j (by omega) hj'
theorem BR (l:List (Int × Int × Int))(z:Int)(h:rising z l=true)(i:Nat)(hi:i<l.length):pJ l i<=ql l i:=(sM l z h _ (rE l i hi)).2
theorem BS (l:List (Int × Int × Int))(z:Int)(h:rising z l=true)(r:Int)(a b:Nat)(hab:a<=b)(hb:b<l.length)(hr:decide (r<=ql l a)=true):decide (r<=ql l b)=true:=by
 simp only[dJ]at hr ⊢
 rcases aA hab with h1 | h1
 ·have:=wO l z h a b h1 hb
  have:=BR l z h b hb;omega
 ·subst h1;exact hr
theorem BU (l:List (Int × Int × Int))(z:Int)(h:rising z l=true)(r:Int)(k:Nat)(hk:k<l.length)(h1:pJ l k<=r)(h2:decide (r<=ql l k)=true):look l r=Dw l k:=by
 refine nN l z r h _ (rE l k hk) ?_;show(decide (pJ l k<=r) && decide (r<=ql l k))=true;rw[h2,aZ h1];rfl
theorem uP (l:List (Int × Int × Int))(z:Int)(h:rising z l=true)(r:Int)(k:Nat)(hlo:∀t,t<k->decide (r<=ql l t)=false)(h1:k<l.length->r<pJ l k):look l r=0:=by
 refine oA l r fun x hx=>?_
 obtain⟨i,hi,rfl⟩:=Ei hx;simp only[hit,dM,cN]
 rcases bT i k with h3 | h3 | h3
 ·have:=hlo i h3
  simp only[cN]at this;exact .inr this
 ·subst h3
  have:=h1 hi;omega
 ·have:=h1 (by omega)
  have:=wO l z h k i h3 hi;have:=BR l z h k (by omega);omega
theorem y9:gm.length=75:=by decide
theorem qJ:iN.length=35:=by decide
theorem oZ:g_.length=31:=by decide
theorem l9:gD.length=33:=by decide
theorem sN:rising (-1) gm=true:=by decide
theorem tY:rising (-1) iN=true:=by decide
theorem rH:rising (-1) g_=true:=by decide
theorem rJ:rising (-1) gD=true:=by decide
theorem KE:∀x∈iN,x∈gm/\x.2.1<256:=by decide
theorem Gn:∀x∈g_,x∈gm/\256<=x.1:=by decide
theorem Gp:∀x∈pI,x∈gm/\x.1=x.2.1:=by decide
theorem Ej:∀x∈gm,x∈iN\/x∈g_\/x∈pI:=by decide
theorem lB (r c:Int)(h:(r,r,c)∈pI):look gm r=c :=
 nN gm (-1) r sN _ (Gp _ h).1 (by simp[hit])
theorem LG (r:Int)(h:r<256):look gm r=look iN r:=by
 rcases Pb r iN with⟨x,hx,he⟩ | hn
 ·rw[nN iN (-1) r tY x hx he,nN gm (-1) r sN x (KE x hx).1 he]
 ·rw[oA iN r hn]
  refine oA gm r fun x hx=>?_
  rcases Ej x hx with h1 | h1 | h1
  ·exact hn x h1
  ·have:=(Gn x h1).2
   simp only[hit,dM,cN];omega
  ·have:∀x∈pI,256<=x.1:=by decide
   have:=this x h1;simp only[hit,dM,cN];omega
theorem I8 (r:Int)(h:256<=r)(h9:∀x∈pI,r≠x.1):look gm r=look g_ r:=by
 rcases Pb r g_ with⟨x,hx,he⟩ | hn
 ·rw[nN g_ (-1) r rH x hx he,nN gm (-1) r sN x (Gn x hx).1 he]
 ·rw[oA g_ r hn]
  refine oA gm r fun x hx=>?_
  rcases Ej x hx with h1 | h1 | h1
  ·have:=(KE x h1).2
   simp only[hit,dM,cN];omega
  ·exact hn x h1
  ·have:=(Gp x h1).2
   have:=h9 x h1;simp only[hit,dM,cN];omega
def kindOf (r:Int):Int:=if 44032<=r/\r<=55203 then(if(r - 44032) % 28=0 then 12 else 13)else look gD r
end Go.Proofs.YtnakejhohdbfdaaGreatDoor.iK
namespace Go.Proofs.YtnakejhohdbfdaaGreatDoor.mE
open Go.RowKit iK Go.Proofs.Tryz
theorem hide {p:Prop}(h:p):Hid p:=h
def TabAt (w:World)(g:Nat)(l:List (Int × Int × Int)):Prop :=
 ∀i,i<l.length->w.cell? ⟨g,i * 3,none⟩=some (.int .i32 (pJ l i))/\w.cell? ⟨g,i * 3+1,none⟩=some (.int .i32 (ql l i))/\w.cell? ⟨g,i * 3+2,none⟩=some (.int .i64 (Dw l i))
theorem TabAt.below {w w':World}{g B:Nat}{l:List (Int × Int × Int)}(h:TabAt w g l)(hg:g<B)(hb:Below B w w'):TabAt w' g l:=fun i hi =>
 ⟨(hb.cell (p:=⟨g,i * 3,none⟩) hg).trans (h i hi).1,(hb.cell (p:=⟨g,i * 3+1,none⟩) hg).trans (h i hi).2.1,(hb.cell (p:=⟨g,i * 3+2,none⟩) hg).trans (h i hi).2.2⟩
theorem TabAt.lt {w:World}{g:Nat}{l:List (Int × Int × Int)}(h:TabAt w g l)(hl:0<l.length):g<w.heap.size:=eS _ _ (h 0 hl).1
theorem below_drewN (B:Nat)(w:World)(q:Nat):Below B w (w.drewN q):=⟨rfl,rfl,rfl,ak _,fun _ _=>rfl⟩
theorem LH (i:Nat)(hi:i<35)(r z:Int)(b:Nat)(w:World)(hr:w.cell? ⟨b,0,none⟩=some (.int .i32 r))(hz:w.cell? ⟨3,i * 3+1,none⟩=some (.int .i32 z)) :
 Calls prog 214 (#[.int .i64 i]++#[.pointer (some ⟨b,0,none⟩)]) w fun e w'=>e=.returned (.bool (decide (r<=z)))/\∃q,w'=w.drewN q:=by
 have hi1:(i:Int)<35:=by omega
 go_enter func214,ntmps214;go_wp2;go_quiet (fail);go_wp2;go_ret;exact⟨rfl,_,rfl⟩
theorem Pc (args:Array Value)(w:World):(callFunc 214 args).run prog w=.ok (.enter 214 args) w:=by kernel_rfl
theorem LI (i:Nat)(hi:i<31)(r z:Int)(b:Nat)(w:World)(hr:w.cell? ⟨b,0,none⟩=some (.int .i32 r))(hz:w.cell? ⟨4,i * 3+1,none⟩=some (.int .i32 z)) :
 Calls prog 215 (#[.int .i64 i]++#[.pointer (some ⟨b,0,none⟩)]) w fun e w'=>e=.returned (.bool (decide (r<=z)))/\∃q,w'=w.drewN q:=by
 have hi1:(i:Int)<31:=by omega
 go_enter func215,ntmps215;go_wp2;go_quiet (fail);go_wp2;go_ret;exact⟨rfl,_,rfl⟩
theorem Pd (args:Array Value)(w:World):(callFunc 215 args).run prog w=.ok (.enter 215 args) w:=by kernel_rfl
theorem wP (g:Nat)(cb:Array Value)(n:Nat)(p:Nat->Bool)(w:World)(eg:∀args w,(callFunc g args).run prog w=.ok (.enter g args) w)(hsz:n<1000000)
 (hf:∀(m:Nat) (i:Nat),i<n->Calls prog g (#[.int .i64 i]++cb) (w.drewN m) fun e w'=>e=.returned (.bool (p i))/\∃q,w'=(w.drewN m).drewN q)
 (hmono:∀a b,a<=b->b<n->p a=true->p b=true) :
 Calls prog 213 #[.int .i64 n,.func (.func g) #[] cb] w fun e w'=>∃k:Nat,k<=n/\(∀t,t<k->p t=false)/\(∀t,k<=t->t<n->p t=true)/\e=.returned (.int .i64 k)/\∃q,w'=w.drewN q:=by
 have HF:Hid _:=hf;have M:Hid _:=hmono;clear hf hmono;go_enter func213,ntmps213;go_wp2
 go_loopw [5,6] (fun s5 s6 wr=>∃(lo hi q:Nat),s5=.int .i64 lo/\s6=.int .i64 hi/\lo<=hi/\hi<=n/\wr=w.drewN q /\
  Hid ((∀t,t<lo->p t=false)/\(∀t,hi<=t->t<n->p t=true))) (fun s5 s6 _=>(intOf s6 - intOf s5).toNat)
 case atStart=>exact⟨0,n,0,rfl,rfl,aH _,ak _,rfl,hide ⟨fun t ht=>absurd ht (bE _),fun t h1 h2=>by omega⟩⟩
 case round =>
  obtain⟨lo,hi,q,rfl,rfl,hlh,hin,rfl,I⟩:=hrel;by_cases hlt:lo<hi
  ·have hc:=HF.out q ((lo+hi) / 2) (by omega)
   rw[show(((lo+hi) / 2:Nat):Int)=((lo:Int)+(hi:Int)) / 2 by omega]at hc;have hl2:(lo+hi) / 2<hi:=by omega
   have hl3:lo<=(lo+hi) / 2:=by omega
   cases hp:p ((lo+hi) / 2) <;> rw[hp]at hc
   ·have HP:Hid (p ((lo+hi) / 2)=false):=hide hp
    clear hp;go_wp2_with (go_at_fn g;refine hc.mono ?_;rintro e w' ⟨rfl,nq,rfl⟩);go_roundw
    case measure=>simp[intOf];omega
    case rel =>
     have I2:(∀t,t<(lo+hi) / 2+1->p t=false)/\(∀t,hi<=t->t<n->p t=true):=⟨fun t ht=>(by
      cases h:p t with
      | false=>rfl
      | true=>have:=M.out t ((lo+hi) / 2) (by omega) (by omega) h;rw[HP.out]at this;cases this),I.out.2⟩
     exact⟨(lo+hi) / 2+1,hi,q+nq,by rw[show((lo:Int)+(hi:Int)) / 2+1=(((lo+hi) / 2+1:Nat):Int) by omega],rfl,by omega,hin,rfl,hide I2⟩
   ·have HP:Hid (p ((lo+hi) / 2)=true):=hide hp
    clear hp;go_wp2_with (go_at_fn g;refine hc.mono ?_;rintro e w' ⟨rfl,nq,rfl⟩);go_roundw
    case measure=>simp[intOf];omega
    case rel =>
     have I2:(∀t,t<lo->p t=false)/\(∀t,(lo+hi) / 2<=t->t<n->p t=true):=⟨I.out.1,fun t ht htn=>M.out ((lo+hi) / 2) t ht htn HP.out⟩;exact⟨lo,(lo+hi) / 2,q+nq,rfl,by rw[show((lo:Int)+(hi:Int)) / 2=(((lo+hi) / 2:Nat):Int) by omega],by omega,by omega,rfl,hide I2⟩
  ·obtain rfl:hi=lo:=by omega
   go_wp2;go_ret;exact⟨hi,hin,I.out.1,I.out.2,rfl,q,rfl⟩
theorem TO (r:Int)(b:Nat)(w:World)(ht:TabAt w 3 iN)(hr:w.cell? ⟨b,0,none⟩=some (.int .i32 r)) :
 Calls prog 213 #[.int .i64 35,.func (.func 214) #[] #[.pointer (some ⟨b,0,none⟩)]] w fun e w'=>∃k:Nat,k<=35/\(∀t,t<k->decide (r<=ql iN t)=false)/\(∀t,k<=t->t<35->decide (r<=ql iN t)=true)/\e=.returned (.int .i64 k)/\∃q,w'=w.drewN q :=
 wP 214 #[.pointer (some ⟨b,0,none⟩)] 35 (fun i=>decide (r<=ql iN i)) w Pc (by decide)
  (fun m i hi=>LH i hi r (ql iN i) b (w.drewN m) (by simpa using hr) (by simpa using (ht i (by rw[qJ];exact hi)).2.1))
  (fun x y hxy hy h=>BS iN (-1) tY r x y hxy (by rw[qJ];exact hy) h)
theorem TP (r:Int)(b:Nat)(w:World)(ht:TabAt w 4 g_)(hr:w.cell? ⟨b,0,none⟩=some (.int .i32 r)) :
 Calls prog 213 #[.int .i64 31,.func (.func 215) #[] #[.pointer (some ⟨b,0,none⟩)]] w fun e w'=>∃k:Nat,k<=31/\(∀t,t<k->decide (r<=ql g_ t)=false)/\(∀t,k<=t->t<31->decide (r<=ql g_ t)=true)/\e=.returned (.int .i64 k)/\∃q,w'=w.drewN q :=
 wP 215 #[.pointer (some ⟨b,0,none⟩)] 31 (fun i=>decide (r<=ql g_ i)) w Pd (by decide)
  (fun m i hi=>LI i hi r (ql g_ i) b (w.drewN m) (by simpa using hr) (by simpa using (ht i (by rw[oZ];exact hi)).2.1))
  (fun x y hxy hy h=>BS g_ (-1) rH r x y hxy (by rw[oZ];exact hy) h)
theorem BW (r:Int)(w:World)(ht:TabAt w 3 iN) :
 Calls prog 179 #[.int .i32 r] w fun e w'=>e=.returned (.int .i64 (iK.look iN r))/\Below w.heap.size w w':=by
 have hg:=ht.lt (by rw[qJ];decide);have hb1:Below w.heap.size w (w.alloc (.cells #[.int .i32 r] 21)):=(fq _ _).alloc (ak _) _;have hs:=TO r w.heap.size (w.alloc (.cells #[.int .i32 r] 21)) (ht.below hg hb1) (by simp);have HT:Hid (TabAt w 3 iN):=ht;clear ht;generalize hv:iK.look iN r=v;have HV:Hid (iK.look iN r=v):=hv;clear hv;go_enter func179,ntmps179;go_wp2_with (go_at_call 213;refine hs.mono ?_;rintro e w' ⟨k,hk,hlo,hhi,rfl,q,rfl⟩);have LO:Hid _:=hlo;clear hs hlo;by_cases hkn:k<35
 ·obtain⟨c0,c1,c2⟩:=(HT.out.below hg hb1) k (by rw[qJ];exact hkn)
  clear c1;have hr2:=hhi k (ak _) hkn;clear hhi hb1;have BX:(k:Int)<35:=by omega
  have hd:decide ((k:Int)<35)=true:=by simpa using BX
  by_cases hfr:pJ iN k<=r
  ·have E:Dw iN k=v:=(BU iN (-1) tY r k (by rw[qJ];exact hkn) hfr hr2).symm.trans HV.out
   rw[E]at c2;clear E;generalize pJ iN k=z at c0 hfr;clear hr2;go_quiet (fail);go_wp2;go_ret;exact⟨rfl,((fq _ _).alloc (ak _) _).trans (below_drewN _ _ _)⟩
  ·have E:(0:Int)=v:=(uP iN (-1) tY r k LO.out (fun _=>by omega)).symm.trans HV.out
   have hfr2:decide (pJ iN k<=r)=false:=by simpa using hfr
   subst E;generalize pJ iN k=z at c0 hfr hfr2;clear hr2;go_quiet (fail);go_wp2;go_ret;exact⟨rfl,((fq _ _).alloc (ak _) _).trans (below_drewN _ _ _)⟩
 ·have E:(0:Int)=v:=(uP iN (-1) tY r k LO.out (fun h=>by rw[qJ]at h;omega)).symm.trans HV.out
  subst E;have BX:¬(k:Int)<35:=by omega
  have hd:decide ((k:Int)<35)=false:=by simpa using BX
  clear hhi hb1;go_quiet (fail);go_wp2;go_ret;exact⟨rfl,((fq _ _).alloc (ak _) _).trans (below_drewN _ _ _)⟩
theorem BZ (r:Int)(w:World)(ht:TabAt w 4 g_) :
 Calls prog 180 #[.int .i32 r] w fun e w'=>e=.returned (.int .i64 (iK.look g_ r))/\Below w.heap.size w w':=by
 have hg:=ht.lt (by rw[oZ];decide);have hb1:Below w.heap.size w (w.alloc (.cells #[.int .i32 r] 21)):=(fq _ _).alloc (ak _) _;have hs:=TP r w.heap.size (w.alloc (.cells #[.int .i32 r] 21)) (ht.below hg hb1) (by simp);have HT:Hid (TabAt w 4 g_):=ht;clear ht;generalize hv:iK.look g_ r=v;have HV:Hid (iK.look g_ r=v):=hv;clear hv;go_enter func180,ntmps180;go_wp2_with (go_at_call 213;refine hs.mono ?_;rintro e w' ⟨k,hk,hlo,hhi,rfl,q,rfl⟩);have LO:Hid _:=hlo;clear hs hlo;by_cases hkn:k<31
 ·obtain⟨c0,c1,c2⟩:=(HT.out.below hg hb1) k (by rw[oZ];exact hkn)
  clear c1;have hr2:=hhi k (ak _) hkn;clear hhi hb1;have BX:(k:Int)<31:=by omega
  have hd:decide ((k:Int)<31)=true:=by simpa using BX
  by_cases hfr:pJ g_ k<=r
  ·have E:Dw g_ k=v:=(BU g_ (-1) rH r k (by rw[oZ];exact hkn) hfr hr2).symm.trans HV.out
   rw[E]at c2;clear E;generalize pJ g_ k=z at c0 hfr;clear hr2;go_quiet (fail);go_wp2;go_ret;exact⟨rfl,((fq _ _).alloc (ak _) _).trans (below_drewN _ _ _)⟩
  ·have E:(0:Int)=v:=(uP g_ (-1) rH r k LO.out (fun _=>by omega)).symm.trans HV.out
   have hfr2:decide (pJ g_ k<=r)=false:=by simpa using hfr
   subst E;generalize pJ g_ k=z at c0 hfr hfr2;clear hr2;go_quiet (fail);go_wp2;go_ret;exact⟨rfl,((fq _ _).alloc (ak _) _).trans (below_drewN _ _ _)⟩
 ·have E:(0:Int)=v:=(uP g_ (-1) rH r k LO.out (fun h=>by rw[oZ]at h;omega)).symm.trans HV.out
  subst E;have BX:¬(k:Int)<31:=by omega
  have hd:decide ((k:Int)<31)=false:=by simpa using BX
  clear hhi hb1;go_quiet (fail);go_wp2;go_ret;exact⟨rfl,((fq _ _).alloc (ak _) _).trans (below_drewN _ _ _)⟩
def Xo (x:Int × Int × Int):Value:=.agg #[.int .i32 x.1,.int .i32 x.2.1,.int .i64 x.2.2]
def nO:List (Int × Int × Int)->List Value
 | []=>[]
 | x :: l=>.int .i32 x.1 :: .int .i32 x.2.1 :: .int .i64 x.2.2 :: nO l
def xU (P:Program)(ops:Array Oper):List Oper->Act->World->Option (Act × World)
 | [],a,w=>some (a,w)
 | o :: rest,a,w =>
   if Region.wanted o (yielded ops a.tmps)then
    match (execOp a.eval o).run P w with
    | .ok (.value v) w'=>xU P ops rest (a.put o.dst v) w'
    | _=>none
   else xU P ops rest (a.put o.dst undef) w
theorem lN {P:Program}{ops:Array Oper}{Q:Exit->Act->World->Prop}:∀ {rest:List Oper} {a:Act} {w:World} (a':Act) (w':World),xU P ops rest a w=some (a',w')->Q .normal a' w'->wpList P ops Q rest a w
 | [],a,w,a',w',h,hq=>by
   simp only[xU,dO,Prod.mk.injEq]at h;obtain⟨rfl,rfl⟩:=h;exact hq
 | o :: rest,a,w,a',w',h,hq=>by
   unfold xU at h;unfold wpList;split
   ·rename_i hw
    rw[ay hw]at h;refine .inl ?_;unfold Oper.wp;split at h
    ·rename_i v w1 he
     rw[he];exact lN a' w' h hq
    ·cases h
   ·rename_i hw
    rw[au hw]at h;exact lN a' w' h hq
def Pe (l:List (Int × Int × Int))(b n:Nat):Act:={ tmps:=(Value.slice (some ⟨b,0,none⟩) n n :: l.map Xo++[Value.slice (some ⟨b,0,none⟩) n n]).toArray,defers:=[] }
def pz (l:List (Int × Int × Int)):Obj:=.cells (nO l).toArray 147
def aal (n:Nat):Act:={ tmps:=(Value.slice none 0 0 :: List.replicate n undef++[undef]).toArray,defers:=[] }
theorem Gq (w:World) :
 Calls prog 83 #[] w fun e w'=>e=.returned (.slice (some ⟨w.heap.size,0,none⟩) 75 75)/\w'=w.alloc (pz gm):=by
 refine calls_of_wp func83 rfl ?_;refine wp_seq (wp_region_list (lN (aal 75) w (by kernel_rfl) ?_));refine wp_seq (wp_region_list (lN (Pe gm w.heap.size 75) (w.alloc (pz gm)) (by kernel_rfl) ?_));refine wp_ret ?_;exact eU (v:=Value.slice (some ⟨w.heap.size,0,none⟩) 75 75) (by kernel_rfl) (by kernel_rfl) ⟨rfl,rfl⟩
theorem xV:∀(l:List (Int × Int × Int)) (i:Nat),i<l.length ->
 (nO l)[i * 3]?=some (.int .i32 (pJ l i))/\(nO l)[i * 3+1]?=some (.int .i32 (ql l i))/\(nO l)[i * 3+2]?=some (.int .i64 (Dw l i))
 | [],i,h=>by simp at h
 | x :: l,0,_=>⟨rfl,rfl,rfl⟩
 | x :: l,i+1,h=>by
   have ih:=xV l i (by simpa using h);rw[show(i+1) * 3=i * 3+1+1+1 by omega,show i * 3+1+1+1+1=i * 3+1+1+1+1 from rfl];exact ih
theorem Ek (w:World)(l:List (Int × Int × Int)):TabAt (w.alloc (pz l)) w.heap.size l:=fun i hi=>by
 obtain⟨h0,h1,h2⟩:=xV l i hi;have key:∀o,(w.alloc (pz l)).cell? ⟨w.heap.size,o,none⟩=(nO l)[o]?:=fun o=>by
  show World.cell? { w with heap:=w.heap.push (pz l) } _=_;simp[World.cell?,pz]
 exact⟨(key _).trans h0,(key _).trans h1,(key _).trans h2⟩
theorem Gr {l:List (Int × Int × Int)}{r:Int}{k:Nat}(h1:pJ l k<=r)(h2:r<=ql l k):hit r (pJ l k,ql l k,Dw l k)=true:=by
 show(decide (pJ l k<=r) && decide (r<=ql l k))=true;rw[aZ h1,aZ h2];rfl
theorem uQ {l:List (Int × Int × Int)}{r:Int}{k:Nat}(h:r<pJ l k\/ql l k<r):hit r (pJ l k,ql l k,Dw l k)=false:=by
 show(decide (pJ l k<=r) && decide (r<=ql l k))=false
 rcases h with h | h
 ·rw[aK (by omega:¬pJ l k<=r)];rfl
 ·rw[aK (by omega:¬r<=ql l k),eO]
theorem Gs {l:List (Int × Int × Int)}{r:Int}(h:∀t,t<l.length->hit r (pJ l t,ql l t,Dw l t)=false):iK.look l r=0 :=
 oA l r fun x hx=>by obtain⟨i,hi,rfl⟩:=Ei hx;exact h i hi
theorem qK {l:List (Int × Int × Int)}{r:Int}{k:Nat}(h:∀t,t<k->hit r (pJ l t,ql l t,Dw l t)=false)(hk:hit r (pJ l k,ql l k,Dw l k)=false):∀t,t<k+1->hit r (pJ l t,ql l t,Dw l t)=false:=fun t ht=>by
 rcases aA (aM ht)with h1 | h1
 ·exact h t h1
 ·subst h1;exact hk
theorem gG (r:Int)(w:World) :
 Calls prog 40 #[.int .i32 r] w fun e w'=>e=.returned (.int .i64 (iK.look gm r))/\Below w.heap.size w w':=by
 generalize hv:iK.look gm r=v;have HV:Hid (iK.look gm r=v):=hv;clear hv;have HT:Hid (TabAt (w.alloc (pz gm)) w.heap.size gm):=Ek w gm;have hbel:Below w.heap.size w (w.alloc (pz gm)):=(fq _ _).alloc (ak _) _;go_enter func40,ntmps40;go_wp2_with (go_at_call 83;refine(Gq _).mono ?_;rintro e w' ⟨rfl,rfl⟩);go_loop [4] (fun s4=>∃k:Nat,k<=75/\s4=.int .i64 k/\Hid (∀t,t<k->hit r (pJ gm t,ql gm t,Dw gm t)=false)) (fun s4=>75 - (intOf s4).toNat)
 case atStart=>exact⟨0,aH _,rfl,hide (fun t ht=>absurd ht (bE _))⟩
 case round =>
  obtain⟨k,hk,rfl,HM⟩:=hrel;by_cases hlt:k<75
  ·obtain⟨c0,c1,c2⟩:=HT.out k (by rw[y9];exact hlt)
   by_cases h1:pJ gm k<=r
   ·by_cases h2:r<=ql gm k
    ·have E:Dw gm k=v:=(nN gm (-1) r sN _ (rE gm k (by rw[y9];exact hlt)) (Gr h1 h2)).symm.trans HV.out
     rw[E]at c2;clear E;generalize pJ gm k=z0 at c0 h1;generalize ql gm k=z1 at c1 h2;go_wp2;go_ret;exact⟨rfl,hbel⟩
    ·have HN:Hid _:=qK HM.out (uQ (k:=k) (.inr (by omega)))
     generalize pJ gm k=z0 at c0 h1;generalize ql gm k=z1 at c1 h2;clear c2;go_wp2;go_round
     case rel=>exact⟨k+1,by omega,by go_num,HN⟩
     case measure=>simp[intOf];omega
   ·have HN:Hid _:=qK HM.out (uQ (k:=k) (.inl (by omega)))
    have h1':decide (pJ gm k<=r)=false:=by simpa using h1
    generalize pJ gm k=z0 at c0 h1 h1';clear c1 c2;go_wp2;go_round
    case rel=>exact⟨k+1,by omega,by go_num,HN⟩
    case measure=>simp[intOf];omega
  ·obtain rfl:k=75:=by omega
   have E:(0:Int)=v:=(Gs (l:=gm) (by rw[y9];exact HM.out)).symm.trans HV.out;subst E;go_wp2;go_ret;exact⟨rfl,hbel⟩
theorem LJ (w:World):Calls prog 124 #[.int .i32 8234] w fun e w'=>e=.returned (.int .i64 14)/\w'=w:=by
 go_enter func124,ntmps124;go_wp2;go_ret;exact⟨rfl,rfl⟩
theorem LK (w:World):Calls prog 124 #[.int .i32 8235] w fun e w'=>e=.returned (.int .i64 16)/\w'=w:=by
 go_enter func124,ntmps124;go_wp2;go_ret;exact⟨rfl,rfl⟩
theorem LM (w:World):Calls prog 124 #[.int .i32 8236] w fun e w'=>e=.returned (.int .i64 18)/\w'=w:=by
 go_enter func124,ntmps124;go_wp2;go_ret;exact⟨rfl,rfl⟩
theorem LN (w:World):Calls prog 124 #[.int .i32 8237] w fun e w'=>e=.returned (.int .i64 15)/\w'=w:=by
 go_enter func124,ntmps124;go_wp2;go_ret;exact⟨rfl,rfl⟩
theorem LQ (w:World):Calls prog 124 #[.int .i32 8238] w fun e w'=>e=.returned (.int .i64 17)/\w'=w:=by
 go_enter func124,ntmps124;go_wp2;go_ret;exact⟨rfl,rfl⟩
theorem LR (w:World):Calls prog 124 #[.int .i32 8294] w fun e w'=>e=.returned (.int .i64 19)/\w'=w:=by
 go_enter func124,ntmps124;go_wp2;go_ret;exact⟨rfl,rfl⟩
theorem LS (w:World):Calls prog 124 #[.int .i32 8295] w fun e w'=>e=.returned (.int .i64 20)/\w'=w:=by
 go_enter func124,ntmps124;go_wp2;go_ret;exact⟨rfl,rfl⟩
theorem LU (w:World):Calls prog 124 #[.int .i32 8296] w fun e w'=>e=.returned (.int .i64 21)/\w'=w:=by
 go_enter func124,ntmps124;go_wp2;go_ret;exact⟨rfl,rfl⟩
theorem LW (w:World):Calls prog 124 #[.int .i32 8297] w fun e w'=>e=.returned (.int .i64 22)/\w'=w:=by
 go_enter func124,ntmps124;go_wp2;go_ret;exact⟨rfl,rfl⟩
theorem Pf (r:Int)(w:World)(ht:TabAt w 3 iN)(hl:r<256) :
 Calls prog 124 #[.int .i32 r] w fun e w'=>e=.returned (.int .i64 (iK.look iN r))/\Below w.heap.size w w':=by
 have hc:=BW r w ht;clear ht;generalize iK.look iN r=v at hc ⊢;have aam:(r == 8234)=false:=aF.2 (by omega);have aan:(r == 8235)=false:=aF.2 (by omega);have aao:(r == 8236)=false:=aF.2 (by omega);have aap:(r == 8237)=false:=aF.2 (by omega);have aaq:(r == 8238)=false:=aF.2 (by omega);have aar:(r == 8294)=false:=aF.2 (by omega);have aas:(r == 8295)=false:=aF.2 (by omega);have aat:(r == 8296)=false:=aF.2 (by omega);have aau:(r == 8297)=false:=aF.2 (by omega);go_enter func124,ntmps124;go_wp2_with (go_at_call 179;refine hc.mono ?_;rintro e w' ⟨rfl,hb⟩);go_ret;exact⟨rfl,hb⟩
theorem LX (r:Int)(w:World)(ht:TabAt w 4 g_)(hl:256<=r)(h9:∀x∈pI,r≠x.1) :
 Calls prog 124 #[.int .i32 r] w fun e w'=>e=.returned (.int .i64 (iK.look g_ r))/\Below w.heap.size w w':=by
 have hc:=BZ r w ht;clear ht;generalize iK.look g_ r=v at hc ⊢;have aam:(r == 8234)=false:=aF.2 (h9 (8234,8234,14) (by decide));have aan:(r == 8235)=false:=aF.2 (h9 (8235,8235,16) (by decide));have aao:(r == 8236)=false:=aF.2 (h9 (8236,8236,18) (by decide));have aap:(r == 8237)=false:=aF.2 (h9 (8237,8237,15) (by decide));have aaq:(r == 8238)=false:=aF.2 (h9 (8238,8238,17) (by decide));have aar:(r == 8294)=false:=aF.2 (h9 (8294,8294,19) (by decide));have aas:(r == 8295)=false:=aF.2 (h9 (8295,8295,20) (by decide));have aat:(r == 8296)=false:=aF.2 (h9 (8296,8296,21) (by decide));have aau:(r == 8297)=false:=aF.2 (h9 (8297,8297,22) (by decide));clear h9;go_enter func124,ntmps124;go_wp2_with (go_at_call 180;refine hc.mono ?_;rintro e w' ⟨rfl,hb⟩);go_ret;exact⟨rfl,hb⟩
theorem B4 (r:Int)(w:World)(h3:TabAt w 3 iN)(h4:TabAt w 4 g_) :
 Calls prog 124 #[.int .i32 r] w fun e w'=>e=.returned (.int .i64 (iK.look gm r))/\Below w.heap.size w w':=by
 by_cases hl:r<256
 ·rw[LG r hl];exact Pf r w h3 hl
 ·by_cases h9:∀x∈pI,r≠x.1
  ·rw[I8 r (by omega) h9];exact LX r w h4 (by omega) h9
  ·have hex:∃x∈pI,r=x.1:=by
    refine Classical.byContradiction fun h=>h9 fun x hx e=>h ⟨x,hx,e⟩
   obtain⟨x,hx,rfl⟩:=hex;simp only[pI,bK,af,eR]at hx
   rcases hx with rfl | rfl | rfl | rfl | rfl | rfl | rfl | rfl | rfl
   ·rw[lB 8234 14 (by decide)];exact(LJ w).mono fun e w' h=>⟨h.1,h.2 ▸ fq _ _⟩
   ·rw[lB 8235 16 (by decide)];exact(LK w).mono fun e w' h=>⟨h.1,h.2 ▸ fq _ _⟩
   ·rw[lB 8236 18 (by decide)];exact(LM w).mono fun e w' h=>⟨h.1,h.2 ▸ fq _ _⟩
   ·rw[lB 8237 15 (by decide)];exact(LN w).mono fun e w' h=>⟨h.1,h.2 ▸ fq _ _⟩
   ·rw[lB 8238 17 (by decide)];exact(LQ w).mono fun e w' h=>⟨h.1,h.2 ▸ fq _ _⟩
   ·rw[lB 8294 19 (by decide)];exact(LR w).mono fun e w' h=>⟨h.1,h.2 ▸ fq _ _⟩
   ·rw[lB 8295 20 (by decide)];exact(LS w).mono fun e w' h=>⟨h.1,h.2 ▸ fq _ _⟩
   ·rw[lB 8296 21 (by decide)];exact(LU w).mono fun e w' h=>⟨h.1,h.2 ▸ fq _ _⟩
   ·rw[lB 8297 22 (by decide)];exact(LW w).mono fun e w' h=>⟨h.1,h.2 ▸ fq _ _⟩
def sj (r:Int):Bool:=decide ((r - 44032) % 28=0)
theorem KF {r:Int}(h:sj r=true):((r - 44032) % 28 == 0)=true:=by simpa[sj] using h
theorem Pg {r:Int}(h:sj r=false):((r - 44032) % 28 == 0)=false:=by simpa[sj] using h
theorem Gt {r:Int}(h1:44032<=r)(h2:r<=55203)(h:sj r=true):kindOf r=12:=by
 unfold kindOf;rw[ay ⟨h1,h2⟩,ay (by simpa[sj] using h)]
theorem KG {r:Int}(h1:44032<=r)(h2:r<=55203)(h:sj r=false):kindOf r=13:=by
 unfold kindOf;rw[ay ⟨h1,h2⟩,au (by simpa[sj] using h)]
theorem Gu {r:Int}(h:¬(44032<=r/\r<=55203)):kindOf r=iK.look gD r:=by
 unfold kindOf;rw[au h]
def rowData {H:Type}(x:Int × Int × Int):DataW H:=.agg [.lit (.int .i32 x.1),.lit (.int .i32 x.2.1),.lit (.int .i64 x.2.2)]
theorem I9 {k:IntKind}{cs:List Value}{o:Nat}{z:Int}(h:(cs.drop o).take 1=[Value.int k z]):cs[o]?=some (.int k z):=by
 have:=congrArg (·[0]?) h;simpa[List.getElem?_take,b_] using this
theorem DJ {H:Type}{enc:TypeId × Value->H}{P:Program}{w:World}{base:Nat}{sp:Nat->Bool}{held:Bool}{fuel:Nat}{t e:TypeId}{n:Nat}{f0 f1 f2:Field}{cs:List Value}{l:List (Int × Int × Int)}{p:List MemPlace}
 (ht:P.underlying t=some (.array n e)) (he:P.underlying e=some (.struct #[f0,f1,f2])) (hce:P.cellsOf e=3)
 (o0:f0.offset=0) (o1:f1.offset=1) (o2:f2.offset=2) (u0:P.underlying f0.type=some (.int .i32)) (u1:P.underlying f1.type=some (.int .i32)) (u2:P.underlying f2.type=some (.int .i64))
 (s0:P.cellsOf f0.type=1) (s1:P.cellsOf f1.type=1) (s2:P.cellsOf f2.type=1) (hn:n=l.length)
 (h:DataW.trod enc P w base sp held fuel t cs=some (.agg (l.map rowData),p)) (i:Nat) (hi:i<l.length) :
 cs[i * 3]?=some (.int .i32 (pJ l i))/\cs[i * 3+1]?=some (.int .i32 (ql l i))/\cs[i * 3+2]?=some (.int .i64 (Dw l i)):=by
 cases fuel with
 | zero=>simp[DataW.trod]at h
 | succ fuel =>
   simp only[DataW.trod,ht,hce]at h;split at h
   ·obtain⟨xs,hm,hx⟩:=Option.map_eq_some_iff.1 h
    have hxs:xs.map (·.1)=l.map (rowData (H:=H)):=by
     have:=congrArg Prod.fst hx;simpa using this
    obtain⟨b,hb,hf⟩:=Lib.mapM_at hm i i (by simp[hn,hi]);obtain⟨y0,y1,y2,m,hy,_,t0,t1,t2⟩:=Deep.trod_struct3 he hf;rw[o0,s0]at t0;rw[o1,s1]at t1;rw[o2,s2]at t2;obtain⟨z0,c0,e0,_⟩:=DataW.trod_int u0 t0;obtain⟨z1,c1,e1,_⟩:=DataW.trod_int u1 t1;obtain⟨z2,c2,e2,_⟩:=DataW.trod_int u2 t2;subst e0 e1 e2 hy;have hb1:(xs.map (·.1))[i]?=some (DataW.agg [.lit (.int .i32 z0),.lit (.int .i32 z1),.lit (.int .i64 z2)]):=by simp[hb]
    rw[hxs]at hb1;have hr:(l.map (rowData (H:=H)))[i]?=some (rowData (l[i])):=by simp[hi]
    rw[hr]at hb1;simp only[rowData,dO,DataW.agg.injEq,List.cons.injEq,DataW.lit.injEq,Lit.int.injEq,true_and,and_true]at hb1;have hg:l.getD i (0,0,0)=l[i]:=by simp[List.getD,hi]
    unfold pJ ql Dw;rw[hg,hb1.1,hb1.2.1,hb1.2.2];have k0:=I9 c0;have k1:=I9 c1;have k2:=I9 c2;simp only[List.getElem?_take,b_]at k0 k1 k2;exact⟨by simpa using k0,by simpa using k1,by simpa using k2⟩
   ·cases h
theorem qS {P:Program}{W:World}{name:String}{l:List (Int × Int × Int)}{rest:List (String × DataW Unit)}{g:Nat}{t e:TypeId}{n:Nat}{f0 f1 f2:Field}
 (hg:P.globalNamed name=some g) (hty:(P.globals[g]?).map (·.type)=some t) (ht:P.underlying t=some (.array n e)) (he:P.underlying e=some (.struct #[f0,f1,f2])) (hce:P.cellsOf e=3)
 (o0:f0.offset=0) (o1:f1.offset=1) (o2:f2.offset=2) (u0:P.underlying f0.type=some (.int .i32)) (u1:P.underlying f1.type=some (.int .i32)) (u2:P.underlying f2.type=some (.int .i64))
 (s0:P.cellsOf f0.type=1) (s1:P.cellsOf f1.type=1) (s2:P.cellsOf f2.type=1) (hn:n=l.length)
 (h:laidMet P ((name,.agg (l.map rowData)) :: rest) W):TabAt W g l:=by
 obtain⟨ps,⟨g',t',cs,fuel,p,q,hg',ht',hvar,hd,_,_⟩,_⟩:=h;obtain rfl:=bW (hg.symm.trans hg');obtain rfl:=bW (hty.symm.trans ht');intro i hi;obtain⟨c0,c1,c2⟩:=DJ ht he hce o0 o1 o2 u0 u1 u2 s0 s1 s2 hn hd i hi;have v:=World.var?_cell hg hvar;simp only[Array.getElem?_toList]at c0 c1 c2;exact⟨(v _).trans c0,(v _).trans c1,(v _).trans c2⟩
theorem aef:(Tryz.prog.globals[3]?).map (·.type)=some 297:=by kernel_rfl
theorem aav:(Tryz.prog.globals[4]?).map (·.type)=some 298:=by kernel_rfl
theorem KH:Tryz.prog.cellsOf 296=3:=by kernel_rfl
theorem uR:Tryz.prog.cellsOf 21=1:=by kernel_rfl
theorem KI:Tryz.prog.cellsOf 199=1:=by kernel_rfl
theorem TQ:(Rows.laid_caret_runes_lowClasses:DataW Unit)=.agg (iN.map rowData):=by kernel_rfl
theorem Ph:(Rows.laid_caret_runes_highClasses:DataW Unit)=.agg (g_.map rowData):=by kernel_rfl
theorem Gv {W:World}{n:String}{rest:List (String × DataW Unit)}(h:laidMet prog ((n,Rows.laid_caret_runes_lowClasses) :: rest) W)(hn:Tryz.prog.globalNamed n=some 3):TabAt W 3 iN:=by
 rw[TQ]at h;exact qS hn aef underlying297 underlying296 KH rfl rfl rfl underlying21 underlying21 underlying199 uR uR KI qJ.symm h
theorem Fg {W:World}{n:String}{rest:List (String × DataW Unit)}(h:laidMet prog ((n,Rows.laid_caret_runes_highClasses) :: rest) W)(hn:Tryz.prog.globalNamed n=some 4):TabAt W 4 g_:=by
 rw[Ph]at h;exact qS hn aav underlying298 underlying296 KH rfl rfl rfl underlying21 underlying21 underlying199 uR uR KI oZ.symm h
end Go.Proofs.YtnakejhohdbfdaaGreatDoor.mE
