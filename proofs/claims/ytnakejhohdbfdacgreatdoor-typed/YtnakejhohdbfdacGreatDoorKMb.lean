import Derived.Test.YtnakejhohdbfdacGreatDoorRows
import Derived.WalkKit
import Derived.WalkSpells
import Derived.RegionTactic
import Derived.Deep.QuietTactic
import Derived.BigQuiet
import Derived.Shelf.Abstract
import Derived.ProofKit
import Derived.OpenShut
import Derived.Deep.Strs
import Derived.Lib.LaidTab
import Derived.Stop.LaidErr
namespace Go.Proofs.YtnakejhohdbfdacGreatDoor.Tabs
def classTab:List (Int × Int × Int):=[(0,8,9),(9,9,11),(10,10,10),(11,11,11),(12,12,12),(13,13,10),(14,27,9),(28,30,10),(31,31,11),(32,32,12),(33,34,13),(35,37,5),(38,42,13),(43,43,4),(44,44,7),(45,45,4),(46,47,7),(48,57,3),(58,58,7),(59,64,13),(91,96,13),(123,126,13),(127,132,9),(133,133,10),(134,159,9),(160,160,7),(161,161,13),(162,165,5),(166,169,13),(171,172,13),(173,173,9),(174,175,13),(176,177,5),(178,179,3),(180,180,13),(768,879,8),(1425,1469,8),(1470,1470,1),(1488,1514,1),(1536,1541,6),(1544,1544,2),(1548,1548,7),(1564,1564,2),(1568,1610,2),(1611,1631,8),(1632,1641,6),(1642,1642,5),(1643,1644,6),(1645,1647,2),(1648,1648,8),(1649,1747,2),(1776,1785,3),(8203,8205,9),(8207,8207,1),(8232,8232,12),(8233,8233,10),(8234,8234,14),(8235,8235,16),(8236,8236,18),(8237,8237,15),(8238,8238,17),(8239,8239,7),(8260,8260,7),(8294,8294,19),(8295,8295,20),(8296,8296,21),(8297,8297,22),(8352,8383,5),(8592,8595,13),(9728,10175,13),(12296,12299,13),(65024,65039,8),(65279,65279,9),(65533,65533,13),(127744,129535,13)]
def lowTab:List (Int × Int × Int):=[(0,8,9),(9,9,11),(10,10,10),(11,11,11),(12,12,12),(13,13,10),(14,27,9),(28,30,10),(31,31,11),(32,32,12),(33,34,13),(35,37,5),(38,42,13),(43,43,4),(44,44,7),(45,45,4),(46,47,7),(48,57,3),(58,58,7),(59,64,13),(91,96,13),(123,126,13),(127,132,9),(133,133,10),(134,159,9),(160,160,7),(161,161,13),(162,165,5),(166,169,13),(171,172,13),(173,173,9),(174,175,13),(176,177,5),(178,179,3),(180,180,13)]
def highTab:List (Int × Int × Int):=[(768,879,8),(1425,1469,8),(1470,1470,1),(1488,1514,1),(1536,1541,6),(1544,1544,2),(1548,1548,7),(1564,1564,2),(1568,1610,2),(1611,1631,8),(1632,1641,6),(1642,1642,5),(1643,1644,6),(1645,1647,2),(1648,1648,8),(1649,1747,2),(1776,1785,3),(8203,8205,9),(8207,8207,1),(8232,8232,12),(8233,8233,10),(8239,8239,7),(8260,8260,7),(8352,8383,5),(8592,8595,13),(9728,10175,13),(12296,12299,13),(65024,65039,8),(65279,65279,9),(65533,65533,13),(127744,129535,13)]
def nineTab:List (Int × Int × Int):=[(8234,8234,14),(8235,8235,16),(8236,8236,18),(8237,8237,15),(8238,8238,17),(8294,8294,19),(8295,8295,20),(8296,8296,21),(8297,8297,22)]
def kindTab:List (Int × Int × Int):=[(0,9,3),(10,10,2),(11,12,3),(13,13,1),(14,31,3),(127,159,3),(169,169,14),(173,173,3),(174,174,14),(768,879,4),(1425,1469,4),(1536,1541,7),(1564,1564,3),(1611,1631,4),(1648,1648,4),(2307,2307,8),(2366,2368,8),(4352,4447,9),(4448,4519,10),(4520,4607,11),(8203,8203,3),(8204,8204,4),(8205,8205,5),(8206,8207,3),(8232,8238,3),(8294,8297,3),(9728,10175,14),(65024,65039,4),(65279,65279,3),(127462,127487,6),(127744,127994,14),(127995,127999,4),(128000,129535,14)]
def hit (r:Int)(x:Int × Int × Int):Bool:=decide (x.1≤r) && decide (r≤x.2.1)
def look:List (Int × Int × Int)→Int→Int
 | [],_=>0
 | x :: l,r=>if hit r x then x.2.2 else look l r
def rising:Int→List (Int × Int × Int)→Bool
 | _,[]=>true
 | z,x :: l=>decide (z<x.1) && decide (x.1≤x.2.1) && rising x.2.1 l
def frm (l:List (Int × Int × Int))(i:Nat):Int:=(l.getD i (0,0,0)).1
def til (l:List (Int × Int × Int))(i:Nat):Int:=(l.getD i (0,0,0)).2.1
def wht (l:List (Int × Int × Int))(i:Nat):Int:=(l.getD i (0,0,0)).2.2
theorem rising_mem:∀(l:List (Int × Int × Int)) (z:Int),rising z l=true→∀x∈l,z<x.1∧x.1≤x.2.1
 | [],_,_,x,hx=>by cases hx
 | y :: l,z,h,x,hx=>by
   simp only[rising,Bool.and_eq_true,decide_eq_true_eq]at h
   rcases List.mem_cons.1 hx with rfl | hx
   ·exact⟨h.1.1,h.1.2⟩
   ·have:=rising_mem l _ h.2 x hx
    exact⟨by omega,this.2⟩
theorem look_none:∀(l:List (Int × Int × Int)) (r:Int),(∀x∈l,hit r x=false)→look l r=0
 | [],_,_=>rfl
 | x :: l,r,h=>by
   rw[look,if_neg (by rw[h x List.mem_cons_self];exact Bool.false_ne_true)];exact look_none l r fun y hy=>h y (List.mem_cons_of_mem _ hy)
theorem look_mem:∀(l:List (Int × Int × Int)) (z r:Int),rising z l=true→∀x∈l,hit r x=true→look l r=x.2.2
 | [],_,_,_,x,hx,_=>by cases hx
 | y :: l,z,r,h,x,hx,hr=>by
   simp only[rising,Bool.and_eq_true,decide_eq_true_eq]at h
   rcases List.mem_cons.1 hx with rfl | hx
   ·rw[look,if_pos hr]
   ·have hm:=rising_mem l _ h.2 x hx
    have hy:hit r y=false:=by
     simp only[hit,Bool.and_eq_true,decide_eq_true_eq]at hr;simp only[hit,Bool.and_eq_false_iff,decide_eq_false_iff_not];omega
    rw[look,if_neg (by rw[hy];exact Bool.false_ne_true)];exact look_mem l _ r h.2 x hx hr
theorem hit_or (r:Int)(l:List (Int × Int × Int)):(∃x∈l,hit r x=true)∨∀x∈l,hit r x=false:=by
 by_cases h:∃x∈l,hit r x=true
 ·exact .inl h
 ·refine .inr fun x hx=>?_
  cases e:hit r x with
  | false=>rfl
  | true=>exact absurd ⟨x,hx,e⟩ h
theorem mem_of_lt (l:List (Int × Int × Int))(i:Nat)(h:i<l.length):(frm l i,til l i,wht l i)∈l:=by
 have:l.getD i (0,0,0)=l[i]:=by simp[List.getD,h]
 unfold frm til wht;rw[this];exact List.getElem_mem h
theorem lt_of_mem {l:List (Int × Int × Int)}{x:Int × Int × Int}(h:x∈l):∃i,i<l.length∧x=(frm l i,til l i,wht l i):=by
 obtain⟨i,hi,rfl⟩:=List.getElem_of_mem h;refine⟨i,hi,?_⟩;have:l.getD i (0,0,0)=l[i]:=by simp[List.getD,hi]
 unfold frm til wht;rw[this]
theorem til_lt_frm:∀(l:List (Int × Int × Int)) (z:Int),rising z l=true→∀i j,i<j→j<l.length→til l i<frm l j
 | [],_,_,i,j,_,hj=>by simp at hj
 | y :: l,z,h,i,j,hij,hj=>by
   simp only[rising,Bool.and_eq_true,decide_eq_true_eq]at h;cases j with
   | zero=>omega
   | succ j =>
     have hj':j<l.length:=by simpa using hj
     cases i with
     | zero =>
       have:=rising_mem l _ h.2 _ (mem_of_lt l j hj');show y.2.1<frm l j;exact this.1
     | succ i=>exact til_lt_frm l _ h.2 i j (by omega) hj'
theorem frm_le_til (l:List (Int × Int × Int))(z:Int)(h:rising z l=true)(i:Nat)(hi:i<l.length):frm l i≤til l i:=(rising_mem l z h _ (mem_of_lt l i hi)).2
theorem til_mono (l:List (Int × Int × Int))(z:Int)(h:rising z l=true)(r:Int)(a b:Nat)(hab:a≤b)(hb:b<l.length)(hr:decide (r≤til l a)=true):decide (r≤til l b)=true:=by
 simp only[decide_eq_true_eq]at hr ⊢
 rcases Nat.lt_or_eq_of_le hab with h1 | h1
 ·have:=til_lt_frm l z h a b h1 hb
  have:=frm_le_til l z h b hb;omega
 ·subst h1;exact hr
theorem look_yes (l:List (Int × Int × Int))(z:Int)(h:rising z l=true)(r:Int)(k:Nat)(hk:k<l.length)(h1:frm l k≤r)(h2:decide (r≤til l k)=true):look l r=wht l k:=by
 refine look_mem l z r h _ (mem_of_lt l k hk) ?_;show(decide (frm l k≤r) && decide (r≤til l k))=true;rw[h2,decide_eq_true h1];rfl
theorem look_no (l:List (Int × Int × Int))(z:Int)(h:rising z l=true)(r:Int)(k:Nat)(hlo:∀t,t<k→decide (r≤til l t)=false)(h1:k<l.length→r<frm l k):look l r=0:=by
 refine look_none l r fun x hx=>?_
 obtain⟨i,hi,rfl⟩:=lt_of_mem hx;simp only[hit,Bool.and_eq_false_iff,decide_eq_false_iff_not]
 rcases Nat.lt_trichotomy i k with h3 | h3 | h3
 ·have:=hlo i h3
  simp only[decide_eq_false_iff_not]at this;exact .inr this
 ·subst h3
  have:=h1 hi;omega
 ·have:=h1 (by omega)
  have:=til_lt_frm l z h k i h3 hi;have:=frm_le_til l z h k (by omega);omega
theorem len_low:lowTab.length=35:=by decide
theorem len_high:highTab.length=31:=by decide
theorem len_kind:kindTab.length=33:=by decide
theorem rise_class:rising (-1) classTab=true:=by decide
theorem rise_low:rising (-1) lowTab=true:=by decide
theorem rise_high:rising (-1) highTab=true:=by decide
theorem rise_kind:rising (-1) kindTab=true:=by decide
theorem low_sub:∀x∈lowTab,x∈classTab∧x.2.1<256:=by decide
theorem high_sub:∀x∈highTab,x∈classTab∧256≤x.1:=by decide
theorem nine_sub:∀x∈nineTab,x∈classTab∧x.1=x.2.1:=by decide
theorem class_sub:∀x∈classTab,x∈lowTab∨x∈highTab∨x∈nineTab:=by decide
theorem class_nine (r c:Int)(h:(r,r,c)∈nineTab):look classTab r=c :=
 look_mem classTab (-1) r rise_class _ (nine_sub _ h).1 (by simp[hit])
theorem class_low (r:Int)(h:r<256):look classTab r=look lowTab r:=by
 rcases hit_or r lowTab with⟨x,hx,he⟩ | hn
 ·rw[look_mem lowTab (-1) r rise_low x hx he,look_mem classTab (-1) r rise_class x (low_sub x hx).1 he]
 ·rw[look_none lowTab r hn]
  refine look_none classTab r fun x hx=>?_
  rcases class_sub x hx with h1 | h1 | h1
  ·exact hn x h1
  ·have:=(high_sub x h1).2
   simp only[hit,Bool.and_eq_false_iff,decide_eq_false_iff_not];omega
  ·have:∀x∈nineTab,256≤x.1:=by decide
   have:=this x h1;simp only[hit,Bool.and_eq_false_iff,decide_eq_false_iff_not];omega
theorem class_high (r:Int)(h:256≤r)(h9:∀x∈nineTab,r≠x.1):look classTab r=look highTab r:=by
 rcases hit_or r highTab with⟨x,hx,he⟩ | hn
 ·rw[look_mem highTab (-1) r rise_high x hx he,look_mem classTab (-1) r rise_class x (high_sub x hx).1 he]
 ·rw[look_none highTab r hn]
  refine look_none classTab r fun x hx=>?_
  rcases class_sub x hx with h1 | h1 | h1
  ·have:=(low_sub x h1).2
   simp only[hit,Bool.and_eq_false_iff,decide_eq_false_iff_not];omega
  ·exact hn x h1
  ·have:=(nine_sub x h1).2
   have:=h9 x h1;simp only[hit,Bool.and_eq_false_iff,decide_eq_false_iff_not];omega
def kindOf (r:Int):Int:=if 44032≤r∧r≤55203 then(if(r - 44032) % 28=0 then 12 else 13)else look kindTab r
end Go.Proofs.YtnakejhohdbfdacGreatDoor.Tabs
namespace Go.Proofs.YtnakejhohdbfdacGreatDoor.Cls
open Go.RowKit Tabs
theorem hide {p:Prop}(h:p):Hid p:=h
def TabAt (w:World)(g:Nat)(l:List (Int × Int × Int)):Prop :=
 ∀i,i<l.length→w.cell? ⟨g,i * 3,none⟩=some (.int .i32 (frm l i))∧w.cell? ⟨g,i * 3+1,none⟩=some (.int .i32 (til l i))∧w.cell? ⟨g,i * 3+2,none⟩=some (.int .i64 (wht l i))
theorem TabAt.below {w w':World}{g B:Nat}{l:List (Int × Int × Int)}(h:TabAt w g l)(hg:g<B)(hb:Below B w w'):TabAt w' g l:=fun i hi =>
 ⟨(hb.cell (p:=⟨g,i * 3,none⟩) hg).trans (h i hi).1,(hb.cell (p:=⟨g,i * 3+1,none⟩) hg).trans (h i hi).2.1,(hb.cell (p:=⟨g,i * 3+2,none⟩) hg).trans (h i hi).2.2⟩
theorem TabAt.lt {w:World}{g:Nat}{l:List (Int × Int × Int)}(h:TabAt w g l)(hl:0<l.length):g<w.heap.size:=World.block_lt_of_cell? _ _ (h 0 hl).1
theorem below_drewN (B:Nat)(w:World)(q:Nat):Below B w (w.drewN q):=⟨rfl,rfl,rfl,Nat.le_refl _,fun _ _=>rfl⟩
set_option maxHeartbeats 400000 in
theorem closure36 (i:Nat)(hi:i<35)(r z:Int)(b:Nat)(w:World)(hr:w.cell? ⟨b,0,none⟩=some (.int .i32 r))(hz:w.cell? ⟨1,i * 3+1,none⟩=some (.int .i32 z)) :
 Calls Tryz.prog 79 (#[.int .i64 i]++#[.pointer (some ⟨b,0,none⟩)]) w fun e w'=>e=.returned (.bool (decide (r≤z)))∧∃q,w'=w.drewN q:=by
 have hi1:(i:Int)<35:=by omega
 go_enter Tryz.func79,Tryz.ntmps79;go_wp2;go_quiet (fail);go_wp2;go_ret;exact⟨rfl,_,rfl⟩
theorem enters36 (args:Array Value)(w:World):(callFunc 79 args).run Tryz.prog w=.ok (.enter 79 args) w:=by kernel_rfl
set_option maxHeartbeats 400000 in
theorem closure37 (i:Nat)(hi:i<31)(r z:Int)(b:Nat)(w:World)(hr:w.cell? ⟨b,0,none⟩=some (.int .i32 r))(hz:w.cell? ⟨2,i * 3+1,none⟩=some (.int .i32 z)) :
 Calls Tryz.prog 80 (#[.int .i64 i]++#[.pointer (some ⟨b,0,none⟩)]) w fun e w'=>e=.returned (.bool (decide (r≤z)))∧∃q,w'=w.drewN q:=by
 have hi1:(i:Int)<31:=by omega
 go_enter Tryz.func80,Tryz.ntmps80;go_wp2;go_quiet (fail);go_wp2;go_ret;exact⟨rfl,_,rfl⟩
theorem enters37 (args:Array Value)(w:World):(callFunc 80 args).run Tryz.prog w=.ok (.enter 80 args) w:=by kernel_rfl
set_option maxHeartbeats 1000000 in
theorem search_any (g:Nat)(cb:Array Value)(n:Nat)(p:Nat→Bool)(w:World)(eg:∀args w,(callFunc g args).run Tryz.prog w=.ok (.enter g args) w)(hsz:n<1000000)
 (hf:∀(m:Nat) (i:Nat),i<n→Calls Tryz.prog g (#[.int .i64 i]++cb) (w.drewN m) fun e w'=>e=.returned (.bool (p i))∧∃q,w'=(w.drewN m).drewN q)
 (hmono:∀a b,a≤b→b<n→p a=true→p b=true) :
 Calls Tryz.prog 73 #[.int .i64 n,.func (.func g) #[] cb] w fun e w'=>∃k:Nat,k≤n∧(∀t,t<k→p t=false)∧(∀t,k≤t→t<n→p t=true)∧e=.returned (.int .i64 k)∧∃q,w'=w.drewN q:=by
 have HF:Hid _:=hf;have M:Hid _:=hmono;clear hf hmono;go_enter Tryz.func73,Tryz.ntmps73;go_wp2
 go_loopw [5,6] (fun s5 s6 wr=>∃(lo hi q:Nat),s5=.int .i64 lo∧s6=.int .i64 hi∧lo≤hi∧hi≤n∧wr=w.drewN q ∧
  Hid ((∀t,t<lo→p t=false)∧(∀t,hi≤t→t<n→p t=true))) (fun s5 s6 _=>(intOf s6 - intOf s5).toNat)
 case atStart=>exact⟨0,n,0,rfl,rfl,Nat.zero_le _,Nat.le_refl _,rfl,hide ⟨fun t ht=>absurd ht (Nat.not_lt_zero _),fun t h1 h2=>by omega⟩⟩
 case round =>
  obtain⟨lo,hi,q,rfl,rfl,hlh,hin,rfl,I⟩:=hrel;by_cases hlt:lo<hi
  ·have hc:=HF.out q ((lo+hi) / 2) (by omega)
   rw[show(((lo+hi) / 2:Nat):Int)=((lo:Int)+(hi:Int)) / 2 by omega]at hc;have hl2:(lo+hi) / 2<hi:=by omega
   have hl3:lo≤(lo+hi) / 2:=by omega
   cases hp:p ((lo+hi) / 2) <;> rw[hp]at hc
   ·have HP:Hid (p ((lo+hi) / 2)=false):=hide hp
    clear hp;go_wp2_with (go_at_fn g;refine hc.mono ?_;rintro e w' ⟨rfl,nq,rfl⟩);go_roundw
    case measure=>simp[intOf];omega
    case rel =>
     have I2:(∀t,t<(lo+hi) / 2+1→p t=false)∧(∀t,hi≤t→t<n→p t=true):=⟨fun t ht=>(by
      cases h:p t with
      | false=>rfl
      | true=>have:=M.out t ((lo+hi) / 2) (by omega) (by omega) h;rw[HP.out]at this;cases this),I.out.2⟩
     exact⟨(lo+hi) / 2+1,hi,q+nq,by rw[show((lo:Int)+(hi:Int)) / 2+1=(((lo+hi) / 2+1:Nat):Int) by omega],rfl,by omega,hin,rfl,hide I2⟩
   ·have HP:Hid (p ((lo+hi) / 2)=true):=hide hp
    clear hp;go_wp2_with (go_at_fn g;refine hc.mono ?_;rintro e w' ⟨rfl,nq,rfl⟩);go_roundw
    case measure=>simp[intOf];omega
    case rel =>
     have I2:(∀t,t<lo→p t=false)∧(∀t,(lo+hi) / 2≤t→t<n→p t=true):=⟨I.out.1,fun t ht htn=>M.out ((lo+hi) / 2) t ht htn HP.out⟩;exact⟨lo,(lo+hi) / 2,q+nq,rfl,by rw[show((lo:Int)+(hi:Int)) / 2=(((lo+hi) / 2:Nat):Int) by omega],by omega,by omega,rfl,hide I2⟩
  ·obtain rfl:hi=lo:=by omega
   go_wp2;go_ret;exact⟨hi,hin,I.out.1,I.out.2,rfl,q,rfl⟩
theorem found28 (r:Int)(b:Nat)(w:World)(ht:TabAt w 1 lowTab)(hr:w.cell? ⟨b,0,none⟩=some (.int .i32 r)) :
 Calls Tryz.prog 73 #[.int .i64 35,.func (.func 79) #[] #[.pointer (some ⟨b,0,none⟩)]] w fun e w'=>∃k:Nat,k≤35∧(∀t,t<k→decide (r≤til lowTab t)=false)∧(∀t,k≤t→t<35→decide (r≤til lowTab t)=true)∧e=.returned (.int .i64 k)∧∃q,w'=w.drewN q :=
 search_any 79 #[.pointer (some ⟨b,0,none⟩)] 35 (fun i=>decide (r≤til lowTab i)) w enters36 (by decide)
  (fun m i hi=>closure36 i hi r (til lowTab i) b (w.drewN m) (by simpa using hr) (by simpa using (ht i (by rw[len_low];exact hi)).2.1))
  (fun x y hxy hy h=>til_mono lowTab (-1) rise_low r x y hxy (by rw[len_low];exact hy) h)
theorem found29 (r:Int)(b:Nat)(w:World)(ht:TabAt w 2 highTab)(hr:w.cell? ⟨b,0,none⟩=some (.int .i32 r)) :
 Calls Tryz.prog 73 #[.int .i64 31,.func (.func 80) #[] #[.pointer (some ⟨b,0,none⟩)]] w fun e w'=>∃k:Nat,k≤31∧(∀t,t<k→decide (r≤til highTab t)=false)∧(∀t,k≤t→t<31→decide (r≤til highTab t)=true)∧e=.returned (.int .i64 k)∧∃q,w'=w.drewN q :=
 search_any 80 #[.pointer (some ⟨b,0,none⟩)] 31 (fun i=>decide (r≤til highTab i)) w enters37 (by decide)
  (fun m i hi=>closure37 i hi r (til highTab i) b (w.drewN m) (by simpa using hr) (by simpa using (ht i (by rw[len_high];exact hi)).2.1))
  (fun x y hxy hy h=>til_mono highTab (-1) rise_high r x y hxy (by rw[len_high];exact hy) h)
set_option maxHeartbeats 1000000 in
theorem fn28_any (r:Int)(w:World)(ht:TabAt w 1 lowTab) :
 Calls Tryz.prog 41 #[.int .i32 r] w fun e w'=>e=.returned (.int .i64 (Tabs.look lowTab r))∧Below w.heap.size w w':=by
 have hg:=ht.lt (by rw[len_low];decide);have hb1:Below w.heap.size w (w.alloc (.cells #[.int .i32 r] 21)):=(Below.refl _ _).alloc (Nat.le_refl _) _;have hs:=found28 r w.heap.size (w.alloc (.cells #[.int .i32 r] 21)) (ht.below hg hb1) (by simp);have HT:Hid (TabAt w 1 lowTab):=ht;clear ht;generalize hv:Tabs.look lowTab r=v;have HV:Hid (Tabs.look lowTab r=v):=hv;clear hv;go_enter Tryz.func41,Tryz.ntmps41;go_wp2_with (go_at_call 73;refine hs.mono ?_;rintro e w' ⟨k,hk,hlo,hhi,rfl,q,rfl⟩);have LO:Hid _:=hlo;clear hs hlo;by_cases hkn:k<35
 ·obtain⟨c0,c1,c2⟩:=(HT.out.below hg hb1) k (by rw[len_low];exact hkn)
  clear c1;have hr2:=hhi k (Nat.le_refl _) hkn;clear hhi hb1;have hkn1:(k:Int)<35:=by omega
  have hd:decide ((k:Int)<35)=true:=by simpa using hkn1
  by_cases hfr:frm lowTab k≤r
  ·have E:wht lowTab k=v:=(look_yes lowTab (-1) rise_low r k (by rw[len_low];exact hkn) hfr hr2).symm.trans HV.out
   rw[E]at c2;clear E;generalize frm lowTab k=z at c0 hfr;clear hr2;go_quiet (fail);go_wp2;go_ret;exact⟨rfl,((Below.refl _ _).alloc (Nat.le_refl _) _).trans (below_drewN _ _ _)⟩
  ·have E:(0:Int)=v:=(look_no lowTab (-1) rise_low r k LO.out (fun _=>by omega)).symm.trans HV.out
   have hfr2:decide (frm lowTab k≤r)=false:=by simpa using hfr
   subst E;generalize frm lowTab k=z at c0 hfr hfr2;clear hr2;go_quiet (fail);go_wp2;go_ret;exact⟨rfl,((Below.refl _ _).alloc (Nat.le_refl _) _).trans (below_drewN _ _ _)⟩
 ·have E:(0:Int)=v:=(look_no lowTab (-1) rise_low r k LO.out (fun h=>by rw[len_low]at h;omega)).symm.trans HV.out
  subst E;have hkn1:¬(k:Int)<35:=by omega
  have hd:decide ((k:Int)<35)=false:=by simpa using hkn1
  clear hhi hb1;go_quiet (fail);go_wp2;go_ret;exact⟨rfl,((Below.refl _ _).alloc (Nat.le_refl _) _).trans (below_drewN _ _ _)⟩
set_option maxHeartbeats 1000000 in
theorem fn29_any (r:Int)(w:World)(ht:TabAt w 2 highTab) :
 Calls Tryz.prog 42 #[.int .i32 r] w fun e w'=>e=.returned (.int .i64 (Tabs.look highTab r))∧Below w.heap.size w w':=by
 have hg:=ht.lt (by rw[len_high];decide);have hb1:Below w.heap.size w (w.alloc (.cells #[.int .i32 r] 21)):=(Below.refl _ _).alloc (Nat.le_refl _) _;have hs:=found29 r w.heap.size (w.alloc (.cells #[.int .i32 r] 21)) (ht.below hg hb1) (by simp);have HT:Hid (TabAt w 2 highTab):=ht;clear ht;generalize hv:Tabs.look highTab r=v;have HV:Hid (Tabs.look highTab r=v):=hv;clear hv;go_enter Tryz.func42,Tryz.ntmps42;go_wp2_with (go_at_call 73;refine hs.mono ?_;rintro e w' ⟨k,hk,hlo,hhi,rfl,q,rfl⟩);have LO:Hid _:=hlo;clear hs hlo;by_cases hkn:k<31
 ·obtain⟨c0,c1,c2⟩:=(HT.out.below hg hb1) k (by rw[len_high];exact hkn)
  clear c1;have hr2:=hhi k (Nat.le_refl _) hkn;clear hhi hb1;have hkn1:(k:Int)<31:=by omega
  have hd:decide ((k:Int)<31)=true:=by simpa using hkn1
  by_cases hfr:frm highTab k≤r
  ·have E:wht highTab k=v:=(look_yes highTab (-1) rise_high r k (by rw[len_high];exact hkn) hfr hr2).symm.trans HV.out
   rw[E]at c2;clear E;generalize frm highTab k=z at c0 hfr;clear hr2;go_quiet (fail);go_wp2;go_ret;exact⟨rfl,((Below.refl _ _).alloc (Nat.le_refl _) _).trans (below_drewN _ _ _)⟩
  ·have E:(0:Int)=v:=(look_no highTab (-1) rise_high r k LO.out (fun _=>by omega)).symm.trans HV.out
   have hfr2:decide (frm highTab k≤r)=false:=by simpa using hfr
   subst E;generalize frm highTab k=z at c0 hfr hfr2;clear hr2;go_quiet (fail);go_wp2;go_ret;exact⟨rfl,((Below.refl _ _).alloc (Nat.le_refl _) _).trans (below_drewN _ _ _)⟩
 ·have E:(0:Int)=v:=(look_no highTab (-1) rise_high r k LO.out (fun h=>by rw[len_high]at h;omega)).symm.trans HV.out
  subst E;have hkn1:¬(k:Int)<31:=by omega
  have hd:decide ((k:Int)<31)=false:=by simpa using hkn1
  clear hhi hb1;go_quiet (fail);go_wp2;go_ret;exact⟨rfl,((Below.refl _ _).alloc (Nat.le_refl _) _).trans (below_drewN _ _ _)⟩
end Go.Proofs.YtnakejhohdbfdacGreatDoor.Cls
namespace Go.Proofs.YtnakejhohdbfdacGreatDoor.Cls
open Go.RowKit Tabs
end Go.Proofs.YtnakejhohdbfdacGreatDoor.Cls
namespace Go.Proofs.YtnakejhohdbfdacGreatDoor.Cls
open Go.RowKit Tabs
theorem fn22_8234 (w:World):Calls Tryz.prog 22 #[.int .i32 8234] w fun e w'=>e=.returned (.int .i64 14)∧w'=w:=by
 go_enter Tryz.func22,Tryz.ntmps22;go_wp2;go_ret;exact⟨rfl,rfl⟩
theorem fn22_8235 (w:World):Calls Tryz.prog 22 #[.int .i32 8235] w fun e w'=>e=.returned (.int .i64 16)∧w'=w:=by
 go_enter Tryz.func22,Tryz.ntmps22;go_wp2;go_ret;exact⟨rfl,rfl⟩
theorem fn22_8236 (w:World):Calls Tryz.prog 22 #[.int .i32 8236] w fun e w'=>e=.returned (.int .i64 18)∧w'=w:=by
 go_enter Tryz.func22,Tryz.ntmps22;go_wp2;go_ret;exact⟨rfl,rfl⟩
theorem fn22_8237 (w:World):Calls Tryz.prog 22 #[.int .i32 8237] w fun e w'=>e=.returned (.int .i64 15)∧w'=w:=by
 go_enter Tryz.func22,Tryz.ntmps22;go_wp2;go_ret;exact⟨rfl,rfl⟩
theorem fn22_8238 (w:World):Calls Tryz.prog 22 #[.int .i32 8238] w fun e w'=>e=.returned (.int .i64 17)∧w'=w:=by
 go_enter Tryz.func22,Tryz.ntmps22;go_wp2;go_ret;exact⟨rfl,rfl⟩
theorem fn22_8294 (w:World):Calls Tryz.prog 22 #[.int .i32 8294] w fun e w'=>e=.returned (.int .i64 19)∧w'=w:=by
 go_enter Tryz.func22,Tryz.ntmps22;go_wp2;go_ret;exact⟨rfl,rfl⟩
theorem fn22_8295 (w:World):Calls Tryz.prog 22 #[.int .i32 8295] w fun e w'=>e=.returned (.int .i64 20)∧w'=w:=by
 go_enter Tryz.func22,Tryz.ntmps22;go_wp2;go_ret;exact⟨rfl,rfl⟩
theorem fn22_8296 (w:World):Calls Tryz.prog 22 #[.int .i32 8296] w fun e w'=>e=.returned (.int .i64 21)∧w'=w:=by
 go_enter Tryz.func22,Tryz.ntmps22;go_wp2;go_ret;exact⟨rfl,rfl⟩
theorem fn22_8297 (w:World):Calls Tryz.prog 22 #[.int .i32 8297] w fun e w'=>e=.returned (.int .i64 22)∧w'=w:=by
 go_enter Tryz.func22,Tryz.ntmps22;go_wp2;go_ret;exact⟨rfl,rfl⟩
set_option maxHeartbeats 1000000 in
theorem fn22_low (r:Int)(w:World)(ht:TabAt w 1 lowTab)(hl:r<256) :
 Calls Tryz.prog 22 #[.int .i32 r] w fun e w'=>e=.returned (.int .i64 (Tabs.look lowTab r))∧Below w.heap.size w w':=by
 have hc:=fn28_any r w ht;clear ht;generalize Tabs.look lowTab r=v at hc ⊢;have n8234:(r == 8234)=false:=beq_eq_false_iff_ne.2 (by omega);have n8235:(r == 8235)=false:=beq_eq_false_iff_ne.2 (by omega);have n8236:(r == 8236)=false:=beq_eq_false_iff_ne.2 (by omega);have n8237:(r == 8237)=false:=beq_eq_false_iff_ne.2 (by omega);have n8238:(r == 8238)=false:=beq_eq_false_iff_ne.2 (by omega);have n8294:(r == 8294)=false:=beq_eq_false_iff_ne.2 (by omega);have n8295:(r == 8295)=false:=beq_eq_false_iff_ne.2 (by omega);have n8296:(r == 8296)=false:=beq_eq_false_iff_ne.2 (by omega);have n8297:(r == 8297)=false:=beq_eq_false_iff_ne.2 (by omega);go_enter Tryz.func22,Tryz.ntmps22;go_wp2_with (go_at_call 41;refine hc.mono ?_;rintro e w' ⟨rfl,hb⟩);go_ret;exact⟨rfl,hb⟩
set_option maxHeartbeats 1000000 in
theorem fn22_high (r:Int)(w:World)(ht:TabAt w 2 highTab)(hl:256≤r)(h9:∀x∈nineTab,r≠x.1) :
 Calls Tryz.prog 22 #[.int .i32 r] w fun e w'=>e=.returned (.int .i64 (Tabs.look highTab r))∧Below w.heap.size w w':=by
 have hc:=fn29_any r w ht;clear ht;generalize Tabs.look highTab r=v at hc ⊢;have n8234:(r == 8234)=false:=beq_eq_false_iff_ne.2 (h9 (8234,8234,14) (by decide));have n8235:(r == 8235)=false:=beq_eq_false_iff_ne.2 (h9 (8235,8235,16) (by decide));have n8236:(r == 8236)=false:=beq_eq_false_iff_ne.2 (h9 (8236,8236,18) (by decide));have n8237:(r == 8237)=false:=beq_eq_false_iff_ne.2 (h9 (8237,8237,15) (by decide));have n8238:(r == 8238)=false:=beq_eq_false_iff_ne.2 (h9 (8238,8238,17) (by decide));have n8294:(r == 8294)=false:=beq_eq_false_iff_ne.2 (h9 (8294,8294,19) (by decide));have n8295:(r == 8295)=false:=beq_eq_false_iff_ne.2 (h9 (8295,8295,20) (by decide));have n8296:(r == 8296)=false:=beq_eq_false_iff_ne.2 (h9 (8296,8296,21) (by decide));have n8297:(r == 8297)=false:=beq_eq_false_iff_ne.2 (h9 (8297,8297,22) (by decide));clear h9;go_enter Tryz.func22,Tryz.ntmps22;go_wp2_with (go_at_call 42;refine hc.mono ?_;rintro e w' ⟨rfl,hb⟩);go_ret;exact⟨rfl,hb⟩
theorem fn22_any (r:Int)(w:World)(h3:TabAt w 1 lowTab)(h4:TabAt w 2 highTab) :
 Calls Tryz.prog 22 #[.int .i32 r] w fun e w'=>e=.returned (.int .i64 (Tabs.look classTab r))∧Below w.heap.size w w':=by
 by_cases hl:r<256
 ·rw[class_low r hl];exact fn22_low r w h3 hl
 ·by_cases h9:∀x∈nineTab,r≠x.1
  ·rw[class_high r (by omega) h9];exact fn22_high r w h4 (by omega) h9
  ·have hex:∃x∈nineTab,r=x.1:=by
    refine Classical.byContradiction fun h=>h9 fun x hx e=>h ⟨x,hx,e⟩
   obtain⟨x,hx,rfl⟩:=hex;simp only[nineTab,List.mem_cons,List.not_mem_nil,or_false]at hx
   rcases hx with rfl | rfl | rfl | rfl | rfl | rfl | rfl | rfl | rfl
   ·rw[class_nine 8234 14 (by decide)];exact(fn22_8234 w).mono fun e w' h=>⟨h.1,h.2 ▸ Below.refl _ _⟩
   ·rw[class_nine 8235 16 (by decide)];exact(fn22_8235 w).mono fun e w' h=>⟨h.1,h.2 ▸ Below.refl _ _⟩
   ·rw[class_nine 8236 18 (by decide)];exact(fn22_8236 w).mono fun e w' h=>⟨h.1,h.2 ▸ Below.refl _ _⟩
   ·rw[class_nine 8237 15 (by decide)];exact(fn22_8237 w).mono fun e w' h=>⟨h.1,h.2 ▸ Below.refl _ _⟩
   ·rw[class_nine 8238 17 (by decide)];exact(fn22_8238 w).mono fun e w' h=>⟨h.1,h.2 ▸ Below.refl _ _⟩
   ·rw[class_nine 8294 19 (by decide)];exact(fn22_8294 w).mono fun e w' h=>⟨h.1,h.2 ▸ Below.refl _ _⟩
   ·rw[class_nine 8295 20 (by decide)];exact(fn22_8295 w).mono fun e w' h=>⟨h.1,h.2 ▸ Below.refl _ _⟩
   ·rw[class_nine 8296 21 (by decide)];exact(fn22_8296 w).mono fun e w' h=>⟨h.1,h.2 ▸ Below.refl _ _⟩
   ·rw[class_nine 8297 22 (by decide)];exact(fn22_8297 w).mono fun e w' h=>⟨h.1,h.2 ▸ Below.refl _ _⟩
def sylB (r:Int):Bool:=decide ((r - 44032) % 28=0)
theorem syl_yes {r:Int}(h:sylB r=true):((r - 44032) % 28 == 0)=true:=by simpa[sylB] using h
theorem syl_no {r:Int}(h:sylB r=false):((r - 44032) % 28 == 0)=false:=by simpa[sylB] using h
theorem kind_yes {r:Int}(h1:44032≤r)(h2:r≤55203)(h:sylB r=true):kindOf r=12:=by
 unfold kindOf;rw[if_pos ⟨h1,h2⟩,if_pos (by simpa[sylB] using h)]
theorem kind_no {r:Int}(h1:44032≤r)(h2:r≤55203)(h:sylB r=false):kindOf r=13:=by
 unfold kindOf;rw[if_pos ⟨h1,h2⟩,if_neg (by simpa[sylB] using h)]
theorem kind_tab {r:Int}(h:¬(44032≤r∧r≤55203)):kindOf r=Tabs.look kindTab r:=by
 unfold kindOf;rw[if_neg h]
end Go.Proofs.YtnakejhohdbfdacGreatDoor.Cls
namespace Go.Proofs.YtnakejhohdbfdacGreatDoor.Cls
open Go.RowKit Tabs
def rowData {H:Type}(x:Int × Int × Int):DataW H:=.agg [.lit (.int .i32 x.1),.lit (.int .i32 x.2.1),.lit (.int .i64 x.2.2)]
theorem one_of {k:IntKind}{cs:List Value}{o:Nat}{z:Int}(h:(cs.drop o).take 1=[Value.int k z]):cs[o]?=some (.int k z):=by
 have:=congrArg (·[0]?) h;simpa[List.getElem?_take,List.getElem?_drop] using this
theorem cells_of_rows {H:Type}{enc:TypeId × Value→H}{P:Program}{w:World}{base:Nat}{sp:Nat→Bool}{held:Bool}{fuel:Nat}{t e:TypeId}{n:Nat}{f0 f1 f2:Field}{cs:List Value}{l:List (Int × Int × Int)}{p:List MemPlace}
 (ht:P.underlying t=some (.array n e)) (he:P.underlying e=some (.struct #[f0,f1,f2])) (hce:P.cellsOf e=3)
 (o0:f0.offset=0) (o1:f1.offset=1) (o2:f2.offset=2) (u0:P.underlying f0.type=some (.int .i32)) (u1:P.underlying f1.type=some (.int .i32)) (u2:P.underlying f2.type=some (.int .i64))
 (s0:P.cellsOf f0.type=1) (s1:P.cellsOf f1.type=1) (s2:P.cellsOf f2.type=1) (hn:n=l.length)
 (h:DataW.trod enc P w base sp held fuel t cs=some (.agg (l.map rowData),p)) (i:Nat) (hi:i<l.length) :
 cs[i * 3]?=some (.int .i32 (frm l i))∧cs[i * 3+1]?=some (.int .i32 (til l i))∧cs[i * 3+2]?=some (.int .i64 (wht l i)):=by
 cases fuel with
 | zero=>simp[DataW.trod]at h
 | succ fuel =>
   simp only[DataW.trod,ht,hce]at h;split at h
   ·obtain⟨xs,hm,hx⟩:=Option.map_eq_some_iff.1 h
    have hxs:xs.map (·.1)=l.map (rowData (H:=H)):=by
     have:=congrArg Prod.fst hx;simpa using this
    obtain⟨b,hb,hf⟩:=Lib.mapM_at hm i i (by simp[hn,hi]);obtain⟨y0,y1,y2,m,hy,_,t0,t1,t2⟩:=Deep.trod_struct3 he hf;rw[o0,s0]at t0;rw[o1,s1]at t1;rw[o2,s2]at t2;obtain⟨z0,c0,e0,_⟩:=DataW.trod_int u0 t0;obtain⟨z1,c1,e1,_⟩:=DataW.trod_int u1 t1;obtain⟨z2,c2,e2,_⟩:=DataW.trod_int u2 t2;subst e0 e1 e2 hy;have hb1:(xs.map (·.1))[i]?=some (DataW.agg [.lit (.int .i32 z0),.lit (.int .i32 z1),.lit (.int .i64 z2)]):=by simp[hb]
    rw[hxs]at hb1;have hr:(l.map (rowData (H:=H)))[i]?=some (rowData (l[i])):=by simp[hi]
    rw[hr]at hb1;simp only[rowData,Option.some.injEq,DataW.agg.injEq,List.cons.injEq,DataW.lit.injEq,Lit.int.injEq,true_and,and_true]at hb1;have hg:l.getD i (0,0,0)=l[i]:=by simp[List.getD,hi]
    unfold frm til wht;rw[hg,hb1.1,hb1.2.1,hb1.2.2];have k0:=one_of c0;have k1:=one_of c1;have k2:=one_of c2;simp only[List.getElem?_take,List.getElem?_drop]at k0 k1 k2;exact⟨by simpa using k0,by simpa using k1,by simpa using k2⟩
   ·cases h
theorem tabAt_of_head {P:Program}{W:World}{name:String}{l:List (Int × Int × Int)}{rest:List (String × DataW Unit)}{g:Nat}{t e:TypeId}{n:Nat}{f0 f1 f2:Field}
 (hg:P.globalNamed name=some g) (hty:(P.globals[g]?).map (·.type)=some t) (ht:P.underlying t=some (.array n e)) (he:P.underlying e=some (.struct #[f0,f1,f2])) (hce:P.cellsOf e=3)
 (o0:f0.offset=0) (o1:f1.offset=1) (o2:f2.offset=2) (u0:P.underlying f0.type=some (.int .i32)) (u1:P.underlying f1.type=some (.int .i32)) (u2:P.underlying f2.type=some (.int .i64))
 (s0:P.cellsOf f0.type=1) (s1:P.cellsOf f1.type=1) (s2:P.cellsOf f2.type=1) (hn:n=l.length)
 (h:laidMet P ((name,.agg (l.map rowData)) :: rest) W):TabAt W g l:=by
 obtain⟨ps,⟨g',t',cs,fuel,p,q,hg',ht',hvar,hd,_,_⟩,_⟩:=h;obtain rfl:=Option.some.inj (hg.symm.trans hg');obtain rfl:=Option.some.inj (hty.symm.trans ht');intro i hi;obtain⟨c0,c1,c2⟩:=cells_of_rows ht he hce o0 o1 o2 u0 u1 u2 s0 s1 s2 hn hd i hi;have v:=World.var?_cell hg hvar;simp only[Array.getElem?_toList]at c0 c1 c2;exact⟨(v _).trans c0,(v _).trans c1,(v _).trans c2⟩
theorem tLow:(Tryz.prog.globals[1]?).map (·.type)=some 167:=by kernel_rfl
theorem tHigh:(Tryz.prog.globals[2]?).map (·.type)=some 168:=by kernel_rfl
theorem cells63:Tryz.prog.cellsOf 166=3:=by kernel_rfl
theorem cells21:Tryz.prog.cellsOf 21=1:=by kernel_rfl
theorem cells27:Tryz.prog.cellsOf 49=1:=by kernel_rfl
theorem dataLow:(Rows.laid_caret_runes_lowClasses:DataW Unit)=.agg (lowTab.map rowData):=by kernel_rfl
theorem dataHigh:(Rows.laid_caret_runes_highClasses:DataW Unit)=.agg (highTab.map rowData):=by kernel_rfl
theorem low_of_head {W:World}{n:String}{rest:List (String × DataW Unit)}(h:laidMet Tryz.prog ((n,Rows.laid_caret_runes_lowClasses) :: rest) W)(hn:Tryz.prog.globalNamed n=some 1):TabAt W 1 lowTab:=by
 rw[dataLow]at h;exact tabAt_of_head hn tLow Tryz.underlying167 Tryz.underlying166 cells63 rfl rfl rfl Tryz.underlying21 Tryz.underlying21 Tryz.underlying49 cells21 cells21 cells27 len_low.symm h
theorem high_of_head {W:World}{n:String}{rest:List (String × DataW Unit)}(h:laidMet Tryz.prog ((n,Rows.laid_caret_runes_highClasses) :: rest) W)(hn:Tryz.prog.globalNamed n=some 2):TabAt W 2 highTab:=by
 rw[dataHigh]at h;exact tabAt_of_head hn tHigh Tryz.underlying168 Tryz.underlying166 cells63 rfl rfl rfl Tryz.underlying21 Tryz.underlying21 Tryz.underlying49 cells21 cells21 cells27 len_high.symm h
end Go.Proofs.YtnakejhohdbfdacGreatDoor.Cls
