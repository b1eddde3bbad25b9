import Derived.Test.YtnakejhohdbfdaaGreatDoorRows
import Derived.Test.YtnakejhohdbfdaaGreatDoorXMa
import Derived.WalkKit
import Derived.WalkSpells
import Derived.WalkSmall
import Derived.Lib.OthersKept
import Derived.RegionTactic
import Derived.Deep.QuietTactic
import Derived.BigQuiet
import Derived.Laws.AppendOwnNone
import Derived.OwnWalk
import Derived.Lib.Builder
import Derived.Deep.RegionWith
import Derived.Deep.CutRange
namespace Go.Proofs.YtnakejhohdbfdaaGreatDoor
open Go.RowKit Lev
theorem hid {p:Prop}(h:p):Hid p:=h
theorem retB {a b:Bool}(h:a=b):(Ending.returned (.bool a))=.returned (.bool b):=by rw[h]
theorem retI {a b:Int}{k:IntKind}(h:a=b):(Ending.returned (.int k a))=.returned (.int k b):=by rw[h]
abbrev ints64 (l:List Int):List Value:=l.map (Value.int .i64)
def rowAt (w:World)(g n:Nat)(l:List Int):Prop:=∀i,i<n→w.cell? ⟨g,i,none⟩=some (.int .i64 (nth l i))
theorem ref10_any (c:Int)(w:World):Calls Tryz.prog 41 #[.int .i64 c] w fun e w'=>e=.returned (.bool (ini c))∧w'=w:=by
 go_enter Tryz.func41,Tryz.ntmps41;go_wp2
 all_goals go_ret
 all_goals refine⟨retB ?_,rfl⟩
 all_goals simp[ini, *]
theorem ref35_any (a b:Int)(w:World):Calls Tryz.prog 87 #[.int .i64 a,.int .i64 b] w fun e w'=>e=.returned (.int .i64 (max a b))∧w'=w:=by
 go_enter Tryz.func87,Tryz.ntmps87;go_wp2
 all_goals go_ret
 all_goals refine⟨retI ?_,rfl⟩
 all_goals omega
theorem ref36_any (l:Int)(w:World)(h:0≤l):Calls Tryz.prog 88 #[.int .i64 l] w fun e w'=>e=.returned (.int .i64 (way l))∧w'=w:=by
 go_enter Tryz.func88,Tryz.ntmps88;go_wp2
 all_goals go_ret
 all_goals refine⟨retI ?_,rfl⟩
 all_goals (simp only[beq_iff_eq,beq_eq_false_iff_ne,ne_eq]at *;unfold way;split <;> omega)
theorem ref40_any (c:Int)(w:World):Calls Tryz.prog 92 #[.int .i64 c] w fun e w'=>e=.returned (.int .i64 (side c))∧w'=w:=by
 go_enter Tryz.func92,Tryz.ntmps92;go_wp2
 all_goals go_ret
 all_goals refine⟨retI ?_,rfl⟩
 all_goals (simp only[beq_iff_eq,beq_eq_false_iff_ne,ne_eq]at *;(try subst c);simp[side, *])
theorem ref78_any (r:Int)(w:World):Calls Tryz.prog 160 #[.int .i32 r] w fun e w'=>e=.returned (.int .i32 (if opens r then r else 0))∧w'=w:=by
 have HR:=hid (show(if opens r then r else 0)=if r=40∨r=91∨r=123∨r=12296∨r=12298 then r else 0 from by unfold opens;simp[or_assoc]);generalize (if opens r then r else 0)=R at HR;go_enter Tryz.func160,Tryz.ntmps160;go_wp2
 all_goals go_ret
 all_goals refine⟨retI ?_,rfl⟩
 all_goals (rw[HR.out];simp only[beq_iff_eq,beq_eq_false_iff_ne,ne_eq]at *;first | (rw[if_pos (by omega)];done) | (rw[if_neg (by omega)];done))
theorem ref79_any (r:Int)(w:World):Calls Tryz.prog 161 #[.int .i32 r] w fun e w'=>e=.returned (.int .i32 (shuts r))∧w'=w:=by
 go_enter Tryz.func161,Tryz.ntmps161;go_wp2
 all_goals go_ret
 all_goals refine⟨retI ?_,rfl⟩
 all_goals (simp only[beq_iff_eq,beq_eq_false_iff_ne,ne_eq]at *;(try subst r);simp[shuts, *])
def mateI (o:Option Nat):Int:=match o with | none=>-1 | some m=>m
theorem mate_from (c:List Int)(j:Nat)(n:Int)(h:j<c.length):mateL (c.drop j) j n=if n+dn (nth c j)=0 then some j else mateL (c.drop (j+1)) (j+1) (n+dn (nth c j)):=by
 rw[List.drop_eq_getElem_cons h,mateL];simp[nth,List.getElem?_eq_getElem h]
theorem mateL_ge:∀(c:List Int) (p:Nat) (n:Int) (m:Nat),mateL c p n=some m→p≤m
 | [],_,_,_,h=>by cases h
 | x :: xs,p,n,m,h=>by
   rw[mateL]at h;by_cases h0:n+dn x=0
   ·rw[if_pos h0]at h;cases h;exact Nat.le_refl _
   ·rw[if_neg h0]at h;have:=mateL_ge xs (p+1) _ m h;omega
theorem mate_ge (c:List Int)(i m:Nat)(h:mate c i=some m):i≤m:=mateL_ge _ _ _ _ h
theorem mateL_lt:∀(c:List Int) (p:Nat) (n:Int) (m:Nat),mateL c p n=some m→m<p+c.length
 | [],_,_,_,h=>by cases h
 | x :: xs,p,n,m,h=>by
   rw[mateL]at h;by_cases h0:n+dn x=0
   ·rw[if_pos h0]at h;cases h;simp
   ·rw[if_neg h0]at h;have:=mateL_lt xs (p+1) _ m h;simp;omega
theorem mate_lt (c:List Int)(i m:Nat)(h:mate c i=some m):m<c.length:=by
 have h1:=mateL_lt _ _ _ _ h;have h2:=mate_ge c i m h;by_cases hi:i≤c.length
 ·rw[List.length_drop]at h1;omega
 ·rw[mate,List.drop_eq_nil_of_le (by omega)]at h;cases h
set_option maxHeartbeats 1000000 in
theorem ref11_any (g n cap:Nat)(c:List Int)(i:Nat)(w:World)(hl:c.length=n)(hn:n≤1000000)(hi:i≤n)(hr:rowAt w g n c) :
 Calls Tryz.prog 42 #[.slice (some ⟨g,0,none⟩) n cap,.int .i64 i] w fun e w'=>e=.returned (.int .i64 (mateI (mate c i)))∧w'=w:=by
 have HR:=hid (show mate c i=mateL (c.drop i) i 0 from rfl);generalize mate c i=R at HR;go_enter Tryz.func42,Tryz.ntmps42;go_wp2;go_loopw [5,6] (fun a b wr=>∃(j:Nat) (x:Int),wr=w∧a=.int .i64 x∧b=.int .i64 j∧j≤n∧-(j:Int)≤x∧x≤j∧Hid (R=mateL (c.drop j) j x)) (fun _ b _=>n - (intOf b).toNat)
 case atStart=>exact⟨i,0,rfl,rfl,rfl,hi,by omega,by omega,HR⟩
 case round =>
  obtain⟨j,x,rfl,rfl,rfl,hj,hx1,hx2,HM⟩:=hrel;by_cases hlt:j<n
  ·have hc:=hr j hlt
   have HM2:=HM.out;rw[mate_from c j x (by omega)]at HM2
   replace HM2:=hid HM2
   generalize nth c j=y at hc HM2;clear HM;have HE:=hid (show dn y=if ini y then 1 else if y=22 then -1 else 0 from rfl);have hX:ini y=true→y≠22:=by intro h e;rw[e]at h;cases h
   generalize dn y=d at HM2 HE;cases hy:ini y
   ·rw[hy]at HE
    by_cases h22:y=22
    ·subst h22
     have hd:d=-1:=by have:=HE.out;simpa using this
     subst hd;by_cases h0:x=1
     ·subst h0
      have hR:R=some j:=by have:=HM2.out;simpa using this
      have HRR:=hid hR;clear hX hR;go_wp2_with (go_at_call 41;refine(ref10_any _ _).mono ?_;rintro e w' ⟨rfl,rfl⟩);go_ret;exact⟨by rw[HRR.out];rfl,rfl⟩
     ·have hR:R=mateL (c.drop (j+1)) (j+1) (x+-1):=by have:=HM2.out;rwa [if_neg (by omega)]at this
      have HRR:=hid hR;have h1:¬x - 1=0:=by omega
      clear hX hR;go_wp2_with (go_at_call 41;refine(ref10_any _ _).mono ?_;rintro e w' ⟨rfl,rfl⟩);go_roundw
      case rel=>exact⟨j+1,x+-1,trivial,by go_num,by go_num,by omega,by omega,by omega,HRR⟩
      case measure=>simp[intOf];omega
    ·have hd:d=0:=by have:=HE.out;simpa[h22] using this
     subst hd;by_cases h0:x=0
     ·subst h0
      have hR:R=some j:=by have:=HM2.out;simpa using this
      have HRR:=hid hR;clear hX hR;go_wp2_with (go_at_call 41;refine(ref10_any _ _).mono ?_;rintro e w' ⟨rfl,rfl⟩);go_ret;exact⟨by rw[HRR.out];rfl,rfl⟩
     ·have hR:R=mateL (c.drop (j+1)) (j+1) x:=by have:=HM2.out;rwa [if_neg (by omega),Int.add_zero]at this
      have HRR:=hid hR;clear hX hR;go_wp2_with (go_at_call 41;refine(ref10_any _ _).mono ?_;rintro e w' ⟨rfl,rfl⟩);go_roundw
      case rel=>exact⟨j+1,x,trivial,rfl,by go_num,by omega,by omega,by omega,HRR⟩
      case measure=>simp[intOf];omega
   ·have h22:=hX hy
    rw[hy]at HE;have hd:d=1:=by have:=HE.out;simpa using this
    subst hd;by_cases h0:x=-1
    ·subst h0
     have hR:R=some j:=by have:=HM2.out;simpa using this
     have HRR:=hid hR;clear hX hR;go_wp2_with (go_at_call 41;refine(ref10_any _ _).mono ?_;rintro e w' ⟨rfl,rfl⟩);go_ret;exact⟨by rw[HRR.out];rfl,rfl⟩
    ·have hR:R=mateL (c.drop (j+1)) (j+1) (x+1):=by have:=HM2.out;rwa [if_neg (by omega)]at this
     have HRR:=hid hR;have h1:¬x+1=0:=by omega
     clear hX hR;go_wp2_with (go_at_call 41;refine(ref10_any _ _).mono ?_;rintro e w' ⟨rfl,rfl⟩);go_roundw
     case rel=>exact⟨j+1,x+1,trivial,by go_num,by go_num,by omega,by omega,by omega,HRR⟩
     case measure=>simp[intOf];omega
  ·have HM2:=HM.out
   rw[List.drop_eq_nil_of_le (by omega)]at HM2
   replace HM2:=hid HM2
   clear HM;go_wp2;go_ret;exact⟨by rw[HM2.out];rfl,rfl⟩
theorem strong_from (c:List Int)(i tt:Nat)(h:i<tt):strong c i tt =
 if nth c i=0 then false else if nth c i=1∨nth c i=2 then true
 else if ini (nth c i)then(match mate c i with | none=>false | some m=>if tt≤m then false else strong c (m+1) tt)
 else strong c (i+1) tt:=by
 have key:∀f g i,tt - i≤f→tt - i≤g→strongA c tt f i=strongA c tt g i:=by
  intro f
  induction f with
  | zero =>
    intro g i hf hg;cases g with
    | zero=>rfl
    | succ g=>rw[strongA,strongA,if_pos (by omega)]
  | succ f ih =>
    intro g i hf hg;cases g with
    | zero=>rw[strongA,strongA,if_pos (by omega)]
    | succ g =>
      rw[strongA,strongA];by_cases h1:tt≤i
      ·rw[if_pos h1,if_pos h1]
      ·rw[if_neg h1,if_neg h1]
       have h2:∀m,i≤m→strongA c tt f (m+1)=strongA c tt g (m+1):=fun m hm=>ih g (m+1) (by omega) (by omega)
       have h3:∀m,mate c i=some m→i≤m:=fun m hm=>mate_ge c i m hm
       rw[h2 i (Nat.le_refl _)];cases hm:mate c i with
       | none=>rfl
       | some m=>simp only[h2 m (h3 m hm)]
 unfold strong;obtain⟨d,hd⟩:∃d,tt - i=d+1:=⟨tt - i - 1,by omega⟩;rw[hd,strongA,if_neg (by omega)];have h3:∀m,mate c i=some m→i≤m:=fun m hm=>mate_ge c i m hm
 rw[key d (tt - (i+1)) (i+1) (by omega) (by omega)];cases hm:mate c i with
 | none=>rfl
 | some m=>simp only[key d (tt - (m+1)) (m+1) (by have:=h3 m hm;omega) (Nat.le_refl _)]
theorem mateI_none:mateI none=-1:=rfl
theorem mateI_some (m:Nat):mateI (some m)=m:=rfl
set_option maxHeartbeats 2000000 in
theorem ref12_any (g n cap:Nat)(c:List Int)(i tt:Nat)(w:World)(hl:c.length=n)(hn:n≤1000000)(hto:tt≤n)(hi:i≤1000000)(hr:rowAt w g n c) :
 Calls Tryz.prog 43 #[.slice (some ⟨g,0,none⟩) n cap,.int .i64 i,.int .i64 tt] w fun e w'=>e=.returned (.bool (strong c i tt))∧w'=w:=by
 obtain⟨R,hR⟩:∃R,R=strong c i tt:=⟨_,rfl⟩;have HR:=hid hR;rw[←hR];clear hR;go_enter Tryz.func43,Tryz.ntmps43;go_wp2;go_loopw [7] (fun b wr=>∃(j:Nat),wr=w∧b=.int .i64 j∧j≤1000000∧Hid (R=strong c j tt)) (fun b _=>tt - (intOf b).toNat)
 case atStart=>exact⟨i,rfl,rfl,hi,HR⟩
 case round =>
  obtain⟨j,rfl,rfl,hj,HM⟩:=hrel;by_cases hlt:j<tt
  ·have hc:=hr j (show j<n by omega)
   have HM2:=HM.out;rw[strong_from c j tt hlt]at HM2;have HC11:=hid (ref11_any g n cap c j wr hl hn (by omega) hr);have HGE:=hid (fun m=>mate_ge c j m);have HLT:=hid (fun m=>mate_lt c j m);generalize mate c j=M at HM2 HC11 HGE HLT;simp only[← @beq_iff_eq Int]at HM2
   replace HM2:=hid HM2
   generalize nth c j=y at hc HM2;clear HM HR;cases M with
   | none =>
     rw[mateI_none]at HC11;go_wp2_with (first | (go_at_call 41;refine(ref10_any _ _).mono ?_;rintro e w' ⟨rfl,rfl⟩) | (go_at_call 42;refine HC11.out.mono ?_;rintro e w' ⟨rfl,rfl⟩))
     all_goals first
      | (go_ret;exact⟨retB (by rw[HM2.out];first | (simp[*];done) | (simp[*];simp_all;done)),rfl⟩)
      | (refine⟨⟨j+1,trivial,by go_num,by omega,hid (by rw[HM2.out];simp[*])⟩,?_⟩;simp[intOf];omega)
   | some m =>
     have hge:=HGE.out m rfl;have hml:=HLT.out m rfl;rw[mateI_some]at HC11;have h0m:¬(m:Int)<0:=by omega
     by_cases hm:tt≤m
     ·have hm1:(tt:Int)≤(m:Int):=by omega
      go_wp2_with (first | (go_at_call 41;refine(ref10_any _ _).mono ?_;rintro e w' ⟨rfl,rfl⟩) | (go_at_call 42;refine HC11.out.mono ?_;rintro e w' ⟨rfl,rfl⟩))
      all_goals first
       | (go_ret;exact⟨retB (by rw[HM2.out];first | (simp[*];done) | (simp[*];simp_all;done)),rfl⟩)
       | (refine⟨⟨j+1,trivial,by go_num,by omega,hid (by rw[HM2.out];simp[*])⟩,?_⟩;simp[intOf];omega)
     ·have hm1:¬(tt:Int)≤(m:Int):=by omega
      go_wp2_with (first | (go_at_call 41;refine(ref10_any _ _).mono ?_;rintro e w' ⟨rfl,rfl⟩) | (go_at_call 42;refine HC11.out.mono ?_;rintro e w' ⟨rfl,rfl⟩))
      all_goals first
       | (go_ret;exact⟨retB (by rw[HM2.out];first | (simp[*];done) | (simp[*];simp_all;done)),rfl⟩)
       | (refine⟨⟨j+1,trivial,by go_num,by omega,hid (by rw[HM2.out];simp[*])⟩,?_⟩;simp[intOf];omega)
       | (refine⟨⟨m+1,trivial,by go_num,by omega,hid (by rw[HM2.out];simp[*])⟩,?_⟩;simp[intOf];omega)
  ·have HRR:=hid (show R=false by rw[HM.out,strong,show tt - j=0 by omega];rfl)
   clear HM;go_wp2;go_ret;exact⟨by rw[HRR.out];rfl,rfl⟩
end Go.Proofs.YtnakejhohdbfdaaGreatDoor
namespace Go.Proofs.YtnakejhohdbfdaaGreatDoor
open Go.RowKit Lev
structure Fr (S:List Nat)(w w':World):Prop where
 os:w'.os=w.os
 tape:w'.tape=w.tape
 output:w'.output=w.output
 size:w.heap.size≤w'.heap.size
 block:∀k,k<w.heap.size→k ∉ S→w'.heap[k]?=w.heap[k]?
theorem Fr.refl (S:List Nat)(w:World):Fr S w w:=⟨rfl,rfl,rfl,Nat.le_refl _,fun _ _ _=>rfl⟩
theorem Fr.trans {S:List Nat}{w w' w'':World}(h:Fr S w w')(k:Fr S w' w''):Fr S w w'' :=
 ⟨k.os.trans h.os,k.tape.trans h.tape,k.output.trans h.output,Nat.le_trans h.size k.size,fun b hb hs=>(k.block b (Nat.lt_of_lt_of_le hb h.size) hs).trans (h.block b hb hs)⟩
theorem Fr.mono {S T:List Nat}{w w':World}(h:Fr S w w')(hs:∀k,k∈S→k<w.heap.size→k∈T):Fr T w w' :=
 ⟨h.os,h.tape,h.output,h.size,fun k hk hn=>h.block k hk (fun hm=>hn (hs k hm hk))⟩
theorem Fr.of_below {S:List Nat}{w w':World}(h:Below w.heap.size w w'):Fr S w w':=⟨h.os,h.tape,h.output,h.size,fun k hk _=>h.block k hk⟩
theorem Fr.of_grown {w w':World}{b:Nat}(h:w.grownBy w' (some b)):Fr [b] w w':=⟨h.os,h.tape,h.output,h.size,fun k hk hn=>h.block k hk (fun e=>hn (by cases e;simp))⟩
theorem Fr.of_grown_none {w w':World}(h:w.grownBy w' none):Fr [] w w':=⟨h.os,h.tape,h.output,h.size,fun k hk _=>h.block k hk (fun e=>by cases e)⟩
theorem Fr.below {S:List Nat}{w w':World}{B:Nat}(h:Fr S w w')(hB:B≤w.heap.size)(hs:∀k,k∈S→B≤k):Below B w w' :=
 ⟨h.os,h.tape,h.output,h.size,fun k hk=>h.block k (Nat.lt_of_lt_of_le hk hB) (fun hm=>absurd (hs k hm) (by omega))⟩
theorem Fr.alloc {S:List Nat}{w w':World}(h:Fr S w w')(o:Obj):Fr S w (w'.alloc o) :=
 h.trans (Fr.of_below ((Below.refl _ w').alloc (Nat.le_refl _) o))
theorem Fr.set {S:List Nat}{w w':World}(h:Fr S w w'){b i:Nat}(hb:b∈S)(v:Value):Fr S w (w'.setCell ⟨b,i,none⟩ v):=by
 refine h.trans ?_;exact⟨rfl,rfl,rfl,by simp,fun k _ hn=>Below.heap_setCell _ _ _ _ (fun e=>hn (by rw[e];exact hb))⟩
theorem Fr.drewN {S:List Nat}{w w':World}(h:Fr S w w')(n:Nat):Fr S w (w'.drewN n):=⟨h.os,h.tape,h.output,h.size,h.block⟩
theorem Fr.drew {S:List Nat}{w w':World}(h:Fr S w w'):Fr S w w'.drew:=⟨h.os,h.tape,h.output,h.size,h.block⟩
theorem Fr.cell {S:List Nat}{w w':World}(h:Fr S w w'){b i:Nat}{v:Value}(hc:w.cell? ⟨b,i,none⟩=some v)(hb:b ∉ S):w'.cell? ⟨b,i,none⟩=some v :=
 (World.cell?_of_block (a:=⟨b,i,none⟩) (h.block b (World.block_lt_of_cell? _ _ hc) hb)).trans hc
theorem Fr.froz {S:List Nat}{w w':World}(h:Fr S w w'){b i:Nat}{v:Value}(hc:w.cell? ⟨b,i,none⟩=some v)(hb:b ∉ S)(hf:w.frozen? ⟨b,i,none⟩=false):w'.frozen? ⟨b,i,none⟩=false :=
 (World.frozen?_of_block (a:=⟨b,i,none⟩) (h.block b (World.block_lt_of_cell? _ _ hc) hb)).trans hf
def rowB (w:World)(g n:Nat)(l:List Bool):Prop:=∀i,i<n→w.cell? ⟨g,i,none⟩=some (.bool (l[i]?.getD false))
def rowN (w:World)(g n:Nat)(I:List Nat):Prop:=∀i,i<n→w.cell? ⟨g,i,none⟩=some (.int .i64 (nix I i:Nat))
def rowR (w:World)(g n:Nat)(R:List Int):Prop:=∀i,i<n→w.cell? ⟨g,i * 3,none⟩=some (.int .i32 (nth R i))
def soft (w:World)(g n:Nat):Prop:=∀i,i<n→w.frozen? ⟨g,i,none⟩=false
theorem rowAt.fr {S:List Nat}{w w':World}{g n:Nat}{l:List Int}(h:rowAt w g n l)(hf:Fr S w w')(hg:g ∉ S):rowAt w' g n l:=fun i hi=>hf.cell (h i hi) hg
theorem rowB.fr {S:List Nat}{w w':World}{g n:Nat}{l:List Bool}(h:rowB w g n l)(hf:Fr S w w')(hg:g ∉ S):rowB w' g n l:=fun i hi=>hf.cell (h i hi) hg
theorem rowN.fr {S:List Nat}{w w':World}{g n:Nat}{l:List Nat}(h:rowN w g n l)(hf:Fr S w w')(hg:g ∉ S):rowN w' g n l:=fun i hi=>hf.cell (h i hi) hg
theorem rowR.fr {S:List Nat}{w w':World}{g n:Nat}{l:List Int}(h:rowR w g n l)(hf:Fr S w w')(hg:g ∉ S):rowR w' g n l:=fun i hi=>hf.cell (h i hi) hg
theorem soft.fr {S:List Nat}{w w':World}{g n:Nat}{l:List Int}(h:soft w g n)(hr:rowAt w g n l)(hf:Fr S w w')(hg:g ∉ S):soft w' g n:=fun i hi=>hf.froz (hr i hi) hg (h i hi)
theorem soft.frB {S:List Nat}{w w':World}{g n:Nat}{l:List Bool}(h:soft w g n)(hr:rowB w g n l)(hf:Fr S w w')(hg:g ∉ S):soft w' g n:=fun i hi=>hf.froz (hr i hi) hg (h i hi)
theorem nth_set (l:List Int)(i:Nat)(v:Int)(j:Nat)(hi:i<l.length):nth (l.set i v) j=if j=i then v else nth l j:=by
 unfold nth;by_cases h:j=i
 ·subst h;rw[if_pos rfl,List.getElem?_set_self hi];rfl
 ·rw[if_neg h,List.getElem?_set_ne (fun e=>h e.symm)]
theorem rowAt.set {w:World}{g n:Nat}{l:List Int}(h:rowAt w g n l){i:Nat}(hi:i<n)(hl:l.length=n)(v:Int):rowAt (w.setCell ⟨g,i,none⟩ (.int .i64 v)) g n (l.set i v):=by
 intro j hj;rw[nth_set l i v j (by omega)];by_cases e:j=i
 ·subst e;rw[if_pos rfl,World.cell?_setCell_same _ _ _ (h j hj)]
 ·rw[if_neg e,World.cell?_setCell_other _ _ _ _ (fun x=>e (by cases x;rfl))];exact h j hj
theorem rowB.set {w:World}{g n:Nat}{l:List Bool}(h:rowB w g n l){i:Nat}(hi:i<n)(hl:l.length=n)(v:Bool):rowB (w.setCell ⟨g,i,none⟩ (.bool v)) g n (l.set i v):=by
 intro j hj;by_cases e:j=i
 ·subst e;rw[List.getElem?_set_self (by omega),World.cell?_setCell_same _ _ _ (h j hj)];rfl
 ·rw[List.getElem?_set_ne (fun x=>e x.symm),World.cell?_setCell_other _ _ _ _ (fun x=>e (by cases x;rfl))];exact h j hj
theorem soft.set {w:World}{g n:Nat}(h:soft w g n)(a:Addr)(v:Value):soft (w.setCell a v) g n:=by
 intro i hi;rw[World.frozen?_setCell];exact h i hi
theorem fr_set1 (w:World)(b i:Nat)(v:Value):Fr [b] w (w.setCell ⟨b,i,none⟩ v):=(Fr.refl [b] w).set (by simp) v
structure PH where
 p:Nat
 bR:Nat
 bF:Nat
 bC:Nat
 bL:Nat
 bM:Nat
 bG:Nat
 cR:Nat
 cF:Nat
 cC:Nat
 cL:Nat
 cM:Nat
 cG:Nat
 n:Nat
 R:List Int
 K:List Int
 M:List Int
 base:Int
structure PS (w:World)(h:PH)(C L:List Int)(G:List Bool):Prop where
 c0:w.cell? ⟨h.p,0,none⟩=some (.slice (some ⟨h.bR,0,none⟩) h.n h.cR)
 c1:w.cell? ⟨h.p,1,none⟩=some (.slice (some ⟨h.bF,0,none⟩) h.n h.cF)
 c2:w.cell? ⟨h.p,2,none⟩=some (.slice (some ⟨h.bC,0,none⟩) h.n h.cC)
 c3:w.cell? ⟨h.p,3,none⟩=some (.slice (some ⟨h.bL,0,none⟩) h.n h.cL)
 c4:w.cell? ⟨h.p,4,none⟩=some (.slice (some ⟨h.bM,0,none⟩) h.n h.cM)
 c5:w.cell? ⟨h.p,5,none⟩=some (.slice (some ⟨h.bG,0,none⟩) h.n h.cG)
 c6:w.cell? ⟨h.p,6,none⟩=some (.int .i64 h.base)
 rR:rowR w h.bR h.n h.R
 rF:rowAt w h.bF h.n h.K
 rM:rowAt w h.bM h.n h.M
 rC:rowAt w h.bC h.n C
 rL:rowAt w h.bL h.n L
 rG:rowB w h.bG h.n G
 sC:soft w h.bC h.n
 sL:soft w h.bL h.n
 sG:soft w h.bG h.n
 lC:C.length=h.n
 lL:L.length=h.n
 lG:G.length=h.n
 neC:h.bC≠h.p∧h.bC≠h.bR∧h.bC≠h.bF∧h.bC≠h.bM
 neL:h.bL≠h.p∧h.bL≠h.bR∧h.bL≠h.bF∧h.bL≠h.bM
 neG:h.bG≠h.p∧h.bG≠h.bR∧h.bG≠h.bF∧h.bG≠h.bM
 neX:h.bC≠h.bL∧h.bC≠h.bG∧h.bL≠h.bG
theorem PS.fr {S:List Nat}{w w':World}{h:PH}{C L:List Int}{G:List Bool}(s:PS w h C L G)(hf:Fr S w w')
 (hs:h.p ∉ S∧h.bR ∉ S∧h.bF ∉ S∧h.bM ∉ S∧h.bC ∉ S∧h.bL ∉ S∧h.bG ∉ S):PS w' h C L G :=
 ⟨hf.cell s.c0 hs.1,hf.cell s.c1 hs.1,hf.cell s.c2 hs.1,hf.cell s.c3 hs.1,hf.cell s.c4 hs.1,hf.cell s.c5 hs.1,hf.cell s.c6 hs.1,
  s.rR.fr hf hs.2.1,s.rF.fr hf hs.2.2.1,s.rM.fr hf hs.2.2.2.1,s.rC.fr hf hs.2.2.2.2.1,s.rL.fr hf hs.2.2.2.2.2.1,s.rG.fr hf hs.2.2.2.2.2.2,
  s.sC.fr s.rC hf hs.2.2.2.2.1,s.sL.fr s.rL hf hs.2.2.2.2.2.1,s.sG.frB s.rG hf hs.2.2.2.2.2.2,s.lC,s.lL,s.lG,s.neC,s.neL,s.neG,s.neX⟩
theorem PS.fr0 {w w':World}{h:PH}{C L:List Int}{G:List Bool}(s:PS w h C L G)(hf:Fr [] w w'):PS w' h C L G:=s.fr hf (by simp)
theorem PS.alloc {w:World}{h:PH}{C L:List Int}{G:List Bool}(s:PS w h C L G)(o:Obj):PS (w.alloc o) h C L G:=s.fr0 ((Fr.refl [] w).alloc o)
theorem PS.setC {w:World}{h:PH}{C L:List Int}{G:List Bool}(s:PS w h C L G){i:Nat}(hi:i<h.n)(v:Int):PS (w.setCell ⟨h.bC,i,none⟩ (.int .i64 v)) h (C.set i v) L G:=by
 have hf:=fr_set1 w h.bC i (.int .i64 v);obtain⟨n1,n2,n3,n4⟩:=s.neC;obtain⟨n5,n6,n7⟩:=s.neX;have z:∀ {k:Nat},h.bC≠k→k ∉ [h.bC]:=fun hk hm=>hk (List.mem_singleton.1 hm).symm
 exact⟨hf.cell s.c0 (z n1),hf.cell s.c1 (z n1),hf.cell s.c2 (z n1),hf.cell s.c3 (z n1),hf.cell s.c4 (z n1),hf.cell s.c5 (z n1),hf.cell s.c6 (z n1),
  s.rR.fr hf (z n2),s.rF.fr hf (z n3),s.rM.fr hf (z n4),s.rC.set hi s.lC v,s.rL.fr hf (z n5),s.rG.fr hf (z n6),
  s.sC.set _ _,s.sL.set _ _,s.sG.set _ _,by rw[List.length_set];exact s.lC,s.lL,s.lG,s.neC,s.neL,s.neG,s.neX⟩
theorem PS.setL {w:World}{h:PH}{C L:List Int}{G:List Bool}(s:PS w h C L G){i:Nat}(hi:i<h.n)(v:Int):PS (w.setCell ⟨h.bL,i,none⟩ (.int .i64 v)) h C (L.set i v) G:=by
 have hf:=fr_set1 w h.bL i (.int .i64 v);obtain⟨n1,n2,n3,n4⟩:=s.neL;obtain⟨n5,n6,n7⟩:=s.neX;have z:∀ {k:Nat},h.bL≠k→k ∉ [h.bL]:=fun hk hm=>hk (List.mem_singleton.1 hm).symm
 exact⟨hf.cell s.c0 (z n1),hf.cell s.c1 (z n1),hf.cell s.c2 (z n1),hf.cell s.c3 (z n1),hf.cell s.c4 (z n1),hf.cell s.c5 (z n1),hf.cell s.c6 (z n1),
  s.rR.fr hf (z n2),s.rF.fr hf (z n3),s.rM.fr hf (z n4),s.rC.fr hf (z n5.symm),s.rL.set hi s.lL v,s.rG.fr hf (z n7),
  s.sC.set _ _,s.sL.set _ _,s.sG.set _ _,s.lC,by rw[List.length_set];exact s.lL,s.lG,s.neC,s.neL,s.neG,s.neX⟩
theorem PS.setG {w:World}{h:PH}{C L:List Int}{G:List Bool}(s:PS w h C L G){i:Nat}(hi:i<h.n)(v:Bool):PS (w.setCell ⟨h.bG,i,none⟩ (.bool v)) h C L (G.set i v):=by
 have hf:=fr_set1 w h.bG i (.bool v);obtain⟨n1,n2,n3,n4⟩:=s.neG;obtain⟨n5,n6,n7⟩:=s.neX;have z:∀ {k:Nat},h.bG≠k→k ∉ [h.bG]:=fun hk hm=>hk (List.mem_singleton.1 hm).symm
 exact⟨hf.cell s.c0 (z n1),hf.cell s.c1 (z n1),hf.cell s.c2 (z n1),hf.cell s.c3 (z n1),hf.cell s.c4 (z n1),hf.cell s.c5 (z n1),hf.cell s.c6 (z n1),
  s.rR.fr hf (z n2),s.rF.fr hf (z n3),s.rM.fr hf (z n4),s.rC.fr hf (z n6.symm),s.rL.fr hf (z n7.symm),s.rG.set hi s.lG v,
  s.sC.set _ _,s.sL.set _ _,s.sG.set _ _,s.lC,s.lL,by rw[List.length_set];exact s.lG,s.neC,s.neL,s.neG,s.neX⟩
theorem PS.lt {w:World}{h:PH}{C L:List Int}{G:List Bool}(s:PS w h C L G):h.p<w.heap.size:=World.block_lt_of_cell? _ _ s.c0
theorem PS.ltF {w:World}{h:PH}{C L:List Int}{G:List Bool}(s:PS w h C L G)(hn:0<h.n):h.bF<w.heap.size:=World.block_lt_of_cell? _ _ (s.rF 0 hn)
theorem PS.ltC {w:World}{h:PH}{C L:List Int}{G:List Bool}(s:PS w h C L G)(hn:0<h.n):h.bC<w.heap.size:=World.block_lt_of_cell? _ _ (s.rC 0 hn)
theorem PS.ltL {w:World}{h:PH}{C L:List Int}{G:List Bool}(s:PS w h C L G)(hn:0<h.n):h.bL<w.heap.size:=World.block_lt_of_cell? _ _ (s.rL 0 hn)
theorem PS.ltM {w:World}{h:PH}{C L:List Int}{G:List Bool}(s:PS w h C L G)(hn:0<h.n):h.bM<w.heap.size:=World.block_lt_of_cell? _ _ (s.rM 0 hn)
theorem PS.ltG {w:World}{h:PH}{C L:List Int}{G:List Bool}(s:PS w h C L G)(hn:0<h.n):h.bG<w.heap.size:=World.block_lt_of_cell? _ _ (s.rG 0 hn)
theorem PS.ltR {w:World}{h:PH}{C L:List Int}{G:List Bool}(s:PS w h C L G)(hn:0<h.n):h.bR<w.heap.size:=World.block_lt_of_cell? _ _ (s.rR 0 hn)
end Go.Proofs.YtnakejhohdbfdaaGreatDoor
namespace Go.Proofs.YtnakejhohdbfdaaGreatDoor
open Go.RowKit Lev
theorem ownsRow_take {w:World}{base:Nat}{e:TypeId}{size g cap n j:Nat}{xs:List Value}(h:w.ownsRow base e size (.slice (some ⟨g,0,none⟩) n cap) n xs)(hj:j≤n) :
 w.ownsRow base e size (.slice (some ⟨g,0,none⟩) j cap) j (xs.take (j * size)):=by
 obtain⟨hl,h2⟩:=h
 rcases h2 with⟨h0,_⟩ | ⟨g',cap',cur,hv,hg,hh,hn,hcap,hsz,htake⟩
 ·cases h0
 ·cases hv
  have hm:j * size≤n * size:=Nat.mul_le_mul_right _ hj;refine⟨by rw[List.length_take,hl];omega,.inr ⟨g,cap,cur,rfl,hg,hh,by omega,hcap,hsz,?_⟩⟩;rw[←htake,List.take_take,Nat.min_eq_left hm]
theorem owns_apart {w:World}{B B':Nat}{e e':TypeId}{size size':Nat}{v v':Value}{n n':Nat}{xs xs':List Value}(h:w.ownsRow B e size v n xs)(h':w.ownsRow B' e' size' v' n' xs')(he:e≠e'){g g':Nat}(hv:v.ownBlock=some g)(hv':v'.ownBlock=some g'):g≠g':=by
 intro hg;subst hg
 rcases h.2 with⟨rfl,_⟩ | ⟨g1,c1,cur1,rfl,_,hg1,_⟩
 ·cases hv
 ·rcases h'.2 with⟨rfl,_⟩ | ⟨g2,c2,cur2,rfl,_,hg2,_⟩
  ·cases hv'
  ·simp only[Value.ownBlock,Option.some.injEq]at hv hv'
   subst hv;subst hv';rw[hg1]at hg2;cases hg2;exact he rfl
theorem owns_shape {w:World}{B:Nat}{e:TypeId}{size:Nat}{v:Value}{n:Nat}{xs:List Value}(hn:0<n)(h:w.ownsRow B e size v n xs):∃g cap,v=.slice (some ⟨g,0,none⟩) n cap:=by
 rcases h.2 with⟨_,h0⟩ | ⟨g,cap,cur,rfl,_⟩
 ·omega
 ·exact⟨g,cap,rfl⟩
theorem owns_slice {w:World}{B:Nat}{e:TypeId}{size:Nat}{v:Value}{n:Nat}{xs:List Value}(h:w.ownsRow B e size v n xs):∃a cap,v=.slice a n cap:=by
 rcases h.2 with⟨h0,rfl⟩ | ⟨g,cap,cur,rfl,_⟩
 ·exact⟨none,0,h0⟩
 ·exact⟨_,cap,rfl⟩
theorem owns_at {w:World}{base:Nat}{e:TypeId}{size:Nat}{n g cap:Nat}{xs:List Value}(h:w.ownsRow base e size (.slice (some ⟨g,0,none⟩) n cap) n xs):base≤g∧g<w.heap.size:=h.lt g rfl
theorem owns_low {w:World}{base base':Nat}{e:TypeId}{size:Nat}{v:Value}{n:Nat}{xs:List Value}(h:w.ownsRow base e size v n xs)(hb:base'≤base):w.ownsRow base' e size v n xs:=by
 refine⟨h.1,?_⟩
 rcases h.2 with h1 | ⟨g,cap,cur,hv,hg,r⟩
 ·exact .inl h1
 ·exact .inr ⟨g,cap,cur,hv,by omega,r⟩
theorem owns_fr {S:List Nat}{w w':World}{base:Nat}{e:TypeId}{size:Nat}{v:Value}{n:Nat}{xs:List Value}(h:w.ownsRow base e size v n xs)(hf:Fr S w w')(hv:∀g,v.ownBlock=some g→g ∉ S):w'.ownsRow base e size v n xs:=by
 refine⟨h.1,?_⟩
 rcases h.2 with h1 | ⟨g,cap,cur,rfl,hg,hh,r⟩
 ·exact .inl h1
 ·exact .inr ⟨g,cap,cur,rfl,hg,(hf.block g (Array.getElem?_eq_some_iff.1 hh).1 (hv g rfl)).trans hh,r⟩
theorem owns_fr0 {w w':World}{base:Nat}{e:TypeId}{size:Nat}{v:Value}{n:Nat}{xs:List Value}(h:w.ownsRow base e size v n xs)(hf:Fr [] w w'):w'.ownsRow base e size v n xs:=owns_fr h hf (fun _ _=>List.not_mem_nil)
theorem owns_frB {S:List Nat}{w w':World}{base:Nat}{e:TypeId}{size:Nat}{v:Value}{n:Nat}{xs:List Value}(h:w.ownsRow base e size v n xs)(hf:Fr S w w')(hS:∀k∈S,k<base):w'.ownsRow base e size v n xs :=
 owns_fr h hf (fun g hg hm=>by have:=(h.lt g hg).1;have:=hS g hm;omega)
theorem Fr.grown {S:List Nat}{w w1 w':World}{row:Option Nat}(h:Fr S w w1)(hg:w1.grownBy w' row)(hr:∀k,row=some k→w.heap.size≤k):Fr S w w' :=
 ⟨hg.os.trans h.os,hg.tape.trans h.tape,hg.output.trans h.output,Nat.le_trans h.size hg.size,fun k hk hs=>(hg.block k (Nat.lt_of_lt_of_le hk h.size) (fun e=>by have:=hr k e.symm;omega)).trans (h.block k hk hs)⟩
theorem owns_grown {w w':World}{row:Option Nat}{base:Nat}{e:TypeId}{size:Nat}{v:Value}{n:Nat}{xs:List Value}(h:w.ownsRow base e size v n xs)(hg:w.grownBy w' row)(hne:∀g,v.ownBlock=some g→some g≠row):w'.ownsRow base e size v n xs:=by
 refine⟨h.1,?_⟩
 rcases h.2 with h1 | ⟨g,cap,cur,rfl,hgb,hh,r⟩
 ·exact .inl h1
 ·exact .inr ⟨g,cap,cur,rfl,hgb,(hg.block g (Array.getElem?_eq_some_iff.1 hh).1 (hne g rfl)).trans hh,r⟩
theorem info3:(Tryz.prog.info? 3).map (fun i=>(i.zero,i.size,i.bytes))=some (some (.int .i64 0),1,8):=by kernel_rfl
theorem info145:(Tryz.prog.info? 156).map (fun i=>(i.zero,i.size,i.bytes))=some (some (.agg #[.int .i64 0,.int .i64 0]),2,16):=by kernel_rfl
theorem info138:(Tryz.prog.info? 149).map (fun i=>(i.zero,i.size,i.bytes))=some (some (.agg #[.int .i64 0,.int .i64 0,.bool false]),3,24):=by kernel_rfl
theorem info22:(Tryz.prog.info? 22).map (fun i=>(i.zero,i.size,i.bytes))=some (some (.slice none 0 0),1,24):=by kernel_rfl
theorem one_cell (x:Int):∀u∈[Value.int .i64 x],u.oneCell'=true:=by
 intro u hu;rw[List.mem_singleton]at hu;subst hu;rfl
theorem news_cells (w:World)(cs:Array Value)(t:TypeId):∀j u,cs.toList[j]?=some u→(w.alloc (.cells cs t)).cell? ((⟨w.heap.size,0,none⟩:Addr).add j)=some u:=by
 intro j u hj;rw[Addr.add_lit,Nat.zero_add,World.cell?_alloc_at _ _ _ _ rfl];simpa using hj
theorem news_at (w:World)(cs:Array Value)(t:TypeId)(b:Nat)(hb:b=w.heap.size):∀j u,cs.toList[j]?=some u→(w.alloc (.cells cs t)).cell? ((⟨b,0,none⟩:Addr).add j)=some u:=by
 subst hb;exact news_cells w cs t
def intsN (l:List Nat):List Value:=l.map fun x=>.int .i64 (x:Nat)
theorem intsN_len (l:List Nat):(intsN l).length=l.length:=by simp[intsN]
theorem intsN_snoc (l:List Nat)(x:Nat):intsN l++[.int .i64 (x:Nat)]=intsN (l++[x]):=by simp[intsN]
theorem intsN_app (l m:List Nat):intsN l++intsN m=intsN (l++m):=by simp[intsN]
theorem intsN_take (l:List Nat)(j:Nat):(intsN l).take (j * 1)=intsN (l.take j):=by simp[intsN]
theorem intsN_at {l:List Nat}{j:Nat}(h:j<l.length):(intsN l)[j]?=some (.int .i64 (nix l j:Nat)):=by
 rw[intsN,List.getElem?_map,List.getElem?_eq_getElem h];simp[nix,List.getElem?_eq_getElem h]
theorem intsN_one (l:List Nat):∀u∈intsN l,u.oneCell'=true:=by
 intro u hu;obtain⟨x,_,rfl⟩:=List.mem_map.1 hu;rfl
theorem owns_rowN {w:World}{B:Nat}{n g cap:Nat}{l:List Nat}(h:w.ownsRow B 3 1 (.slice (some ⟨g,0,none⟩) n cap) n (intsN l))(hl:l.length=n):rowN w g n l:=by
 intro i hi;rw[h.cellAt i (by omega),intsN_at (by omega)]
end Go.Proofs.YtnakejhohdbfdaaGreatDoor
namespace Go.Proofs.YtnakejhohdbfdaaGreatDoor
open Go.RowKit Lev
end Go.Proofs.YtnakejhohdbfdaaGreatDoor
namespace Go.Proofs.YtnakejhohdbfdaaGreatDoor
open Go.RowKit Lev
theorem PS.drew {w:World}{q:PH}{C L:List Int}{G:List Bool}(s:PS w q C L G):PS w.drew q C L G:=s.fr0 (Fr.refl [] w).drew
theorem PS.drewN {w:World}{q:PH}{C L:List Int}{G:List Bool}(s:PS w q C L G)(n:Nat):PS (w.drewN n) q C L G:=s.fr0 ((Fr.refl [] w).drewN n)
set_option maxHeartbeats 1000000 in
theorem ref32_any (q:PH)(C L:List Int)(G:List Bool)(i:Nat)(lv ov:Int)(iso:Bool)(w:World)(s:PS w q C L G)(hi:i<q.n)(hn:q.n≤1000000) :
 Calls Tryz.prog 84 #[.pointer (some ⟨q.p,0,none⟩),.int .i64 i,.agg #[.int .i64 lv,.int .i64 ov,.bool iso]] w fun e w' =>
  e=.returned (.tuple #[])∧PS w' q (if 0≤ov then C.set i ov else C) (L.set i lv) G∧Fr [q.bC,q.bL] w w':=by
 have c2:=s.c2;have c3:=s.c3;have lp:=s.lt;have lC:=s.ltC (by omega);have lL:=s.ltL (by omega);have fL:=s.sL i hi;have fC:=s.sC i hi;have rL:=s.rL i hi;have rC:=s.rC i hi;have nC:=s.neC.1;have nL:=s.neL.1;have nX:=s.neX.1;have HS:=hid s;clear s;generalize hC':(if 0≤ov then C.set i ov else C)=C';have HC':=hid hC';clear hC';go_enter Tryz.func84,Tryz.ntmps84;go_wp2;go_region;go_wp2
 ·go_region
  go_wp2;go_end0;refine⟨rfl,?_,?_⟩
  ·rw[←HC'.out,if_pos (by assumption)]
   exact(((HS.out.setL hi lv).setC hi ov).alloc _).drew.drew
  ·exact(((((Fr.refl _ w).set (List.mem_cons_of_mem _ (List.mem_singleton.2 rfl)) _).set List.mem_cons_self _).alloc _).drew).drew
 ·go_end0
  refine⟨rfl,?_,?_⟩
  ·rw[←HC'.out,if_neg (by omega)]
   exact((HS.out.setL hi lv).alloc _).drew
  ·exact((((Fr.refl _ w).set (List.mem_cons_of_mem _ (List.mem_singleton.2 rfl)) _).alloc _).drew)
structure IS (w:World)(q:PH)(bI:Nat)(I:List Nat):Prop where
 r:rowN w bI I.length I
 lt:∀k,k<I.length→nix I k<q.n
 ne:bI≠q.bC∧bI≠q.bL∧bI≠q.bG
 sm:I.length≤1000000
theorem IS.fr {S:List Nat}{w w':World}{q:PH}{bI:Nat}{I:List Nat}(s:IS w q bI I)(hf:Fr S w w')(hb:bI ∉ S):IS w' q bI I:=⟨s.r.fr hf hb,s.lt,s.ne,s.sm⟩
abbrev sqV (bI cI:Nat)(s:Sq):Value:=.agg #[.slice (some ⟨bI,0,none⟩) s.I.length cI,.int .i64 s.own,.int .i64 s.bef,.int .i64 s.aft]
def clsAt (s:Sq)(C:List Int)(x:Int):Int:=if x<0 then s.bef else if(s.I.length:Int)≤x then s.aft else cl s.I C x.toNat
theorem clsAt_ah (s:Sq)(C:List Int)(k:Nat)(h:k≤s.I.length):clsAt s C ((k:Int) - 1)=ah s C k:=by
 unfold clsAt ah;by_cases h0:k=0
 ·subst h0;simp
 ·rw[if_neg (by omega),if_neg (by omega),if_neg h0,show((k:Int) - 1).toNat=k - 1 by omega]
theorem clsAt_att (s:Sq)(C:List Int)(k:Nat):clsAt s C (k:Int)=att s C k:=by
 unfold clsAt att;rw[if_neg (by omega)];by_cases h:k<s.I.length
 ·rw[if_neg (by omega),if_pos h];simp
 ·rw[if_pos (by omega),if_neg h]
set_option maxHeartbeats 1000000 in
theorem ref37_any (q:PH)(C L:List Int)(G:List Bool)(bI cI:Nat)(s:Sq)(x:Int)(w:World)(hs:PS w q C L G)(hI:IS w q bI s.I) :
 Calls Tryz.prog 89 #[.pointer (some ⟨q.p,0,none⟩),sqV bI cI s,.int .i64 x] w fun e w'=>e=.returned (.int .i64 (clsAt s C x))∧Fr [] w w':=by
 have c2:=hs.c2;have lp:=hs.lt;by_cases hx:x<0
 ·rw[show clsAt s C x=s.bef by rw[clsAt,if_pos hx]]
  go_enter Tryz.func89,Tryz.ntmps89;go_wp2;go_ret;exact⟨rfl,(Fr.refl _ w).alloc _⟩
 ·by_cases hx2:(s.I.length:Int)≤x
  ·rw[show clsAt s C x=s.aft by rw[clsAt,if_neg hx,if_pos hx2]]
   go_enter Tryz.func89,Tryz.ntmps89;go_wp2;go_ret;exact⟨rfl,(Fr.refl _ w).alloc _⟩
  ·obtain⟨k,rfl⟩:∃k:Nat,x=k:=⟨x.toNat,by omega⟩
   have hk:k<s.I.length:=by omega
   have rI:=hI.r k hk;have hlt:=hI.lt k hk;have rC:=hs.rC _ hlt;have lI:=World.block_lt_of_cell? _ _ rI;have lC:=World.block_lt_of_cell? _ _ rC;rw[show clsAt s C k=nth C (nix s.I k) by rw[clsAt_att,att,if_pos hk]];obtain⟨I,own,bef,aft⟩:=s;dsimp only[sqV]at *;generalize nix I k=i at *;generalize nth C i=y at *;generalize I.length=m at *;clear hs hI;go_enter Tryz.func89,Tryz.ntmps89;go_wp2;go_quiet (fail);go_wp2;go_ret;exact⟨rfl,((Fr.refl _ w).alloc _).drewN _⟩
end Go.Proofs.YtnakejhohdbfdaaGreatDoor
namespace Go.Proofs.YtnakejhohdbfdaaGreatDoor
open Go.RowKit Lev
theorem cell_far (w:World)(b i:Nat)(v:Value)(c j:Nat)(h:b≠c):(w.setCell ⟨b,i,none⟩ v).cell? ⟨c,j,none⟩=w.cell? ⟨c,j,none⟩ :=
 World.cell?_of_block (a:=⟨c,j,none⟩) (Below.heap_setCell _ _ _ _ (fun e=>h e.symm))
theorem at_k {w wr:World}{q:PH}{C L:List Int}{G:List Bool}{bI:Nat}{I:List Nat}(hp:PS wr q C L G)(hI:IS w q bI I)(hf:Fr [q.bC] w wr){k:Nat}(hk:k<I.length) :
 nix I k<q.n∧wr.cell? ⟨bI,k,none⟩=some (.int .i64 (nix I k:Nat))∧wr.cell? ⟨q.bC,nix I k,none⟩=some (.int .i64 (nth C (nix I k)))∧wr.frozen? ⟨q.bC,nix I k,none⟩=false∧wr.cell? ⟨q.bF,nix I k,none⟩=some (.int .i64 (nth q.K (nix I k))) :=
 have h:=hI.lt k hk
 ⟨h,(hI.fr hf (fun e=>hI.ne.1 (List.mem_singleton.1 e))).r k hk,hp.rC _ h,hp.sC _ h,hp.rF _ h⟩
theorem frq (S:List Nat)(w:World)(n:Nat):Fr S w (w.drewN n):=(Fr.refl S w).drewN n
def boxAt (wr:World)(b bI m cI:Nat)(own bef aft:Int):Prop:=∀j v,(#[Value.slice (some ⟨bI,0,none⟩) m cI,.int .i64 own,.int .i64 bef,.int .i64 aft]:Array Value)[j]?=some v→wr.cell? ⟨b,j,none⟩=some v
theorem boxAt.fr {S:List Nat}{w w':World}{b bI m cI:Nat}{own bef aft:Int}(h:boxAt w b bI m cI own bef aft)(hf:Fr S w w')(hb:b ∉ S):boxAt w' b bI m cI own bef aft:=fun j v hv=>hf.cell (h j v hv) hb
theorem set_set_same (C:List Int)(i:Nat)(a b:Int):(C.set i a).set i b=C.set i b:=by simp
theorem frz (S:List Nat)(w w':World)(h1:w'.os=w.os)(h2:w'.tape=w.tape)(h3:w'.output=w.output)(h4:w'.heap=w.heap):Fr S w w':=⟨h1,h2,h3,by rw[h4];exact Nat.le_refl _,fun _ _ _=>by rw[h4]⟩
end Go.Proofs.YtnakejhohdbfdaaGreatDoor
