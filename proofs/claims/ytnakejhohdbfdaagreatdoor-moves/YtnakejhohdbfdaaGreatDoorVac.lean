import Derived.Test.YtnakejhohdbfdaaGreatDoorRows
import Derived.Test.YtnakejhohdbfdaaGreatDoorVab
import Derived.WalkKit
import Derived.WalkSpells
import Derived.WalkSmall
import Derived.Lib.OthersKept
import Derived.RegionTactic
import Derived.Deep.QuietTactic
import Derived.BigQuiet
import Derived.Laws.AppendOwnNone
import Derived.OwnWalk
import Derived.Lib.Builder
import Derived.Deep.RegionWith
import Derived.Deep.CutRange
import Derived.Test.YtnakejhohdbfdaaGreatDoorV0k
set_option maxHeartbeats 2000000
namespace Go.Proofs.YtnakejhohdbfdaaGreatDoor
open Go.RowKit jN Go.Proofs.Tryz
theorem hid {p:Prop}(h:p):Hid p:=h
theorem nF {a b:Bool}(h:a=b):(Ending.returned (.bool a))=.returned (.bool b):=by rw[h]
theorem pE {a b:Int}{k:IntKind}(h:a=b):(Ending.returned (.int k a))=.returned (.int k b):=by rw[h]
abbrev gu (l:List Int):List Value:=l.map (Value.int .i64)
def rowAt (w:World)(g n:Nat)(l:List Int):Prop:=∀i,i<n->w.cell? ⟨g,i,none⟩=some (.int .i64 (nth l i))
theorem gG (c:Int)(w:World):Calls prog 41 #[.int .i64 c] w fun e w'=>e=.returned (.bool (j6 c))/\w'=w:=by
 go_enter func41,ntmps41;go_wp2
 all_goals go_ret
 all_goals refine⟨nF ?_,rfl⟩
 all_goals simp[j6, *]
theorem yS (a b:Int)(w:World):Calls prog 87 #[.int .i64 a,.int .i64 b] w fun e w'=>e=.returned (.int .i64 (max a b))/\w'=w:=by
 go_enter func87,ntmps87;go_wp2
 all_goals go_ret
 all_goals refine⟨pE ?_,rfl⟩
 all_goals omega
theorem D9 (l:Int)(w:World)(h:0<=l):Calls prog 88 #[.int .i64 l] w fun e w'=>e=.returned (.int .i64 (way l))/\w'=w:=by
 go_enter func88,ntmps88;go_wp2
 all_goals go_ret
 all_goals refine⟨pE ?_,rfl⟩
 all_goals (simp only[beq_iff_eq,aF,ne_eq]at *;unfold way;split <;> omega)
theorem mF (c:Int)(w:World):Calls prog 92 #[.int .i64 c] w fun e w'=>e=.returned (.int .i64 (side c))/\w'=w:=by
 go_enter func92,ntmps92;go_wp2
 all_goals go_ret
 all_goals refine⟨pE ?_,rfl⟩
 all_goals (simp only[beq_iff_eq,aF,ne_eq]at *;(try subst c);simp[side, *])
theorem D_ (r:Int)(w:World):Calls prog 160 #[.int .i32 r] w fun e w'=>e=.returned (.int .i32 (if opens r then r else 0))/\w'=w:=by
 have HR:=hid (show(if opens r then r else 0)=if r=40\/r=91\/r=123\/r=12296\/r=12298 then r else 0 from by unfold opens;simp[or_assoc]);generalize (if opens r then r else 0)=R at HR;go_enter func160,ntmps160;go_wp2
 all_goals go_ret
 all_goals refine⟨pE ?_,rfl⟩
 all_goals (rw[HR.out];simp only[beq_iff_eq,aF,ne_eq]at *;first | (rw[ay (by omega)];done) | (rw[au (by omega)];done))
theorem Ea (r:Int)(w:World):Calls prog 161 #[.int .i32 r] w fun e w'=>e=.returned (.int .i32 (shuts r))/\w'=w:=by
 go_enter func161,ntmps161;go_wp2
 all_goals go_ret
 all_goals refine⟨pE ?_,rfl⟩
 all_goals (simp only[beq_iff_eq,aF,ne_eq]at *;(try subst r);simp[shuts, *])
def pZ (o:Option Nat):Int:=match o with | none=>-1 | some m=>m
theorem Lw (c:List Int)(j:Nat)(n:Int)(h:j<c.length):mZ (c.drop j) j n=if n+dn (nth c j)=0 then some j else mZ (c.drop (j+1)) (j+1) (n+dn (nth c j)):=by
 rw[cA h,mZ];simp[nth,az h]
theorem Gf:∀(c:List Int) (p:Nat) (n:Int) (m:Nat),mZ c p n=some m->p<=m
 | [],_,_,_,h=>by cases h
 | x :: xs,p,n,m,h=>by
   rw[mZ]at h;by_cases h0:n+dn x=0
   ·rw[ay h0]at h;cases h;exact ak _
   ·rw[au h0]at h;have:=Gf xs (p+1) _ m h;omega
theorem xO (c:List Int)(i m:Nat)(h:kP c i=some m):i<=m:=Gf _ _ _ _ h
theorem Gg:∀(c:List Int) (p:Nat) (n:Int) (m:Nat),mZ c p n=some m->m<p+c.length
 | [],_,_,_,h=>by cases h
 | x :: xs,p,n,m,h=>by
   rw[mZ]at h;by_cases h0:n+dn x=0
   ·rw[ay h0]at h;cases h;simp
   ·rw[au h0]at h;have:=Gg xs (p+1) _ m h;simp;omega
theorem xP (c:List Int)(i m:Nat)(h:kP c i=some m):m<c.length:=by
 have h1:=Gg _ _ _ _ h;have h2:=xO c i m h;by_cases hi:i<=c.length
 ·rw[bu]at h1;omega
 ·rw[kP,List.drop_eq_nil_of_le (by omega)]at h;cases h
theorem Eb (g n cap:Nat)(c:List Int)(i:Nat)(w:World)(hl:c.length=n)(hn:n<=1000000)(hi:i<=n)(hr:rowAt w g n c) :
 Calls prog 42 #[.slice (some ⟨g,0,none⟩) n cap,.int .i64 i] w fun e w'=>e=.returned (.int .i64 (pZ (kP c i)))/\w'=w:=by
 have HR:=hid (show kP c i=mZ (c.drop i) i 0 from rfl);generalize kP c i=R at HR;go_enter func42,ntmps42;go_wp2;go_loopw [5,6] (fun a b wr=>∃(j:Nat) (x:Int),wr=w/\a=.int .i64 x/\b=.int .i64 j/\j<=n/\-(j:Int)<=x/\x<=j/\Hid (R=mZ (c.drop j) j x)) (fun _ b _=>n - (intOf b).toNat)
 case atStart=>exact⟨i,0,rfl,rfl,rfl,hi,by omega,by omega,HR⟩
 case round =>
  obtain⟨j,x,rfl,rfl,rfl,hj,hx1,hx2,HM⟩:=hrel;by_cases hlt:j<n
  ·have hc:=hr j hlt
   have tF:=HM.out;rw[Lw c j x (by omega)]at tF
   replace tF:=hid tF
   generalize nth c j=y at hc tF;clear HM;have HE:=hid (show dn y=if j6 y then 1 else if y=22 then -1 else 0 from rfl);have hX:j6 y=true->y≠22:=by intro h e;rw[e]at h;cases h
   generalize dn y=d at tF HE;cases hy:j6 y
   ·rw[hy]at HE
    by_cases h22:y=22
    ·subst h22
     have hd:d=-1:=by have:=HE.out;simpa using this
     subst hd;by_cases h0:x=1
     ·subst h0
      have hR:R=some j:=by have:=tF.out;simpa using this
      have HRR:=hid hR;clear hX hR;go_wp2_with (go_at_call 41;refine(gG _ _).mono ?_;rintro e w' ⟨rfl,rfl⟩);go_ret;exact⟨by rw[HRR.out];rfl,rfl⟩
     ·have hR:R=mZ (c.drop (j+1)) (j+1) (x+-1):=by have:=tF.out;rwa [au (by omega)]at this
      have HRR:=hid hR;have h1:¬x - 1=0:=by omega
      clear hX hR;go_wp2_with (go_at_call 41;refine(gG _ _).mono ?_;rintro e w' ⟨rfl,rfl⟩);go_roundw
      case rel=>exact⟨j+1,x+-1,trivial,by go_num,by go_num,by omega,by omega,by omega,HRR⟩
      case measure=>simp[intOf];omega
    ·have hd:d=0:=by have:=HE.out;simpa[h22] using this
     subst hd;by_cases h0:x=0
     ·subst h0
      have hR:R=some j:=by have:=tF.out;simpa using this
      have HRR:=hid hR;clear hX hR;go_wp2_with (go_at_call 41;refine(gG _ _).mono ?_;rintro e w' ⟨rfl,rfl⟩);go_ret;exact⟨by rw[HRR.out];rfl,rfl⟩
     ·have hR:R=mZ (c.drop (j+1)) (j+1) x:=by have:=tF.out;rwa [au (by omega),Int.add_zero]at this
      have HRR:=hid hR;clear hX hR;go_wp2_with (go_at_call 41;refine(gG _ _).mono ?_;rintro e w' ⟨rfl,rfl⟩);go_roundw
      case rel=>exact⟨j+1,x,trivial,rfl,by go_num,by omega,by omega,by omega,HRR⟩
      case measure=>simp[intOf];omega
   ·have h22:=hX hy
    rw[hy]at HE;have hd:d=1:=by have:=HE.out;simpa using this
    subst hd;by_cases h0:x=-1
    ·subst h0
     have hR:R=some j:=by have:=tF.out;simpa using this
     have HRR:=hid hR;clear hX hR;go_wp2_with (go_at_call 41;refine(gG _ _).mono ?_;rintro e w' ⟨rfl,rfl⟩);go_ret;exact⟨by rw[HRR.out];rfl,rfl⟩
    ·have hR:R=mZ (c.drop (j+1)) (j+1) (x+1):=by have:=tF.out;rwa [au (by omega)]at this
     have HRR:=hid hR;have h1:¬x+1=0:=by omega
     clear hX hR;go_wp2_with (go_at_call 41;refine(gG _ _).mono ?_;rintro e w' ⟨rfl,rfl⟩);go_roundw
     case rel=>exact⟨j+1,x+1,trivial,by go_num,by go_num,by omega,by omega,by omega,HRR⟩
     case measure=>simp[intOf];omega
  ·have tF:=HM.out
   rw[List.drop_eq_nil_of_le (by omega)]at tF
   replace tF:=hid tF
   clear HM;go_wp2;go_ret;exact⟨by rw[tF.out];rfl,rfl⟩
theorem zZ (c:List Int)(i tt:Nat)(h:i<tt):strong c i tt =
 if nth c i=0 then false else if nth c i=1\/nth c i=2 then true
 else if j6 (nth c i)then(match kP c i with | none=>false | some m=>if tt<=m then false else strong c (m+1) tt)
 else strong c (i+1) tt:=by
 have key:∀f g i,tt - i<=f->tt - i<=g->k_ c tt f i=k_ c tt g i:=by
  intro f
  induction f with
  | zero =>
    intro g i hf hg;cases g with
    | zero=>rfl
    | succ g=>rw[k_,k_,ay (by omega)]
  | succ f ih =>
    intro g i hf hg;cases g with
    | zero=>rw[k_,k_,ay (by omega)]
    | succ g =>
      rw[k_,k_];by_cases h1:tt<=i
      ·rw[ay h1,ay h1]
      ·rw[au h1,au h1]
       have h2:∀m,i<=m->k_ c tt f (m+1)=k_ c tt g (m+1):=fun m hm=>ih g (m+1) (by omega) (by omega)
       have h3:∀m,kP c i=some m->i<=m:=fun m hm=>xO c i m hm
       rw[h2 i (ak _)];cases hm:kP c i with
       | none=>rfl
       | some m=>simp only[h2 m (h3 m hm)]
 unfold strong;obtain⟨d,hd⟩:∃d,tt - i=d+1:=⟨tt - i - 1,by omega⟩;rw[hd,k_,au (by omega)];have h3:∀m,kP c i=some m->i<=m:=fun m hm=>xO c i m hm
 rw[key d (tt - (i+1)) (i+1) (by omega) (by omega)];cases hm:kP c i with
 | none=>rfl
 | some m=>simp only[key d (tt - (m+1)) (m+1) (by have:=h3 m hm;omega) (ak _)]
theorem IZ:pZ none=-1:=rfl
theorem I0 (m:Nat):pZ (some m)=m:=rfl
theorem rA (g n cap:Nat)(c:List Int)(i tt:Nat)(w:World)(hl:c.length=n)(hn:n<=1000000)(hto:tt<=n)(hi:i<=1000000)(hr:rowAt w g n c) :
 Calls prog 43 #[.slice (some ⟨g,0,none⟩) n cap,.int .i64 i,.int .i64 tt] w fun e w'=>e=.returned (.bool (strong c i tt))/\w'=w:=by
 obtain⟨R,hR⟩:∃R,R=strong c i tt:=⟨_,rfl⟩;have HR:=hid hR;rw[<-hR];clear hR;go_enter func43,ntmps43;go_wp2;go_loopw [7] (fun b wr=>∃(j:Nat),wr=w/\b=.int .i64 j/\j<=1000000/\Hid (R=strong c j tt)) (fun b _=>tt - (intOf b).toNat)
 case atStart=>exact⟨i,rfl,rfl,hi,HR⟩
 case round =>
  obtain⟨j,rfl,rfl,hj,HM⟩:=hrel;by_cases hlt:j<tt
  ·have hc:=hr j (show j<n by omega)
   have tF:=HM.out;rw[zZ c j tt hlt]at tF;have Lx:=hid (Eb g n cap c j wr hl hn (by omega) hr);have O4:=hid (fun m=>xO c j m);have Il:=hid (fun m=>xP c j m);generalize kP c j=M at tF Lx O4 Il;simp only[<- @beq_iff_eq Int]at tF
   replace tF:=hid tF
   generalize nth c j=y at hc tF;clear HM HR;cases M with
   | none =>
     rw[IZ]at Lx;go_wp2_with (first | (go_at_call 41;refine(gG _ _).mono ?_;rintro e w' ⟨rfl,rfl⟩) | (go_at_call 42;refine Lx.out.mono ?_;rintro e w' ⟨rfl,rfl⟩))
     all_goals first
      | (go_ret;exact⟨nF (by rw[tF.out];first | (simp[*];done) | (simp[*];simp_all;done)),rfl⟩)
      | (refine⟨⟨j+1,trivial,by go_num,by omega,hid (by rw[tF.out];simp[*])⟩,?_⟩;simp[intOf];omega)
   | some m =>
     have hge:=O4.out m rfl;have hml:=Il.out m rfl;rw[I0]at Lx;have h0m:¬(m:Int)<0:=by omega
     by_cases hm:tt<=m
     ·have hm1:(tt:Int)<=(m:Int):=by omega
      go_wp2_with (first | (go_at_call 41;refine(gG _ _).mono ?_;rintro e w' ⟨rfl,rfl⟩) | (go_at_call 42;refine Lx.out.mono ?_;rintro e w' ⟨rfl,rfl⟩))
      all_goals first
       | (go_ret;exact⟨nF (by rw[tF.out];first | (simp[*];done) | (simp[*];simp_all;done)),rfl⟩)
       | (refine⟨⟨j+1,trivial,by go_num,by omega,hid (by rw[tF.out];simp[*])⟩,?_⟩;simp[intOf];omega)
     ·have hm1:¬(tt:Int)<=(m:Int):=by omega
      go_wp2_with (first | (go_at_call 41;refine(gG _ _).mono ?_;rintro e w' ⟨rfl,rfl⟩) | (go_at_call 42;refine Lx.out.mono ?_;rintro e w' ⟨rfl,rfl⟩))
      all_goals first
       | (go_ret;exact⟨nF (by rw[tF.out];first | (simp[*];done) | (simp[*];simp_all;done)),rfl⟩)
       | (refine⟨⟨j+1,trivial,by go_num,by omega,hid (by rw[tF.out];simp[*])⟩,?_⟩;simp[intOf];omega)
       | (refine⟨⟨m+1,trivial,by go_num,by omega,hid (by rw[tF.out];simp[*])⟩,?_⟩;simp[intOf];omega)
  ·have HRR:=hid (show R=false by rw[HM.out,strong,show tt - j=0 by omega];rfl)
   clear HM;go_wp2;go_ret;exact⟨by rw[HRR.out];rfl,rfl⟩
structure Fr (S:List Nat)(w w':World):Prop where
 os:w'.os=w.os
 tape:w'.tape=w.tape
 output:w'.output=w.output
 size:w.heap.size<=w'.heap.size
 block:∀k,k<w.heap.size->k ∉ S->w'.heap[k]?=w.heap[k]?
theorem Fr.refl (S:List Nat)(w:World):Fr S w w:=⟨rfl,rfl,rfl,ak _,fun _ _ _=>rfl⟩
theorem Fr.trans {S:List Nat}{w w' w'':World}(h:Fr S w w')(k:Fr S w' w''):Fr S w w'' :=
 ⟨k.os.trans h.os,k.tape.trans h.tape,k.output.trans h.output,a_ h.size k.size,fun b hb hs=>(k.block b (bQ hb h.size) hs).trans (h.block b hb hs)⟩
theorem Fr.mono {S T:List Nat}{w w':World}(h:Fr S w w')(hs:∀k,k∈S->k<w.heap.size->k∈T):Fr T w w' :=
 ⟨h.os,h.tape,h.output,h.size,fun k hk hn=>h.block k hk (fun hm=>hn (hs k hm hk))⟩
theorem Fr.of_below {S:List Nat}{w w':World}(h:Below w.heap.size w w'):Fr S w w':=⟨h.os,h.tape,h.output,h.size,fun k hk _=>h.block k hk⟩
theorem Fr.kI {w w':World}{b:Nat}(h:w.grownBy w' (some b)):Fr [b] w w':=⟨h.os,h.tape,h.output,h.size,fun k hk hn=>h.block k hk (fun e=>hn (by cases e;simp))⟩
theorem Fr.qR {w w':World}(h:w.grownBy w' none):Fr [] w w':=⟨h.os,h.tape,h.output,h.size,fun k hk _=>h.block k hk (fun e=>by cases e)⟩
theorem Fr.below {S:List Nat}{w w':World}{B:Nat}(h:Fr S w w')(hB:B<=w.heap.size)(hs:∀k,k∈S->B<=k):Below B w w' :=
 ⟨h.os,h.tape,h.output,h.size,fun k hk=>h.block k (bQ hk hB) (fun hm=>absurd (hs k hm) (by omega))⟩
theorem Fr.alloc {S:List Nat}{w w':World}(h:Fr S w w')(o:Obj):Fr S w (w'.alloc o) :=
 h.trans (Fr.of_below ((fq _ w').alloc (ak _) o))
theorem Fr.set {S:List Nat}{w w':World}(h:Fr S w w'){b i:Nat}(hb:b∈S)(v:Value):Fr S w (w'.setCell ⟨b,i,none⟩ v):=by
 refine h.trans ?_;exact⟨rfl,rfl,rfl,by simp,fun k _ hn=>Below.heap_setCell _ _ _ _ (fun e=>hn (by rw[e];exact hb))⟩
theorem Fr.drewN {S:List Nat}{w w':World}(h:Fr S w w')(n:Nat):Fr S w (w'.drewN n):=⟨h.os,h.tape,h.output,h.size,h.block⟩
theorem Fr.drew {S:List Nat}{w w':World}(h:Fr S w w'):Fr S w w'.drew:=⟨h.os,h.tape,h.output,h.size,h.block⟩
theorem Fr.cell {S:List Nat}{w w':World}(h:Fr S w w'){b i:Nat}{v:Value}(hc:w.cell? ⟨b,i,none⟩=some v)(hb:b ∉ S):w'.cell? ⟨b,i,none⟩=some v :=
 (World.cell?_of_block (a:=⟨b,i,none⟩) (h.block b (eS _ _ hc) hb)).trans hc
theorem Fr.j8 {S:List Nat}{w w':World}(h:Fr S w w'){b i:Nat}{v:Value}(hc:w.cell? ⟨b,i,none⟩=some v)(hb:b ∉ S)(hf:w.frozen? ⟨b,i,none⟩=false):w'.frozen? ⟨b,i,none⟩=false :=
 (World.frozen?_of_block (a:=⟨b,i,none⟩) (h.block b (eS _ _ hc) hb)).trans hf
def Gh (w:World)(g n:Nat)(l:List Bool):Prop:=∀i,i<n->w.cell? ⟨g,i,none⟩=some (.bool (l[i]?.getD false))
def BH (w:World)(g n:Nat)(I:List Nat):Prop:=∀i,i<n->w.cell? ⟨g,i,none⟩=some (.int .i64 (fX I i:Nat))
def O5 (w:World)(g n:Nat)(R:List Int):Prop:=∀i,i<n->w.cell? ⟨g,i * 3,none⟩=some (.int .i32 (nth R i))
def soft (w:World)(g n:Nat):Prop:=∀i,i<n->w.frozen? ⟨g,i,none⟩=false
theorem rowAt.fr {S:List Nat}{w w':World}{g n:Nat}{l:List Int}(h:rowAt w g n l)(hf:Fr S w w')(hg:g ∉ S):rowAt w' g n l:=fun i hi=>hf.cell (h i hi) hg
theorem Gh.fr {S:List Nat}{w w':World}{g n:Nat}{l:List Bool}(h:Gh w g n l)(hf:Fr S w w')(hg:g ∉ S):Gh w' g n l:=fun i hi=>hf.cell (h i hi) hg
theorem BH.fr {S:List Nat}{w w':World}{g n:Nat}{l:List Nat}(h:BH w g n l)(hf:Fr S w w')(hg:g ∉ S):BH w' g n l:=fun i hi=>hf.cell (h i hi) hg
theorem O5.fr {S:List Nat}{w w':World}{g n:Nat}{l:List Int}(h:O5 w g n l)(hf:Fr S w w')(hg:g ∉ S):O5 w' g n l:=fun i hi=>hf.cell (h i hi) hg
theorem soft.fr {S:List Nat}{w w':World}{g n:Nat}{l:List Int}(h:soft w g n)(hr:rowAt w g n l)(hf:Fr S w w')(hg:g ∉ S):soft w' g n:=fun i hi=>hf.j8 (hr i hi) hg (h i hi)
theorem soft.frB {S:List Nat}{w w':World}{g n:Nat}{l:List Bool}(h:soft w g n)(hr:Gh w g n l)(hf:Fr S w w')(hg:g ∉ S):soft w' g n:=fun i hi=>hf.j8 (hr i hi) hg (h i hi)
theorem sJ (l:List Int)(i:Nat)(v:Int)(j:Nat)(hi:i<l.length):nth (l.set i v) j=if j=i then v else nth l j:=by
 unfold nth;by_cases h:j=i
 ·subst h;rw[ay rfl,aQ hi];rfl
 ·rw[au h,aU (fun e=>h e.symm)]
theorem rowAt.set {w:World}{g n:Nat}{l:List Int}(h:rowAt w g n l){i:Nat}(hi:i<n)(hl:l.length=n)(v:Int):rowAt (w.setCell ⟨g,i,none⟩ (.int .i64 v)) g n (l.set i v):=by
 intro j hj;rw[sJ l i v j (by omega)];by_cases e:j=i
 ·subst e;rw[ay rfl,fG _ _ _ (h j hj)]
 ·rw[au e,fD _ _ _ _ (fun x=>e (by cases x;rfl))];exact h j hj
theorem Gh.set {w:World}{g n:Nat}{l:List Bool}(h:Gh w g n l){i:Nat}(hi:i<n)(hl:l.length=n)(v:Bool):Gh (w.setCell ⟨g,i,none⟩ (.bool v)) g n (l.set i v):=by
 intro j hj;by_cases e:j=i
 ·subst e;rw[aQ (by omega),fG _ _ _ (h j hj)];rfl
 ·rw[aU (fun x=>e x.symm),fD _ _ _ _ (fun x=>e (by cases x;rfl))];exact h j hj
theorem soft.set {w:World}{g n:Nat}(h:soft w g n)(a:Addr)(v:Value):soft (w.setCell a v) g n:=by
 intro i hi;rw[World.frozen?_setCell];exact h i hi
theorem gH (w:World)(b i:Nat)(v:Value):Fr [b] w (w.setCell ⟨b,i,none⟩ v):=(Fr.refl [b] w).set (by simp) v
structure PH where
 p:Nat
 bR:Nat
 bF:Nat
 bC:Nat
 bL:Nat
 bM:Nat
 bG:Nat
 cR:Nat
 cF:Nat
 cC:Nat
 cL:Nat
 cM:Nat
 cG:Nat
 n:Nat
 R:List Int
 K:List Int
 M:List Int
 base:Int
structure PS (w:World)(h:PH)(C L:List Int)(G:List Bool):Prop where
 c0:w.cell? ⟨h.p,0,none⟩=some (.slice (some ⟨h.bR,0,none⟩) h.n h.cR)
 c1:w.cell? ⟨h.p,1,none⟩=some (.slice (some ⟨h.bF,0,none⟩) h.n h.cF)
 c2:w.cell? ⟨h.p,2,none⟩=some (.slice (some ⟨h.bC,0,none⟩) h.n h.cC)
 c3:w.cell? ⟨h.p,3,none⟩=some (.slice (some ⟨h.bL,0,none⟩) h.n h.cL)
 c4:w.cell? ⟨h.p,4,none⟩=some (.slice (some ⟨h.bM,0,none⟩) h.n h.cM)
 c5:w.cell? ⟨h.p,5,none⟩=some (.slice (some ⟨h.bG,0,none⟩) h.n h.cG)
 c6:w.cell? ⟨h.p,6,none⟩=some (.int .i64 h.base)
 rR:O5 w h.bR h.n h.R
 rF:rowAt w h.bF h.n h.K
 rM:rowAt w h.bM h.n h.M
 rC:rowAt w h.bC h.n C
 rL:rowAt w h.bL h.n L
 rG:Gh w h.bG h.n G
 sC:soft w h.bC h.n
 sL:soft w h.bL h.n
 sG:soft w h.bG h.n
 lC:C.length=h.n
 lL:L.length=h.n
 lG:G.length=h.n
 Im:h.bC≠h.p/\h.bC≠h.bR/\h.bC≠h.bF/\h.bC≠h.bM
 Ok:h.bL≠h.p/\h.bL≠h.bR/\h.bL≠h.bF/\h.bL≠h.bM
 I3:h.bG≠h.p/\h.bG≠h.bR/\h.bG≠h.bF/\h.bG≠h.bM
 O6:h.bC≠h.bL/\h.bC≠h.bG/\h.bL≠h.bG
theorem PS.fr {S:List Nat}{w w':World}{h:PH}{C L:List Int}{G:List Bool}(s:PS w h C L G)(hf:Fr S w w')
 (hs:h.p ∉ S/\h.bR ∉ S/\h.bF ∉ S/\h.bM ∉ S/\h.bC ∉ S/\h.bL ∉ S/\h.bG ∉ S):PS w' h C L G :=
 ⟨hf.cell s.c0 hs.1,hf.cell s.c1 hs.1,hf.cell s.c2 hs.1,hf.cell s.c3 hs.1,hf.cell s.c4 hs.1,hf.cell s.c5 hs.1,hf.cell s.c6 hs.1,
  s.rR.fr hf hs.2.1,s.rF.fr hf hs.2.2.1,s.rM.fr hf hs.2.2.2.1,s.rC.fr hf hs.2.2.2.2.1,s.rL.fr hf hs.2.2.2.2.2.1,s.rG.fr hf hs.2.2.2.2.2.2,
  s.sC.fr s.rC hf hs.2.2.2.2.1,s.sL.fr s.rL hf hs.2.2.2.2.2.1,s.sG.frB s.rG hf hs.2.2.2.2.2.2,s.lC,s.lL,s.lG,s.Im,s.Ok,s.I3,s.O6⟩
theorem PS.iS {w w':World}{h:PH}{C L:List Int}{G:List Bool}(s:PS w h C L G)(hf:Fr [] w w'):PS w' h C L G:=s.fr hf (by simp)
theorem PS.alloc {w:World}{h:PH}{C L:List Int}{G:List Bool}(s:PS w h C L G)(o:Obj):PS (w.alloc o) h C L G:=s.iS ((Fr.refl [] w).alloc o)
theorem PS.oX {w:World}{h:PH}{C L:List Int}{G:List Bool}(s:PS w h C L G){i:Nat}(hi:i<h.n)(v:Int):PS (w.setCell ⟨h.bC,i,none⟩ (.int .i64 v)) h (C.set i v) L G:=by
 have hf:=gH w h.bC i (.int .i64 v);obtain⟨n1,n2,n3,n4⟩:=s.Im;obtain⟨n5,n6,n7⟩:=s.O6;have z:∀ {k:Nat},h.bC≠k->k ∉ [h.bC]:=fun hk hm=>hk (aj.1 hm).symm
 exact⟨hf.cell s.c0 (z n1),hf.cell s.c1 (z n1),hf.cell s.c2 (z n1),hf.cell s.c3 (z n1),hf.cell s.c4 (z n1),hf.cell s.c5 (z n1),hf.cell s.c6 (z n1),
  s.rR.fr hf (z n2),s.rF.fr hf (z n3),s.rM.fr hf (z n4),s.rC.set hi s.lC v,s.rL.fr hf (z n5),s.rG.fr hf (z n6),
  s.sC.set _ _,s.sL.set _ _,s.sG.set _ _,by rw[aY];exact s.lC,s.lL,s.lG,s.Im,s.Ok,s.I3,s.O6⟩
theorem PS.DH {w:World}{h:PH}{C L:List Int}{G:List Bool}(s:PS w h C L G){i:Nat}(hi:i<h.n)(v:Int):PS (w.setCell ⟨h.bL,i,none⟩ (.int .i64 v)) h C (L.set i v) G:=by
 have hf:=gH w h.bL i (.int .i64 v);obtain⟨n1,n2,n3,n4⟩:=s.Ok;obtain⟨n5,n6,n7⟩:=s.O6;have z:∀ {k:Nat},h.bL≠k->k ∉ [h.bL]:=fun hk hm=>hk (aj.1 hm).symm
 exact⟨hf.cell s.c0 (z n1),hf.cell s.c1 (z n1),hf.cell s.c2 (z n1),hf.cell s.c3 (z n1),hf.cell s.c4 (z n1),hf.cell s.c5 (z n1),hf.cell s.c6 (z n1),
  s.rR.fr hf (z n2),s.rF.fr hf (z n3),s.rM.fr hf (z n4),s.rC.fr hf (z n5.symm),s.rL.set hi s.lL v,s.rG.fr hf (z n7),
  s.sC.set _ _,s.sL.set _ _,s.sG.set _ _,s.lC,by rw[aY];exact s.lL,s.lG,s.Im,s.Ok,s.I3,s.O6⟩
theorem PS.ad7 {w:World}{h:PH}{C L:List Int}{G:List Bool}(s:PS w h C L G){i:Nat}(hi:i<h.n)(v:Bool):PS (w.setCell ⟨h.bG,i,none⟩ (.bool v)) h C L (G.set i v):=by
 have hf:=gH w h.bG i (.bool v);obtain⟨n1,n2,n3,n4⟩:=s.I3;obtain⟨n5,n6,n7⟩:=s.O6;have z:∀ {k:Nat},h.bG≠k->k ∉ [h.bG]:=fun hk hm=>hk (aj.1 hm).symm
 exact⟨hf.cell s.c0 (z n1),hf.cell s.c1 (z n1),hf.cell s.c2 (z n1),hf.cell s.c3 (z n1),hf.cell s.c4 (z n1),hf.cell s.c5 (z n1),hf.cell s.c6 (z n1),
  s.rR.fr hf (z n2),s.rF.fr hf (z n3),s.rM.fr hf (z n4),s.rC.fr hf (z n6.symm),s.rL.fr hf (z n7.symm),s.rG.set hi s.lG v,
  s.sC.set _ _,s.sL.set _ _,s.sG.set _ _,s.lC,s.lL,by rw[aY];exact s.lG,s.Im,s.Ok,s.I3,s.O6⟩
theorem PS.lt {w:World}{h:PH}{C L:List Int}{G:List Bool}(s:PS w h C L G):h.p<w.heap.size:=eS _ _ s.c0
theorem PS.ltF {w:World}{h:PH}{C L:List Int}{G:List Bool}(s:PS w h C L G)(hn:0<h.n):h.bF<w.heap.size:=eS _ _ (s.rF 0 hn)
theorem PS.Td {w:World}{h:PH}{C L:List Int}{G:List Bool}(s:PS w h C L G)(hn:0<h.n):h.bC<w.heap.size:=eS _ _ (s.rC 0 hn)
theorem PS.ltL {w:World}{h:PH}{C L:List Int}{G:List Bool}(s:PS w h C L G)(hn:0<h.n):h.bL<w.heap.size:=eS _ _ (s.rL 0 hn)
theorem PS.ltM {w:World}{h:PH}{C L:List Int}{G:List Bool}(s:PS w h C L G)(hn:0<h.n):h.bM<w.heap.size:=eS _ _ (s.rM 0 hn)
theorem PS.ltG {w:World}{h:PH}{C L:List Int}{G:List Bool}(s:PS w h C L G)(hn:0<h.n):h.bG<w.heap.size:=eS _ _ (s.rG 0 hn)
theorem PS.ltR {w:World}{h:PH}{C L:List Int}{G:List Bool}(s:PS w h C L G)(hn:0<h.n):h.bR<w.heap.size:=eS _ _ (s.rR 0 hn)
theorem pH {w:World}{base:Nat}{e:TypeId}{size g cap n j:Nat}{xs:List Value}(h:w.ownsRow base e size (.slice (some ⟨g,0,none⟩) n cap) n xs)(hj:j<=n) :
 w.ownsRow base e size (.slice (some ⟨g,0,none⟩) j cap) j (xs.take (j * size)):=by
 obtain⟨hl,h2⟩:=h
 rcases h2 with⟨h0,_⟩ | ⟨g',cap',cur,hv,hg,hh,hn,hcap,hsz,htake⟩
 ·cases h0
 ·cases hv
  have hm:j * size<=n * size:=Nat.mul_le_mul_right _ hj;refine⟨by rw[aP,hl];omega,.inr ⟨g,cap,cur,rfl,hg,hh,by omega,hcap,hsz,?_⟩⟩;rw[<-htake,List.take_take,eB hm]
theorem iT {w:World}{B B':Nat}{e e':TypeId}{size size':Nat}{v v':Value}{n n':Nat}{xs xs':List Value}(h:w.ownsRow B e size v n xs)(h':w.ownsRow B' e' size' v' n' xs')(he:e≠e'){g g':Nat}(hv:v.ownBlock=some g)(hv':v'.ownBlock=some g'):g≠g':=by
 intro hg;subst hg
 rcases h.2 with⟨rfl,_⟩ | ⟨g1,c1,ai2,rfl,_,hg1,_⟩
 ·cases hv
 ·rcases h'.2 with⟨rfl,_⟩ | ⟨g2,c2,ai3,rfl,_,hg2,_⟩
  ·cases hv'
  ·simp only[Value.ownBlock,dO]at hv hv'
   subst hv;subst hv';rw[hg1]at hg2;cases hg2;exact he rfl
theorem fR {w:World}{B:Nat}{e:TypeId}{size:Nat}{v:Value}{n:Nat}{xs:List Value}(hn:0<n)(h:w.ownsRow B e size v n xs):∃g cap,v=.slice (some ⟨g,0,none⟩) n cap:=by
 rcases h.2 with⟨_,h0⟩ | ⟨g,cap,cur,rfl,_⟩
 ·omega
 ·exact⟨g,cap,rfl⟩
theorem gA {w:World}{B:Nat}{e:TypeId}{size:Nat}{v:Value}{n:Nat}{xs:List Value}(h:w.ownsRow B e size v n xs):∃a cap,v=.slice a n cap:=by
 rcases h.2 with⟨h0,rfl⟩ | ⟨g,cap,cur,rfl,_⟩
 ·exact⟨none,0,h0⟩
 ·exact⟨_,cap,rfl⟩
theorem fZ {w:World}{base:Nat}{e:TypeId}{size:Nat}{n g cap:Nat}{xs:List Value}(h:w.ownsRow base e size (.slice (some ⟨g,0,none⟩) n cap) n xs):base<=g/\g<w.heap.size:=h.lt g rfl
theorem gY {w:World}{base base':Nat}{e:TypeId}{size:Nat}{v:Value}{n:Nat}{xs:List Value}(h:w.ownsRow base e size v n xs)(hb:base'<=base):w.ownsRow base' e size v n xs:=by
 refine⟨h.1,?_⟩
 rcases h.2 with h1 | ⟨g,cap,cur,hv,hg,r⟩
 ·exact .inl h1
 ·exact .inr ⟨g,cap,cur,hv,by omega,r⟩
theorem j_ {S:List Nat}{w w':World}{base:Nat}{e:TypeId}{size:Nat}{v:Value}{n:Nat}{xs:List Value}(h:w.ownsRow base e size v n xs)(hf:Fr S w w')(hv:∀g,v.ownBlock=some g->g ∉ S):w'.ownsRow base e size v n xs:=by
 refine⟨h.1,?_⟩
 rcases h.2 with h1 | ⟨g,cap,cur,rfl,hg,hh,r⟩
 ·exact .inl h1
 ·exact .inr ⟨g,cap,cur,rfl,hg,(hf.block g (aD.1 hh).1 (hv g rfl)).trans hh,r⟩
theorem fS {w w':World}{base:Nat}{e:TypeId}{size:Nat}{v:Value}{n:Nat}{xs:List Value}(h:w.ownsRow base e size v n xs)(hf:Fr [] w w'):w'.ownsRow base e size v n xs:=j_ h hf (fun _ _=>af)
theorem BI {S:List Nat}{w w':World}{base:Nat}{e:TypeId}{size:Nat}{v:Value}{n:Nat}{xs:List Value}(h:w.ownsRow base e size v n xs)(hf:Fr S w w')(hS:∀k∈S,k<base):w'.ownsRow base e size v n xs :=
 j_ h hf (fun g hg hm=>by have:=(h.lt g hg).1;have:=hS g hm;omega)
theorem Fr.grown {S:List Nat}{w w1 w':World}{row:Option Nat}(h:Fr S w w1)(hg:w1.grownBy w' row)(hr:∀k,row=some k->w.heap.size<=k):Fr S w w' :=
 ⟨hg.os.trans h.os,hg.tape.trans h.tape,hg.output.trans h.output,a_ h.size hg.size,fun k hk hs=>(hg.block k (bQ hk h.size) (fun e=>by have:=hr k e.symm;omega)).trans (h.block k hk hs)⟩
theorem iF {w w':World}{row:Option Nat}{base:Nat}{e:TypeId}{size:Nat}{v:Value}{n:Nat}{xs:List Value}(h:w.ownsRow base e size v n xs)(hg:w.grownBy w' row)(hne:∀g,v.ownBlock=some g->some g≠row):w'.ownsRow base e size v n xs:=by
 refine⟨h.1,?_⟩
 rcases h.2 with h1 | ⟨g,cap,cur,rfl,hgb,hh,r⟩
 ·exact .inl h1
 ·exact .inr ⟨g,cap,cur,rfl,hgb,(hg.block g (aD.1 hh).1 (hne g rfl)).trans hh,r⟩
theorem info3:(Tryz.prog.info? 3).map (fun i=>(i.zero,i.size,i.bytes))=some (some (.int .i64 0),1,8):=by kernel_rfl
theorem TI:(Tryz.prog.info? 156).map (fun i=>(i.zero,i.size,i.bytes))=some (some (.agg #[.int .i64 0,.int .i64 0]),2,16):=by kernel_rfl
theorem TJ:(Tryz.prog.info? 149).map (fun i=>(i.zero,i.size,i.bytes))=some (some (.agg #[.int .i64 0,.int .i64 0,.bool false]),3,24):=by kernel_rfl
theorem O7:(Tryz.prog.info? 22).map (fun i=>(i.zero,i.size,i.bytes))=some (some (.slice none 0 0),1,24):=by kernel_rfl
theorem one_cell (x:Int):∀u∈[Value.int .i64 x],u.oneCell'=true:=by
 intro u hu;rw[aj]at hu;subst hu;rfl
theorem wH (w:World)(cs:Array Value)(t:TypeId):∀j u,cs.toList[j]?=some u->(w.alloc (.cells cs t)).cell? ((⟨w.heap.size,0,none⟩:Addr).add j)=some u:=by
 intro j u hj;rw[Addr.add_lit,c_,eZ _ _ _ _ rfl];simpa using hj
theorem iC (w:World)(cs:Array Value)(t:TypeId)(b:Nat)(hb:b=w.heap.size):∀j u,cs.toList[j]?=some u->(w.alloc (.cells cs t)).cell? ((⟨b,0,none⟩:Addr).add j)=some u:=by
 subst hb;exact wH w cs t
def gz (l:List Nat):List Value:=l.map fun x=>.int .i64 (x:Nat)
theorem ou (l:List Nat):(gz l).length=l.length:=by simp[gz]
theorem oz (l:List Nat)(x:Nat):gz l++[.int .i64 (x:Nat)]=gz (l++[x]):=by simp[gz]
theorem Ly (l m:List Nat):gz l++gz m=gz (l++m):=by simp[gz]
theorem BJ (l:List Nat)(j:Nat):(gz l).take (j * 1)=gz (l.take j):=by simp[gz]
theorem kJ {l:List Nat}{j:Nat}(h:j<l.length):(gz l)[j]?=some (.int .i64 (fX l j:Nat)):=by
 rw[gz,bV,az h];simp[fX,az h]
theorem Ec (l:List Nat):∀u∈gz l,u.oneCell'=true:=by
 intro u hu;obtain⟨x,_,rfl⟩:=dP.1 hu;rfl
theorem jJ {w:World}{B:Nat}{n g cap:Nat}{l:List Nat}(h:w.ownsRow B 3 1 (.slice (some ⟨g,0,none⟩) n cap) n (gz l))(hl:l.length=n):BH w g n l:=by
 intro i hi;rw[h.cellAt i (by omega),kJ (by omega)]
theorem PS.drew {w:World}{q:PH}{C L:List Int}{G:List Bool}(s:PS w q C L G):PS w.drew q C L G:=s.iS (Fr.refl [] w).drew
theorem PS.drewN {w:World}{q:PH}{C L:List Int}{G:List Bool}(s:PS w q C L G)(n:Nat):PS (w.drewN n) q C L G:=s.iS ((Fr.refl [] w).drewN n)
theorem lM (q:PH)(C L:List Int)(G:List Bool)(i:Nat)(lv ov:Int)(l7:Bool)(w:World)(s:PS w q C L G)(hi:i<q.n)(hn:q.n<=1000000) :
 Calls prog 84 #[.pointer (some ⟨q.p,0,none⟩),.int .i64 i,.agg #[.int .i64 lv,.int .i64 ov,.bool l7]] w fun e w' =>
  e=.returned (.tuple #[])/\PS w' q (if 0<=ov then C.set i ov else C) (L.set i lv) G/\Fr [q.bC,q.bL] w w':=by
 have c2:=s.c2;have c3:=s.c3;have lp:=s.lt;have lC:=s.Td (by omega);have lL:=s.ltL (by omega);have fL:=s.sL i hi;have fC:=s.sC i hi;have rL:=s.rL i hi;have rC:=s.rC i hi;have nC:=s.Im.1;have nL:=s.Ok.1;have nX:=s.O6.1;have HS:=hid s;clear s;generalize hC':(if 0<=ov then C.set i ov else C)=C';have HC':=hid hC';clear hC';go_enter func84,ntmps84;go_wp2;go_region;go_wp2
 ·go_region
  go_wp2;go_end0;refine⟨rfl,?_,?_⟩
  ·rw[<-HC'.out,ay (by assumption)]
   exact(((HS.out.DH hi lv).oX hi ov).alloc _).drew.drew
  ·exact(((((Fr.refl _ w).set (cP _ (aj.2 rfl)) _).set bA _).alloc _).drew).drew
 ·go_end0
  refine⟨rfl,?_,?_⟩
  ·rw[<-HC'.out,au (by omega)]
   exact((HS.out.DH hi lv).alloc _).drew
  ·exact((((Fr.refl _ w).set (cP _ (aj.2 rfl)) _).alloc _).drew)
structure IS (w:World)(q:PH)(bI:Nat)(I:List Nat):Prop where
 r:BH w bI I.length I
 lt:∀k,k<I.length->fX I k<q.n
 ne:bI≠q.bC/\bI≠q.bL/\bI≠q.bG
 sm:I.length<=1000000
theorem IS.fr {S:List Nat}{w w':World}{q:PH}{bI:Nat}{I:List Nat}(s:IS w q bI I)(hf:Fr S w w')(hb:bI ∉ S):IS w' q bI I:=⟨s.r.fr hf hb,s.lt,s.ne,s.sm⟩
abbrev Ee (bI cI:Nat)(s:Sq):Value:=.agg #[.slice (some ⟨bI,0,none⟩) s.I.length cI,.int .i64 s.own,.int .i64 s.iq,.int .i64 s.jR]
def vQ (s:Sq)(C:List Int)(x:Int):Int:=if x<0 then s.iq else if(s.I.length:Int)<=x then s.jR else cl s.I C x.toNat
theorem Gi (s:Sq)(C:List Int)(k:Nat)(h:k<=s.I.length):vQ s C ((k:Int) - 1)=ah s C k:=by
 unfold vQ ah;by_cases h0:k=0
 ·subst h0;simp
 ·rw[au (by omega),au (by omega),au h0,show((k:Int) - 1).toNat=k - 1 by omega]
theorem Ef (s:Sq)(C:List Int)(k:Nat):vQ s C (k:Int)=tE s C k:=by
 unfold vQ tE;rw[au (by omega)];by_cases h:k<s.I.length
 ·rw[au (by omega),ay h];simp
 ·rw[ay (by omega),au h]
theorem yT (q:PH)(C L:List Int)(G:List Bool)(bI cI:Nat)(s:Sq)(x:Int)(w:World)(hs:PS w q C L G)(hI:IS w q bI s.I) :
 Calls prog 89 #[.pointer (some ⟨q.p,0,none⟩),Ee bI cI s,.int .i64 x] w fun e w'=>e=.returned (.int .i64 (vQ s C x))/\Fr [] w w':=by
 have c2:=hs.c2;have lp:=hs.lt;by_cases hx:x<0
 ·rw[show vQ s C x=s.iq by rw[vQ,ay hx]]
  go_enter func89,ntmps89;go_wp2;go_ret;exact⟨rfl,(Fr.refl _ w).alloc _⟩
 ·by_cases hx2:(s.I.length:Int)<=x
  ·rw[show vQ s C x=s.jR by rw[vQ,au hx,ay hx2]]
   go_enter func89,ntmps89;go_wp2;go_ret;exact⟨rfl,(Fr.refl _ w).alloc _⟩
  ·obtain⟨k,rfl⟩:∃k:Nat,x=k:=⟨x.toNat,by omega⟩
   have hk:k<s.I.length:=by omega
   have rI:=hI.r k hk;have hlt:=hI.lt k hk;have rC:=hs.rC _ hlt;have lI:=eS _ _ rI;have lC:=eS _ _ rC;rw[show vQ s C k=nth C (fX s.I k) by rw[Ef,tE,ay hk]];obtain⟨I,own,iq,jR⟩:=s;dsimp only[Ee]at *;generalize fX I k=i at *;generalize nth C i=y at *;generalize I.length=m at *;clear hs hI;go_enter func89,ntmps89;go_wp2;go_quiet (fail);go_wp2;go_ret;exact⟨rfl,((Fr.refl _ w).alloc _).drewN _⟩
theorem cell_far (w:World)(b i:Nat)(v:Value)(c j:Nat)(h:b≠c):(w.setCell ⟨b,i,none⟩ v).cell? ⟨c,j,none⟩=w.cell? ⟨c,j,none⟩ :=
 World.cell?_of_block (a:=⟨c,j,none⟩) (Below.heap_setCell _ _ _ _ (fun e=>h e.symm))
theorem pq {w wr:World}{q:PH}{C L:List Int}{G:List Bool}{bI:Nat}{I:List Nat}(hp:PS wr q C L G)(hI:IS w q bI I)(hf:Fr [q.bC] w wr){k:Nat}(hk:k<I.length) :
 fX I k<q.n/\wr.cell? ⟨bI,k,none⟩=some (.int .i64 (fX I k:Nat))/\wr.cell? ⟨q.bC,fX I k,none⟩=some (.int .i64 (nth C (fX I k)))/\wr.frozen? ⟨q.bC,fX I k,none⟩=false/\wr.cell? ⟨q.bF,fX I k,none⟩=some (.int .i64 (nth q.K (fX I k))) :=
 have h:=hI.lt k hk
 ⟨h,(hI.fr hf (fun e=>hI.ne.1 (aj.1 e))).r k hk,hp.rC _ h,hp.sC _ h,hp.rF _ h⟩
theorem frq (S:List Nat)(w:World)(n:Nat):Fr S w (w.drewN n):=(Fr.refl S w).drewN n
def kB (wr:World)(b bI m cI:Nat)(own iq jR:Int):Prop:=∀j v,(#[Value.slice (some ⟨bI,0,none⟩) m cI,.int .i64 own,.int .i64 iq,.int .i64 jR]:Array Value)[j]?=some v->wr.cell? ⟨b,j,none⟩=some v
theorem kB.fr {S:List Nat}{w w':World}{b bI m cI:Nat}{own iq jR:Int}(h:kB w b bI m cI own iq jR)(hf:Fr S w w')(hb:b ∉ S):kB w' b bI m cI own iq jR:=fun j v hv=>hf.cell (h j v hv) hb
theorem sK (C:List Int)(i:Nat)(a b:Int):(C.set i a).set i b=C.set i b:=by simp
theorem iD (S:List Nat)(w w':World)(h1:w'.os=w.os)(h2:w'.tape=w.tape)(h3:w'.output=w.output)(h4:w'.heap=w.heap):Fr S w w':=⟨h1,h2,h3,by rw[h4];exact ak _,fun _ _ _=>by rw[h4]⟩
end Go.Proofs.YtnakejhohdbfdaaGreatDoor
namespace Go.Proofs.YtnakejhohdbfdaaGreatDoor.Lay
open Go.Proofs.Tryz
def kW (p:Nat->Bool):List Nat->List Nat->List Nat
 | acc,[]=>acc
 | acc,x :: l=>if p x then kW p (x :: acc) l else acc++x :: kW p [] l
def turn (p:Nat->Bool)(l:List Nat):List Nat:=kW p [] l
theorem Eg (p:Nat->Bool):∀(l acc:List Nat),(∀x∈l,p x=true)->kW p acc l=l.reverse++acc
 | [],acc,_=>rfl
 | x :: l,acc,h=>by
   rw[kW,ay (h x (by simp)),Eg p l _ (fun y hy=>h y (by simp[hy]))];simp
theorem wI (p:Nat->Bool)(x:Nat)(b:List Nat)(hx:p x=false):∀(a acc:List Nat),kW p acc (a++x :: b)=kW p acc a++x :: turn p b
 | [],acc=>by show kW p acc (x :: b)=acc++x :: kW p [] b;rw[kW.eq_2,au (by rw[hx];exact aE)]
 | y :: a,acc=>by
   rw[b8,kW,kW];by_cases hy:p y=true
   ·rw[ay hy,ay hy];exact wI p x b hx a _
   ·rw[au hy,au hy,wI p x b hx a []];simp
theorem yU (p:Nat->Bool)(x:Nat)(a b:List Nat)(hx:p x=false):turn p (a++x :: b)=turn p a++x :: turn p b:=wI p x b hx a []
theorem xQ (p:Nat->Bool)(l:List Nat)(h:∀x∈l,p x=true):turn p l=l.reverse:=by rw[turn,Eg p l [] h];simp
theorem yV (p:Nat->Bool)(x:Nat)(a:List Nat)(hx:p x=false):turn p (a++[x])=turn p a++[x]:=by
 rw[yU p x a [] hx];rfl
def shut (p:Nat->Bool)(a:List Nat):Prop:=a=[]\/∃b x,a=b++[x]/\p x=false
theorem BK (p:Nat->Bool)(a r:List Nat)(ha:shut p a)(hr:∀x∈r,p x=true):turn p (a++r)=turn p a++r.reverse:=by
 rcases ha with rfl | ⟨b,x,rfl,hx⟩
 ·rw[bU,xQ p r hr];rfl
 ·rw[dx,List.singleton_append,yU p x b r hx,yV p x b hx,xQ p r hr];simp
theorem wJ (p:Nat->Bool):∀(l acc:List Nat),(∀x∈acc,p x=true)->turn p (kW p acc l)=acc.reverse++l
 | [],acc,h=>by rw[kW,xQ p acc h];simp
 | x :: l,acc,h=>by
   rw[kW];by_cases hx:p x=true
   ·rw[ay hx,wJ p l (x :: acc) (fun y hy=>by rcases bK.1 hy with e | hy <;> first | exact e ▸ hx | exact h y hy)];simp
   ·have hx':p x=false:=by simpa using hx
    rw[au hx,yU p x _ _ hx',xQ p acc h,wJ p l [] (fun y hy=>by cases hy)];simp
theorem Lz (p:Nat->Bool)(l:List Nat):turn p (turn p l)=l:=by
 have:=wJ p l [] (fun y hy=>by cases hy);simpa[turn] using this
theorem wK (p:Nat->Bool):∀(l acc:List Nat),(kW p acc l).Perm (acc++l)
 | [],acc=>by rw[kW,cD]
 | x :: l,acc=>by
   rw[kW];split
   ·refine(wK p l (x :: acc)).trans ?_
    rw[b8];exact(List.perm_middle (a:=x) (l₁:=acc) (l₂:=l)).symm
   ·refine List.Perm.append_left acc ?_
    exact List.Perm.cons x (by simpa using wK p l [])
theorem kX (p:Nat->Bool)(l:List Nat):(turn p l).Perm l:=by simpa[turn] using wK p l []
theorem yW (p:Nat->Bool)(f:Nat->Nat):∀(l acc:List Nat),kW p (acc.map f) (l.map f)=(kW (fun x=>p (f x)) acc l).map f
 | [],acc=>rfl
 | x :: l,acc=>by
   rw[List.map_cons,kW,kW];by_cases hx:p (f x)=true
   ·rw[ay hx,ay hx];exact yW p f l (x :: acc)
   ·rw[au hx,au hx,cJ,List.map_cons];exact congrArg _ (congrArg _ (yW p f l []))
theorem O8 (p:Nat->Bool)(f:Nat->Nat)(l:List Nat):turn p (l.map f)=(turn (fun x=>p (f x)) l).map f:=yW p f l []
theorem tW {p q:Nat->Bool}:∀(l acc:List Nat),(∀x∈l,p x=q x)->kW p acc l=kW q acc l
 | [],acc,_=>rfl
 | x :: l,acc,h=>by
   rw[kW,kW,h x (by simp),tW l _ (fun y hy=>h y (by simp[hy])),tW l _ (fun y hy=>h y (by simp[hy]))]
theorem BL {p q:Nat->Bool}(l:List Nat)(h:∀x∈l,p x=q x):turn p l=turn q l:=tW l [] h
def deep (V:Nat->Int)(l:Nat)(x:Nat):Bool:=decide ((l:Int)<=V x)
def wL (V:Nat->Int)(m:Nat):Nat->List Nat->List Nat
 | 0,l=>l
 | k+1,l=>wL V m k (turn (deep V (m+k)) l)
theorem BM (V:Nat->Int)(m:Nat):∀(k:Nat) (l:List Nat),(wL V m k l).Perm l
 | 0,_=>List.Perm.refl _
 | k+1,l=>(BM V m k _).trans (kX _ l)
theorem KA (V:Nat->Int)(m j:Nat):∀(k:Nat) (l:List Nat),wL V m (j+k) l=wL V m j (wL V (m+j) k l)
 | 0,l=>rfl
 | k+1,l=>by
   rw[<-eC,wL,KA V m j k,wL,eC m j k]
theorem BN (V:Nat->Int):∀(q:Nat) (l:List Nat),(∀x∈l,∀j:Nat,j<q->V x≠2 * (j:Int)+1)->wL V 1 (2 * q) l=l
 | 0,l,_=>rfl
 | q+1,l,h=>by
   rw[show 2 * (q+1)=(2 * q+1)+1 by omega,wL,wL];have e:turn (deep V (1+2 * q)) (turn (deep V (1+(2 * q+1))) l)=l:=by
    rw[BL (q:=deep V (1+(2 * q+1))) (turn (deep V (1+(2 * q+1))) l) ?_,Lz];intro x hx;have hm:x∈l:=(kX _ l).mem_iff.1 hx;have:=h x hm q (by omega);unfold deep;exact decide_eq_decide.2 (by omega)
   rw[e];exact BN V q l fun x hx j hj=>h x hx j (by omega)
theorem LA (V:Nat->Int)(l:List Nat)(top q:Nat)(hq:2 * q+1<=top)(ho:∀x∈l,∀j:Nat,j<q->V x≠2 * (j:Int)+1):wL V 1 top l=wL V (2 * q+1) (top - 2 * q) l:=by
 rw[show top=2 * q+(top - 2 * q) by omega,KA V 1 (2 * q) (top - 2 * q),show 2 * q+(top - 2 * q) - 2 * q=top - 2 * q by omega,eu 1 (2 * q)];exact BN V q _ fun x hx j hj=>ho x ((BM V _ _ l).mem_iff.1 hx) j hj
theorem O9 (V:Nat->Int)(l:List Nat)(top:Nat)(he:top % 2=0)(ho:∀x∈l,∀j:Nat,V x≠2 * (j:Int)+1):wL V 1 top l=l:=by
 rw[show top=2 * (top / 2) by omega];exact BN V _ l fun x hx j _=>ho x hx j
theorem KB (V:Nat->Int)(f:Nat->Nat)(m:Nat):∀(k:Nat) (l:List Nat),wL V m k (l.map f)=(wL (fun x=>V (f x)) m k l).map f
 | 0,l=>rfl
 | k+1,l=>by rw[wL,O8,KB V f m k];rfl
theorem Eh {V U:Nat->Int}(m:Nat):∀(k:Nat) (l:List Nat),(∀x∈l,V x=U x)->wL V m k l=wL U m k l
 | 0,l,_=>rfl
 | k+1,l,h=>by
   rw[wL,wL,BL (q:=deep U (m+k)) l (fun x hx=>by unfold deep;rw[h x hx])];exact Eh m k _ fun x hx=>h x ((kX _ l).mem_iff.1 hx)
def wM (l:List Nat)(a b:Nat):List Nat:=l.take a++((l.take b).drop a).reverse++l.drop b
def fV (p:Nat->Bool)(l:List Nat):Nat->List (Nat × Nat) × Nat
 | 0=>([],0)
 | g+1 =>
   if g<l.length/\p (l[g]?.getD 0)=true then fV p l g
   else(if(fV p l g).2<g then(fV p l g).1++[((fV p l g).2,g)]else(fV p l g).1,g+1)
def parts (p:Nat->Bool)(l:List Nat):List (Nat × Nat):=(fV p l (l.length+1)).1
def yX (l:List Nat)(m:List (Nat × Nat)):List Nat:=m.foldl (fun l x=>wM l x.1 x.2) l
theorem yY (l:List Nat)(m:List (Nat × Nat))(x:Nat × Nat):yX l (m++[x])=wM (yX l m) x.1 x.2:=by simp[yX]
theorem qI (l:List Nat)(a b:Nat)(h:a<=b)(hb:b<=l.length):(wM l a b).length=l.length:=by
 simp[wM];omega
theorem BO (x r y:List Nat):wM (x++(r++y)) x.length (x.length+r.length)=x++(r.reverse++y):=by
 unfold wM;rw[List.take_left,<-dx,List.take_append_of_le_length (by simp),show x.length+r.length=(x++r).length by simp,List.drop_left,cK,List.drop_left,dx]
structure TK (p:Nat->Bool)(l:List Nat)(g:Nat):Prop where
 le:(fV p l g).2<=g
 mid:∀x∈(l.take g).drop (fV p l g).2,p x=true
 sh:shut p (l.take (fV p l g).2)
 bound:∀x∈(fV p l g).1,x.1<x.2/\x.2<(fV p l g).2
 is:yX l (fV p l g).1=turn p (l.take (fV p l g).2)++l.drop (fV p l g).2
theorem take_split (l:List Nat)(a b:Nat)(h:a<=b):l.take b=l.take a++(l.take b).drop a:=by
 have:=(cu a (l.take b)).symm
 rwa [List.take_take,eB h]at this
theorem pQ (l:List Nat)(g:Nat)(h:g<l.length):l.take (g+1)=l.take g++[l[g]?.getD 0]:=by
 rw[List.take_add_one,az h];rfl
theorem uK (l:List Nat)(g:Nat)(h:g<l.length):l.drop g=(l[g]?.getD 0) :: l.drop (g+1):=by
 rw[cA h,az h];rfl
theorem BP (p:Nat->Bool)(l:List Nat):∀g,g<=l.length->TK p l g
 | 0,_=>⟨ak _,by simp,.inl (by simp[fV]),by simp[fV],by simp[fV,yX,turn,kW]⟩
 | g+1,h=>by
   have ih:=BP p l g (by omega);by_cases hp:p (l[g]?.getD 0)=true
   ·have e:fV p l (g+1)=fV p l g:=by rw[fV,ay ⟨by omega,hp⟩]
    refine⟨by rw[e];have:=ih.le;omega,?_,by rw[e];exact ih.sh,by rw[e];exact ih.bound,by rw[e];exact ih.is⟩;rw[e,pQ l g (by omega),List.drop_append_of_le_length (by rw[aP];have:=ih.le;omega)];intro x hx;rw[bD,aj]at hx
    rcases hx with hx | rfl
    ·exact ih.mid x hx
    ·exact hp
   ·have hp':p (l[g]?.getD 0)=false:=by simpa using hp
    have e2:(fV p l (g+1)).2=g+1:=by rw[fV,au (fun h=>hp h.2)]
    have e1:(fV p l (g+1)).1=if(fV p l g).2<g then(fV p l g).1++[((fV p l g).2,g)]else(fV p l g).1:=by rw[fV,au (fun h=>hp h.2)]
    have hle:=ih.le;refine⟨by omega,by rw[e2];simp,?_,?_,?_⟩
    ·rw[e2,pQ l g (by omega)];exact .inr ⟨_,_,rfl,hp'⟩
    ·rw[e1,e2]
     intro x hx;split at hx
     ·rw[bD,aj]at hx
      rcases hx with hx | rfl
      ·have:=ih.bound x hx;omega
      ·dsimp only;omega
     ·have:=ih.bound x hx;omega
    ·rw[e1,e2]
     have hs:=take_split l (fV p l g).2 g hle;have ht:=BK p _ _ ih.sh ih.mid;rw[<-hs]at ht;have hd:l.drop (fV p l g).2=(l.take g).drop (fV p l g).2++l.drop g:=by
      have h3:=cu (g - (fV p l g).2) (l.drop (fV p l g).2);rw[List.drop_drop,show(fV p l g).2+(g - (fV p l g).2)=g by omega,<-List.drop_take]at h3;exact h3.symm
     have hx:turn p (l.take (g+1))++l.drop (g+1)=turn p (l.take (fV p l g).2)++(((l.take g).drop (fV p l g).2).reverse++l.drop g):=by
      rw[pQ l g (by omega),yV p _ _ hp',ht,uK l g (by omega)];simp
     rw[hx];split
     ·rename_i hlt
      rw[yY,ih.is,hd];have h1:(turn p (l.take (fV p l g).2)).length=(fV p l g).2:=by rw[(kX p _).length_eq,aP];omega
      have h2:((l.take g).drop (fV p l g).2).length=g - (fV p l g).2:=by rw[bu,aP];omega
      have h3:=BO (turn p (l.take (fV p l g).2)) ((l.take g).drop (fV p l g).2) (l.drop g);rw[h1,h2,show(fV p l g).2+(g - (fV p l g).2)=g by omega]at h3;exact h3
     ·have:(fV p l g).2=g:=by omega
      rw[ih.is,this];simp
theorem I4 (p:Nat->Bool)(l:List Nat):yX l (parts p l)=turn p l:=by
 have ih:=BP p l l.length (ak _);unfold parts;have e1:(fV p l (l.length+1)).1=if(fV p l l.length).2<l.length then(fV p l l.length).1++[((fV p l l.length).2,l.length)]else(fV p l l.length).1:=by rw[fV,au (fun h=>by omega)]
 have hle:=ih.le;have ht:=BK p _ _ ih.sh ih.mid;rw[<-take_split l _ _ hle,cK]at ht;rw[e1];split
 ·rename_i hlt
  rw[yY,ih.is,ht];have h1:(turn p (l.take (fV p l l.length).2)).length=(fV p l l.length).2:=by rw[(kX p _).length_eq,aP];omega
  have h3:=BO (turn p (l.take (fV p l l.length).2)) (l.drop (fV p l l.length).2) [];rw[h1,bu,show(fV p l l.length).2+(l.length - (fV p l l.length).2)=l.length by omega,cD,cD]at h3;exact h3
 ·have:(fV p l l.length).2=l.length:=by omega
  rw[ih.is,this];simp
theorem Gj (p:Nat->Bool)(l:List Nat):∀x∈parts p l,x.1<x.2/\x.2<=l.length:=by
 have ih:=BP p l l.length (ak _);have hle:=ih.le;intro x hx;unfold parts at hx;rw[fV,au (fun h=>by omega)]at hx;dsimp only at hx;split at hx
 ·rw[bD,aj]at hx
  rcases hx with hx | rfl
  ·have:=ih.bound x hx;omega
  ·dsimp only;omega
 ·have:=ih.bound x hx;omega
def jS (p:Nat->Bool):List Nat->Nat
 | []=>0
 | x :: l=>if p x then jS p l+1 else 0
theorem uL (p:Nat->Bool):∀l,jS p l<=l.length
 | []=>ak _
 | x :: l=>by rw[jS];split <;> simp;exact uL p l
theorem wN (p:Nat->Bool):∀l:List Nat,∀x∈l.take (jS p l),p x=true
 | [],x,h=>by cases h
 | y :: l,x,h=>by
   rw[jS]at h;split at h
   ·rename_i hy
    rw[List.take_succ_cons,bK]at h
    rcases h with rfl | h
    ·exact hy
    ·exact wN p l x h
   ·cases h
theorem tX (p:Nat->Bool):∀l,jS p l<l.length->p (l[jS p l]?.getD 0)=false
 | [],h=>by cases h
 | y :: l,h=>by
   rw[jS]at h ⊢;by_cases hy:p y=true
   ·rw[ay hy]at h ⊢
    rw[List.getElem?_cons_succ];exact tX p l (by simpa using h)
   ·rw[au hy];simpa using hy
theorem I5 (p:Nat->Bool)(l:List Nat)(i:Nat)(hi:i<=l.length)(hs:shut p (l.take i)\/jS p (l.drop i)=0) :
 wM (turn p (l.take i)++l.drop i) i (i+jS p (l.drop i))=turn p (l.take (i+jS p (l.drop i)))++l.drop (i+jS p (l.drop i)):=by
 have hr:=uL p (l.drop i);rw[bu]at hr;have h1:(turn p (l.take i)).length=i:=by rw[(kX p _).length_eq,aP];omega
 have h2:((l.drop i).take (jS p (l.drop i))).length=jS p (l.drop i):=by rw[aP,bu];omega
 have h3:=BO (turn p (l.take i)) ((l.drop i).take (jS p (l.drop i))) (l.drop (i+jS p (l.drop i)));rw[h1,h2,<-List.drop_drop,cu]at h3;rw[h3,List.drop_drop,<-dx]
 congr 1
 rcases hs with hs | h0
 ·rw[List.take_add,BK p _ _ hs (wN p _)]
 ·rw[h0];simp
theorem LB (p:Nat->Bool)(l:List Nat)(i:Nat)(hi:i<l.length)(hp:p (l[i]?.getD 0)=false):shut p (l.take (i+1))/\turn p (l.take (i+1))++l.drop (i+1)=turn p (l.take i)++l.drop i:=by
 refine⟨.inr ⟨_,_,pQ l i hi,hp⟩,?_⟩;rw[pQ l i hi,yV p _ _ hp,uK l i hi];simp
open jN
def swp (l:List Nat)(a b:Nat):List Nat:=(l.set a (fX l b)).set b (fX l a)
def rD (l:List Nat)(i j:Nat):Nat->List Nat
 | 0=>l
 | t+1=>swp (rD l i j t) (i+t) (j - 1 - t)
theorem TL (l:List Nat)(a b:Nat):(swp l a b).length=l.length:=by simp[swp]
theorem uM (l:List Nat)(i j:Nat):∀t,(rD l i j t).length=l.length
 | 0=>rfl
 | t+1=>by rw[rD,TL,uM l i j t]
theorem KC {l:List Nat}{a x:Nat}(h:a<l.length)(k:Nat):fX (l.set a x) k=if k=a then x else fX l k:=by
 by_cases e:k=a
 ·subst e;rw[ay rfl,fX,aQ h];rfl
 ·rw[au e,fX,aU (fun h=>e h.symm)]
theorem Gk (l:List Nat)(i j:Nat)(hj:j<=l.length):∀t,i+2 * t<=j->∀k,fX (rD l i j t) k=if(i<=k/\k<i+t)\/(j - t<=k/\k<j)then fX l (i+j - 1 - k)else fX l k
 | 0,_,k=>by rw[au (by omega)];rfl
 | t+1,ht,k=>by
   have ih:=Gk l i j hj t (by omega);have hl:=uM l i j t;rw[rD,swp,KC (by rw[aY];omega),KC (by omega),ih,ih,ih];by_cases h1:k=j - 1 - t
   ·subst h1
    rw[ay rfl,au (by omega),ay (by omega)]
    congr 1;omega
   ·rw[au h1]
    by_cases h2:k=i+t
    ·subst h2
     rw[ay rfl,au (by omega),ay (by omega)]
     congr 1;omega
    ·rw[au h2]
     by_cases h3:(i<=k/\k<i+t)\/(j - t<=k/\k<j)
     ·rw[ay h3,ay (by omega)]
     ·rw[au h3,au (by omega)]
theorem KD (l:List Nat)(i j:Nat)(hij:i<=j)(hj:j<=l.length)(k:Nat):fX (wM l i j) k=if i<=k/\k<j then fX l (i+j - 1 - k)else fX l k:=by
 unfold wM fX;by_cases h1:k<i
 ·rw[au (by omega),dx,aJ (by rw[aP];omega),dG h1]
 ·have hl1:(l.take i).length=i:=by rw[aP];omega
  have hl2:((l.take j).drop i).reverse.length=j - i:=by rw[dW,bu,aP];omega
  by_cases h2:k<j
  ·rw[ay (by omega),dx,aI (by omega),hl1,aJ (by omega),List.getElem?_reverse (by rw[bu,aP];omega),bu,aP,b_,dG (by omega)]
   congr 2;omega
  ·rw[au (by omega),aI (by rw[aG];omega),aG,hl1,hl2,b_]
   congr 2;omega
theorem TM {a b:List Nat}(hl:a.length=b.length)(h:∀k,k<a.length->fX a k=fX b k):a=b:=by
 apply List.ext_getElem hl;intro k h1 h2;have:=h k h1;simpa[fX,h1,h2] using this
theorem I6 (l:List Nat)(i j t:Nat)(hij:i<=j)(hj:j<=l.length)(h1:i+2 * t<=j)(h2:j<=i+2 * t+1):rD l i j t=wM l i j:=by
 refine TM (by rw[uM,qI l i j hij hj]) fun k hk=>?_
 rw[Gk l i j hj t h1,KD l i j hij hj];by_cases h3:(i<=k/\k<i+t)\/(j - t<=k/\k<j)
 ·rw[ay h3,ay (by omega)]
 ·rw[au h3]
  split
  ·congr 1;omega
  ·rfl
def kD (V:Nat->Int):Nat->Int
 | 0=>0
 | k+1=>max (kD V k) (V k)
theorem xR (V:Nat->Int)(M:Int)(hM:0<=M)(h:∀k,V k<=M):∀k,0<=kD V k/\kD V k<=M
 | 0=>⟨dU _,hM⟩
 | k+1=>by have:=xR V M hM h k;have:=h k;rw[kD];omega
theorem Gl (V:Nat->Int):∀k i,i<k->V i<=kD V k
 | 0,i,h=>by omega
 | k+1,i,h=>by
   rw[kD]
   rcases aA (aM h)with h1 | h1
   ·have:=Gl V k i h1;omega
   ·subst h1;omega
def mG (V:Nat->Int)(n:Nat):List Nat:=wL V 1 (kD V n).toNat (List.range n)
theorem uN (V:Nat->Int)(n:Nat):(mG V n).Perm (List.range n):=BM V 1 _ _
theorem oY (V:Nat->Int)(n:Nat):(mG V n).length=n:=by rw[(uN V n).length_eq,List.length_range]
theorem xS (V:Nat->Int)(n:Nat):∀x∈mG V n,x<n:=fun _ hx=>bS.1 ((uN V n).mem_iff.1 hx)
theorem I7 (k:Nat):List.range (k+1)=List.range k++[k]:=dA
theorem kK {l:List Nat}{k:Nat}(h:k<l.length):fX l k∈l:=by rw[fX,az h];exact aT _
end Go.Proofs.YtnakejhohdbfdaaGreatDoor.Lay
