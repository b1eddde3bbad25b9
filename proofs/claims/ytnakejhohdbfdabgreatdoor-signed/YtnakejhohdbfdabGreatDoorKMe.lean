import Derived.Test.YtnakejhohdbfdabGreatDoorKMd
import Derived.Test.YtnakejhohdbfdabGreatDoorKMa
import Derived.Test.YtnakejhohdbfdabGreatDoorKLdB
import Derived.Deep.RegionHeldLaw
import Derived.Deep.RegionLawGrows
namespace Go.Proofs.YtnakejhohdbfdabGreatDoor
open Go.RowKit Lev
theorem fn82_any (c:Int)(w:World):Calls Tryz.prog 287 #[.int .i64 c] w fun e w'=>e=.returned (.bool (ini c))∧w'=w:=by
 go_enter Tryz.func287,Tryz.ntmps287;go_wp2
 all_goals go_ret
 all_goals refine⟨retB ?_,rfl⟩
 all_goals simp[ini, *]
theorem fn89_any (c:Int)(w:World):Calls Tryz.prog 294 #[.int .i64 c] w fun e w'=>e=.returned (.bool (ini c || c == 22))∧w'=w:=by
 generalize hi:ini c=b;have HI:=hid hi;clear hi;cases b
 all_goals (
  go_enter Tryz.func294,Tryz.ntmps294
  go_wp2_with (go_at_call 287;refine(fn82_any _ _).mono ?_;rintro e w' ⟨rfl,rfl⟩;rw[HI.out]))
 all_goals go_ret
 all_goals refine⟨retB ?_,rfl⟩
 all_goals simp
theorem fn76_any (c:Int)(w:World):Calls Tryz.prog 244 #[.int .i64 c] w fun e w'=>e=.returned (.bool (gone c))∧w'=w:=by
 have HG:=hid (show gone c=decide (c=9∨c=14∨c=15∨c=16∨c=17∨c=18) by unfold gone;simp[Bool.decide_or,Bool.or_assoc];rfl);generalize gone c=g at *;go_enter Tryz.func244,Tryz.ntmps244;go_wp2
 all_goals go_ret
 all_goals refine⟨retB ?_,rfl⟩
 all_goals (rw[HG.out];simp only[beq_iff_eq,beq_eq_false_iff_ne,ne_eq]at *;first | (rw[decide_eq_true (by omega)];done) | (rw[decide_eq_false (by omega)];done))
theorem fn72_any (c:Int)(w:World):Calls Tryz.prog 240 #[.int .i64 c] w fun e w'=>e=.returned (.bool (isNd c))∧w'=w:=by
 have HG:=hid (show isNd c=decide (c=10∨c=11∨c=12∨c=13∨c=19∨c=20∨c=21∨c=22) by unfold isNd;simp[Bool.decide_or,Bool.or_assoc];rfl);generalize isNd c=g at *;go_enter Tryz.func240,Tryz.ntmps240;go_wp2
 all_goals go_ret
 all_goals refine⟨retB ?_,rfl⟩
 all_goals (rw[HG.out];simp only[beq_iff_eq,beq_eq_false_iff_ne,ne_eq]at *;first | (rw[decide_eq_true (by omega)];done) | (rw[decide_eq_false (by omega)];done))
theorem fn67_any (c:Int)(w:World):Calls Tryz.prog 235 #[.int .i64 c] w fun e w'=>e=.returned (.int .i64 (side c))∧w'=w:=by
 go_enter Tryz.func235,Tryz.ntmps235;go_wp2
 all_goals go_ret
 all_goals refine⟨retI ?_,rfl⟩
 all_goals (simp only[beq_iff_eq,beq_eq_false_iff_ne,ne_eq]at *;(try subst c);simp[side, *])
theorem fn91_any (r:Int)(w:World):Calls Tryz.prog 296 #[.int .i32 r] w fun e w'=>e=.returned (.int .i32 (closeOf r))∧w'=w:=by
 go_enter Tryz.func296,Tryz.ntmps296;go_wp2
 all_goals go_ret
 all_goals refine⟨retI ?_,rfl⟩
 all_goals (simp only[beq_iff_eq,beq_eq_false_iff_ne,ne_eq]at *;(try subst r);simp[closeOf, *])
theorem fn86_any (c:Int)(w:World):Calls Tryz.prog 291 #[.int .i64 c] w fun e w'=>e=.returned (.int .i64 (ovOf c))∧w'=w:=by
 go_enter Tryz.func291,Tryz.ntmps291;go_wp2
 all_goals go_ret
 all_goals refine⟨retI ?_,rfl⟩
 all_goals (simp only[beq_iff_eq,beq_eq_false_iff_ne,ne_eq]at *;(try subst c);simp[ovOf, *])
theorem fn45_any (b:Bool)(w:World):Calls Tryz.prog 213 #[.bool b] w fun e w'=>e=.returned (.int .i64 (if b then 1 else 0))∧w'=w:=by
 cases b
 all_goals (
  go_enter Tryz.func213,Tryz.ntmps213
  go_wp2
  go_ret
  exact⟨rfl,rfl⟩)
theorem fn90_any (c:Int)(w:World):Calls Tryz.prog 295 #[.int .i64 c] w fun e w'=>e=.returned (.bool (isET c))∧w'=w:=by
 go_enter Tryz.func295,Tryz.ntmps295;go_wp2
 all_goals go_ret
 all_goals exact⟨retB rfl,rfl⟩
theorem fn53_any (l b:Int)(w:World)(hl:0≤l):Calls Tryz.prog 221 #[.int .i64 l,.int .i64 b] w fun e w'=>e=.returned (.int .i64 (way (max l b)))∧w'=w:=by
 have HW:=hid (show way (max l b)=if max l b % 2=1 then 1 else 0 from rfl);generalize way (max l b)=v at *;go_enter Tryz.func221,Tryz.ntmps221;go_wp2
 all_goals go_ret
 all_goals refine⟨retI ?_,rfl⟩
 all_goals (rw[HW.out];simp only[beq_iff_eq,beq_eq_false_iff_ne,ne_eq]at *;split <;> omega)
end Go.Proofs.YtnakejhohdbfdabGreatDoor
namespace Go.Proofs.YtnakejhohdbfdabGreatDoor
open Go.RowKit Lev
structure UH where
 U:Nat
 n:Nat
 R:List Int
 K:List Int
structure US (w:World)(q:UH)(C L:List Int):Prop where
 r:∀i,i<q.n→w.cell? ⟨q.U,i * 4,none⟩=some (.int .i32 (nth q.R i))
 k:∀i,i<q.n→w.cell? ⟨q.U,i * 4+1,none⟩=some (.int .i64 (nth q.K i))
 c:∀i,i<q.n→w.cell? ⟨q.U,i * 4+2,none⟩=some (.int .i64 (nth C i))
 l:∀i,i<q.n→w.cell? ⟨q.U,i * 4+3,none⟩=some (.int .i64 (nth L i))
 soft:∀j,j<q.n * 4→w.frozen? ⟨q.U,j,none⟩=false
 lC:C.length=q.n
 lL:L.length=q.n
structure SS (w:World)(q:UH)(S Q cQ:Nat)(s:Sq)(lv:Int):Prop where
 c0:w.cell? ⟨S,0,none⟩=some (.slice (some ⟨Q,0,none⟩) s.I.length cQ)
 c1:w.cell? ⟨S,1,none⟩=some (.int .i64 lv)
 c2:w.cell? ⟨S,2,none⟩=some (.int .i64 s.bef)
 c3:w.cell? ⟨S,3,none⟩=some (.int .i64 s.aft)
 p:∀k,k<s.I.length→w.cell? ⟨Q,k,none⟩=some (.pointer (some ⟨q.U,nix s.I k * 4,none⟩))
 lt:∀k,k<s.I.length→nix s.I k<q.n
 ne:S≠q.U∧Q≠q.U
 sm:s.I.length≤1000000
 cp:s.I.length≤cQ
theorem SS.fr {T:List Nat}{w w':World}{q:UH}{S Q cQ:Nat}{s:Sq}{lv:Int}(h:SS w q S Q cQ s lv)(hf:Fr T w w')(hS:S ∉ T)(hQ:Q ∉ T):SS w' q S Q cQ s lv :=
 ⟨hf.cell h.c0 hS,hf.cell h.c1 hS,hf.cell h.c2 hS,hf.cell h.c3 hS,fun k hk=>hf.cell (h.p k hk) hQ,h.lt,h.ne,h.sm,h.cp⟩
theorem US.fr {T:List Nat}{w w':World}{q:UH}{C L:List Int}(h:US w q C L)(hf:Fr T w w')(hU:q.U ∉ T):US w' q C L:=by
 refine⟨fun i hi=>hf.cell (h.r i hi) hU,fun i hi=>hf.cell (h.k i hi) hU,fun i hi=>hf.cell (h.c i hi) hU,fun i hi=>hf.cell (h.l i hi) hU,fun j hj=>?_,h.lC,h.lL⟩;have hb:q.U<w.heap.size:=World.block_lt_of_cell? _ _ (h.r 0 (by omega));exact(World.frozen?_of_block (a:=⟨q.U,j,none⟩) (hf.block q.U hb hU)).trans (h.soft j hj)
theorem US.setC {w:World}{q:UH}{C L:List Int}(h:US w q C L){i:Nat}(hi:i<q.n)(v:Int):US (w.setCell ⟨q.U,i * 4+2,none⟩ (.int .i64 v)) q (C.set i v) L:=by
 have other:∀ {o:Nat} {x:Value},o≠i * 4+2→w.cell? ⟨q.U,o,none⟩=some x→(w.setCell ⟨q.U,i * 4+2,none⟩ (.int .i64 v)).cell? ⟨q.U,o,none⟩=some x:=fun ho hx=>by
  rw[World.cell?_setCell_other _ _ _ _ (fun e=>ho (by cases e;rfl))];exact hx
 refine⟨fun j hj=>other (by omega) (h.r j hj),fun j hj=>other (by omega) (h.k j hj),fun j hj=>?_,fun j hj=>other (by omega) (h.l j hj),fun j hj=>by rw[World.frozen?_setCell];exact h.soft j hj,by rw[List.length_set];exact h.lC,h.lL⟩;rw[nth_set C i v j (by rw[h.lC];exact hi)];by_cases e:j=i
 ·subst e;rw[if_pos rfl,World.cell?_setCell_same _ _ _ (h.c j hj)]
 ·rw[if_neg e];exact other (by omega) (h.c j hj)
theorem US.setL {w:World}{q:UH}{C L:List Int}(h:US w q C L){i:Nat}(hi:i<q.n)(v:Int):US (w.setCell ⟨q.U,i * 4+3,none⟩ (.int .i64 v)) q C (L.set i v):=by
 have other:∀ {o:Nat} {x:Value},o≠i * 4+3→w.cell? ⟨q.U,o,none⟩=some x→(w.setCell ⟨q.U,i * 4+3,none⟩ (.int .i64 v)).cell? ⟨q.U,o,none⟩=some x:=fun ho hx=>by
  rw[World.cell?_setCell_other _ _ _ _ (fun e=>ho (by cases e;rfl))];exact hx
 refine⟨fun j hj=>other (by omega) (h.r j hj),fun j hj=>other (by omega) (h.k j hj),fun j hj=>other (by omega) (h.c j hj),fun j hj=>?_,fun j hj=>by rw[World.frozen?_setCell];exact h.soft j hj,h.lC,by rw[List.length_set];exact h.lL⟩;rw[nth_set L i v j (by rw[h.lL];exact hi)];by_cases e:j=i
 ·subst e;rw[if_pos rfl,World.cell?_setCell_same _ _ _ (h.l j hj)]
 ·rw[if_neg e];exact other (by omega) (h.l j hj)
theorem fn73_any (q:UH)(C L:List Int)(S Q cQ:Nat)(s:Sq)(lv:Int)(k:Nat)(w:World)(hu:US w q C L)(hs:SS w q S Q cQ s lv)(hk:k≤s.I.length) :
 Calls Tryz.prog 241 #[.pointer (some ⟨S,0,none⟩),.int .i64 k] w fun e w'=>e=.returned (.int .i64 (ah s C k))∧w'=w:=by
 have c0:=hs.c0;have c2:=hs.c2
 rcases Nat.eq_zero_or_pos k with h0 | h0
 ·subst h0
  rw[show ah s C 0=s.bef from rfl];go_enter Tryz.func241,Tryz.ntmps241;go_wp2;go_ret;exact⟨rfl,rfl⟩
 ·obtain⟨j,hj⟩:∃j,k=j+1:=⟨k - 1,by omega⟩
  have p1:=hs.p j (by omega);have p2:=hu.c _ (hs.lt j (by omega));have sm:=hs.sm;rw[show ah s C k=nth C (nix s.I j) by rw[hj,ah,if_neg (by omega)];rfl];generalize nth C (nix s.I j)=y at *;generalize nix s.I j=i at *;have hz:(k:Int) - 1=(j:Int):=by omega
  have hz2:¬(k:Int)=0:=by omega
  have hz3:¬k=0:=by omega
  have hjm:j<s.I.length:=by omega
  generalize s.I.length=m at *;clear hu hs hj;go_enter Tryz.func241,Tryz.ntmps241;go_wp2;go_ret;exact⟨rfl,rfl⟩
theorem fn74_any (q:UH)(C L:List Int)(S Q cQ:Nat)(s:Sq)(lv:Int)(k:Nat)(w:World)(hu:US w q C L)(hs:SS w q S Q cQ s lv)(hk:k≤s.I.length) :
 Calls Tryz.prog 242 #[.pointer (some ⟨S,0,none⟩),.int .i64 k] w fun e w'=>e=.returned (.int .i64 (att s C k))∧w'=w:=by
 have c0:=hs.c0;have c3:=hs.c3;have sm:=hs.sm
 rcases Nat.lt_or_ge k s.I.length with h0 | h0
 ·have p1:=hs.p k h0
  have p2:=hu.c _ (hs.lt k h0);rw[show att s C k=nth C (nix s.I k) by rw[att,if_pos h0]];generalize nth C (nix s.I k)=y at *;generalize nix s.I k=i at *;generalize s.I.length=m at *;have hz:¬(k:Int)=(m:Int):=by omega
  have hz2:¬k=m:=by omega
  clear hu hs hk;go_enter Tryz.func242,Tryz.ntmps242;go_wp2;go_ret;exact⟨rfl,rfl⟩
 ·rw[show att s C k=s.aft by rw[att,if_neg (by omega)]]
  have hz:k=s.I.length:=by omega
  rw[hz];generalize s.I.length=m at *;clear hu hs hk;go_enter Tryz.func242,Tryz.ntmps242;go_wp2;go_ret;exact⟨rfl,rfl⟩
theorem fn68_any (q:UH)(S Q cQ:Nat)(s:Sq)(lv:Int)(w:World)(hs:SS w q S Q cQ s lv)(hl:0≤lv) :
 Calls Tryz.prog 236 #[.pointer (some ⟨S,0,none⟩)] w fun e w'=>e=.returned (.int .i64 (way lv))∧∃m,w'=w.drewN m:=by
 have c1:=hs.c1;have HC:=hid (fun w=>fn53_any lv lv w hl);rw[show max lv lv=lv by omega]at HC;clear hs;go_enter Tryz.func236,Tryz.ntmps236;go_wp2;go_quiet (first | (go_at_call 221;exact Calls.quiet_of_same (HC.out _)));go_wp2;go_ret;exact⟨rfl,_,rfl⟩
end Go.Proofs.YtnakejhohdbfdabGreatDoor
namespace Go.Proofs.YtnakejhohdbfdabGreatDoor
open Go.RowKit Lev
theorem al_facts' (I:List Nat)(C:List Int)(k:Nat):(cl I C k=2→alStep I C k=put I C k 1)∧(¬cl I C k=2→alStep I C k=C) :=
 ⟨fun h=>by rw[alStep,if_pos h],fun h=>by rw[alStep,if_neg h]⟩
set_option maxHeartbeats 4000000 in
theorem fn60_any (q:UH)(C L:List Int)(S Q cQ:Nat)(s:Sq)(lv:Int)(w:World)(hu:US w q C L)(hs:SS w q S Q cQ s lv) :
 Calls Tryz.prog 228 #[.pointer (some ⟨S,0,none⟩)] w fun e w'=>e=.returned (.tuple #[])∧US w' q (alTo s.I s.I.length C) L∧Fr [q.U] w w':=by
 have c0:=hs.c0;have sm:=hs.sm;have nS:=hs.ne.1;have nQ:=hs.ne.2;have HU:=hid hu;have HS:=hid hs;obtain⟨m,hm⟩:∃m,m=s.I.length:=⟨_,rfl⟩;have HM:=hid hm;rw[←hm]at c0 sm ⊢;clear hu hs hm;go_enter Tryz.func228,Tryz.ntmps228;go_wp2;go_loopw [9] (fun a wr=>∃(k:Nat),a=.int .i64 k∧k≤m∧Hid (US wr q (alTo s.I k C) L)∧Hid (Fr [q.U] w wr)) (fun a _=>m - (intOf a).toNat)
 case atStart=>exact⟨0,rfl,Nat.zero_le _,HU,hid (Fr.refl _ _)⟩
 case round =>
  obtain⟨k,rfl,hk,HP,HF⟩:=hrel;by_cases hlt:k<m
  ·have hs':=HS.out.fr HF.out (fun h=>nS (List.mem_singleton.1 h)) (fun h=>nQ (List.mem_singleton.1 h))
   have p1:=hs'.p k (by rw[←HM.out];exact hlt);have hi:=hs'.lt k (by rw[←HM.out];exact hlt);have p2:=HP.out.c _ hi;have p3:=HP.out.soft (nix s.I k * 4+2) (by omega);have HSC:=hid (fun z=>HP.out.setC hi z);have HST:=hid (show alTo s.I (k+1) C=alStep s.I (alTo s.I k C) k from rfl);have HNS:=hid (al_facts' s.I (alTo s.I k C) k);rw[←HST.out]at HNS;generalize hN2:alTo s.I (k+1) C=N2 at *;have HN2:=hid hN2;clear hN2 hs' HST;generalize alTo s.I k C=N at *;dsimp only[cl,put]at *;generalize nix s.I k=i at *;generalize nth N i=y at *;by_cases hy:y=2
   ·have HN:=hid (HNS.out.1 hy)
    subst hy;go_wp2;go_roundw
    case rel=>exact⟨k+1,by go_num,by omega,hid (by rw[HN2.out,HN.out];exact HSC.out 1),hid (HF.out.set (List.mem_singleton.2 rfl) _)⟩
    case measure=>simp[intOf];omega
   ·have HN:=hid (HNS.out.2 hy)
    go_wp2;go_roundw
    case rel=>exact⟨k+1,by go_num,by omega,hid (by rw[HN2.out,HN.out];exact HP.out),HF⟩
    case measure=>simp[intOf];omega
  ·have hk2:k=m:=by omega
   have HPZ:=hid (show US wr q (alTo s.I m C) L by rw[←hk2];exact HP.out);clear hk2;go_wp2;go_end0;exact⟨rfl,HPZ.out,HF.out⟩
end Go.Proofs.YtnakejhohdbfdabGreatDoor
namespace Go.Proofs.YtnakejhohdbfdabGreatDoor
open Go.RowKit Lev
theorem su_k {w wr:World}{q:UH}{C L:List Int}{S Q cQ:Nat}{s:Sq}{lv:Int}(hu:US wr q C L)(hs:SS w q S Q cQ s lv)(hf:Fr [q.U] w wr){k:Nat}(hk:k<s.I.length) :
 nix s.I k<q.n∧wr.cell? ⟨Q,k,none⟩=some (.pointer (some ⟨q.U,nix s.I k * 4,none⟩))∧wr.cell? ⟨q.U,nix s.I k * 4+2,none⟩=some (.int .i64 (nth C (nix s.I k)))∧wr.frozen? ⟨q.U,nix s.I k * 4+2,none⟩=false∧wr.cell? ⟨q.U,nix s.I k * 4+1,none⟩=some (.int .i64 (nth q.K (nix s.I k))) :=
 have hs':=hs.fr hf (fun h=>hs.ne.1 (List.mem_singleton.1 h)) (fun h=>hs.ne.2 (List.mem_singleton.1 h));have hi:=hs'.lt k hk
 ⟨hi,hs'.p k hk,hu.c _ hi,hu.soft _ (by omega),hu.k _ hi⟩
theorem SS.frU {w wr:World}{q:UH}{S Q cQ:Nat}{s:Sq}{lv:Int}(hs:SS w q S Q cQ s lv)(hf:Fr [q.U] w wr):SS wr q S Q cQ s lv :=
 hs.fr hf (fun h=>hs.ne.1 (List.mem_singleton.1 h)) (fun h=>hs.ne.2 (List.mem_singleton.1 h))
theorem loose_facts (I:List Nat)(C:List Int)(k:Nat):(cl I C k=4∨cl I C k=5∨cl I C k=7→looseStep I C k=put I C k 13)∧(¬(cl I C k=4∨cl I C k=5∨cl I C k=7)→looseStep I C k=C) :=
 ⟨fun h=>by rw[looseStep,if_pos h],fun h=>by rw[looseStep,if_neg h]⟩
set_option linter.unusedSimpArgs false in
set_option maxHeartbeats 4000000 in
theorem fn63_any (q:UH)(C L:List Int)(S Q cQ:Nat)(s:Sq)(lv:Int)(w:World)(hu:US w q C L)(hs:SS w q S Q cQ s lv) :
 Calls Tryz.prog 231 #[.pointer (some ⟨S,0,none⟩)] w fun e w'=>e=.returned (.tuple #[])∧US w' q (looseTo s.I s.I.length C) L∧Fr [q.U] w w':=by
 have c0:=hs.c0;have sm:=hs.sm;have HU:=hid hu;have HS:=hid hs;obtain⟨m,hm⟩:∃m,m=s.I.length:=⟨_,rfl⟩;have HM:=hid hm;rw[←hm]at c0 sm ⊢;clear hu hs hm;go_enter Tryz.func231,Tryz.ntmps231;go_wp2;go_loopw [9] (fun a wr=>∃(k:Nat),a=.int .i64 k∧k≤m∧Hid (US wr q (looseTo s.I k C) L)∧Hid (Fr [q.U] w wr)) (fun a _=>m - (intOf a).toNat)
 case atStart=>exact⟨0,rfl,Nat.zero_le _,HU,hid (Fr.refl _ _)⟩
 case round =>
  obtain⟨k,rfl,hk,HP,HF⟩:=hrel;by_cases hlt:k<m
  ·obtain⟨hi,p1,p2,p3,p4⟩:=su_k HP.out HS.out HF.out (show k<s.I.length by rw[←HM.out];exact hlt)
   have HSC:=hid (fun z=>HP.out.setC hi z);have HST:=hid (show looseTo s.I (k+1) C=looseStep s.I (looseTo s.I k C) k from rfl);have HNS:=hid (loose_facts s.I (looseTo s.I k C) k);rw[←HST.out]at HNS;generalize hN2:looseTo s.I (k+1) C=N2 at *;have HN2:=hid hN2;clear hN2 HST p4;generalize looseTo s.I k C=N at *;dsimp only[cl,put]at *;generalize nix s.I k=i at *;generalize nth N i=y at *;by_cases hy:y=4∨y=5∨y=7
   ·have HN:=hid (HNS.out.1 hy)
    rcases hy with rfl | rfl | rfl
    all_goals (
     go_wp2
     go_roundw
     case rel=>exact⟨k+1,by go_num,by omega,hid (by rw[HN2.out,HN.out];exact HSC.out 13),hid (HF.out.set (List.mem_singleton.2 rfl) _)⟩
     case measure=>simp[intOf];omega)
   ·have HN:=hid (HNS.out.2 hy)
    have y4:¬y=4:=fun h=>hy (.inl h)
    have y5:¬y=5:=fun h=>hy (.inr (.inl h))
    have y7:¬y=7:=fun h=>hy (.inr (.inr h))
    clear hy;go_wp2;go_roundw
    case rel=>exact⟨k+1,by go_num,by omega,hid (by rw[HN2.out,HN.out];exact HP.out),HF⟩
    case measure=>simp[intOf];omega
  ·have hk2:k=m:=by omega
   have HPZ:=hid (show US wr q (looseTo s.I m C) L by rw[←hk2];exact HP.out);clear hk2;go_wp2;go_end0;exact⟨rfl,HPZ.out,HF.out⟩
theorem num_facts (I:List Nat)(letter v:Int)(x:Int)(C:List Int)(k:Nat) :
 (cl I C k=0∨cl I C k=1∨cl I C k=2→numStep I true letter v (x,C) k=(cl I C k,C)) ∧
 (cl I C k=3→x=letter→numStep I true letter v (x,C) k=(x,put I C k v)) ∧
 (cl I C k=3→¬x=letter→numStep I true letter v (x,C) k=(x,C)) ∧
 (¬(cl I C k=0∨cl I C k=1∨cl I C k=2)→¬cl I C k=3→numStep I true letter v (x,C) k=(x,C)):=by
 refine⟨fun h=>?_,fun h h1=>?_,fun h h1=>?_,fun h h1=>?_⟩
 ·rw[numStep,if_pos (by rcases h with h | h | h;exact .inl h;exact .inr (.inl h);exact .inr (.inr ⟨rfl,h⟩))]
 ·rw[numStep,if_neg (by dsimp only;omega),if_pos ⟨h,h1⟩]
 ·rw[numStep,if_neg (by dsimp only;omega),if_neg (fun h2=>h1 h2.2)]
 ·rw[numStep,if_neg (by rintro (h2 | h2 | h2);exact h (.inl h2);exact h (.inr (.inl h2));exact h (.inr (.inr h2.2))),if_neg (fun h2=>h1 h2.1)]
set_option linter.unusedSimpArgs false in
set_option maxHeartbeats 4000000 in
theorem fn59_any (q:UH)(C L:List Int)(S Q cQ:Nat)(s:Sq)(lv:Int)(letter v:Int)(w:World)(hu:US w q C L)(hs:SS w q S Q cQ s lv) :
 Calls Tryz.prog 227 #[.pointer (some ⟨S,0,none⟩),.int .i64 letter,.int .i64 v] w fun e w'=>e=.returned (.tuple #[])∧US w' q (numsTo s.I true letter v s.I.length (s.bef,C)).2 L∧Fr [q.U] w w':=by
 have c0:=hs.c0;have c2:=hs.c2;have sm:=hs.sm;have HU:=hid hu;have HS:=hid hs;obtain⟨m,hm⟩:∃m,m=s.I.length:=⟨_,rfl⟩;have HM:=hid hm;rw[←hm]at c0 sm ⊢;clear hu hs hm;go_enter Tryz.func227,Tryz.ntmps227;go_wp2;go_loopw [6,18] (fun x a wr=>∃(k:Nat),x=.int .i64 (numsTo s.I true letter v k (s.bef,C)).1∧a=.int .i64 k∧k≤m∧Hid (US wr q (numsTo s.I true letter v k (s.bef,C)).2 L)∧Hid (Fr [q.U] w wr)) (fun _ a _=>m - (intOf a).toNat)
 case atStart=>exact⟨0,rfl,rfl,Nat.zero_le _,HU,hid (Fr.refl _ _)⟩
 case round =>
  obtain⟨k,rfl,rfl,hk,HP,HF⟩:=hrel;by_cases hlt:k<m
  ·have HST:=hid (show numsTo s.I true letter v (k+1) (s.bef,C)=numStep s.I true letter v (numsTo s.I true letter v k (s.bef,C)) k from rfl)
   generalize hN2:numsTo s.I true letter v (k+1) (s.bef,C)=N2 at *;have HN2:=hid hN2;clear hN2;generalize numsTo s.I true letter v k (s.bef,C)=N at *;obtain⟨x,N⟩:=N;dsimp only at *;obtain⟨hi,p1,p2,p3,p4⟩:=su_k HP.out HS.out HF.out (show k<s.I.length by rw[←HM.out];exact hlt);have HSC:=hid (fun z=>HP.out.setC hi z);have HNS:=hid (num_facts s.I letter v x N k);rw[←HST.out]at HNS;clear HST p4;dsimp only[cl,put]at *;generalize nix s.I k=i at *;generalize nth N i=y at *;by_cases hy:y=0∨y=1∨y=2
   ·have HN:=hid (HNS.out.1 hy)
    rcases hy with rfl | rfl | rfl
    all_goals (
     go_wp2
     go_roundw
     case rel=>exact⟨k+1,by rw[HN2.out,HN.out],by go_num,by omega,hid (by rw[HN2.out,HN.out];exact HP.out),HF⟩
     case measure=>simp[intOf];omega)
   ·have y0:¬y=0:=fun h=>hy (.inl h)
    have y1:¬y=1:=fun h=>hy (.inr (.inl h))
    have y2:¬y=2:=fun h=>hy (.inr (.inr h))
    by_cases h3:y=3
    ·by_cases hx:x=letter
     ·have HN:=hid (HNS.out.2.1 h3 hx)
      subst h3;subst hx;clear hy;go_wp2;go_roundw
      case rel=>exact⟨k+1,by rw[HN2.out,HN.out],by go_num,by omega,hid (by rw[HN2.out,HN.out];exact HSC.out v),hid (HF.out.set (List.mem_singleton.2 rfl) _)⟩
      case measure=>simp[intOf];omega
     ·have HN:=hid (HNS.out.2.2.1 h3 hx)
      subst h3;clear hy;go_wp2;go_roundw
      case rel=>exact⟨k+1,by rw[HN2.out,HN.out],by go_num,by omega,hid (by rw[HN2.out,HN.out];exact HP.out),HF⟩
      case measure=>simp[intOf];omega
    ·have HN:=hid (HNS.out.2.2.2 hy h3)
     clear hy;go_wp2;go_roundw
     case rel=>exact⟨k+1,by rw[HN2.out,HN.out],by go_num,by omega,hid (by rw[HN2.out,HN.out];exact HP.out),HF⟩
     case measure=>simp[intOf];omega
  ·have hk2:k=m:=by omega
   have HPZ:=hid (show US wr q (numsTo s.I true letter v m (s.bef,C)).2 L by rw[←hk2];exact HP.out);clear hk2;go_wp2;go_end0;exact⟨rfl,HPZ.out,HF.out⟩
set_option maxHeartbeats 4000000 in
theorem fn75_any (q:UH)(C L:List Int)(S Q cQ:Nat)(s:Sq)(lv:Int)(a b:Nat)(v:Int)(w:World)(hu:US w q C L)(hs:SS w q S Q cQ s lv)(hab:a<b)(hb:b≤s.I.length) :
 Calls Tryz.prog 243 #[.pointer (some ⟨S,0,none⟩),.int .i64 a,.int .i64 b,.int .i64 v] w fun e w'=>e=.returned (.tuple #[])∧US w' q (fillTo s.I a v (b - a) C) L∧Fr [q.U] w w':=by
 have c0:=hs.c0;have sm:=hs.sm;have cp:=hs.cp;have HU:=hid hu;have HS:=hid hs;obtain⟨m,hm⟩:∃m,m=s.I.length:=⟨_,rfl⟩;have HM:=hid hm;rw[←hm]at c0 sm hb cp;have hI1:(a:Int)≤(b:Int):=by omega
 have hI2:(b:Int)≤(cQ:Int):=by omega
 have hI3:(b:Int)≤(m:Int):=by omega
 have hca:¬cQ=a:=by omega
 obtain⟨d,hd⟩:∃d,b - a=d:=⟨_,rfl⟩;rw[hd];have hdm:a+d≤m:=by omega
 clear hu hs hm;go_enter Tryz.func243,Tryz.ntmps243;go_wp2;clear hd hca;go_loopw [18] (fun x wr=>∃(k:Nat),x=.int .i64 k∧k≤d∧Hid (US wr q (fillTo s.I a v k C) L)∧Hid (Fr [q.U] w wr)) (fun x _=>d - (intOf x).toNat)
 case atStart=>exact⟨0,rfl,Nat.zero_le _,HU,hid (Fr.refl _ _)⟩
 case round =>
  obtain⟨k,rfl,hk,HP,HF⟩:=hrel;by_cases hlt:k<d
  ·obtain⟨hi,p1,p2,p3,p4⟩:=su_k HP.out HS.out HF.out (show a+k<s.I.length by rw[←HM.out];omega)
   have HSC:=hid (fun z=>HP.out.setC hi z);have HST:=hid (show fillTo s.I a v (k+1) C=put s.I (fillTo s.I a v k C) (a+k) v from rfl);generalize hN2:fillTo s.I a v (k+1) C=N2 at *;have HN2:=hid hN2;clear hN2 p4;generalize fillTo s.I a v k C=N at *;dsimp only[cl,put]at *;generalize nix s.I (a+k)=i at *;generalize nth N i=y at *;go_wp2;go_roundw
   case rel=>exact⟨k+1,by go_num,by omega,hid (by rw[HN2.out,HST.out];exact HSC.out v),hid (HF.out.set (List.mem_singleton.2 rfl) _)⟩
   case measure=>simp[intOf];omega
  ·have hk2:k=d:=by omega
   have HPZ:=hid (show US wr q (fillTo s.I a v d C) L by rw[←hk2];exact HP.out);clear hk2;go_wp2;go_end0;exact⟨rfl,HPZ.out,HF.out⟩
end Go.Proofs.YtnakejhohdbfdabGreatDoor
namespace Go.Proofs.YtnakejhohdbfdabGreatDoor
open Go.RowKit Lev Lay
def xsum (f:Nat→Int)(o:List Nat):Nat→Int
 | 0=>0
 | k+1=>xsum f o k+f (nix o k)
def xs (f:Nat→Int)(o:List Nat)(k:Nat):List Int:=(List.range (k+1)).map (xsum f o)
theorem xs_snoc (f:Nat→Int)(o:List Nat)(k:Nat):xs f o (k+1)=xs f o k++[xsum f o k+f (nix o k)]:=by
 rw[xs,List.range_succ,List.map_append];rfl
theorem xs_len (f:Nat→Int)(o:List Nat)(k:Nat):(xs f o k).length=k+1:=by simp[xs]
theorem xs_at (f:Nat→Int)(o:List Nat){k j:Nat}(h:j≤k):nth (xs f o k) j=xsum f o j:=by
 have:j<k+1:=by omega
 simp[nth,xs,this]
theorem xsum_bound (f:Nat→Int)(M:Int)(h:∀k,0≤f k∧f k≤M)(o:List Nat):∀k:Nat,0≤xsum f o k∧xsum f o k≤k * M
 | 0=>by simp[xsum]
 | k+1=>by
   have ih:=xsum_bound f M h o k;have:=h (nix o k);have e:((k+1:Nat):Int) * M=k * M+M:=by rw[Int.natCast_add,Int.add_mul];simp
   rw[xsum];omega
def clOf (P:Nat→Nat)(ri:Nat→Nat)(Ev:Nat→Int)(W:List Int)(k:Nat):Int × Int × Int × Int:=(((P (ri k):Nat):Int),((P (ri (k+1)):Nat):Int),Ev (ri k),wid W (ri k) (ri (k+1)))
def clst (P:Nat→Nat)(ri:Nat→Nat)(Ev:Nat→Int)(W:List Int)(m:Nat):List (Int × Int × Int × Int):=(List.range m).map (clOf P ri Ev W)
theorem clst_at (P:Nat→Nat)(ri:Nat→Nat)(Ev:Nat→Int)(W:List Int){m k:Nat}(h:k<m):(clst P ri Ev W m)[k]?=some (clOf P ri Ev W k):=by simp[clst,h]
def lnOf (P:Nat→Nat)(ri:Nat→Nat)(Ev:Nat→Int)(W:List Int)(a b:Nat):Ln :=
 let o:=(ordD (fun t=>Ev (ri (a+t))) (b - a)).map (fun t=>t+a)
 ⟨((P (ri a):Nat):Int),((P (ri b):Nat):Int),o,xs (fun k=>wid W (ri k) (ri (k+1))) o (b - a)⟩
theorem topTo_congr {V U:Nat→Int}:∀n,(∀i,i<n→V i=U i)→topTo V n=topTo U n
 | 0,_=>rfl
 | n+1,h=>by rw[topTo,topTo,topTo_congr n (fun i hi=>h i (by omega)),h n (by omega)]
theorem ordD_congr {V U:Nat→Int}{n:Nat}(h:∀i,i<n→V i=U i):ordD V n=ordD U n:=by
 rw[ordD,ordD,topTo_congr n h];exact tds_congr 1 _ _ (fun x hx=>h x (List.mem_range.1 hx))
theorem nix_map {l:List Nat}{f:Nat→Nat}{t:Nat}(h:t<l.length):nix (l.map f) t=f (nix l t):=by simp[nix,h]
theorem xsum_bound2 (f:Nat→Int)(M:Int)(o:List Nat):∀k:Nat,(∀j,j<k→0≤f (nix o j)∧f (nix o j)≤M)→0≤xsum f o k∧xsum f o k≤k * M
 | 0,_=>by simp[xsum]
 | k+1,h=>by
   have ih:=xsum_bound2 f M o k (fun j hj=>h j (by omega));have:=h k (by omega);have e:((k+1:Nat):Int) * M=k * M+M:=by rw[Int.natCast_add,Int.add_mul];simp
   rw[xsum];omega
theorem cell_grown {w w':World}{b g i:Nat}{v:Value}(hg:w.grownBy w' (some g))(hc:w.cell? ⟨b,i,none⟩=some v)(hb:b≠g):w'.cell? ⟨b,i,none⟩=some v :=
 (World.cell?_of_block (a:=⟨b,i,none⟩) (hg.block b (World.block_lt_of_cell? _ _ hc) (fun e=>hb (Option.some.inj e)))).trans hc
theorem frA (w:World)(o:Obj):Fr [] w (w.alloc o).drew:=((Fr.refl [] w).alloc o).drew
theorem line_one (a b:Int)(c d:Option Addr)(e f g h:Nat):∀u∈[Value.int .i64 a,.int .i64 b,.slice c e f,.slice d g h],u.oneCell'=true:=by
 intro u hu;simp only[List.mem_cons,List.not_mem_nil,or_false]at hu
 rcases hu with rfl | rfl | rfl | rfl <;> rfl
theorem Fr.set_new {S:List Nat}{w w':World}(h:Fr S w w'){b i:Nat}{v:Value}(hb:w.heap.size≤b):Fr S w (w'.setCell ⟨b,i,none⟩ v) :=
 h.grown (row:=some b) grown_set (fun k e=>by cases e;exact hb)
structure Ctx (P:Nat→Nat)(ri:Nat→Nat)(Ev:Nat→Int)(W:List Int)(n c:Nat):Prop where
 n0:0<n
 n1:n≤400
 cn:c≤n
 mono:∀i j,i<j→P i<P j
 rim:∀i j,i<j→j≤c→ri i<ri j
 ric:ri c=n
 ev:∀i,0≤Ev i∧Ev i≤100
 wb:∀i,0≤nth W i∧nth W i≤1073741824
 pb:∀i,i≤n→P i≤400
def putL (xs:List Value):Nat→List Value→List Value
 | _,[]=>xs
 | o,v :: r=>putL (xs.set o v) (o+1) r
theorem putL_at:∀(vs xs:List Value) (o j:Nat),o+vs.length≤xs.length→(putL xs o vs)[j]?=if o≤j∧j<o+vs.length then vs[j - o]? else xs[j]?
 | [],xs,o,j,_=>by rw[putL,if_neg (by simp)]
 | v :: r,xs,o,j,h=>by
   rw[List.length_cons]at h;rw[putL,putL_at r (xs.set o v) (o+1) j (by rw[List.length_set];omega),List.length_cons];by_cases h1:o+1≤j∧j<o+1+r.length
   ·rw[if_pos h1,if_pos (by omega)]
    obtain⟨d,hd⟩:∃d,j - o=d+1:=⟨j - o - 1,by omega⟩;rw[hd,List.getElem?_cons_succ];congr 1;omega
   ·rw[if_neg h1]
    by_cases h2:j=o
    ·subst h2;rw[if_pos (by omega),Nat.sub_self,List.getElem?_set_self (by omega)];rfl
    ·rw[if_neg (by omega),List.getElem?_set_ne (fun e=>h2 e.symm)]
theorem owns_put {B e g n c:Nat}:∀(vs xs:List Value) (o:Nat) (w:World),w.ownsRow B e 1 (.slice (some ⟨g,0,none⟩) n c) n xs→(w.setCells g o vs).ownsRow B e 1 (.slice (some ⟨g,0,none⟩) n c) n (putL xs o vs)∧Fr [g] w (w.setCells g o vs)
 | [],xs,o,w,h=>⟨h,Fr.refl _ _⟩
 | v :: r,xs,o,w,h=>by
   obtain⟨h1,h2⟩:=owns_put r (xs.set o v) (o+1) (w.setCell ⟨g,o,none⟩ v) (h.stored o v).1;exact⟨h1,(fr_set1 w g o v).trans h2⟩
theorem putL_rev (l:List Nat)(a b:Nat)(hab:a≤b)(hb:b≤l.length):putL (intsN l) a (intsN ((l.take b).drop a).reverse)=intsN (revR l a b):=by
 have hl:((l.take b).drop a).reverse.length=b - a:=by rw[List.length_reverse,List.length_drop,List.length_take];omega
 apply List.ext_getElem?;intro j;rw[putL_at _ _ _ _ (by rw[intsN_len,intsN_len,hl];omega),intsN_len,hl];by_cases hj:j<l.length
 ·have e1:=intsN_at (l:=revR l a b) (j:=j) (by rw[revR_length l a b hab hb];exact hj)
  rw[e1,revR_at l a b hab hb];by_cases h:a≤j∧j<b
  ·rw[if_pos (by omega),if_pos h,intsN_at (by rw[hl];omega)]
   congr 2
   rw[nix,nix,List.getElem?_reverse (by rw[List.length_drop,List.length_take];omega),List.length_drop,List.length_take,List.getElem?_drop,List.getElem?_take_of_lt (by omega)]
   congr 3;omega
  ·rw[if_neg (by omega),if_neg h,intsN_at hj]
 ·rw[if_neg (by omega),List.getElem?_eq_none (by rw[intsN_len];omega),List.getElem?_eq_none (by rw[intsN_len,revR_length l a b hab hb];omega)]
theorem intsN_ints (l:List Nat):(l.map (fun x=>((x:Nat):Int))).map (Value.int .i64)=intsN l:=by simp[intsN]
theorem rev_part {B n c:Nat}(l:List Nat)(g a b:Nat)(w:World)(hn:n=l.length)(hab:a≤b)(hb:b≤n)(hl:n≤1000)(cc:Nat)(ho:w.ownsRow B 3 1 (.slice (some ⟨g,0,none⟩) n c) n (intsN l)) :
 Calls Tryz.prog 341 #[.slice (some ⟨g,a,none⟩) (b - a) cc] w fun e w'=>e=.returned (.tuple #[])∧w'.ownsRow B 3 1 (.slice (some ⟨g,0,none⟩) n c) n (intsN (revR l a b))∧Fr [g] w w':=by
 have hz:(((l.take b).drop a).map (fun x=>((x:Nat):Int))).length=b - a:=by rw[List.length_map,List.length_drop,List.length_take];omega
 refine(Tryz.slices_Reverse_int_cells g a (b - a) cc (((l.take b).drop a).map (fun x=>((x:Nat):Int))) w (by omega) (by omega) (fun j hj=>?_) (fun j _=>ho.frozenAt (a+j))).mono ?_
 ·rw[hz]at hj
  rw[ho.cellAt (a+j) (by omega),intsN_at (by omega)]
  congr 2
  rw[List.getD,List.getElem?_map,List.getElem?_drop,List.getElem?_take_of_lt (by omega),nix,List.getElem?_eq_getElem (show a+j<l.length by omega)];rfl
 ·rintro e w' ⟨rfl,q,rfl⟩
  have e1:((((l.take b).drop a).map (fun x=>((x:Nat):Int))).take (b - a)).reverse.map (Value.int .i64)=intsN ((l.take b).drop a).reverse:=by
   rw[List.take_of_length_le (by omega),←List.map_reverse,intsN_ints]
  rw[e1];obtain⟨h1,h2⟩:=owns_put (intsN ((l.take b).drop a).reverse) (intsN l) a (w.drewN q) (show(w.drewN q).ownsRow B 3 1 (.slice (some ⟨g,0,none⟩) n c) n (intsN l)from ho);rw[putL_rev l a b hab (by omega)]at h1;exact⟨rfl,h1,((Fr.refl [g] w).drewN q).trans h2⟩
set_option maxHeartbeats 2000000 in
theorem deep_clo (V:List Int)(gV nV cV sb lb x:Nat)(v0 v2:Value)(l:Int)(X:World)(hx:x<nV)(hV:rowAt X gV nV V)(hs:X.heap[sb]?=some (.cells #[v0,.slice (some ⟨gV,0,none⟩) nV cV,v2] 207 (0,0)))(hl:X.heap[lb]?=some (.cells #[.int .i64 l] 3 (0,0))) :
 Calls Tryz.prog 340 (#[.int .i64 (x:Nat)]++#[.pointer (some ⟨sb,0,none⟩),.pointer (some ⟨lb,0,none⟩)]) X fun e w'=>e=.returned (.bool (decide (l≤nth V x)))∧∃q,w'=X.drewN q:=by
 have c1:=obj_cell hs (i:=1) rfl;have c2:=obj_cell hl (i:=0) rfl;have c3:=hV x hx;have hxI:(x:Int)<(nV:Int):=by omega
 generalize nth V x=y at *;clear hs hl hV;go_enter Tryz.func340,Tryz.ntmps340;go_wp2_with fail;go_quiet (fail);go_wp2;go_ret;exact⟨rfl,_,rfl⟩
theorem revs_take (l:List Nat)(m:List (Nat × Nat)){k:Nat}{x:Nat × Nat}(h:m[k]?=some x):revs l (m.take (k+1))=revR (revs l (m.take k)) x.1 x.2:=by
 rw[List.take_add_one,h];exact revs_snoc l _ x
theorem revs_len:∀(m:List (Nat × Nat)) (l:List Nat),(∀x∈m,x.1≤x.2∧x.2≤l.length)→(revs l m).length=l.length
 | [],_,_=>rfl
 | x :: m,l,h=>by
   have h0:=h x (by simp);have e:=revR_length l x.1 x.2 h0.1 h0.2;have ih:=revs_len m (revR l x.1 x.2) (fun y hy=>by rw[e];exact h y (by simp[hy]));rw[e]at ih;exact ih
set_option maxRecDepth 10000 in
set_option maxHeartbeats 4000000 in
theorem turn_any (V:List Int)(gV nV cV:Nat)(v0 v2:Value)(l:Int)(o:List Nat)(B go co n:Nat)(w:World)(hn:n=o.length)(hn1:n≤1000)(hV:rowAt w gV nV V)(ho:∀i,i<n→nix o i<nV)(hO:w.ownsRow B 3 1 (.slice (some ⟨go,0,none⟩) n co) n (intsN o)) :
 Calls Tryz.prog 329 #[.agg #[v0,.slice (some ⟨gV,0,none⟩) nV cV,v2],.slice (some ⟨go,0,none⟩) n co,.int .i64 l] w fun e w'=>e=.returned (.tuple #[])∧w'.ownsRow B 3 1 (.slice (some ⟨go,0,none⟩) n co) n (intsN (turn (fun x=>decide (l≤nth V x)) o))∧Fr [go] w w':=by
 obtain⟨w2,hw2⟩:∃w2,w2=(w.alloc (.cells #[v0,.slice (some ⟨gV,0,none⟩) nV cV,v2] 207)).alloc (.cells #[.int .i64 l] 3):=⟨_,rfl⟩;have HF2:=hid (show Fr [] w w2 by rw[hw2];exact((Fr.refl [] w).alloc _).alloc _);have HSB:=hid (show w2.heap[w.heap.size]?=some (.cells #[v0,.slice (some ⟨gV,0,none⟩) nV cV,v2] 207 (0,0)) by rw[hw2];exact obj_fr (obj_new w _) ((Fr.refl [] _).alloc _) List.not_mem_nil)
 have HLB:=hid (show w2.heap[w.heap.size+1]?=some (.cells #[.int .i64 l] 3 (0,0)) by
  have h:=obj_new (w.alloc (.cells #[v0,.slice (some ⟨gV,0,none⟩) nV cV,v2] 207)) (.cells #[.int .i64 l] 3)
  rw[World.size_alloc]at h;rw[hw2];exact h)
 have HV:=hid hV;have HO:=hid hO;have HLT:=hid ho;have HN:=hid hn;have hgol:=(owns_at hO).2;obtain⟨p,hp⟩:∃p:Nat→Bool,p=fun x=>decide (l≤nth V x):=⟨_,rfl⟩
 rw[←hp]
 have H108:=hid (parts_any 340 #[.pointer (some ⟨w.heap.size,0,none⟩),.pointer (some ⟨w.heap.size+1,0,none⟩)] p o go co w2 (by omega) (by rw[←hn];exact owns_rowN (owns_fr0 hO HF2.out) hn.symm) (fun args w=>by kernel_rfl) (fun X hf i hi=>by
  rw[hp]
  exact deep_clo V gV nV cV w.heap.size (w.heap.size+1) (nix o i) v0 v2 l X (ho i (by omega)) ((hV.fr HF2.out List.not_mem_nil).fr hf List.not_mem_nil) (obj_fr HSB.out hf List.not_mem_nil) (obj_fr HLB.out hf List.not_mem_nil)))
 rw[←hn]at H108;have HPB:=hid (parts_bound p o);have hR0:(Lay.parts p o).length≤n+1:=by rw[hn];exact(partsTo_len p o (o.length+1)).1
 have HPT:=hid (parts_turn p o);obtain⟨T,hT⟩:∃T,T=turn p o:=⟨_,rfl⟩;rw[←hT]at HPT ⊢;generalize Lay.parts p o=R at *;clear hV hO ho hp hT hn;go_enter Tryz.func329,Tryz.ntmps329;go_wp2_with fail;rw[←hw2];clear hw2;refine H108.out.mono ?_;rintro e w3 ⟨v,rfl,own3,hf3⟩;have HO3:=hid (owns_fr0 (owns_fr0 HO.out HF2.out) hf3);have HF3:=hid (HF2.out.trans hf3);have HR3:=hid own3;obtain⟨aR,cR,hv⟩:=owns_slice own3;subst hv;obtain⟨nR,hnR⟩:∃nR,nR=R.length:=⟨_,rfl⟩;have hR4:nR≤2000:=by omega
 rw[←hnR]at HR3 ⊢;have HNR:=hid hnR;clear own3 hf3 H108 hnR hR0;go_wp2_with fail;go_loopw [14] (fun kk wr=>∃k:Nat,kk=.int .i64 k∧k≤nR∧Hid (wr.ownsRow B 3 1 (.slice (some ⟨go,0,none⟩) n co) n (intsN (revs o (R.take k))))∧Hid (Fr [go] w3 wr)) (fun kk _=>nR - (intOf kk).toNat)
 case atStart=>exact⟨0,rfl,Nat.zero_le _,HO3,hid (Fr.refl _ _)⟩
 case round =>
  obtain⟨k,rfl,hkn,HOk,HFk⟩:=hrel;by_cases hkl:k<nR
  ·have hkI:(k:Int)<(nR:Int):=by omega
   obtain⟨gR,cR',hvR⟩:=owns_shape (by omega) HR3.out;cases hvR;have hgRn:gR≠go:=owns_apart HR3.out HO3.out (by decide) rfl rfl;have hx:R[k]?=some (R[k]'(by rw[←HNR.out];exact hkl)):=List.getElem?_eq_getElem _;have hb:=HPB.out _ (List.getElem_mem (by rw[←HNR.out];exact hkl));have HRT:=hid (revs_take o R hx);have e0:=HFk.out.cell (show w3.cell? ⟨gR,k * 2,none⟩=_ from(HR3.out.cellAt (k * 2) (by omega)).trans (ptCells_at R k _ hx).1) (fun h=>hgRn (List.mem_singleton.1 h));have e1:=HFk.out.cell (show w3.cell? ⟨gR,k * 2+1,none⟩=_ from(HR3.out.cellAt (k * 2+1) (by omega)).trans (ptCells_at R k _ hx).2) (fun h=>hgRn (List.mem_singleton.1 h));rw[←HN.out]at hb;have HLN:=hid (show n=(revs o (R.take k)).length by rw[revs_len _ o (fun y hy=>by have:=HPB.out y (List.mem_of_mem_take hy);omega)];exact HN.out);generalize R[k]'(by rw[←HNR.out];exact hkl)=x at *;obtain⟨xa,xb⟩:=x;dsimp only at e0 e1 hb HRT;have HREV:=hid (fun(X:World) cc (hX:X.ownsRow B 3 1 (.slice (some ⟨go,0,none⟩) n co) n (intsN (revs o (R.take k))))=>rev_part (revs o (R.take k)) go xa xb X HLN.out (by omega) hb.2 hn1 cc hX);have hco:n≤co:=by
    rcases HOk.out.2 with⟨h5,_⟩ | ⟨g5,c5,cur5,h5,_,_,h6,_⟩
    ·cases h5
    ·cases h5;exact h6
   obtain⟨hb1,hb2⟩:=hb;have hba:(xa:Int)≤(xb:Int):=by omega
   have hbc:(xb:Int)≤(co:Int):=by omega
   have HOA:=hid (HOk.out.alloc (.cells #[.int .i64 (xa:Nat),.int .i64 (xb:Nat)] 337));have HFA:=hid (HFk.out.alloc (.cells #[.int .i64 (xa:Nat),.int .i64 (xb:Nat)] 337));clear hx;go_wp2_with fail;refine(HREV.out _ _ HOA.out).mono ?_;rintro e w5 ⟨rfl,own5,hf5⟩;have HO5:=hid own5;have HF5:=hid (HFA.out.trans hf5);clear own5 hf5 HREV;go_wp2;go_roundw
   case rel=>exact⟨k+1,by go_num,by omega,hid (by rw[HRT.out];exact HO5.out),HF5⟩
   case measure=>simp[intOf];omega
  ·obtain rfl:k=nR:=by omega
   have hkI:¬(k:Int)<(k:Int):=by omega
   have HOZ:=hid (show wr.ownsRow B 3 1 (.slice (some ⟨go,0,none⟩) n co) n (intsN T) by
    have h:=HOk.out
    rw[HNR.out,List.take_length,HPT.out]at h
    exact h)
   go_wp2;go_end0;exact⟨rfl,HOZ.out,((HF3.out.mono (fun _ h _=>absurd h List.not_mem_nil):Fr [go] w w3)).trans HFk.out⟩
def leastTo (V:Nat→Int):Nat→Int
 | 0=>9223372036854775807
 | k+1=>if V k % 2=1 then min (leastTo V k) (V k)else leastTo V k
theorem least_cases (V:Nat→Int)(hV:∀i,0≤V i∧V i≤1000):∀n,(leastTo V n=9223372036854775807∧∀i,i<n→V i % 2≠1)∨∃q:Nat,leastTo V n=2 * (q:Int)+1∧(∃i,i<n∧V i=2 * (q:Int)+1)∧∀i,i<n→V i % 2=1→2 * (q:Int)+1≤V i
 | 0=>.inl ⟨rfl,fun i hi=>absurd hi (Nat.not_lt_zero _)⟩
 | n+1=>by
   have hv:=hV n
   rcases least_cases V hV n with⟨h1,h2⟩ | ⟨q,h1,⟨i,h2,h3⟩,h4⟩
   ·by_cases h:V n % 2=1
    ·refine .inr ⟨(V n).toNat / 2,?_,⟨n,by omega,by omega⟩,fun i hi ho=>?_⟩
     ·rw[leastTo,if_pos h,h1];omega
     ·rcases Nat.lt_or_eq_of_le (Nat.le_of_lt_succ hi)with h5 | h5
      ·exact absurd ho (h2 i h5)
      ·rw[h5];omega
    ·refine .inl ⟨by rw[leastTo,if_neg h,h1],fun i hi=>?_⟩
     rcases Nat.lt_or_eq_of_le (Nat.le_of_lt_succ hi)with h5 | h5
     ·exact h2 i h5
     ·rw[h5];exact h
   ·by_cases h:V n % 2=1
    ·by_cases hlt:V n<2 * (q:Int)+1
     ·refine .inr ⟨(V n).toNat / 2,?_,⟨n,by omega,by omega⟩,fun j hj ho=>?_⟩
      ·rw[leastTo,if_pos h,h1];omega
      ·rcases Nat.lt_or_eq_of_le (Nat.le_of_lt_succ hj)with h5 | h5
       ·have:=h4 j h5 ho;omega
       ·rw[h5];omega
     ·refine .inr ⟨q,by rw[leastTo,if_pos h,h1];omega,⟨i,by omega,h3⟩,fun j hj ho=>?_⟩
      rcases Nat.lt_or_eq_of_le (Nat.le_of_lt_succ hj)with h5 | h5
      ·exact h4 j h5 ho
      ·rw[h5];omega
    ·refine .inr ⟨q,by rw[leastTo,if_neg h,h1],⟨i,by omega,h3⟩,fun j hj ho=>?_⟩
     rcases Nat.lt_or_eq_of_le (Nat.le_of_lt_succ hj)with h5 | h5
     ·exact h4 j h5 ho
     ·rw[h5]at ho;exact absurd ho h
theorem top_even (V:Nat→Int)(hV:∀i,0≤V i∧V i≤1000):∀n,(∀i,i<n→V i % 2≠1)→topTo V n % 2=0
 | 0,_=>rfl
 | n+1,h=>by
   have ih:=top_even V hV n (fun i hi=>h i (by omega));have:=h n (by omega);have:=hV n;rw[topTo]
   rcases Int.le_total (topTo V n) (V n)with h5 | h5
   ·rw[Int.max_eq_right h5];omega
   ·rw[Int.max_eq_left h5];exact ih
def seg (a n:Nat):List Nat:=(List.range n).map (fun t=>t+a)
theorem seg_len (a n:Nat):(seg a n).length=n:=by simp[seg]
theorem seg_mem {a n x:Nat}(h:x∈seg a n):∃t,t<n∧x=t+a:=by
 obtain⟨t,h1,h2⟩:=List.mem_map.1 h;exact⟨t,List.mem_range.1 h1,h2.symm⟩
theorem ordD_seg (V:Nat→Int)(a n:Nat):(ordD (fun t=>V (a+t)) n).map (fun t=>t+a)=tds V 1 (topTo (fun t=>V (a+t)) n).toNat (seg a n):=by
 rw[ordD,seg,tds_map V (fun t=>t+a) 1];have e:(fun x=>V (x+a))=(fun t=>V (a+t)):=by funext x;rw[Nat.add_comm]
 rw[e]
theorem ord_none (V:Nat→Int)(hV:∀i,0≤V i∧V i≤1000)(a n:Nat)(h:∀i,i<n→V (a+i) % 2≠1):(ordD (fun t=>V (a+t)) n).map (fun t=>t+a)=seg a n:=by
 have ht:=top_even (fun t=>V (a+t)) (fun i=>hV _) n h;have h0:=topTo_le (fun t=>V (a+t)) 1000 (by omega) (fun k=>(hV _).2) n;rw[ordD_seg];refine tds_none V _ _ (by omega) (fun x hx j=>?_);obtain⟨t,h1,rfl⟩:=seg_mem hx;have:=h t h1;rw[Nat.add_comm t a];omega
theorem ord_least (V:Nat→Int)(a n q:Nat)(h1:∃i,i<n∧V (a+i)=2 * (q:Int)+1)(h2:∀i,i<n→V (a+i) % 2=1→2 * (q:Int)+1≤V (a+i)):2 * q+1≤(topTo (fun t=>V (a+t)) n).toNat∧(ordD (fun t=>V (a+t)) n).map (fun t=>t+a)=tds V (2 * q+1) ((topTo (fun t=>V (a+t)) n).toNat - 2 * q) (seg a n):=by
 obtain⟨i,hi,hv⟩:=h1;have hq:2 * q+1≤(topTo (fun t=>V (a+t)) n).toNat:=by
  have:=topTo_ge (fun t=>V (a+t)) n i hi;omega
 refine⟨hq,?_⟩;rw[ordD_seg];refine tds_least V _ _ q hq (fun x hx j hj=>?_);obtain⟨t,h3,rfl⟩:=seg_mem hx;intro e;have:=h2 t h3 (by rw[Nat.add_comm a t];omega);rw[Nat.add_comm a t]at this;omega
theorem left_any (V:List Int)(gV nV cV x:Nat)(v0 v2:Value)(w:World)(hx:x<nV)(hV:rowAt w gV nV V)(h0:0≤nth V x) :
 Calls Tryz.prog 153 #[.agg #[v0,.slice (some ⟨gV,0,none⟩) nV cV,v2],.int .i64 (x:Nat)] w fun e w'=>e=.returned (.bool (nth V x % 2 == 1))∧Fr [] w w':=by
 have c3:=hV x hx;have hgl:=World.block_lt_of_cell? _ _ c3;have hxI:(x:Int)<(nV:Int):=by omega
 generalize nth V x=y at *;clear hV;go_enter Tryz.func153,Tryz.ntmps153;go_wp2;go_ret;exact⟨rfl,by first | exact(Fr.refl [] w).alloc _ | exact Fr.refl _ _⟩
end Go.Proofs.YtnakejhohdbfdabGreatDoor
