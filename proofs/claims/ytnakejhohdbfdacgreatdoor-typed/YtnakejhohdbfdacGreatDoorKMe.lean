import Derived.Test.YtnakejhohdbfdacGreatDoorKMd
import Derived.Test.YtnakejhohdbfdacGreatDoorKMa
namespace Go.Proofs.YtnakejhohdbfdacGreatDoor
open Go.RowKit Lev
theorem fn82_any (c:Int)(w:World):Calls Tryz.prog 202 #[.int .i64 c] w fun e w'=>e=.returned (.bool (ini c))∧w'=w:=by
 go_enter Tryz.func202,Tryz.ntmps202;go_wp2
 all_goals go_ret
 all_goals refine⟨retB ?_,rfl⟩
 all_goals simp[ini, *]
theorem fn89_any (c:Int)(w:World):Calls Tryz.prog 198 #[.int .i64 c] w fun e w'=>e=.returned (.bool (ini c || c == 22))∧w'=w:=by
 generalize hi:ini c=b;have HI:=hid hi;clear hi;cases b
 all_goals (
  go_enter Tryz.func198,Tryz.ntmps198
  go_wp2_with (go_at_call 202;refine(fn82_any _ _).mono ?_;rintro e w' ⟨rfl,rfl⟩;rw[HI.out]))
 all_goals go_ret
 all_goals refine⟨retB ?_,rfl⟩
 all_goals simp
theorem fn76_any (c:Int)(w:World):Calls Tryz.prog 196 #[.int .i64 c] w fun e w'=>e=.returned (.bool (gone c))∧w'=w:=by
 have HG:=hid (show gone c=decide (c=9∨c=14∨c=15∨c=16∨c=17∨c=18) by unfold gone;simp[Bool.decide_or,Bool.or_assoc];rfl);generalize gone c=g at *;go_enter Tryz.func196,Tryz.ntmps196;go_wp2
 all_goals go_ret
 all_goals refine⟨retB ?_,rfl⟩
 all_goals (rw[HG.out];simp only[beq_iff_eq,beq_eq_false_iff_ne,ne_eq]at *;first | (rw[decide_eq_true (by omega)];done) | (rw[decide_eq_false (by omega)];done))
theorem fn72_any (c:Int)(w:World):Calls Tryz.prog 192 #[.int .i64 c] w fun e w'=>e=.returned (.bool (isNd c))∧w'=w:=by
 have HG:=hid (show isNd c=decide (c=10∨c=11∨c=12∨c=13∨c=19∨c=20∨c=21∨c=22) by unfold isNd;simp[Bool.decide_or,Bool.or_assoc];rfl);generalize isNd c=g at *;go_enter Tryz.func192,Tryz.ntmps192;go_wp2
 all_goals go_ret
 all_goals refine⟨retB ?_,rfl⟩
 all_goals (rw[HG.out];simp only[beq_iff_eq,beq_eq_false_iff_ne,ne_eq]at *;first | (rw[decide_eq_true (by omega)];done) | (rw[decide_eq_false (by omega)];done))
theorem fn67_any (c:Int)(w:World):Calls Tryz.prog 187 #[.int .i64 c] w fun e w'=>e=.returned (.int .i64 (side c))∧w'=w:=by
 go_enter Tryz.func187,Tryz.ntmps187;go_wp2
 all_goals go_ret
 all_goals refine⟨retI ?_,rfl⟩
 all_goals (simp only[beq_iff_eq,beq_eq_false_iff_ne,ne_eq]at *;(try subst c);simp[side, *])
theorem fn91_any (r:Int)(w:World):Calls Tryz.prog 210 #[.int .i32 r] w fun e w'=>e=.returned (.int .i32 (closeOf r))∧w'=w:=by
 go_enter Tryz.func210,Tryz.ntmps210;go_wp2
 all_goals go_ret
 all_goals refine⟨retI ?_,rfl⟩
 all_goals (simp only[beq_iff_eq,beq_eq_false_iff_ne,ne_eq]at *;(try subst r);simp[closeOf, *])
theorem fn86_any (c:Int)(w:World):Calls Tryz.prog 206 #[.int .i64 c] w fun e w'=>e=.returned (.int .i64 (ovOf c))∧w'=w:=by
 go_enter Tryz.func206,Tryz.ntmps206;go_wp2
 all_goals go_ret
 all_goals refine⟨retI ?_,rfl⟩
 all_goals (simp only[beq_iff_eq,beq_eq_false_iff_ne,ne_eq]at *;(try subst c);simp[ovOf, *])
theorem fn45_any (b:Bool)(w:World):Calls Tryz.prog 165 #[.bool b] w fun e w'=>e=.returned (.int .i64 (if b then 1 else 0))∧w'=w:=by
 cases b
 all_goals (
  go_enter Tryz.func165,Tryz.ntmps165
  go_wp2
  go_ret
  exact⟨rfl,rfl⟩)
theorem fn90_any (c:Int)(w:World):Calls Tryz.prog 209 #[.int .i64 c] w fun e w'=>e=.returned (.bool (isET c))∧w'=w:=by
 go_enter Tryz.func209,Tryz.ntmps209;go_wp2
 all_goals go_ret
 all_goals exact⟨retB rfl,rfl⟩
theorem fn53_any (l b:Int)(w:World)(hl:0≤l):Calls Tryz.prog 173 #[.int .i64 l,.int .i64 b] w fun e w'=>e=.returned (.int .i64 (way (max l b)))∧w'=w:=by
 have HW:=hid (show way (max l b)=if max l b % 2=1 then 1 else 0 from rfl);generalize way (max l b)=v at *;go_enter Tryz.func173,Tryz.ntmps173;go_wp2
 all_goals go_ret
 all_goals refine⟨retI ?_,rfl⟩
 all_goals (rw[HW.out];simp only[beq_iff_eq,beq_eq_false_iff_ne,ne_eq]at *;split <;> omega)
end Go.Proofs.YtnakejhohdbfdacGreatDoor
namespace Go.Proofs.YtnakejhohdbfdacGreatDoor
open Go.RowKit Lev
structure UH where
 U:Nat
 n:Nat
 R:List Int
 K:List Int
structure US (w:World)(q:UH)(C L:List Int):Prop where
 r:∀i,i<q.n→w.cell? ⟨q.U,i * 4,none⟩=some (.int .i32 (nth q.R i))
 k:∀i,i<q.n→w.cell? ⟨q.U,i * 4+1,none⟩=some (.int .i64 (nth q.K i))
 c:∀i,i<q.n→w.cell? ⟨q.U,i * 4+2,none⟩=some (.int .i64 (nth C i))
 l:∀i,i<q.n→w.cell? ⟨q.U,i * 4+3,none⟩=some (.int .i64 (nth L i))
 soft:∀j,j<q.n * 4→w.frozen? ⟨q.U,j,none⟩=false
 lC:C.length=q.n
 lL:L.length=q.n
structure SS (w:World)(q:UH)(S Q cQ:Nat)(s:Sq)(lv:Int):Prop where
 c0:w.cell? ⟨S,0,none⟩=some (.slice (some ⟨Q,0,none⟩) s.I.length cQ)
 c1:w.cell? ⟨S,1,none⟩=some (.int .i64 lv)
 c2:w.cell? ⟨S,2,none⟩=some (.int .i64 s.bef)
 c3:w.cell? ⟨S,3,none⟩=some (.int .i64 s.aft)
 p:∀k,k<s.I.length→w.cell? ⟨Q,k,none⟩=some (.pointer (some ⟨q.U,nix s.I k * 4,none⟩))
 lt:∀k,k<s.I.length→nix s.I k<q.n
 ne:S≠q.U∧Q≠q.U
 sm:s.I.length≤1000000
 cp:s.I.length≤cQ
theorem SS.fr {T:List Nat}{w w':World}{q:UH}{S Q cQ:Nat}{s:Sq}{lv:Int}(h:SS w q S Q cQ s lv)(hf:Fr T w w')(hS:S ∉ T)(hQ:Q ∉ T):SS w' q S Q cQ s lv :=
 ⟨hf.cell h.c0 hS,hf.cell h.c1 hS,hf.cell h.c2 hS,hf.cell h.c3 hS,fun k hk=>hf.cell (h.p k hk) hQ,h.lt,h.ne,h.sm,h.cp⟩
theorem US.fr {T:List Nat}{w w':World}{q:UH}{C L:List Int}(h:US w q C L)(hf:Fr T w w')(hU:q.U ∉ T):US w' q C L:=by
 refine⟨fun i hi=>hf.cell (h.r i hi) hU,fun i hi=>hf.cell (h.k i hi) hU,fun i hi=>hf.cell (h.c i hi) hU,fun i hi=>hf.cell (h.l i hi) hU,fun j hj=>?_,h.lC,h.lL⟩;have hb:q.U<w.heap.size:=World.block_lt_of_cell? _ _ (h.r 0 (by omega));exact(World.frozen?_of_block (a:=⟨q.U,j,none⟩) (hf.block q.U hb hU)).trans (h.soft j hj)
theorem US.setC {w:World}{q:UH}{C L:List Int}(h:US w q C L){i:Nat}(hi:i<q.n)(v:Int):US (w.setCell ⟨q.U,i * 4+2,none⟩ (.int .i64 v)) q (C.set i v) L:=by
 have other:∀ {o:Nat} {x:Value},o≠i * 4+2→w.cell? ⟨q.U,o,none⟩=some x→(w.setCell ⟨q.U,i * 4+2,none⟩ (.int .i64 v)).cell? ⟨q.U,o,none⟩=some x:=fun ho hx=>by
  rw[World.cell?_setCell_other _ _ _ _ (fun e=>ho (by cases e;rfl))];exact hx
 refine⟨fun j hj=>other (by omega) (h.r j hj),fun j hj=>other (by omega) (h.k j hj),fun j hj=>?_,fun j hj=>other (by omega) (h.l j hj),fun j hj=>by rw[World.frozen?_setCell];exact h.soft j hj,by rw[List.length_set];exact h.lC,h.lL⟩;rw[nth_set C i v j (by rw[h.lC];exact hi)];by_cases e:j=i
 ·subst e;rw[if_pos rfl,World.cell?_setCell_same _ _ _ (h.c j hj)]
 ·rw[if_neg e];exact other (by omega) (h.c j hj)
theorem US.setL {w:World}{q:UH}{C L:List Int}(h:US w q C L){i:Nat}(hi:i<q.n)(v:Int):US (w.setCell ⟨q.U,i * 4+3,none⟩ (.int .i64 v)) q C (L.set i v):=by
 have other:∀ {o:Nat} {x:Value},o≠i * 4+3→w.cell? ⟨q.U,o,none⟩=some x→(w.setCell ⟨q.U,i * 4+3,none⟩ (.int .i64 v)).cell? ⟨q.U,o,none⟩=some x:=fun ho hx=>by
  rw[World.cell?_setCell_other _ _ _ _ (fun e=>ho (by cases e;rfl))];exact hx
 refine⟨fun j hj=>other (by omega) (h.r j hj),fun j hj=>other (by omega) (h.k j hj),fun j hj=>other (by omega) (h.c j hj),fun j hj=>?_,fun j hj=>by rw[World.frozen?_setCell];exact h.soft j hj,h.lC,by rw[List.length_set];exact h.lL⟩;rw[nth_set L i v j (by rw[h.lL];exact hi)];by_cases e:j=i
 ·subst e;rw[if_pos rfl,World.cell?_setCell_same _ _ _ (h.l j hj)]
 ·rw[if_neg e];exact other (by omega) (h.l j hj)
theorem fn73_any (q:UH)(C L:List Int)(S Q cQ:Nat)(s:Sq)(lv:Int)(k:Nat)(w:World)(hu:US w q C L)(hs:SS w q S Q cQ s lv)(hk:k≤s.I.length) :
 Calls Tryz.prog 193 #[.pointer (some ⟨S,0,none⟩),.int .i64 k] w fun e w'=>e=.returned (.int .i64 (ah s C k))∧w'=w:=by
 have c0:=hs.c0;have c2:=hs.c2
 rcases Nat.eq_zero_or_pos k with h0 | h0
 ·subst h0
  rw[show ah s C 0=s.bef from rfl];go_enter Tryz.func193,Tryz.ntmps193;go_wp2;go_ret;exact⟨rfl,rfl⟩
 ·obtain⟨j,hj⟩:∃j,k=j+1:=⟨k - 1,by omega⟩
  have p1:=hs.p j (by omega);have p2:=hu.c _ (hs.lt j (by omega));have sm:=hs.sm;rw[show ah s C k=nth C (nix s.I j) by rw[hj,ah,if_neg (by omega)];rfl];generalize nth C (nix s.I j)=y at *;generalize nix s.I j=i at *;have hz:(k:Int) - 1=(j:Int):=by omega
  have hz2:¬(k:Int)=0:=by omega
  have hz3:¬k=0:=by omega
  have hjm:j<s.I.length:=by omega
  generalize s.I.length=m at *;clear hu hs hj;go_enter Tryz.func193,Tryz.ntmps193;go_wp2;go_ret;exact⟨rfl,rfl⟩
theorem fn74_any (q:UH)(C L:List Int)(S Q cQ:Nat)(s:Sq)(lv:Int)(k:Nat)(w:World)(hu:US w q C L)(hs:SS w q S Q cQ s lv)(hk:k≤s.I.length) :
 Calls Tryz.prog 194 #[.pointer (some ⟨S,0,none⟩),.int .i64 k] w fun e w'=>e=.returned (.int .i64 (att s C k))∧w'=w:=by
 have c0:=hs.c0;have c3:=hs.c3;have sm:=hs.sm
 rcases Nat.lt_or_ge k s.I.length with h0 | h0
 ·have p1:=hs.p k h0
  have p2:=hu.c _ (hs.lt k h0);rw[show att s C k=nth C (nix s.I k) by rw[att,if_pos h0]];generalize nth C (nix s.I k)=y at *;generalize nix s.I k=i at *;generalize s.I.length=m at *;have hz:¬(k:Int)=(m:Int):=by omega
  have hz2:¬k=m:=by omega
  clear hu hs hk;go_enter Tryz.func194,Tryz.ntmps194;go_wp2;go_ret;exact⟨rfl,rfl⟩
 ·rw[show att s C k=s.aft by rw[att,if_neg (by omega)]]
  have hz:k=s.I.length:=by omega
  rw[hz];generalize s.I.length=m at *;clear hu hs hk;go_enter Tryz.func194,Tryz.ntmps194;go_wp2;go_ret;exact⟨rfl,rfl⟩
theorem fn68_any (q:UH)(S Q cQ:Nat)(s:Sq)(lv:Int)(w:World)(hs:SS w q S Q cQ s lv)(hl:0≤lv) :
 Calls Tryz.prog 188 #[.pointer (some ⟨S,0,none⟩)] w fun e w'=>e=.returned (.int .i64 (way lv))∧∃m,w'=w.drewN m:=by
 have c1:=hs.c1;have HC:=hid (fun w=>fn53_any lv lv w hl);rw[show max lv lv=lv by omega]at HC;clear hs;go_enter Tryz.func188,Tryz.ntmps188;go_wp2;go_quiet (first | (go_at_call 173;exact Calls.quiet_of_same (HC.out _)));go_wp2;go_ret;exact⟨rfl,_,rfl⟩
end Go.Proofs.YtnakejhohdbfdacGreatDoor
namespace Go.Proofs.YtnakejhohdbfdacGreatDoor
open Go.RowKit Lev
theorem al_facts' (I:List Nat)(C:List Int)(k:Nat):(cl I C k=2→alStep I C k=put I C k 1)∧(¬cl I C k=2→alStep I C k=C) :=
 ⟨fun h=>by rw[alStep,if_pos h],fun h=>by rw[alStep,if_neg h]⟩
set_option maxHeartbeats 4000000 in
theorem fn60_any (q:UH)(C L:List Int)(S Q cQ:Nat)(s:Sq)(lv:Int)(w:World)(hu:US w q C L)(hs:SS w q S Q cQ s lv) :
 Calls Tryz.prog 180 #[.pointer (some ⟨S,0,none⟩)] w fun e w'=>e=.returned (.tuple #[])∧US w' q (alTo s.I s.I.length C) L∧Fr [q.U] w w':=by
 have c0:=hs.c0;have sm:=hs.sm;have nS:=hs.ne.1;have nQ:=hs.ne.2;have HU:=hid hu;have HS:=hid hs;obtain⟨m,hm⟩:∃m,m=s.I.length:=⟨_,rfl⟩;have HM:=hid hm;rw[←hm]at c0 sm ⊢;clear hu hs hm;go_enter Tryz.func180,Tryz.ntmps180;go_wp2;go_loopw [9] (fun a wr=>∃(k:Nat),a=.int .i64 k∧k≤m∧Hid (US wr q (alTo s.I k C) L)∧Hid (Fr [q.U] w wr)) (fun a _=>m - (intOf a).toNat)
 case atStart=>exact⟨0,rfl,Nat.zero_le _,HU,hid (Fr.refl _ _)⟩
 case round =>
  obtain⟨k,rfl,hk,HP,HF⟩:=hrel;by_cases hlt:k<m
  ·have hs':=HS.out.fr HF.out (fun h=>nS (List.mem_singleton.1 h)) (fun h=>nQ (List.mem_singleton.1 h))
   have p1:=hs'.p k (by rw[←HM.out];exact hlt);have hi:=hs'.lt k (by rw[←HM.out];exact hlt);have p2:=HP.out.c _ hi;have p3:=HP.out.soft (nix s.I k * 4+2) (by omega);have HSC:=hid (fun z=>HP.out.setC hi z);have HST:=hid (show alTo s.I (k+1) C=alStep s.I (alTo s.I k C) k from rfl);have HNS:=hid (al_facts' s.I (alTo s.I k C) k);rw[←HST.out]at HNS;generalize hN2:alTo s.I (k+1) C=N2 at *;have HN2:=hid hN2;clear hN2 hs' HST;generalize alTo s.I k C=N at *;dsimp only[cl,put]at *;generalize nix s.I k=i at *;generalize nth N i=y at *;by_cases hy:y=2
   ·have HN:=hid (HNS.out.1 hy)
    subst hy;go_wp2;go_roundw
    case rel=>exact⟨k+1,by go_num,by omega,hid (by rw[HN2.out,HN.out];exact HSC.out 1),hid (HF.out.set (List.mem_singleton.2 rfl) _)⟩
    case measure=>simp[intOf];omega
   ·have HN:=hid (HNS.out.2 hy)
    go_wp2;go_roundw
    case rel=>exact⟨k+1,by go_num,by omega,hid (by rw[HN2.out,HN.out];exact HP.out),HF⟩
    case measure=>simp[intOf];omega
  ·have hk2:k=m:=by omega
   have HPZ:=hid (show US wr q (alTo s.I m C) L by rw[←hk2];exact HP.out);clear hk2;go_wp2;go_end0;exact⟨rfl,HPZ.out,HF.out⟩
end Go.Proofs.YtnakejhohdbfdacGreatDoor
namespace Go.Proofs.YtnakejhohdbfdacGreatDoor
open Go.RowKit Lev
theorem su_k {w wr:World}{q:UH}{C L:List Int}{S Q cQ:Nat}{s:Sq}{lv:Int}(hu:US wr q C L)(hs:SS w q S Q cQ s lv)(hf:Fr [q.U] w wr){k:Nat}(hk:k<s.I.length) :
 nix s.I k<q.n∧wr.cell? ⟨Q,k,none⟩=some (.pointer (some ⟨q.U,nix s.I k * 4,none⟩))∧wr.cell? ⟨q.U,nix s.I k * 4+2,none⟩=some (.int .i64 (nth C (nix s.I k)))∧wr.frozen? ⟨q.U,nix s.I k * 4+2,none⟩=false∧wr.cell? ⟨q.U,nix s.I k * 4+1,none⟩=some (.int .i64 (nth q.K (nix s.I k))) :=
 have hs':=hs.fr hf (fun h=>hs.ne.1 (List.mem_singleton.1 h)) (fun h=>hs.ne.2 (List.mem_singleton.1 h));have hi:=hs'.lt k hk
 ⟨hi,hs'.p k hk,hu.c _ hi,hu.soft _ (by omega),hu.k _ hi⟩
theorem SS.frU {w wr:World}{q:UH}{S Q cQ:Nat}{s:Sq}{lv:Int}(hs:SS w q S Q cQ s lv)(hf:Fr [q.U] w wr):SS wr q S Q cQ s lv :=
 hs.fr hf (fun h=>hs.ne.1 (List.mem_singleton.1 h)) (fun h=>hs.ne.2 (List.mem_singleton.1 h))
theorem loose_facts (I:List Nat)(C:List Int)(k:Nat):(cl I C k=4∨cl I C k=5∨cl I C k=7→looseStep I C k=put I C k 13)∧(¬(cl I C k=4∨cl I C k=5∨cl I C k=7)→looseStep I C k=C) :=
 ⟨fun h=>by rw[looseStep,if_pos h],fun h=>by rw[looseStep,if_neg h]⟩
set_option linter.unusedSimpArgs false in
set_option maxHeartbeats 4000000 in
theorem fn63_any (q:UH)(C L:List Int)(S Q cQ:Nat)(s:Sq)(lv:Int)(w:World)(hu:US w q C L)(hs:SS w q S Q cQ s lv) :
 Calls Tryz.prog 183 #[.pointer (some ⟨S,0,none⟩)] w fun e w'=>e=.returned (.tuple #[])∧US w' q (looseTo s.I s.I.length C) L∧Fr [q.U] w w':=by
 have c0:=hs.c0;have sm:=hs.sm;have HU:=hid hu;have HS:=hid hs;obtain⟨m,hm⟩:∃m,m=s.I.length:=⟨_,rfl⟩;have HM:=hid hm;rw[←hm]at c0 sm ⊢;clear hu hs hm;go_enter Tryz.func183,Tryz.ntmps183;go_wp2;go_loopw [9] (fun a wr=>∃(k:Nat),a=.int .i64 k∧k≤m∧Hid (US wr q (looseTo s.I k C) L)∧Hid (Fr [q.U] w wr)) (fun a _=>m - (intOf a).toNat)
 case atStart=>exact⟨0,rfl,Nat.zero_le _,HU,hid (Fr.refl _ _)⟩
 case round =>
  obtain⟨k,rfl,hk,HP,HF⟩:=hrel;by_cases hlt:k<m
  ·obtain⟨hi,p1,p2,p3,p4⟩:=su_k HP.out HS.out HF.out (show k<s.I.length by rw[←HM.out];exact hlt)
   have HSC:=hid (fun z=>HP.out.setC hi z);have HST:=hid (show looseTo s.I (k+1) C=looseStep s.I (looseTo s.I k C) k from rfl);have HNS:=hid (loose_facts s.I (looseTo s.I k C) k);rw[←HST.out]at HNS;generalize hN2:looseTo s.I (k+1) C=N2 at *;have HN2:=hid hN2;clear hN2 HST p4;generalize looseTo s.I k C=N at *;dsimp only[cl,put]at *;generalize nix s.I k=i at *;generalize nth N i=y at *;by_cases hy:y=4∨y=5∨y=7
   ·have HN:=hid (HNS.out.1 hy)
    rcases hy with rfl | rfl | rfl
    all_goals (
     go_wp2
     go_roundw
     case rel=>exact⟨k+1,by go_num,by omega,hid (by rw[HN2.out,HN.out];exact HSC.out 13),hid (HF.out.set (List.mem_singleton.2 rfl) _)⟩
     case measure=>simp[intOf];omega)
   ·have HN:=hid (HNS.out.2 hy)
    have y4:¬y=4:=fun h=>hy (.inl h)
    have y5:¬y=5:=fun h=>hy (.inr (.inl h))
    have y7:¬y=7:=fun h=>hy (.inr (.inr h))
    clear hy;go_wp2;go_roundw
    case rel=>exact⟨k+1,by go_num,by omega,hid (by rw[HN2.out,HN.out];exact HP.out),HF⟩
    case measure=>simp[intOf];omega
  ·have hk2:k=m:=by omega
   have HPZ:=hid (show US wr q (looseTo s.I m C) L by rw[←hk2];exact HP.out);clear hk2;go_wp2;go_end0;exact⟨rfl,HPZ.out,HF.out⟩
theorem num_facts (I:List Nat)(letter v:Int)(x:Int)(C:List Int)(k:Nat) :
 (cl I C k=0∨cl I C k=1∨cl I C k=2→numStep I true letter v (x,C) k=(cl I C k,C)) ∧
 (cl I C k=3→x=letter→numStep I true letter v (x,C) k=(x,put I C k v)) ∧
 (cl I C k=3→¬x=letter→numStep I true letter v (x,C) k=(x,C)) ∧
 (¬(cl I C k=0∨cl I C k=1∨cl I C k=2)→¬cl I C k=3→numStep I true letter v (x,C) k=(x,C)):=by
 refine⟨fun h=>?_,fun h h1=>?_,fun h h1=>?_,fun h h1=>?_⟩
 ·rw[numStep,if_pos (by rcases h with h | h | h;exact .inl h;exact .inr (.inl h);exact .inr (.inr ⟨rfl,h⟩))]
 ·rw[numStep,if_neg (by dsimp only;omega),if_pos ⟨h,h1⟩]
 ·rw[numStep,if_neg (by dsimp only;omega),if_neg (fun h2=>h1 h2.2)]
 ·rw[numStep,if_neg (by rintro (h2 | h2 | h2);exact h (.inl h2);exact h (.inr (.inl h2));exact h (.inr (.inr h2.2))),if_neg (fun h2=>h1 h2.1)]
set_option linter.unusedSimpArgs false in
set_option maxHeartbeats 4000000 in
theorem fn59_any (q:UH)(C L:List Int)(S Q cQ:Nat)(s:Sq)(lv:Int)(letter v:Int)(w:World)(hu:US w q C L)(hs:SS w q S Q cQ s lv) :
 Calls Tryz.prog 179 #[.pointer (some ⟨S,0,none⟩),.int .i64 letter,.int .i64 v] w fun e w'=>e=.returned (.tuple #[])∧US w' q (numsTo s.I true letter v s.I.length (s.bef,C)).2 L∧Fr [q.U] w w':=by
 have c0:=hs.c0;have c2:=hs.c2;have sm:=hs.sm;have HU:=hid hu;have HS:=hid hs;obtain⟨m,hm⟩:∃m,m=s.I.length:=⟨_,rfl⟩;have HM:=hid hm;rw[←hm]at c0 sm ⊢;clear hu hs hm;go_enter Tryz.func179,Tryz.ntmps179;go_wp2;go_loopw [6,18] (fun x a wr=>∃(k:Nat),x=.int .i64 (numsTo s.I true letter v k (s.bef,C)).1∧a=.int .i64 k∧k≤m∧Hid (US wr q (numsTo s.I true letter v k (s.bef,C)).2 L)∧Hid (Fr [q.U] w wr)) (fun _ a _=>m - (intOf a).toNat)
 case atStart=>exact⟨0,rfl,rfl,Nat.zero_le _,HU,hid (Fr.refl _ _)⟩
 case round =>
  obtain⟨k,rfl,rfl,hk,HP,HF⟩:=hrel;by_cases hlt:k<m
  ·have HST:=hid (show numsTo s.I true letter v (k+1) (s.bef,C)=numStep s.I true letter v (numsTo s.I true letter v k (s.bef,C)) k from rfl)
   generalize hN2:numsTo s.I true letter v (k+1) (s.bef,C)=N2 at *;have HN2:=hid hN2;clear hN2;generalize numsTo s.I true letter v k (s.bef,C)=N at *;obtain⟨x,N⟩:=N;dsimp only at *;obtain⟨hi,p1,p2,p3,p4⟩:=su_k HP.out HS.out HF.out (show k<s.I.length by rw[←HM.out];exact hlt);have HSC:=hid (fun z=>HP.out.setC hi z);have HNS:=hid (num_facts s.I letter v x N k);rw[←HST.out]at HNS;clear HST p4;dsimp only[cl,put]at *;generalize nix s.I k=i at *;generalize nth N i=y at *;by_cases hy:y=0∨y=1∨y=2
   ·have HN:=hid (HNS.out.1 hy)
    rcases hy with rfl | rfl | rfl
    all_goals (
     go_wp2
     go_roundw
     case rel=>exact⟨k+1,by rw[HN2.out,HN.out],by go_num,by omega,hid (by rw[HN2.out,HN.out];exact HP.out),HF⟩
     case measure=>simp[intOf];omega)
   ·have y0:¬y=0:=fun h=>hy (.inl h)
    have y1:¬y=1:=fun h=>hy (.inr (.inl h))
    have y2:¬y=2:=fun h=>hy (.inr (.inr h))
    by_cases h3:y=3
    ·by_cases hx:x=letter
     ·have HN:=hid (HNS.out.2.1 h3 hx)
      subst h3;subst hx;clear hy;go_wp2;go_roundw
      case rel=>exact⟨k+1,by rw[HN2.out,HN.out],by go_num,by omega,hid (by rw[HN2.out,HN.out];exact HSC.out v),hid (HF.out.set (List.mem_singleton.2 rfl) _)⟩
      case measure=>simp[intOf];omega
     ·have HN:=hid (HNS.out.2.2.1 h3 hx)
      subst h3;clear hy;go_wp2;go_roundw
      case rel=>exact⟨k+1,by rw[HN2.out,HN.out],by go_num,by omega,hid (by rw[HN2.out,HN.out];exact HP.out),HF⟩
      case measure=>simp[intOf];omega
    ·have HN:=hid (HNS.out.2.2.2 hy h3)
     clear hy;go_wp2;go_roundw
     case rel=>exact⟨k+1,by rw[HN2.out,HN.out],by go_num,by omega,hid (by rw[HN2.out,HN.out];exact HP.out),HF⟩
     case measure=>simp[intOf];omega
  ·have hk2:k=m:=by omega
   have HPZ:=hid (show US wr q (numsTo s.I true letter v m (s.bef,C)).2 L by rw[←hk2];exact HP.out);clear hk2;go_wp2;go_end0;exact⟨rfl,HPZ.out,HF.out⟩
set_option maxHeartbeats 4000000 in
theorem fn75_any (q:UH)(C L:List Int)(S Q cQ:Nat)(s:Sq)(lv:Int)(a b:Nat)(v:Int)(w:World)(hu:US w q C L)(hs:SS w q S Q cQ s lv)(hab:a<b)(hb:b≤s.I.length) :
 Calls Tryz.prog 195 #[.pointer (some ⟨S,0,none⟩),.int .i64 a,.int .i64 b,.int .i64 v] w fun e w'=>e=.returned (.tuple #[])∧US w' q (fillTo s.I a v (b - a) C) L∧Fr [q.U] w w':=by
 have c0:=hs.c0;have sm:=hs.sm;have cp:=hs.cp;have HU:=hid hu;have HS:=hid hs;obtain⟨m,hm⟩:∃m,m=s.I.length:=⟨_,rfl⟩;have HM:=hid hm;rw[←hm]at c0 sm hb cp;have hI1:(a:Int)≤(b:Int):=by omega
 have hI2:(b:Int)≤(cQ:Int):=by omega
 have hI3:(b:Int)≤(m:Int):=by omega
 have hca:¬cQ=a:=by omega
 obtain⟨d,hd⟩:∃d,b - a=d:=⟨_,rfl⟩;rw[hd];have hdm:a+d≤m:=by omega
 clear hu hs hm;go_enter Tryz.func195,Tryz.ntmps195;go_wp2;clear hd hca;go_loopw [18] (fun x wr=>∃(k:Nat),x=.int .i64 k∧k≤d∧Hid (US wr q (fillTo s.I a v k C) L)∧Hid (Fr [q.U] w wr)) (fun x _=>d - (intOf x).toNat)
 case atStart=>exact⟨0,rfl,Nat.zero_le _,HU,hid (Fr.refl _ _)⟩
 case round =>
  obtain⟨k,rfl,hk,HP,HF⟩:=hrel;by_cases hlt:k<d
  ·obtain⟨hi,p1,p2,p3,p4⟩:=su_k HP.out HS.out HF.out (show a+k<s.I.length by rw[←HM.out];omega)
   have HSC:=hid (fun z=>HP.out.setC hi z);have HST:=hid (show fillTo s.I a v (k+1) C=put s.I (fillTo s.I a v k C) (a+k) v from rfl);generalize hN2:fillTo s.I a v (k+1) C=N2 at *;have HN2:=hid hN2;clear hN2 p4;generalize fillTo s.I a v k C=N at *;dsimp only[cl,put]at *;generalize nix s.I (a+k)=i at *;generalize nth N i=y at *;go_wp2;go_roundw
   case rel=>exact⟨k+1,by go_num,by omega,hid (by rw[HN2.out,HST.out];exact HSC.out v),hid (HF.out.set (List.mem_singleton.2 rfl) _)⟩
   case measure=>simp[intOf];omega
  ·have hk2:k=d:=by omega
   have HPZ:=hid (show US wr q (fillTo s.I a v d C) L by rw[←hk2];exact HP.out);clear hk2;go_wp2;go_end0;exact⟨rfl,HPZ.out,HF.out⟩
end Go.Proofs.YtnakejhohdbfdacGreatDoor
