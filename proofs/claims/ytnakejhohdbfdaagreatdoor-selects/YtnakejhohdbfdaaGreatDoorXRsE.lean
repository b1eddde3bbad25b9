import Derived.Test.YtnakejhohdbfdaaGreatDoorXMd
import Derived.Deep.RegionHeld
namespace Go.Proofs.YtnakejhohdbfdaaGreatDoor
open Go.RowKit Lev
theorem marksTo_succ (K:List Int)(s:Sq)(k:Nat)(C:List Int):marksTo K s (k+1) C=markStep K s (marksTo K s k C) k:=rfl
theorem markStep_no (K:List Int)(s:Sq)(C:List Int)(k:Nat)(h:¬cl s.I C k=8):markStep K s C k=C:=by rw[markStep,if_neg h]
theorem markStep_first (K:List Int)(s:Sq)(C:List Int)(h:cl s.I C 0=8):markStep K s C 0=put s.I C 0 s.bef:=by
 rw[markStep,if_pos h,if_neg (by omega)];rfl
theorem markStep_apart (K:List Int)(s:Sq)(C:List Int)(k:Nat)(h:cl s.I C (k+1)=8)(ha:ini (cl s.I K k)=true∨cl s.I K k=22):markStep K s C (k+1)=put s.I C (k+1) 13:=by
 rw[markStep,if_pos h,if_pos ⟨by omega,ha⟩]
theorem markStep_like (K:List Int)(s:Sq)(C:List Int)(k:Nat)(h:cl s.I C (k+1)=8)(ha:¬(ini (cl s.I K k)=true∨cl s.I K k=22)):markStep K s C (k+1)=put s.I C (k+1) (ah s C (k+1)):=by
 rw[markStep,if_pos h,if_neg (fun x=>ha x.2)]
theorem numStep_facts (I:List Nat)(letter v:Int)(q:Int × List Int)(k:Nat) :
 ((cl I q.2 k=0∨cl I q.2 k=1∨cl I q.2 k=2)→numStep I true letter v q k=(cl I q.2 k,q.2)) ∧
 (¬(cl I q.2 k=0∨cl I q.2 k=1∨cl I q.2 k=2)→(cl I q.2 k=3∧q.1=letter)→numStep I true letter v q k=(q.1,put I q.2 k v)) ∧
 (¬(cl I q.2 k=0∨cl I q.2 k=1∨cl I q.2 k=2)→¬(cl I q.2 k=3∧q.1=letter)→numStep I true letter v q k=q) :=
 ⟨fun h=>by rw[numStep,if_pos (by simpa using h)],fun h h2=>by rw[numStep,if_neg (by simpa using h),if_pos h2],fun h h2=>by rw[numStep,if_neg (by simpa using h),if_neg h2]⟩
theorem numStep_facts0 (I:List Nat)(letter v:Int)(q:Int × List Int)(k:Nat) :
 ((cl I q.2 k=0∨cl I q.2 k=1)→numStep I false letter v q k=(cl I q.2 k,q.2)) ∧
 (¬(cl I q.2 k=0∨cl I q.2 k=1)→(cl I q.2 k=3∧q.1=letter)→numStep I false letter v q k=(q.1,put I q.2 k v)) ∧
 (¬(cl I q.2 k=0∨cl I q.2 k=1)→¬(cl I q.2 k=3∧q.1=letter)→numStep I false letter v q k=q) :=
 ⟨fun h=>by rw[numStep,if_pos (by simpa using h)],fun h h2=>by rw[numStep,if_neg (by simpa using h),if_pos h2],fun h h2=>by rw[numStep,if_neg (by simpa using h),if_neg h2]⟩
theorem sep_edge (s:Sq)(C:List Int)(k:Nat)(hb:s.bef=0∨s.bef=1)(ha:s.aft=0∨s.aft=1)(h:k=0∨s.I.length≤k+1):sepStep s C k=C:=by
 rw[sepStep,if_neg];intro hh
 rcases h with h | h
 ·subst h
  have:ah s C 0=s.bef:=rfl;rw[this]at hh;omega
 ·have:att s C (k+1)=s.aft:=by rw[att,if_neg (by omega)]
  rw[this]at hh;omega
theorem sep_in (s:Sq)(C:List Int)(k:Nat)(h:k+1+1<s.I.length) :
 ((cl s.I C k=cl s.I C (k+1+1)∧((cl s.I C k=3∧(cl s.I C (k+1)=4∨cl s.I C (k+1)=7))∨(cl s.I C k=6∧cl s.I C (k+1)=7)))→sepStep s C (k+1)=put s.I C (k+1) (cl s.I C k)) ∧
 (¬(cl s.I C k=cl s.I C (k+1+1)∧((cl s.I C k=3∧(cl s.I C (k+1)=4∨cl s.I C (k+1)=7))∨(cl s.I C k=6∧cl s.I C (k+1)=7)))→sepStep s C (k+1)=C):=by
 have h1:ah s C (k+1)=cl s.I C k:=by rw[ah,if_neg (by omega)];rfl
 have h2:att s C (k+1+1)=cl s.I C (k+1+1):=by rw[att,if_pos h]
 refine⟨fun x=>?_,fun x=>?_⟩
 ·rw[sepStep,h1,h2,if_pos x]
 ·rw[sepStep,h1,h2,if_neg x]
theorem al_facts (I:List Nat)(C:List Int)(k:Nat):(cl I C k=2→alStep I C k=put I C k 1)∧(¬cl I C k=2→alStep I C k=C) :=
 ⟨fun h=>by rw[alStep,if_pos h],fun h=>by rw[alStep,if_neg h]⟩
theorem sep_last (s:Sq)(C:List Int)(k:Nat)(hb:s.bef=0∨s.bef=1)(ha:s.aft=0∨s.aft=1)(hk:k≤s.I.length)(h:s.I.length≤k+1):sepTo s s.I.length C=sepTo s k C:=by
 rcases Nat.lt_or_ge k s.I.length with h1 | h1
 ·rw[show s.I.length=k+1 by omega,sepTo];exact sep_edge s _ k hb ha (.inr h)
 ·rw[show k=s.I.length by omega]
set_option linter.unusedSimpArgs false in
set_option maxRecDepth 10000 in
set_option maxHeartbeats 16000000 in
theorem ref16_any (q:PH)(C L:List Int)(G:List Bool)(bI cI:Nat)(s:Sq)(w:World)(hs:PS w q C L G)(hI:IS w q bI s.I)(h0:0<s.I.length)(hb:s.bef=0∨s.bef=1)(ha:s.aft=0∨s.aft=1)
 (marks:∀(C:List Int) (w:World),PS w q C L G→IS w q bI s.I→Calls Tryz.prog 90 #[.pointer (some ⟨q.p,0,none⟩),sqV bI cI s] w fun e w'=>e=.returned (.tuple #[])∧PS w' q (looseTo s.I s.I.length (scan s.I isET (etAct s) C)) L G∧Fr [q.bC] w w') :
 Calls Tryz.prog 47 #[.pointer (some ⟨q.p,0,none⟩),sqV bI cI s] w fun e w'=>e=.returned (.tuple #[])∧PS w' q (weak q.K s C) L G∧Fr [q.bC] w w':=by
 have lp:=hs.lt;have sm:=hI.sm;have nC:=hs.neC.1;have nCF:=hs.neC.2.2.1;have nI:=hI.ne.1;have HS:=hid hs;have HI:=hid hI;obtain⟨R,hR⟩:∃R,R=weak q.K s C:=⟨_,rfl⟩;have HR:=hid hR;rw[←hR];obtain⟨m,hm⟩:∃m,m=s.I.length:=⟨_,rfl⟩;have HM:=hid hm;have HV:=hid (show sqV bI cI s=.agg #[.slice (some ⟨bI,0,none⟩) m cI,.int .i64 s.own,.int .i64 s.bef,.int .i64 s.aft] by rw[hm]);rw[HV.out];rw[←hm]at sm;have hm0:0<m:=by rw[hm];exact h0
 have hn0:0<q.n:=by have:=hI.lt 0 h0;omega
 have HBB:=hid hb;have HAA:=hid ha;have HMK:=hid marks;rw[HV.out]at HMK;clear hm hR hs hI h0 hb ha marks
 have HX0:=hid (show boxAt (w.alloc (.cells #[.slice (some ⟨bI,0,none⟩) m cI,.int .i64 s.own,.int .i64 s.bef,.int .i64 s.aft] 101)) w.heap.size bI m cI s.own s.bef s.aft from fun j v hv=>by
  rw[World.cell?_alloc_at _ _ _ _ rfl];exact hv)
 have HBC:=hid (show w.heap.size ∉ [q.bC]from fun h=>by
  have:=HS.out.ltC hn0;have:=List.mem_singleton.1 h;omega)
 go_enter Tryz.func47,Tryz.ntmps47;go_wp2;go_loopw [5] (fun a wr=>∃(k:Nat),a=.int .i64 k∧k≤m∧Hid (PS wr q (marksTo q.K s k C) L G)∧Hid (Fr [q.bC] w wr)∧Hid (boxAt wr w.heap.size bI m cI s.own s.bef s.aft)) (fun a _=>m - (intOf a).toNat)
 case atStart=>exact⟨0,rfl,Nat.zero_le _,hid (HS.out.alloc _),hid ((Fr.refl _ w).alloc _),HX0⟩
 case round =>
  obtain⟨k,rfl,hk,HP,HF,HX⟩:=hrel;have x0:=HX.out 0 _ rfl;have x1:=HX.out 1 _ rfl;have x2:=HX.out 2 _ rfl;have x3:=HX.out 3 _ rfl;have d1:=HP.out.c1;have d2:=HP.out.c2;have lp1:=HP.out.lt;by_cases hlt:k<m
  ·obtain⟨hi,e1,e2,e3,e4⟩:=at_k HP.out HI.out HF.out (show k<s.I.length by rw[←HM.out];exact hlt)
   have HST:=hid (marksTo_succ q.K s k C);have HCL:=hid (ref37_any q (marksTo q.K s k C) L G bI cI s ((k:Int) - 1));have HAH:=hid (clsAt_ah s (marksTo q.K s k C) k (by rw[←HM.out];exact hk));have HNO:=hid (markStep_no q.K s (marksTo q.K s k C) k);have HFI:=hid (markStep_first q.K s (marksTo q.K s k C));have HAP:=hid (markStep_apart q.K s (marksTo q.K s k C));have HLI:=hid (markStep_like q.K s (marksTo q.K s k C));have HSC:=hid (fun z=>HP.out.setC hi z);generalize marksTo q.K s k C=C1 at *;by_cases h8:nth C1 (nix s.I k)=8
   ·rw[h8]at e2
    rw[HV.out,HAH.out]at HCL;have HFI2:=hid (fun(hk0:k=0)=>HST.out.trans (show markStep q.K s C1 k=put s.I C1 k s.bef by subst hk0;exact HFI.out h8));have HAP2:=hid (fun k' (hk0:k=k'+1) (ha:ini (cl s.I q.K k')=true∨cl s.I q.K k'=22)=>HST.out.trans (show markStep q.K s C1 k=put s.I C1 k 13 by subst hk0;exact HAP.out k' h8 ha));have HLI2:=hid (fun k' (hk0:k=k'+1) (ha:¬(ini (cl s.I q.K k')=true∨cl s.I q.K k'=22))=>HST.out.trans (show markStep q.K s C1 k=put s.I C1 k (ah s C1 k) by subst hk0;exact HLI.out k' h8 ha));generalize hix:nix s.I k=i at *;have HIX:=hid hix;clear h8 hix HFI HAP HLI HST HAH;have lC:=World.block_lt_of_cell? _ _ e2;go_wp2;go_quiet (fail);go_upto_region 6 with fail
    go_cut []from 21 to 83 (fun wx=>Hid (PS wx q (C1.set i (ah s C1 k)) L G)∧Hid (Fr [q.bC] w wx)∧Hid (boxAt wx w.heap.size bI m cI s.own s.bef s.aft))
    case first =>
     have hwr:IntKind.i64.wrap ((k:Int) - 1)=(k:Int) - 1:=by rw[IntKind.wrap_i64];omega
     have nX:q.bC≠w.heap.size:=fun h=>HBC.out (List.mem_singleton.2 h.symm)
     clear d1 e4 lp lp1 nCF HFI2 HAP2 HLI2 HNO HSC HS HM HR HX0;go_region_held (fun wz=>wz.cell? ⟨q.p,2,none⟩=some (.slice (some ⟨q.bC,0,none⟩) q.n q.cC)∧wz.cell? ⟨w.heap.size,0,none⟩=some (.slice (some ⟨bI,0,none⟩) m cI)∧wz.cell? ⟨w.heap.size,1,none⟩=some (.int .i64 s.own)∧wz.cell? ⟨w.heap.size,2,none⟩=some (.int .i64 s.bef)∧wz.cell? ⟨w.heap.size,3,none⟩=some (.int .i64 s.aft)∧wz.cell? ⟨bI,k,none⟩=some (.int .i64 i))
      (first | exact⟨d2,x0,x1,x2,x3,e1⟩ | exact⟨g2,g3,g4,g5,g6,g7⟩ | exact⟨(cell_far _ _ _ _ _ _ nC).trans g2,(cell_far _ _ _ _ _ _ nX).trans g3,(cell_far _ _ _ _ _ _ nX).trans g4,(cell_far _ _ _ _ _ _ nX).trans g5,(cell_far _ _ _ _ _ _ nX).trans g6,(cell_far _ _ _ _ _ _ (fun h=>nI h.symm)).trans g7⟩)
      (first | (go_at_call 89;refine(HCL.out _ ?_ ?_).mono ?_;(exact HP.out.fr0 ⟨rfl,rfl,rfl,Nat.le_refl _,fun _ _ _=>rfl⟩);(exact HI.out.fr (HF.out.trans ⟨rfl,rfl,rfl,Nat.le_refl _,fun _ _ _=>rfl⟩) (fun e=>nI (List.mem_singleton.1 e)));rintro e w' ⟨rfl,hf'⟩;have g2:=hf'.cell d2 List.not_mem_nil;have g3:=hf'.cell x0 List.not_mem_nil;have g4:=hf'.cell x1 List.not_mem_nil;have g5:=hf'.cell x2 List.not_mem_nil;have g6:=hf'.cell x3 List.not_mem_nil;have g7:=hf'.cell e1 List.not_mem_nil;have g8:=hf'.cell e2 List.not_mem_nil;have g9:=hf'.froz e2 List.not_mem_nil e3))
     go_wp2_with fail;go_meet
     case rel=>exact⟨hid ((HP.out.fr0 (w':=w') ⟨hf'.os,hf'.tape,hf'.output,hf'.size,hf'.block⟩).setC hi _),hid ((HF.out.trans (w'':=w') ⟨hf'.os,hf'.tape,hf'.output,hf'.size,fun k h1 _=>hf'.block k h1 List.not_mem_nil⟩).set (List.mem_singleton.2 rfl) _),hid ((HX.out.fr (S:=[]) (w':=w') ⟨hf'.os,hf'.tape,hf'.output,hf'.size,hf'.block⟩ List.not_mem_nil).fr (fr_set1 _ q.bC i _) HBC.out)⟩
    case rest =>
     obtain⟨HP2,HF2,HX2⟩:=hcut;have x0':=HX2.out 0 _ rfl;have d1':=HP2.out.c1;have d2':=HP2.out.c2;have lp':=HP2.out.lt;obtain⟨hi',e1',e2',e3',e4'⟩:=at_k HP2.out HI.out HF2.out (show k<s.I.length by rw[←HM.out];exact hlt);rw[HIX.out]at hi' e1' e2' e3' e4';generalize nth (C1.set i (ah s C1 k)) i=y' at *
     rcases Nat.eq_zero_or_pos k with hk0 | hk0
     ·have HC2:=hid (HFI2.out hk0)
      have HAB:=hid (show ah s C1 k=s.bef by rw[hk0];rfl);have hk1:¬(0:Int)<(k:Int):=by omega
      clear hk0;go_wp2;go_roundw
      case rel=>exact⟨k+1,by go_num,by omega,hid (by rw[HC2.out,put,←HAB.out,HIX.out];exact HP2.out),HF2,HX2⟩
      case measure=>simp[intOf];omega
     ·obtain⟨k',hk'⟩:∃k',k=k'+1:=⟨k - 1,by omega⟩
      have HAP3:=hid (HAP2.out k' hk');have HLI3:=hid (HLI2.out k' hk');obtain⟨hj,f1,f2,f3,f4⟩:=at_k HP2.out HI.out HF2.out (show k'<s.I.length by rw[←HM.out];omega);have hkk:(k:Int) - 1=(k':Int):=by omega
      have HSC2:=hid (fun z=>HP2.out.setC hi' z);simp only[cl]at HAP3 HLI3;generalize nix s.I k'=i' at *;generalize nth q.K i'=f at *;have hk1:(0:Int)<(k:Int):=by omega
      subst hk';by_cases h22:f=22
      ·have HC2:=hid (HAP3.out (.inr h22))
       subst h22;have hin:ini 22=false:=rfl;go_wp2;go_quiet (fail);go_wp2_with (go_at_call 41;refine(ref10_any _ _).mono ?_;rintro e w' ⟨rfl,rfl⟩);go_region;go_wp2;go_roundw
       case rel=>exact⟨k'+1+1,by go_num,by omega,hid (by rw[HC2.out,put,HIX.out,←set_set_same C1 i (ah s C1 (k'+1)) 13];exact(HSC2.out 13).fr0 ⟨rfl,rfl,rfl,Nat.le_refl _,fun _ _ _=>rfl⟩),hid ((HF2.out.set (List.mem_singleton.2 rfl) _).trans ⟨rfl,rfl,rfl,Nat.le_refl _,fun _ _ _=>rfl⟩),hid ((HX2.out.fr (fr_set1 _ q.bC i (.int .i64 13)) HBC.out).fr (S:=[]) ⟨rfl,rfl,rfl,Nat.le_refl _,fun _ _ _=>rfl⟩ List.not_mem_nil)⟩
       case measure=>simp[intOf];omega
      ·cases hin:ini f
       ·have HC2:=hid (HLI3.out (fun h=>by rcases h with h | h;(rw[hin]at h;cases h);exact h22 h))
        go_wp2;go_quiet (fail);go_wp2_with (go_at_call 41;refine(ref10_any _ _).mono ?_;rintro e w' ⟨rfl,rfl⟩);go_roundw
        case rel=>exact⟨k'+1+1,by go_num,by omega,hid (by rw[HC2.out,put,HIX.out];exact HP2.out.fr0 ⟨rfl,rfl,rfl,Nat.le_refl _,fun _ _ _=>rfl⟩),hid (HF2.out.trans ⟨rfl,rfl,rfl,Nat.le_refl _,fun _ _ _=>rfl⟩),hid (HX2.out.fr (S:=[]) ⟨rfl,rfl,rfl,Nat.le_refl _,fun _ _ _=>rfl⟩ List.not_mem_nil)⟩
        case measure=>simp[intOf];omega
       ·have HC2:=hid (HAP3.out (.inl hin))
        go_wp2;go_quiet (fail);go_wp2_with (go_at_call 41;refine(ref10_any _ _).mono ?_;rintro e w' ⟨rfl,rfl⟩);go_region;go_wp2;go_roundw
        case rel=>exact⟨k'+1+1,by go_num,by omega,hid (by rw[HC2.out,put,HIX.out,←set_set_same C1 i (ah s C1 (k'+1)) 13];exact(HSC2.out 13).fr0 ⟨rfl,rfl,rfl,Nat.le_refl _,fun _ _ _=>rfl⟩),hid ((HF2.out.set (List.mem_singleton.2 rfl) _).trans ⟨rfl,rfl,rfl,Nat.le_refl _,fun _ _ _=>rfl⟩),hid ((HX2.out.fr (fr_set1 _ q.bC i (.int .i64 13)) HBC.out).fr (S:=[]) ⟨rfl,rfl,rfl,Nat.le_refl _,fun _ _ _=>rfl⟩ List.not_mem_nil)⟩
        case measure=>simp[intOf];omega
   ·have HC2:=hid (HST.out.trans (HNO.out h8))
    generalize nix s.I k=i at *;generalize nth C1 i=y at *;go_wp2;go_quiet (fail);go_wp2;go_roundw
    case rel=>exact⟨k+1,by go_num,by omega,hid (by rw[HC2.out];exact HP.out.drewN _),hid (HF.out.drewN _),hid (HX.out.fr (frq [] _ _) List.not_mem_nil)⟩
    case measure=>simp[intOf];omega
  ·have hk2:k=m:=by omega
   have HP1:=hid (show PS wr q (marksTo q.K s m C) L G by rw[←hk2];exact HP.out);clear hk2 HP;obtain⟨C1,hC1⟩:∃C1,C1=marksTo q.K s m C:=⟨_,rfl⟩;have HC1:=hid hC1;rw[←hC1]at HP1;clear hC1;go_wp2;go_loopw [8,9] (fun a b wr=>∃(k:Nat),a=.int .i64 (numsTo s.I true 2 6 k (s.bef,C1)).1∧b=.int .i64 k∧k≤m∧Hid (PS wr q (numsTo s.I true 2 6 k (s.bef,C1)).2 L G)∧Hid (Fr [q.bC] w wr)∧Hid (boxAt wr w.heap.size bI m cI s.own s.bef s.aft)) (fun _ b _=>m - (intOf b).toNat)
   case atStart=>exact⟨0,rfl,rfl,Nat.zero_le _,HP1,HF,HX⟩
   case round =>
    obtain⟨k,rfl,rfl,hk,HP,HF,HX⟩:=hrel;have x0:=HX.out 0 _ rfl;have d2:=HP.out.c2;by_cases hlt2:k<m
    ·obtain⟨hi,e1,e2,e3,e4⟩:=at_k HP.out HI.out HF.out (show k<s.I.length by rw[←HM.out];exact hlt2)
     have HST:=hid (show numsTo s.I true 2 6 (k+1) (s.bef,C1)=numStep s.I true 2 6 (numsTo s.I true 2 6 k (s.bef,C1)) k from rfl);have HSC:=hid (fun z=>HP.out.setC hi z);have HNS:=hid (numStep_facts s.I 2 6 (numsTo s.I true 2 6 k (s.bef,C1)) k);rw[←HST.out]at HNS;generalize hN2:numsTo s.I true 2 6 (k+1) (s.bef,C1)=N2 at *;have HN2:=hid hN2;clear hN2;generalize numsTo s.I true 2 6 k (s.bef,C1)=N at *;obtain⟨la,C2⟩:=N;dsimp only[cl,put]at *;generalize nix s.I k=i at *;generalize nth C2 i=y at *;clear HST;go_wp2;go_quiet (fail);go_wp2
     all_goals (try go_region)
     all_goals (try go_wp2)
     all_goals first
      | (exfalso;simp only[beq_iff_eq,beq_eq_false_iff_ne,ne_eq]at *;omega)
      | (have hN:=HNS.out.1 (by simp only[beq_iff_eq,beq_eq_false_iff_ne,ne_eq]at *;omega)
         refine⟨⟨k+1,?_,by go_num,by omega,hid ?_,hid ?_,hid ?_⟩,by simp[intOf];omega⟩
         ·rw[HN2.out,hN] <;> first | rfl | (congr 1;omega)
         ·rw[HN2.out,hN];exact HP.out.fr0 (frz _ _ _ rfl rfl rfl rfl)
         ·exact HF.out.trans (frz _ _ _ rfl rfl rfl rfl)
         ·exact HX.out.fr (S:=[]) (frz _ _ _ rfl rfl rfl rfl) List.not_mem_nil)
      | (have hN:=HNS.out.2.1 (by simp only[beq_iff_eq,beq_eq_false_iff_ne,ne_eq]at *;omega) (by simp only[beq_iff_eq,beq_eq_false_iff_ne,ne_eq]at *;omega)
         refine⟨⟨k+1,?_,by go_num,by omega,hid ?_,hid ?_,hid ?_⟩,by simp[intOf];omega⟩
         ·rw[HN2.out,hN]
         ·rw[HN2.out,hN];exact(HSC.out 6).fr0 (frz _ _ _ rfl rfl rfl rfl)
         ·exact(HF.out.set (List.mem_singleton.2 rfl) _).trans (frz _ _ _ rfl rfl rfl rfl)
         ·exact(HX.out.fr (fr_set1 _ q.bC i (.int .i64 6)) HBC.out).fr (S:=[]) (frz _ _ _ rfl rfl rfl rfl) List.not_mem_nil)
      | (have hN:=HNS.out.2.2 (by simp only[beq_iff_eq,beq_eq_false_iff_ne,ne_eq]at *;omega) (by simp only[beq_iff_eq,beq_eq_false_iff_ne,ne_eq]at *;omega)
         refine⟨⟨k+1,?_,by go_num,by omega,hid ?_,hid ?_,hid ?_⟩,by simp[intOf];omega⟩
         ·rw[HN2.out,hN]
         ·rw[HN2.out,hN];exact HP.out.fr0 (frz _ _ _ rfl rfl rfl rfl)
         ·exact HF.out.trans (frz _ _ _ rfl rfl rfl rfl)
         ·exact HX.out.fr (S:=[]) (frz _ _ _ rfl rfl rfl rfl) List.not_mem_nil)
    ·have hk2:k=m:=by omega
     have HP1:=hid (show PS wr q (numsTo s.I true 2 6 m (s.bef,C1)).2 L G by rw[←hk2];exact HP.out);clear hk2 HP;obtain⟨C2,hC2⟩:∃C2,C2=(numsTo s.I true 2 6 m (s.bef,C1)).2:=⟨_,rfl⟩;have HC2:=hid hC2;rw[←hC2]at HP1;clear hC2;generalize (numsTo s.I true 2 6 k (s.bef,C1)).1=la;go_wp2;go_loopw [11] (fun b wr=>∃(k:Nat),b=.int .i64 k∧k≤m∧Hid (PS wr q (alTo s.I k C2) L G)∧Hid (Fr [q.bC] w wr)∧Hid (boxAt wr w.heap.size bI m cI s.own s.bef s.aft)) (fun b _=>m - (intOf b).toNat)
     case atStart=>exact⟨0,rfl,Nat.zero_le _,HP1,HF,HX⟩
     case round =>
      obtain⟨k,rfl,hk,HP,HF,HX⟩:=hrel;have x0:=HX.out 0 _ rfl;have d2:=HP.out.c2;by_cases hlt3:k<m
      ·obtain⟨hi,e1,e2,e3,e4⟩:=at_k HP.out HI.out HF.out (show k<s.I.length by rw[←HM.out];exact hlt3)
       have HST:=hid (show alTo s.I (k+1) C2=alStep s.I (alTo s.I k C2) k from rfl);have HSC:=hid (fun z=>HP.out.setC hi z);have HNS:=hid (al_facts s.I (alTo s.I k C2) k);rw[←HST.out]at HNS;generalize hN2:alTo s.I (k+1) C2=N2 at *;have HN2:=hid hN2;clear hN2;generalize alTo s.I k C2=N at *;dsimp only[cl,put]at *;generalize nix s.I k=i at *;generalize nth N i=y at *;clear HST;by_cases hy:y=2
       ·have hN:=HNS.out.1 hy
        have HN:=hid hN;clear hN;subst hy;go_wp2;go_quiet (fail);go_wp2;go_region;go_wp2;go_roundw
        case rel=>exact⟨k+1,by go_num,by omega,hid (by rw[HN2.out,HN.out];exact(HSC.out 1).fr0 (frz _ _ _ rfl rfl rfl rfl)),hid ((HF.out.set (List.mem_singleton.2 rfl) _).trans (frz _ _ _ rfl rfl rfl rfl)),hid ((HX.out.fr (fr_set1 _ q.bC i (.int .i64 1)) HBC.out).fr (S:=[]) (frz _ _ _ rfl rfl rfl rfl) List.not_mem_nil)⟩
        case measure=>simp[intOf];omega
       ·have HN:=hid (HNS.out.2 hy)
        go_wp2;go_quiet (fail);go_wp2;go_roundw
        case rel=>exact⟨k+1,by go_num,by omega,hid (by rw[HN2.out,HN.out];exact HP.out.fr0 (frz _ _ _ rfl rfl rfl rfl)),hid (HF.out.trans (frz _ _ _ rfl rfl rfl rfl)),hid (HX.out.fr (S:=[]) (frz _ _ _ rfl rfl rfl rfl) List.not_mem_nil)⟩
        case measure=>simp[intOf];omega
      ·have hk2:k=m:=by omega
       have HP1:=hid (show PS wr q (alTo s.I m C2) L G by rw[←hk2];exact HP.out);clear hk2 HP;obtain⟨C3,hC3⟩:∃C3,C3=alTo s.I m C2:=⟨_,rfl⟩;have HC3:=hid hC3;rw[←hC3]at HP1;clear hC3;go_wp2;go_loopw [12] (fun b wr=>∃(k:Nat),b=.int .i64 (k+1:Nat)∧k+1≤m∧Hid (PS wr q (sepTo s (k+1) C3) L G)∧Hid (Fr [q.bC] w wr)∧Hid (boxAt wr w.heap.size bI m cI s.own s.bef s.aft)) (fun b _=>m - (intOf b).toNat)
       case atStart=>exact⟨0,rfl,hm0,hid (by rw[sepTo,sep_edge s _ 0 HBB.out HAA.out (.inl rfl)];exact HP1.out),HF,HX⟩
       case round =>
        obtain⟨k,rfl,hk,HP,HF,HX⟩:=hrel;have x0:=HX.out 0 _ rfl;have d2:=HP.out.c2;by_cases hlt4:k+1+1<m
        ·obtain⟨hi0,e1,e2,e3,e4⟩:=at_k HP.out HI.out HF.out (show k<s.I.length by rw[←HM.out];omega)
         obtain⟨hi1,f1,f2,f3,f4⟩:=at_k HP.out HI.out HF.out (show k+1<s.I.length by rw[←HM.out];omega);obtain⟨hi2,g1,g2,g3,g4⟩:=at_k HP.out HI.out HF.out (show k+1+1<s.I.length by rw[←HM.out];omega);have HST:=hid (show sepTo s (k+1+1) C3=sepStep s (sepTo s (k+1) C3) (k+1)from rfl);have HSC:=hid (fun z=>HP.out.setC hi1 z);have HNS:=hid (sep_in s (sepTo s (k+1) C3) k (by rw[←HM.out];exact hlt4));rw[←HST.out]at HNS;generalize hN2:sepTo s (k+1+1) C3=N2 at *;have HN2:=hid hN2;clear hN2;generalize sepTo s (k+1) C3=N at *;dsimp only[cl,put]at *;generalize nix s.I k=i0 at *;generalize nix s.I (k+1)=i1 at *;generalize nix s.I (k+1+1)=i2 at *;generalize nth N i0=ya at *;generalize nth N i1=yc at *;generalize nth N i2=yb at *;clear HST e3 e4 f4 g3 g4;have hz1:((k+1:Nat):Int)=(k:Int)+1:=by omega
         have hz2:((k+1:Nat):Int)+1<(m:Int):=by omega
         have hz3:((k+1:Nat):Int) - 1=(k:Int):=by omega
         have hz4:((k+1:Nat):Int)+1=((k+1+1:Nat):Int):=by omega
         go_wp2;go_quiet (fail);go_wp2;go_quiet (fail);go_wp2;go_quiet (fail);go_wp2
         all_goals (try go_region)
         all_goals (try go_wp2)
         all_goals first
          | (exfalso;(try simp only[beq_iff_eq,beq_eq_false_iff_ne,ne_eq]at *);omega)
          | (have hy3:ya=3:=by(try simp only[beq_iff_eq,beq_eq_false_iff_ne,ne_eq]at *);omega
             have hN:=HNS.out.1 (by(try simp only[beq_iff_eq,beq_eq_false_iff_ne,ne_eq]at *);omega)
             rw[hy3]at hN
             refine⟨⟨k+1,by go_num,by omega,hid ?_,hid ?_,hid ?_⟩,by simp[intOf];omega⟩
             ·rw[HN2.out,hN];exact(HSC.out 3).fr0 (frz _ _ _ rfl rfl rfl rfl)
             ·exact(HF.out.set (List.mem_singleton.2 rfl) _).trans (frz _ _ _ rfl rfl rfl rfl)
             ·exact(HX.out.fr (fr_set1 _ q.bC i1 (.int .i64 3)) HBC.out).fr (S:=[]) (frz _ _ _ rfl rfl rfl rfl) List.not_mem_nil)
          | (have hy3:ya=6:=by(try simp only[beq_iff_eq,beq_eq_false_iff_ne,ne_eq]at *);omega
             have hN:=HNS.out.1 (by(try simp only[beq_iff_eq,beq_eq_false_iff_ne,ne_eq]at *);omega)
             rw[hy3]at hN
             refine⟨⟨k+1,by go_num,by omega,hid ?_,hid ?_,hid ?_⟩,by simp[intOf];omega⟩
             ·rw[HN2.out,hN];exact(HSC.out 6).fr0 (frz _ _ _ rfl rfl rfl rfl)
             ·exact(HF.out.set (List.mem_singleton.2 rfl) _).trans (frz _ _ _ rfl rfl rfl rfl)
             ·exact(HX.out.fr (fr_set1 _ q.bC i1 (.int .i64 6)) HBC.out).fr (S:=[]) (frz _ _ _ rfl rfl rfl rfl) List.not_mem_nil)
          | (have hN:=HNS.out.2 (by(try simp only[beq_iff_eq,beq_eq_false_iff_ne,ne_eq]at *);omega)
             refine⟨⟨k+1,by go_num,by omega,hid ?_,hid ?_,hid ?_⟩,by simp[intOf];omega⟩
             ·rw[HN2.out,hN];exact HP.out.fr0 (frz _ _ _ rfl rfl rfl rfl)
             ·exact HF.out.trans (frz _ _ _ rfl rfl rfl rfl)
             ·exact HX.out.fr (S:=[]) (frz _ _ _ rfl rfl rfl rfl) List.not_mem_nil)
        ·have HP1:=hid (show PS wr q (sepTo s m C3) L G by rw[HM.out,sep_last s C3 (k+1) HBB.out HAA.out (by rw[←HM.out];exact hk) (by rw[←HM.out];omega)];exact HP.out)
         clear HP;obtain⟨C4,hC4⟩:∃C4,C4=sepTo s m C3:=⟨_,rfl⟩;have HC4:=hid hC4;rw[←hC4]at HP1;clear hC4;have hz2:¬((k+1:Nat):Int)+1<(m:Int):=by omega
         have x1:=HX.out 1 _ rfl;have x2:=HX.out 2 _ rfl;have x3:=HX.out 3 _ rfl;have HMK2:=hid (HMK.out C4 wr HP1.out (HI.out.fr HF.out (fun e=>nI (List.mem_singleton.1 e))));go_wp2_with fail;refine HMK2.out.mono ?_;rintro e w1 ⟨rfl,hpm,hfm⟩;have HF5:=hid (HF.out.trans hfm);have HX5:=hid (HX.out.fr hfm HBC.out);have y2:=HX5.out 2 _ rfl;obtain⟨C5,hC5⟩:∃C5,C5=looseTo s.I s.I.length (scan s.I isET (etAct s) C4):=⟨_,rfl⟩;have HC5:=hid hC5;rw[←hC5]at hpm;have HP5:=hid hpm;clear hC5 hpm hfm;go_wp2;go_loopw [8,16] (fun a b wr=>∃(k:Nat),a=.int .i64 (numsTo s.I false 0 0 k (s.bef,C5)).1∧b=.int .i64 k∧k≤m∧Hid (PS wr q (numsTo s.I false 0 0 k (s.bef,C5)).2 L G)∧Hid (Fr [q.bC] w wr)∧Hid (boxAt wr w.heap.size bI m cI s.own s.bef s.aft)) (fun _ b _=>m - (intOf b).toNat)
         case atStart=>exact⟨0,rfl,rfl,Nat.zero_le _,HP5,HF5,HX5⟩
         case round =>
          obtain⟨k,rfl,rfl,hk,HP,HF,HX⟩:=hrel;have x0:=HX.out 0 _ rfl;have d2:=HP.out.c2;by_cases hlt5:k<m
          ·obtain⟨hi,e1,e2,e3,e4⟩:=at_k HP.out HI.out HF.out (show k<s.I.length by rw[←HM.out];exact hlt5)
           have HST:=hid (show numsTo s.I false 0 0 (k+1) (s.bef,C5)=numStep s.I false 0 0 (numsTo s.I false 0 0 k (s.bef,C5)) k from rfl);have HSC:=hid (fun z=>HP.out.setC hi z);have HNS:=hid (numStep_facts0 s.I 0 0 (numsTo s.I false 0 0 k (s.bef,C5)) k);rw[←HST.out]at HNS;generalize hN2:numsTo s.I false 0 0 (k+1) (s.bef,C5)=N2 at *;have HN2:=hid hN2;clear hN2;generalize numsTo s.I false 0 0 k (s.bef,C5)=N at *;obtain⟨la,C6⟩:=N;dsimp only[cl,put]at *;generalize nix s.I k=i at *;generalize nth C6 i=y at *;clear HST;go_wp2;go_quiet (fail);go_wp2
           all_goals (try go_region)
           all_goals (try go_wp2)
           all_goals first
            | (exfalso;(try simp only[beq_iff_eq,beq_eq_false_iff_ne,ne_eq]at *);omega)
            | (have hN:=HNS.out.1 (by(try simp only[beq_iff_eq,beq_eq_false_iff_ne,ne_eq]at *);omega)
               refine⟨⟨k+1,?_,by go_num,by omega,hid ?_,hid ?_,hid ?_⟩,by simp[intOf];omega⟩
               ·rw[HN2.out,hN] <;> first | rfl | (congr 1;omega)
               ·rw[HN2.out,hN];exact HP.out.fr0 (frz _ _ _ rfl rfl rfl rfl)
               ·exact HF.out.trans (frz _ _ _ rfl rfl rfl rfl)
               ·exact HX.out.fr (S:=[]) (frz _ _ _ rfl rfl rfl rfl) List.not_mem_nil)
            | (have hN:=HNS.out.2.1 (by(try simp only[beq_iff_eq,beq_eq_false_iff_ne,ne_eq]at *);omega) (by(try simp only[beq_iff_eq,beq_eq_false_iff_ne,ne_eq]at *);omega)
               refine⟨⟨k+1,?_,by go_num,by omega,hid ?_,hid ?_,hid ?_⟩,by simp[intOf];omega⟩
               ·rw[HN2.out,hN]
               ·rw[HN2.out,hN];exact(HSC.out 0).fr0 (frz _ _ _ rfl rfl rfl rfl)
               ·exact(HF.out.set (List.mem_singleton.2 rfl) _).trans (frz _ _ _ rfl rfl rfl rfl)
               ·exact(HX.out.fr (fr_set1 _ q.bC i (.int .i64 0)) HBC.out).fr (S:=[]) (frz _ _ _ rfl rfl rfl rfl) List.not_mem_nil)
            | (have hN:=HNS.out.2.2 (by(try simp only[beq_iff_eq,beq_eq_false_iff_ne,ne_eq]at *);omega) (by(try simp only[beq_iff_eq,beq_eq_false_iff_ne,ne_eq]at *);omega)
               refine⟨⟨k+1,?_,by go_num,by omega,hid ?_,hid ?_,hid ?_⟩,by simp[intOf];omega⟩
               ·rw[HN2.out,hN]
               ·rw[HN2.out,hN];exact HP.out.fr0 (frz _ _ _ rfl rfl rfl rfl)
               ·exact HF.out.trans (frz _ _ _ rfl rfl rfl rfl)
               ·exact HX.out.fr (S:=[]) (frz _ _ _ rfl rfl rfl rfl) List.not_mem_nil)
          ·have hk2:k=m:=by omega
           have HPZ:=hid (show PS wr q R L G by
            rw[HR.out,weak,←HM.out,←HC1.out,←HC2.out,←HC3.out,←HC4.out]
            have hz:=HC5.out
            rw[←HM.out]at hz
            rw[←hz,←hk2]
            exact HP.out)
           clear hk2;go_wp2;go_end0;exact⟨rfl,HPZ.out,HF.out⟩
end Go.Proofs.YtnakejhohdbfdaaGreatDoor
