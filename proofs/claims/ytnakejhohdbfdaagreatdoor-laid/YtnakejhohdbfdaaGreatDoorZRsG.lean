import Derived.Test.YtnakejhohdbfdaaGreatDoorZMd
namespace Go.Proofs.YtnakejhohdbfdaaGreatDoor
open Go.RowKit Lev
theorem fill_next' (I:List Nat) (k j:Nat) (v:Int) (C:List Int) (h:k ≤ j):fillTo I k v (j + 1 - k) C=put I (fillTo I k v (j - k) C) j v:=by
 rw [show j + 1 - k=(j - k) + 1 by omega,fillTo,show k + (j - k)=j by omega]
theorem isNe_eq (c:Int):isNe c=decide (side c < 0):=rfl
set_option linter.unusedSimpArgs false in
set_option maxRecDepth 10000 in
set_option maxHeartbeats 8000000 in
theorem ref18_any (q:PH) (C L:List Int) (G:List Bool) (bI cI:Nat) (s:Sq) (w:World) (hs:PS w q C L G) (hI:IS w q bI s.I) (h0:0 < s.I.length) (hinj:inj s.I) :
 Calls Tryz.prog 49 #[.pointer (some ⟨q.p,0,none⟩),sqV bI cI s] w fun e w'=>e=.returned (.tuple #[])∧PS w' q (neutral s C) L G∧Fr [q.bC] w w':=by
 have lp:=hs.lt
 have sm:=hI.sm
 have nC:=hs.neC.1
 have nI:=hI.ne.1
 have HS:=hid hs
 have HI:=hid hI
 obtain ⟨R,hR⟩:∃ R,R=neutral s C:=⟨_,rfl⟩
 have HR:=hid hR
 rw [← hR]
 obtain ⟨m,hm⟩:∃ m,m=s.I.length:=⟨_,rfl⟩
 have HM:=hid hm
 have HV:=hid (show sqV bI cI s=.agg #[.slice (some ⟨bI,0,none⟩) m cI,.int .i64 s.own,.int .i64 s.bef,.int .i64 s.aft] by rw [hm])
 rw [HV.out]
 rw [← hm] at sm
 have hm0:0 < m:=by rw [hm];exact h0
 have hn0:0 < q.n:=by have:=hI.lt 0 h0;omega
 have HINJ:=hid hinj
 clear hm hR hs hI h0 hinj
 have HX0:=hid (show boxAt (w.alloc (.cells #[.slice (some ⟨bI,0,none⟩) m cI,.int .i64 s.own,.int .i64 s.bef,.int .i64 s.aft] 101)) w.heap.size bI m cI s.own s.bef s.aft from fun j v hv=>by
  rw [World.cell?_alloc_at _ _ _ _ rfl];exact hv)
 have HBC:=hid (show w.heap.size ∉ [q.bC] from fun h=>by
  have:=HS.out.ltC hn0;have:=List.mem_singleton.1 h;omega)
 go_enter Tryz.func49,Tryz.ntmps49
 go_wp2
 go_loopw [5] (fun a wr=>∃ (k:Nat) (C':List Int),a=.int .i64 k∧k ≤ m∧Hid (refScan s.I isNe (neAct s) C k C')∧Hid (PS wr q C' L G)∧Hid (Fr [q.bC] w wr)∧Hid (boxAt wr w.heap.size bI m cI s.own s.bef s.aft)) (fun a _=>m - (intOf a).toNat)
 case atStart=>exact ⟨0,C,rfl,Nat.zero_le _,hid (rs_start _ _ _ _),hid (HS.out.alloc _),hid ((Fr.refl _ w).alloc _),HX0⟩
 case round =>
  obtain ⟨k,C',rfl,hk,HRS,HP,HF,HX⟩:=hrel
  have x0:=HX.out 0 _ rfl
  have d2:=HP.out.c2
  by_cases hlt:k < m
  ·obtain ⟨hi,e1,e2,e3,e4⟩:=at_k HP.out HI.out HF.out (show k < s.I.length by rw [← HM.out];exact hlt)
   have HSK:=hid (fun h=>rs_skip (show k < s.I.length by rw [← HM.out];exact hlt) (show isNe (cl s.I C' k)=false from h) HRS.out)
   dsimp only [cl] at HSK
   have HC40:=hid (ref40_any (nth C' (nix s.I k)))
   by_cases h5:side (nth C' (nix s.I k)) < 0
   ·have HFK0:=hid h5
    generalize hix:nix s.I k=i at *
    have HIX:=hid hix
    clear hix
    generalize hy:nth C' i=y at *
    have HY:=hid hy
    clear hy
    generalize hsy:side y=sy at *
    have HSY:=hid hsy
    clear hsy
    have h5':¬ (0:Int) ≤ sy:=by omega
    go_wp2
    go_quiet (first | (go_at_call 92;exact Calls.quiet_of_same (HC40.out _)))
    go_wp2
    go_loopw [6,7] (fun b a wr=>∃ (e:Nat),a=.int .i64 e∧k ≤ e∧e ≤ m∧Hid (∀ j,k ≤ j→j < e→isNe (cl s.I C' j)=true)∧Hid (PS wr q C' L G)∧Hid (Fr [q.bC] w wr)∧Hid (boxAt wr w.heap.size bI m cI s.own s.bef s.aft)) (fun _ a _=>m - (intOf a).toNat)
    case atStart=>exact ⟨k,rfl,Nat.le_refl _,hk,hid (fun j h1 h2=>by omega),hid (HP.out.fr0 (frz _ _ _ rfl rfl rfl rfl)),hid (HF.out.trans (frz _ _ _ rfl rfl rfl rfl)),hid (HX.out.fr (S:=[]) (frz _ _ _ rfl rfl rfl rfl) List.not_mem_nil)⟩
    case round =>
     obtain ⟨e,rfl,hke,hem,HE,HP2,HF2,HX2⟩:=hrel
     have x0':=HX2.out 0 _ rfl
     have x1':=HX2.out 1 _ rfl
     have x2':=HX2.out 2 _ rfl
     have x3':=HX2.out 3 _ rfl
     have d2':=HP2.out.c2
     have HCA:=hid (ref37_any q C' L G bI cI s ((k:Int) - 1))
     rw [HV.out,clsAt_ah s C' k (by rw [← HM.out];exact hk)] at HCA
     have HCB:=hid (ref37_any q C' L G bI cI s (e:Int))
     rw [HV.out,clsAt_att] at HCB
     have HNA:=hid (show neAct s k e C'=fillTo s.I k (if side (ah s C' k)=side (att s C' e) then side (ah s C' k) else s.own) (e - k) C' from rfl)
     rcases Nat.lt_or_ge e m with h1 | h1
     ·obtain ⟨hj,f1,f2,f3,f4⟩:=at_k HP2.out HI.out HF2.out (show e < s.I.length by rw [← HM.out];exact h1)
      have HC40e:=hid (ref40_any (nth C' (nix s.I e)))
      by_cases h2:side (nth C' (nix s.I e)) < 0
      ·have HE2:=hid (show ∀ j,k ≤ j→j < e + 1→isNe (cl s.I C' j)=true from fun j a b=>by
        rcases Nat.lt_or_eq_of_le (Nat.le_of_lt_succ b) with h | h
        ·exact HE.out j a h
        ·rw [h,cl,isNe_eq];exact decide_eq_true h2)
       generalize nix s.I e=ie at *
       generalize nth C' ie=ye at *
       generalize side ye=se at *
       have h2':¬ (0:Int) ≤ se:=by omega
       clear f3 f4 HCA HCB HNA x1' x2' x3'
       go_wp2
       go_quiet (first | (go_at_call 92;exact Calls.quiet_of_same (HC40e.out _)))
       go_wp2
       go_roundw
       case rel=>exact ⟨e + 1,by go_num,by omega,by omega,HE2,hid (HP2.out.fr0 (frz _ _ _ rfl rfl rfl rfl)),hid (HF2.out.trans (frz _ _ _ rfl rfl rfl rfl)),hid (HX2.out.fr (S:=[]) (frz _ _ _ rfl rfl rfl rfl) List.not_mem_nil)⟩
       case measure=>simp [intOf];omega
      ·have hx2:k < e:=by
        rcases Nat.lt_or_eq_of_le hke with h3 | h3
        ·exact h3
        ·exfalso;exact h2 (by rw [← h3,HIX.out,HY.out,HSY.out];exact HFK0.out)
       have HTK:=hid (rs_take (fun a k C h1 h2=>neAct_at HINJ.out a k C h1 h2) hx2 (show e ≤ s.I.length by rw [← HM.out];exact hem) HE.out (.inr (by rw [cl,isNe_eq];exact decide_eq_false h2)) HRS.out)
       generalize nix s.I e=ie at *
       generalize nth C' ie=ye at *
       generalize side ye=se at *
       have h2':(0:Int) ≤ se:=by omega
       clear f3 f4
       go_wp2_with fail
       go_quiet (first | (go_at_call 92;exact Calls.quiet_of_same (HC40e.out _)))
       go_wp2_with fail
       refine (HCA.out _ ?_ ?_).mono ?_
       ·exact HP2.out.fr0 (frz _ _ _ rfl rfl rfl rfl)
       ·exact HI.out.fr (HF2.out.trans (frz _ _ _ rfl rfl rfl rfl)) (fun e=>nI (List.mem_singleton.1 e))
       rintro e' w1 ⟨rfl,hf1⟩
       have HF3:=hid (HF2.out.trans (w'':=w1) ⟨hf1.os,hf1.tape,hf1.output,hf1.size,fun k h1 _=>hf1.block k h1 List.not_mem_nil⟩)
       have HP3:=hid (HP2.out.fr0 (w':=w1) ⟨hf1.os,hf1.tape,hf1.output,hf1.size,hf1.block⟩)
       have HX3:=hid (HX2.out.fr (S:=[]) (w':=w1) ⟨hf1.os,hf1.tape,hf1.output,hf1.size,hf1.block⟩ List.not_mem_nil)
       have y0:=HX3.out 0 _ rfl
       have y1:=HX3.out 1 _ rfl
       have y2:=HX3.out 2 _ rfl
       have y3:=HX3.out 3 _ rfl
       clear hf1
       go_wp2_with fail
       refine (ref40_any _ _).mono ?_
       rintro e' w1' ⟨rfl,rfl⟩
       go_wp2_with fail
       refine (HCB.out _ HP3.out (HI.out.fr HF3.out (fun e=>nI (List.mem_singleton.1 e)))).mono ?_
       rintro e' w2 ⟨rfl,hf2⟩
       have HF4:=hid (HF3.out.trans (hf2.mono (fun _ h _=>absurd h List.not_mem_nil)))
       have HP4:=hid (HP3.out.fr0 hf2)
       have HX4:=hid (HX3.out.fr hf2 List.not_mem_nil)
       have z1:=HX4.out 1 _ rfl
       clear hf2 y0 y1 y2 y3
       go_wp2_with fail
       refine (ref40_any _ _).mono ?_
       rintro e' w2' ⟨rfl,rfl⟩
       generalize side (ah s C' k)=sa at *
       generalize side (att s C' e)=sb at *
       obtain ⟨v,hv⟩:∃ v,v=if sa=sb then sa else s.own:=⟨_,rfl⟩
       have HVV:=hid hv
       rw [← hv] at HNA
       clear hv
       by_cases hsab:sa=sb
       case' pos =>
        subst hsab
        have HW:=hid (show v=sa by rw [HVV.out,if_pos rfl])
       case' neg =>
        have HW:=hid (show v=s.own by rw [HVV.out,if_neg hsab])
       all_goals (
        go_wp2
        go_loopw [11] (fun a wr=>∃ (j:Nat),a=.int .i64 j∧k ≤ j∧j ≤ e∧Hid (PS wr q (fillTo s.I k v (j - k) C') L G)∧Hid (Fr [q.bC] w wr)∧Hid (boxAt wr w.heap.size bI m cI s.own s.bef s.aft)) (fun a _=>e - (intOf a).toNat)
        case atStart=>exact ⟨k,rfl,Nat.le_refl _,hke,hid (by rw [Nat.sub_self];exact HP4.out),HF4,HX4⟩
        case round =>
         obtain ⟨j,rfl,hkj,hje,HP5,HF5,HX5⟩:=hrel
         have x05:=HX5.out 0 _ rfl
         have d25:=HP5.out.c2
         rcases Nat.lt_or_ge j e with hjl | hjl
         ·obtain ⟨hjj,p1,p2,p3,p4⟩:=at_k HP5.out HI.out HF5.out (show j < s.I.length by rw [← HM.out];omega)
          have HC3:=hid (fill_next' s.I k j v C' hkj)
          have HSZ:=hid (fun z=>HP5.out.setC hjj z)
          generalize hfj:fillTo s.I k v (j + 1 - k) C'=F2 at *
          have HFJ:=hid hfj
          clear hfj
          generalize fillTo s.I k v (j - k) C'=C3 at *
          dsimp only [put] at HC3
          generalize nix s.I j=ij at *
          generalize nth C3 ij=yj at *
          clear p4
          go_wp2
          go_region
          go_wp2
          go_roundw
          case rel=>exact ⟨j + 1,by go_num,by omega,by omega,hid (by rw [HFJ.out,HC3.out,HW.out];exact (HSZ.out _).fr0 (frz _ _ _ rfl rfl rfl rfl)),hid ((HF5.out.set (List.mem_singleton.2 rfl) _).trans (frz _ _ _ rfl rfl rfl rfl)),hid ((HX5.out.fr (fr_set1 _ q.bC ij _) HBC.out).fr (S:=[]) (frz _ _ _ rfl rfl rfl rfl) List.not_mem_nil)⟩
          case measure=>simp [intOf];omega
         ·have hje2:j=e:=by omega
          have HP6:=hid (show PS wr q (neAct s k e C') L G by rw [HNA.out,← hje2];exact HP5.out)
          have hjd:¬ (j:Int) < (e:Int):=by omega
          clear hje2
          go_wp2
          go_roundw
          case rel=>exact ⟨e,neAct s k e C',by go_num,hem,HTK,HP6,HF5,HX5⟩
          case measure=>simp [intOf];omega)
     ·have hx2:k < e:=by omega
      have HTK:=hid (rs_take (fun a k C h1 h2=>neAct_at HINJ.out a k C h1 h2) hx2 (show e ≤ s.I.length by rw [← HM.out];exact hem) HE.out (.inl (by rw [← HM.out];omega)) HRS.out)
      have h1':¬ (e:Int) < (m:Int):=by omega
      go_wp2_with fail
      refine (HCA.out _ ?_ ?_).mono ?_
      ·exact HP2.out.fr0 (frz _ _ _ rfl rfl rfl rfl)
      ·exact HI.out.fr (HF2.out.trans (frz _ _ _ rfl rfl rfl rfl)) (fun e=>nI (List.mem_singleton.1 e))
      rintro e' w1 ⟨rfl,hf1⟩
      have HF3:=hid (HF2.out.trans (w'':=w1) ⟨hf1.os,hf1.tape,hf1.output,hf1.size,fun k h1 _=>hf1.block k h1 List.not_mem_nil⟩)
      have HP3:=hid (HP2.out.fr0 (w':=w1) ⟨hf1.os,hf1.tape,hf1.output,hf1.size,hf1.block⟩)
      have HX3:=hid (HX2.out.fr (S:=[]) (w':=w1) ⟨hf1.os,hf1.tape,hf1.output,hf1.size,hf1.block⟩ List.not_mem_nil)
      have y0:=HX3.out 0 _ rfl
      have y1:=HX3.out 1 _ rfl
      have y2:=HX3.out 2 _ rfl
      have y3:=HX3.out 3 _ rfl
      clear hf1
      go_wp2_with fail
      refine (ref40_any _ _).mono ?_
      rintro e' w1' ⟨rfl,rfl⟩
      go_wp2_with fail
      refine (HCB.out _ HP3.out (HI.out.fr HF3.out (fun e=>nI (List.mem_singleton.1 e)))).mono ?_
      rintro e' w2 ⟨rfl,hf2⟩
      have HF4:=hid (HF3.out.trans (hf2.mono (fun _ h _=>absurd h List.not_mem_nil)))
      have HP4:=hid (HP3.out.fr0 hf2)
      have HX4:=hid (HX3.out.fr hf2 List.not_mem_nil)
      have z1:=HX4.out 1 _ rfl
      clear hf2 y0 y1 y2 y3
      go_wp2_with fail
      refine (ref40_any _ _).mono ?_
      rintro e' w2' ⟨rfl,rfl⟩
      generalize side (ah s C' k)=sa at *
      generalize side (att s C' e)=sb at *
      obtain ⟨v,hv⟩:∃ v,v=if sa=sb then sa else s.own:=⟨_,rfl⟩
      have HVV:=hid hv
      rw [← hv] at HNA
      clear hv
      by_cases hsab:sa=sb
      case' pos =>
           subst hsab
           have HW:=hid (show v=sa by rw [HVV.out,if_pos rfl])
      case' neg =>
           have HW:=hid (show v=s.own by rw [HVV.out,if_neg hsab])
      all_goals (
           go_wp2
           go_loopw [11] (fun a wr=>∃ (j:Nat),a=.int .i64 j∧k ≤ j∧j ≤ e∧Hid (PS wr q (fillTo s.I k v (j - k) C') L G)∧Hid (Fr [q.bC] w wr)∧Hid (boxAt wr w.heap.size bI m cI s.own s.bef s.aft)) (fun a _=>e - (intOf a).toNat)
           case atStart=>exact ⟨k,rfl,Nat.le_refl _,hke,hid (by rw [Nat.sub_self];exact HP4.out),HF4,HX4⟩
           case round =>
            obtain ⟨j,rfl,hkj,hje,HP5,HF5,HX5⟩:=hrel
            have x05:=HX5.out 0 _ rfl
            have d25:=HP5.out.c2
            rcases Nat.lt_or_ge j e with hjl | hjl
            ·obtain ⟨hjj,p1,p2,p3,p4⟩:=at_k HP5.out HI.out HF5.out (show j < s.I.length by rw [← HM.out];omega)
             have HC3:=hid (fill_next' s.I k j v C' hkj)
             have HSZ:=hid (fun z=>HP5.out.setC hjj z)
             generalize hfj:fillTo s.I k v (j + 1 - k) C'=F2 at *
             have HFJ:=hid hfj
             clear hfj
             generalize fillTo s.I k v (j - k) C'=C3 at *
             dsimp only [put] at HC3
             generalize nix s.I j=ij at *
             generalize nth C3 ij=yj at *
             clear p4
             go_wp2
             go_region
             go_wp2
             go_roundw
             case rel=>exact ⟨j + 1,by go_num,by omega,by omega,hid (by rw [HFJ.out,HC3.out,HW.out];exact (HSZ.out _).fr0 (frz _ _ _ rfl rfl rfl rfl)),hid ((HF5.out.set (List.mem_singleton.2 rfl) _).trans (frz _ _ _ rfl rfl rfl rfl)),hid ((HX5.out.fr (fr_set1 _ q.bC ij _) HBC.out).fr (S:=[]) (frz _ _ _ rfl rfl rfl rfl) List.not_mem_nil)⟩
             case measure=>simp [intOf];omega
            ·have hje2:j=e:=by omega
             have HP6:=hid (show PS wr q (neAct s k e C') L G by rw [HNA.out,← hje2];exact HP5.out)
             have hjd:¬ (j:Int) < (e:Int):=by omega
             clear hje2
             go_wp2
             go_roundw
             case rel=>exact ⟨e,neAct s k e C',by go_num,hem,HTK,HP6,HF5,HX5⟩
             case measure=>simp [intOf];omega)
   ·have HN:=hid (HSK.out (by rw [isNe_eq];exact decide_eq_false h5))
    generalize nix s.I k=i at *
    generalize nth C' i=y at *
    generalize side y=sy at *
    have h5':(0:Int) ≤ sy:=by omega
    go_wp2
    go_quiet (first | (go_at_call 92;exact Calls.quiet_of_same (HC40.out _)))
    go_wp2
    go_roundw
    case rel=>exact ⟨k + 1,C',by go_num,by omega,HN,hid (HP.out.fr0 (frz _ _ _ rfl rfl rfl rfl)),hid (HF.out.trans (frz _ _ _ rfl rfl rfl rfl)),hid (HX.out.fr (S:=[]) (frz _ _ _ rfl rfl rfl rfl) List.not_mem_nil)⟩
    case measure=>simp [intOf];omega
  ·have hk2:k=s.I.length:=by rw [← HM.out];omega
   have HSC:=hid (show neutral s C=C' from rs_end (by rw [← hk2];exact HRS.out))
   have HPZ:=hid (show PS wr q R L G by rw [HR.out,HSC.out];exact HP.out)
   clear hk2
   go_wp2
   go_end0
   exact ⟨rfl,HPZ.out,HF.out⟩
end Go.Proofs.YtnakejhohdbfdaaGreatDoor
