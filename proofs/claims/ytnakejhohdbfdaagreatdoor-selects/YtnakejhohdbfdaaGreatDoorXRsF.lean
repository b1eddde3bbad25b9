import Derived.Test.YtnakejhohdbfdaaGreatDoorXMd
namespace Go.Proofs.YtnakejhohdbfdaaGreatDoor
open Go.RowKit Lev
theorem loose_facts (I:List Nat)(C:List Int)(k:Nat):((cl I C k=4∨cl I C k=5∨cl I C k=7)→looseStep I C k=put I C k 13)∧(¬(cl I C k=4∨cl I C k=5∨cl I C k=7)→looseStep I C k=C) :=
 ⟨fun h=>by rw[looseStep,if_pos h],fun h=>by rw[looseStep,if_neg h]⟩
theorem et_facts (s:Sq)(k e:Nat)(C:List Int)(A B:Bool)(hA:A=decide (ah s C k=3))(hB:B=decide (att s C e=3)) :
 ((A || B)=true→etAct s k e C=fillTo s.I k 3 (e - k) C)∧((A || B)=false→etAct s k e C=C):=by
 subst hA hB;unfold etAct;by_cases h:ah s C k=3∨att s C e=3
 ·refine⟨fun _=>by rw[if_pos h],fun x=>?_⟩
  rcases h with h | h <;> simp[h]at x
 ·refine⟨fun x=>?_,fun _=>by rw[if_neg h]⟩
  simp at x;exact absurd x h
theorem fill_next (I:List Nat)(k j:Nat)(v:Int)(C:List Int)(h:k≤j):fillTo I k v (j+1 - k) C=put I (fillTo I k v (j - k) C) j v:=by
 rw[show j+1 - k=(j - k)+1 by omega,fillTo,show k+(j - k)=j by omega]
set_option linter.unusedSimpArgs false in
set_option maxRecDepth 10000 in
set_option maxHeartbeats 8000000 in
theorem ref38_any (q:PH)(C L:List Int)(G:List Bool)(bI cI:Nat)(s:Sq)(w:World)(hs:PS w q C L G)(hI:IS w q bI s.I)(h0:0<s.I.length)(hb:s.bef=0∨s.bef=1)(ha:s.aft=0∨s.aft=1)(hinj:inj s.I) :
 Calls Tryz.prog 90 #[.pointer (some ⟨q.p,0,none⟩),sqV bI cI s] w fun e w'=>e=.returned (.tuple #[])∧PS w' q (looseTo s.I s.I.length (scan s.I isET (etAct s) C)) L G∧Fr [q.bC] w w':=by
 have lp:=hs.lt;have sm:=hI.sm;have nC:=hs.neC.1;have nI:=hI.ne.1;have HS:=hid hs;have HI:=hid hI;obtain⟨R,hR⟩:∃R,R=looseTo s.I s.I.length (scan s.I isET (etAct s) C):=⟨_,rfl⟩;have HR:=hid hR;rw[←hR];obtain⟨m,hm⟩:∃m,m=s.I.length:=⟨_,rfl⟩;have HM:=hid hm;have HV:=hid (show sqV bI cI s=.agg #[.slice (some ⟨bI,0,none⟩) m cI,.int .i64 s.own,.int .i64 s.bef,.int .i64 s.aft] by rw[hm]);rw[HV.out];rw[←hm]at sm;have hm0:0<m:=by rw[hm];exact h0
 have hn0:0<q.n:=by have:=hI.lt 0 h0;omega
 have HBB:=hid hb;have HAA:=hid ha;have HINJ:=hid hinj;clear hm hR hs hI h0 hb ha hinj
 have HX0:=hid (show boxAt (w.alloc (.cells #[.slice (some ⟨bI,0,none⟩) m cI,.int .i64 s.own,.int .i64 s.bef,.int .i64 s.aft] 101)) w.heap.size bI m cI s.own s.bef s.aft from fun j v hv=>by
  rw[World.cell?_alloc_at _ _ _ _ rfl];exact hv)
 have HBC:=hid (show w.heap.size ∉ [q.bC]from fun h=>by
  have:=HS.out.ltC hn0;have:=List.mem_singleton.1 h;omega)
 go_enter Tryz.func90,Tryz.ntmps90;go_wp2;go_loopw [5] (fun a wr=>∃(k:Nat) (C':List Int),a=.int .i64 k∧k≤m∧Hid (refScan s.I isET (etAct s) C k C')∧Hid (PS wr q C' L G)∧Hid (Fr [q.bC] w wr)∧Hid (boxAt wr w.heap.size bI m cI s.own s.bef s.aft)) (fun a _=>m - (intOf a).toNat)
 case atStart=>exact⟨0,C,rfl,Nat.zero_le _,hid (rs_start _ _ _ _),hid (HS.out.alloc _),hid ((Fr.refl _ w).alloc _),HX0⟩
 case round =>
  obtain⟨k,C',rfl,hk,HRS,HP,HF,HX⟩:=hrel;have x0:=HX.out 0 _ rfl;have d2:=HP.out.c2;by_cases hlt:k<m
  ·obtain⟨hi,e1,e2,e3,e4⟩:=at_k HP.out HI.out HF.out (show k<s.I.length by rw[←HM.out];exact hlt)
   have HSK:=hid (fun h=>rs_skip (show k<s.I.length by rw[←HM.out];exact hlt) (show isET (cl s.I C' k)=false from h) HRS.out);dsimp only[cl]at HSK;by_cases h5:nth C' (nix s.I k)=5
   ·have HFK0:=hid h5
    rw[h5]at e2;generalize hix:nix s.I k=i at *;have HIX:=hid hix;clear hix;go_wp2;go_quiet (fail);go_wp2;go_loopw [6] (fun a wr=>∃(e:Nat),a=.int .i64 e∧k≤e∧e≤m∧Hid (∀j,k≤j→j<e→isET (cl s.I C' j)=true)∧Hid (PS wr q C' L G)∧Hid (Fr [q.bC] w wr)∧Hid (boxAt wr w.heap.size bI m cI s.own s.bef s.aft)) (fun a _=>m - (intOf a).toNat)
    case atStart=>exact⟨k,rfl,Nat.le_refl _,hk,hid (fun j h1 h2=>by omega),hid (HP.out.fr0 (frz _ _ _ rfl rfl rfl rfl)),hid (HF.out.trans (frz _ _ _ rfl rfl rfl rfl)),hid (HX.out.fr (S:=[]) (frz _ _ _ rfl rfl rfl rfl) List.not_mem_nil)⟩
    case round =>
     obtain⟨e,rfl,hke,hem,HE,HP2,HF2,HX2⟩:=hrel;have x0':=HX2.out 0 _ rfl;have d2':=HP2.out.c2;have hxe:(e<m∧nth C' (nix s.I e)=5)∨((e=m∨isET (cl s.I C' e)=false)∧k<e):=by
      by_cases h1:e<m
      ·by_cases h2:nth C' (nix s.I e)=5
       ·exact .inl ⟨h1,h2⟩
       ·refine .inr ⟨.inr (by simp[isET,h2]),?_⟩
        rcases Nat.lt_or_eq_of_le hke with h3 | h3
        ·exact h3
        ·exact absurd (by rw[←h3,HIX.out];exact HFK0.out) h2
      ·exact .inr ⟨.inl (by omega),by omega⟩
     rcases hxe with⟨h1,h2⟩ | ⟨hx1,hx2⟩
     ·obtain⟨hj,f1,f2,f3,f4⟩:=at_k HP2.out HI.out HF2.out (show e<s.I.length by rw[←HM.out];exact h1)
      have HE2:=hid (show ∀j,k≤j→j<e+1→isET (cl s.I C' j)=true from fun j a b=>by
          rcases Nat.lt_or_eq_of_le (Nat.le_of_lt_succ b)with h | h
          ·exact HE.out j a h
          ·rw[h,cl,h2];rfl)
      rw[h2]at f2;generalize nix s.I e=ie at *;have hi1:(e:Int)<(m:Int):=by omega
      clear f3 f4 h2;go_wp2;go_quiet (fail);go_wp2;go_roundw
      case rel=>exact⟨e+1,by go_num,by omega,by omega,HE2,hid (HP2.out.fr0 (frz _ _ _ rfl rfl rfl rfl)),hid (HF2.out.trans (frz _ _ _ rfl rfl rfl rfl)),hid (HX2.out.fr (S:=[]) (frz _ _ _ rfl rfl rfl rfl) List.not_mem_nil)⟩
      case measure=>simp[intOf];omega
     ·have HTK:=hid (rs_take (fun a k C h1 h2=>etAct_at HINJ.out a k C h1 h2) hx2 (show e≤s.I.length by rw[←HM.out];exact hem) HE.out (by rw[←HM.out];exact hx1) HRS.out)
      obtain⟨AV,hAV⟩:∃AV:Bool,AV=decide (ah s C' k=3):=⟨_,rfl⟩;obtain⟨BV,hBV⟩:∃BV:Bool,BV=decide (att s C' e=3):=⟨_,rfl⟩;have HAV:=hid hAV;have HBV:=hid hBV
      have hgd:¬(e<m∧nth C' (nix s.I e)=5):=by
          rintro ⟨h1,h2⟩
          rcases hx1 with h | h
          ·omega
          ·simp[isET,cl,h2]at h
      have HET:=hid (et_facts s k e C' AV BV hAV hBV);clear hAV hBV hx1
      rcases Nat.lt_or_ge e m with h1 | h1
      ·obtain⟨hj,f1,f2,f3,f4⟩:=at_k HP2.out HI.out HF2.out (show e<s.I.length by rw[←HM.out];exact h1)
       have HBV2:=hid (show BV=decide (nth C' (nix s.I e)=3) by rw[HBV.out,att,if_pos (by rw[←HM.out];exact h1)]);have h5e:¬nth C' (nix s.I e)=5:=fun h=>hgd ⟨h1,h⟩
       have nIS:=hid (show bI ∉ [q.bC]from fun h=>nI (List.mem_singleton.1 h));have E1:=hid (HI.out.r e (by rw[←HM.out];exact h1));generalize nix s.I e=ie at *;generalize hye:nth C' ie=ye at *;have HYE:=hid hye;have hi1:(e:Int)<(m:Int):=by omega
       clear f3 f4 hgd hye;go_wp2_with fail;go_quiet (fail);go_upto_region 9 with fail
       go_cut [7]from 15 to 109 (fun a wx=>a=.bool AV∧Hid (PS wx q C' L G)∧Hid (Fr [q.bC] w wx)∧Hid (boxAt wx w.heap.size bI m cI s.own s.bef s.aft))
       case first =>
        rcases Nat.eq_zero_or_pos k with hk0 | hk0
        ·have hav:AV=false:=by
          rw[HAV.out,hk0];have:ah s C' 0=s.bef:=rfl;rw[this];have:=HBB.out;exact decide_eq_false (by omega)
         have HAV3:=hid hav;have hk1:decide ((0:Int)<(k:Int))=false:=by simp;omega
         clear hav;go_quiet (fail);go_wp2;go_meet
         case rel=>exact⟨by rw[HAV3.out],hid (HP2.out.fr0 (frz _ _ _ rfl rfl rfl rfl)),hid (HF2.out.trans (frz _ _ _ rfl rfl rfl rfl)),hid (HX2.out.fr (S:=[]) (frz _ _ _ rfl rfl rfl rfl) List.not_mem_nil)⟩
        ·obtain⟨k',hk'⟩:∃k',k=k'+1:=⟨k - 1,by omega⟩
         obtain⟨hj',p1,p2,p3,p4⟩:=at_k HP2.out HI.out HF2.out (show k'<s.I.length by rw[←HM.out];omega);have HAV3:=hid (show AV=decide (nth C' (nix s.I k')=3) by rw[HAV.out,hk',ah,if_neg (by omega)];rfl);generalize nix s.I k'=i' at *;generalize nth C' i'=y' at *;have hk1:(0:Int)<(k:Int):=by omega
         have hk2:(k:Int) - 1=(k':Int):=by omega
         clear p3 p4;subst hk';go_quiet (fail);go_wp2;go_meet
         case rel=>exact⟨by rw[HAV3.out] <;> first | rfl | (congr 1;by_cases h:y'=3 <;> simp[h]),hid (HP2.out.fr0 (frz _ _ _ rfl rfl rfl rfl)),hid (HF2.out.trans (frz _ _ _ rfl rfl rfl rfl)),hid (HX2.out.fr (S:=[]) (frz _ _ _ rfl rfl rfl rfl) List.not_mem_nil)⟩
       case rest =>
        obtain⟨rfl,HP3,HF3,HX3⟩:=hcut;have x03:=HX3.out 0 _ rfl;have d23:=HP3.out.c2;have f1':=HF3.out.cell E1.out nIS.out;have f2':=HP3.out.rC _ hj;rw[HYE.out]at f2';go_upto_region 10 with fail
        go_cut [8]from 15 to 109 (fun a wx=>a=.bool BV∧Hid (PS wx q C' L G)∧Hid (Fr [q.bC] w wx)∧Hid (boxAt wx w.heap.size bI m cI s.own s.bef s.aft))
        case first =>
         go_quiet (fail);go_wp2;go_meet
         case rel=>exact⟨by rw[HBV2.out] <;> first | rfl | (congr 1;by_cases h:ye=3 <;> simp[h]),hid (HP3.out.fr0 (frz _ _ _ rfl rfl rfl rfl)),hid (HF3.out.trans (frz _ _ _ rfl rfl rfl rfl)),hid (HX3.out.fr (S:=[]) (frz _ _ _ rfl rfl rfl rfl) List.not_mem_nil)⟩
        case rest =>
         obtain⟨rfl,HP4,HF4,HX4⟩:=hcut;have x04:=HX4.out 0 _ rfl;have d24:=HP4.out.c2;go_wp2;go_loopw [9] (fun a wr=>∃(j:Nat) (C3:List Int),a=.int .i64 j∧k≤j∧j≤e∧Hid ((AV || BV)=true→C3=fillTo s.I k 3 (j - k) C')∧Hid ((AV || BV)=false→j=k∧C3=C')∧Hid (PS wr q C3 L G)∧Hid (Fr [q.bC] w wr)∧Hid (boxAt wr w.heap.size bI m cI s.own s.bef s.aft)) (fun a _=>e - (intOf a).toNat)
         case atStart=>exact⟨k,C',rfl,Nat.le_refl _,hke,hid (fun _=>by rw[Nat.sub_self];rfl),hid (fun _=>⟨rfl,rfl⟩),HP4,HF4,HX4⟩
         case round =>
          obtain⟨j,C3,rfl,hkj,hje,HA1,HA0,HP5,HF5,HX5⟩:=hrel;have x05:=HX5.out 0 _ rfl;have d25:=HP5.out.c2
          rcases Nat.lt_or_ge j e with hjl | hjl
          ·cases hab:(AV || BV)
           ·obtain⟨hj0,hC3⟩:=HA0.out hab
            have HC3:=hid (hC3.trans (HET.out.2 hab).symm);have hA:AV=false:=by cases AV;rfl;cases hab
            have hB:BV=false:=by cases BV;rfl;(cases AV <;> cases hab)
            subst hA hB;clear hab hC3;go_wp2;go_roundw
            case rel=>exact⟨e,etAct s k e C',by go_num,hem,HTK,hid (by rw[←HC3.out];exact HP5.out),HF5,HX5⟩
            case measure=>simp[intOf];omega
           ·obtain⟨hjj,p1,p2,p3,p4⟩:=at_k HP5.out HI.out HF5.out (show j<s.I.length by rw[←HM.out];omega)
            have HC3:=hid (show fillTo s.I k 3 (j+1 - k) C'=C3.set (nix s.I j) 3 by rw[fill_next _ _ _ _ _ hkj,←HA1.out hab]);have HSZ:=hid (fun z=>HP5.out.setC hjj z);generalize nix s.I j=ij at *;generalize nth C3 ij=yj at *;clear p4;have hab2:AV=true∨(AV=false∧BV=true):=by cases AV;(right;exact⟨rfl,by simpa using hab⟩);exact .inl rfl
            have HAB:=hid hab;clear hab
            rcases hab2 with hA | ⟨hA,hB⟩
            case' inl=>subst hA
            case' inr=>subst hA hB
            all_goals (
             go_wp2
             go_region
             go_wp2
             go_roundw
             case rel=>exact⟨j+1,_,by go_num,by omega,by omega,hid (fun _=>HC3.out.symm),hid (fun h=>by simp at h),hid ((HSZ.out 3).fr0 (frz _ _ _ rfl rfl rfl rfl)),hid ((HF5.out.set (List.mem_singleton.2 rfl) _).trans (frz _ _ _ rfl rfl rfl rfl)),hid ((HX5.out.fr (fr_set1 _ q.bC ij (.int .i64 3)) HBC.out).fr (S:=[]) (frz _ _ _ rfl rfl rfl rfl) List.not_mem_nil)⟩
             case measure=>simp[intOf];omega)
          ·have hje2:j=e:=by omega
           have HC3:=hid (show C3=etAct s k e C' by
            cases hab:(AV || BV)
            ·have:=(HA0.out hab).1;omega
            ·rw[HET.out.1 hab,HA1.out hab,hje2])
           have hjd:decide ((j:Int)<(e:Int))=false:=by simp;omega
           clear hje2;go_wp2;go_roundw
           case rel=>exact⟨e,etAct s k e C',by go_num,hem,HTK,hid (by rw[←HC3.out];exact HP5.out),HF5,HX5⟩
           case measure=>simp[intOf];omega
      ·have HBV2:=hid (show BV=false by
        rw[HBV.out,att,if_neg (by rw[←HM.out];omega)]
        have:=HAA.out
        exact decide_eq_false (by omega))
       have hi1:decide ((e:Int)<(m:Int))=false:=by simp;omega
       have hi2:decide (e<m)=false:=by simp;omega
       clear hgd;go_wp2_with fail;go_quiet (fail);go_upto_region 9 with fail
       go_cut [7]from 15 to 109 (fun a wx=>a=.bool AV∧Hid (PS wx q C' L G)∧Hid (Fr [q.bC] w wx)∧Hid (boxAt wx w.heap.size bI m cI s.own s.bef s.aft))
       case first =>
        rcases Nat.eq_zero_or_pos k with hk0 | hk0
        ·have hav:AV=false:=by
          rw[HAV.out,hk0];have:ah s C' 0=s.bef:=rfl;rw[this];have:=HBB.out;exact decide_eq_false (by omega)
         have HAV3:=hid hav;have hk1:decide ((0:Int)<(k:Int))=false:=by simp;omega
         clear hav;go_quiet (fail);go_wp2;go_meet
         case rel=>exact⟨by rw[HAV3.out],hid (HP2.out.fr0 (frz _ _ _ rfl rfl rfl rfl)),hid (HF2.out.trans (frz _ _ _ rfl rfl rfl rfl)),hid (HX2.out.fr (S:=[]) (frz _ _ _ rfl rfl rfl rfl) List.not_mem_nil)⟩
        ·obtain⟨k',hk'⟩:∃k',k=k'+1:=⟨k - 1,by omega⟩
         obtain⟨hj',p1,p2,p3,p4⟩:=at_k HP2.out HI.out HF2.out (show k'<s.I.length by rw[←HM.out];omega);have HAV3:=hid (show AV=decide (nth C' (nix s.I k')=3) by rw[HAV.out,hk',ah,if_neg (by omega)];rfl);generalize nix s.I k'=i' at *;generalize nth C' i'=y' at *;have hk1:(0:Int)<(k:Int):=by omega
         have hk2:(k:Int) - 1=(k':Int):=by omega
         clear p3 p4;subst hk';go_quiet (fail);go_wp2;go_meet
         case rel=>exact⟨by rw[HAV3.out] <;> first | rfl | (congr 1;by_cases h:y'=3 <;> simp[h]),hid (HP2.out.fr0 (frz _ _ _ rfl rfl rfl rfl)),hid (HF2.out.trans (frz _ _ _ rfl rfl rfl rfl)),hid (HX2.out.fr (S:=[]) (frz _ _ _ rfl rfl rfl rfl) List.not_mem_nil)⟩
       case rest =>
        obtain⟨rfl,HP3,HF3,HX3⟩:=hcut;have x03:=HX3.out 0 _ rfl;have d23:=HP3.out.c2;go_upto_region 10 with fail
        go_cut [8]from 15 to 109 (fun a wx=>a=.bool BV∧Hid (PS wx q C' L G)∧Hid (Fr [q.bC] w wx)∧Hid (boxAt wx w.heap.size bI m cI s.own s.bef s.aft))
        case first =>
         go_quiet (fail);go_wp2;go_meet
         case rel=>exact⟨by rw[HBV2.out],hid (HP3.out.fr0 (frz _ _ _ rfl rfl rfl rfl)),hid (HF3.out.trans (frz _ _ _ rfl rfl rfl rfl)),hid (HX3.out.fr (S:=[]) (frz _ _ _ rfl rfl rfl rfl) List.not_mem_nil)⟩
        case rest =>
         obtain⟨rfl,HP4,HF4,HX4⟩:=hcut;have x04:=HX4.out 0 _ rfl;have d24:=HP4.out.c2;go_wp2;go_loopw [9] (fun a wr=>∃(j:Nat) (C3:List Int),a=.int .i64 j∧k≤j∧j≤e∧Hid ((AV || BV)=true→C3=fillTo s.I k 3 (j - k) C')∧Hid ((AV || BV)=false→j=k∧C3=C')∧Hid (PS wr q C3 L G)∧Hid (Fr [q.bC] w wr)∧Hid (boxAt wr w.heap.size bI m cI s.own s.bef s.aft)) (fun a _=>e - (intOf a).toNat)
         case atStart=>exact⟨k,C',rfl,Nat.le_refl _,hke,hid (fun _=>by rw[Nat.sub_self];rfl),hid (fun _=>⟨rfl,rfl⟩),HP4,HF4,HX4⟩
         case round =>
          obtain⟨j,C3,rfl,hkj,hje,HA1,HA0,HP5,HF5,HX5⟩:=hrel;have x05:=HX5.out 0 _ rfl;have d25:=HP5.out.c2
          rcases Nat.lt_or_ge j e with hjl | hjl
          ·cases hab:(AV || BV)
           ·obtain⟨hj0,hC3⟩:=HA0.out hab
            have HC3:=hid (hC3.trans (HET.out.2 hab).symm);have hA:AV=false:=by cases AV;rfl;cases hab
            have hB:BV=false:=by cases BV;rfl;(cases AV <;> cases hab)
            subst hA hB;clear hab hC3;go_wp2;go_roundw
            case rel=>exact⟨e,etAct s k e C',by go_num,hem,HTK,hid (by rw[←HC3.out];exact HP5.out),HF5,HX5⟩
            case measure=>simp[intOf];omega
           ·obtain⟨hjj,p1,p2,p3,p4⟩:=at_k HP5.out HI.out HF5.out (show j<s.I.length by rw[←HM.out];omega)
            have HC3:=hid (show fillTo s.I k 3 (j+1 - k) C'=C3.set (nix s.I j) 3 by rw[fill_next _ _ _ _ _ hkj,←HA1.out hab]);have HSZ:=hid (fun z=>HP5.out.setC hjj z);generalize nix s.I j=ij at *;generalize nth C3 ij=yj at *;clear p4;have hab2:AV=true∨(AV=false∧BV=true):=by cases AV;(right;exact⟨rfl,by simpa using hab⟩);exact .inl rfl
            have HAB:=hid hab;clear hab
            rcases hab2 with hA | ⟨hA,hB⟩
            case' inl=>subst hA
            case' inr=>subst hA hB
            all_goals (
             go_wp2
             go_region
             go_wp2
             go_roundw
             case rel=>exact⟨j+1,_,by go_num,by omega,by omega,hid (fun _=>HC3.out.symm),hid (fun h=>by simp at h),hid ((HSZ.out 3).fr0 (frz _ _ _ rfl rfl rfl rfl)),hid ((HF5.out.set (List.mem_singleton.2 rfl) _).trans (frz _ _ _ rfl rfl rfl rfl)),hid ((HX5.out.fr (fr_set1 _ q.bC ij (.int .i64 3)) HBC.out).fr (S:=[]) (frz _ _ _ rfl rfl rfl rfl) List.not_mem_nil)⟩
             case measure=>simp[intOf];omega)
          ·have hje2:j=e:=by omega
           have HC3:=hid (show C3=etAct s k e C' by
            cases hab:(AV || BV)
            ·have:=(HA0.out hab).1;omega
            ·rw[HET.out.1 hab,HA1.out hab,hje2])
           have hjd:decide ((j:Int)<(e:Int))=false:=by simp;omega
           clear hje2;go_wp2;go_roundw
           case rel=>exact⟨e,etAct s k e C',by go_num,hem,HTK,hid (by rw[←HC3.out];exact HP5.out),HF5,HX5⟩
           case measure=>simp[intOf];omega
   ·have HN:=hid (HSK.out (by simp[isET,h5]))
    generalize nix s.I k=i at *;generalize nth C' i=y at *;go_wp2;go_quiet (fail);go_wp2;go_roundw
    case rel=>exact⟨k+1,C',by go_num,by omega,HN,hid (HP.out.fr0 (frz _ _ _ rfl rfl rfl rfl)),hid (HF.out.trans (frz _ _ _ rfl rfl rfl rfl)),hid (HX.out.fr (S:=[]) (frz _ _ _ rfl rfl rfl rfl) List.not_mem_nil)⟩
    case measure=>simp[intOf];omega
  ·have hk2:k=s.I.length:=by rw[←HM.out];omega
   have HSC:=hid (show scan s.I isET (etAct s) C=C' from rs_end (by rw[←hk2];exact HRS.out));clear hk2;go_wp2;go_loopw [10] (fun a wr=>∃(k:Nat),a=.int .i64 k∧k≤m∧Hid (PS wr q (looseTo s.I k C') L G)∧Hid (Fr [q.bC] w wr)∧Hid (boxAt wr w.heap.size bI m cI s.own s.bef s.aft)) (fun a _=>m - (intOf a).toNat)
   case atStart=>exact⟨0,rfl,Nat.zero_le _,HP,HF,HX⟩
   case round =>
    obtain⟨k,rfl,hk,HP,HF,HX⟩:=hrel;have x0:=HX.out 0 _ rfl;have d2:=HP.out.c2;by_cases hlt3:k<m
    ·obtain⟨hi,e1,e2,e3,e4⟩:=at_k HP.out HI.out HF.out (show k<s.I.length by rw[←HM.out];exact hlt3)
     have HST:=hid (show looseTo s.I (k+1) C'=looseStep s.I (looseTo s.I k C') k from rfl);have HSC:=hid (fun z=>HP.out.setC hi z);have HNS:=hid (loose_facts s.I (looseTo s.I k C') k);rw[←HST.out]at HNS;generalize hN2:looseTo s.I (k+1) C'=N2 at *;have HN2:=hid hN2;clear hN2;generalize looseTo s.I k C'=N at *;dsimp only[cl,put]at *;generalize nix s.I k=i at *;generalize nth N i=y at *;clear HST;go_wp2;go_quiet (fail);go_wp2
     all_goals (try go_region)
     all_goals (try go_wp2)
     all_goals first
      | (exfalso;(try simp only[beq_iff_eq,beq_eq_false_iff_ne,ne_eq]at *);omega)
      | (have hN:=HNS.out.1 (by(try simp only[beq_iff_eq,beq_eq_false_iff_ne,ne_eq]at *);omega)
         refine⟨⟨k+1,by go_num,by omega,hid ?_,hid ?_,hid ?_⟩,by simp[intOf];omega⟩
         ·rw[HN2.out,hN];exact(HSC.out 13).fr0 (frz _ _ _ rfl rfl rfl rfl)
         ·exact(HF.out.set (List.mem_singleton.2 rfl) _).trans (frz _ _ _ rfl rfl rfl rfl)
         ·exact(HX.out.fr (fr_set1 _ q.bC i (.int .i64 13)) HBC.out).fr (S:=[]) (frz _ _ _ rfl rfl rfl rfl) List.not_mem_nil)
      | (have hN:=HNS.out.2 (by(try simp only[beq_iff_eq,beq_eq_false_iff_ne,ne_eq]at *);omega)
         refine⟨⟨k+1,by go_num,by omega,hid ?_,hid ?_,hid ?_⟩,by simp[intOf];omega⟩
         ·rw[HN2.out,hN];exact HP.out.fr0 (frz _ _ _ rfl rfl rfl rfl)
         ·exact HF.out.trans (frz _ _ _ rfl rfl rfl rfl)
         ·exact HX.out.fr (S:=[]) (frz _ _ _ rfl rfl rfl rfl) List.not_mem_nil)
    ·have hk2:k=m:=by omega
     have HPZ:=hid (show PS wr q R L G by
      rw[HR.out,←HM.out,HSC.out,←hk2]
      exact HP.out)
     clear hk2;go_wp2;go_end0;exact⟨rfl,HPZ.out,HF.out⟩
end Go.Proofs.YtnakejhohdbfdaaGreatDoor
