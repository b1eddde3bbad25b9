import Derived.Test.YtnakejhohdbfdaaGreatDoorXMd
import Derived.Test.YtnakejhohdbfdaaGreatDoorXRsC
namespace Go.Proofs.YtnakejhohdbfdaaGreatDoor
open Go.RowKit Lev
def prsAt (w:World)(B:Nat)(v:Value)(ps:List (Nat × Nat)):Prop :=
 (ps.length=0→v=.slice none 0 0)∧(0<ps.length→∃g cap,v=.slice (some ⟨g,0,none⟩) ps.length cap∧B≤g∧∀i,i<ps.length →
   w.cell? ⟨g,i * 2,none⟩=some (.int .i64 (((ps[i]?).getD (0,0)).1:Nat))∧w.cell? ⟨g,i * 2+1,none⟩=some (.int .i64 (((ps[i]?).getD (0,0)).2:Nat)))
def othF (s:Sq)(C:List Int)(k:Nat):Bool:=decide (0≤side (cl s.I C k)) && !(side (cl s.I C k) == s.own)
def ownF (s:Sq)(C:List Int)(k:Nat):Bool:=side (cl s.I C k) == s.own
theorem any_oth (s:Sq)(C:List Int)(a:Nat):∀d,anyTo (ownF s C) a d=false→anyTo (fun k=>decide (0≤side (cl s.I C k))) a d=anyTo (othF s C) a d
 | 0,_=>rfl
 | d+1,h=>by
   rw[anyTo,Bool.or_eq_false_iff]at h;rw[anyTo,anyTo,any_oth s C a d h.1];have h2:=h.2;unfold ownF at h2;unfold othF;rw[h2];simp
theorem br_facts (K:List Int)(s:Sq)(a b:Nat)(C:List Int) :
 (anyTo (ownF s C) (a+1) (b - (a+1))=true→brStep K s (a,b) C=become K s.I b s.own (become K s.I a s.own C)) ∧
 (anyTo (ownF s C) (a+1) (b - (a+1))=false→anyTo (othF s C) (a+1) (b - (a+1))=true→brStep K s (a,b) C=become K s.I b (aheadTo s C a) (become K s.I a (aheadTo s C a) C)) ∧
 (anyTo (ownF s C) (a+1) (b - (a+1))=false→anyTo (othF s C) (a+1) (b - (a+1))=false→brStep K s (a,b) C=C):=by
 have e:(fun k=>side (cl s.I C k) == s.own)=ownF s C:=rfl;refine⟨fun h=>?_,fun h h2=>?_,fun h h2=>?_⟩
 ·simp only[brStep];rw[e,if_pos h]
 ·simp only[brStep];rw[e,if_neg (by rw[h];exact Bool.false_ne_true),any_oth s C _ _ h,if_pos h2]
 ·simp only[brStep];rw[e,if_neg (by rw[h];exact Bool.false_ne_true),any_oth s C _ _ h,if_neg (by rw[h2];exact Bool.false_ne_true)]
set_option linter.unusedSimpArgs false in
set_option maxRecDepth 10000 in
set_option maxHeartbeats 8000000 in
theorem ref17_any (q:PH)(C L:List Int)(G:List Bool)(bI cI:Nat)(s:Sq)(w:World)(hs:PS w q C L G)(hI:IS w q bI s.I)(h0:0<s.I.length)
 (ps:List (Nat × Nat)) (hps:ps=(pairsTo q.R s.I C s.I.length).out) (hok:∀i,i<ps.length→((ps[i]?).getD (0,0)).1<((ps[i]?).getD (0,0)).2∧((ps[i]?).getD (0,0)).2<s.I.length) (hpl:ps.length≤1000000)
 (pairs:∀(w:World),PS w q C L G→IS w q bI s.I→Calls Tryz.prog 91 #[.pointer (some ⟨q.p,0,none⟩),sqV bI cI s] w fun e w'=>∃v,e=.returned v∧prsAt w' w.heap.size v ps∧Fr [] w w') :
 Calls Tryz.prog 48 #[.pointer (some ⟨q.p,0,none⟩),sqV bI cI s] w fun e w'=>e=.returned (.tuple #[])∧PS w' q (brackets q.R q.K s C) L G∧Fr [q.bC] w w':=by
 have lp:=hs.lt;have sm:=hI.sm;have nC:=hs.neC.1;have nI:=hI.ne.1;have HS:=hid hs;have HI:=hid hI;obtain⟨R,hR⟩:∃R,R=brackets q.R q.K s C:=⟨_,rfl⟩;have HR:=hid hR;rw[←hR];obtain⟨m,hm⟩:∃m,m=s.I.length:=⟨_,rfl⟩;have HM:=hid hm;have HV:=hid (show sqV bI cI s=.agg #[.slice (some ⟨bI,0,none⟩) m cI,.int .i64 s.own,.int .i64 s.bef,.int .i64 s.aft] by rw[hm]);rw[HV.out];rw[←hm]at sm;have hm0:0<m:=by rw[hm];exact h0
 have hn0:0<q.n:=by have:=hI.lt 0 h0;omega
 have HOK:=hid hok;have HPS:=hid hps;have HPR:=hid (pairs _ (hs.alloc (.cells #[.slice (some ⟨bI,0,none⟩) m cI,.int .i64 s.own,.int .i64 s.bef,.int .i64 s.aft] 101)) (hI.fr (S:=[]) ((Fr.refl _ w).alloc _) List.not_mem_nil));rw[HV.out]at HPR;have lC0:=hs.ltC hn0;clear hm hR hs hI h0 hok hps pairs
 have HX0:=hid (show boxAt (w.alloc (.cells #[.slice (some ⟨bI,0,none⟩) m cI,.int .i64 s.own,.int .i64 s.bef,.int .i64 s.aft] 101)) w.heap.size bI m cI s.own s.bef s.aft from fun j v hv=>by
  rw[World.cell?_alloc_at _ _ _ _ rfl];exact hv)
 have HBC:=hid (show w.heap.size ∉ [q.bC]from fun h=>by
  have:=HS.out.ltC hn0;have:=List.mem_singleton.1 h;omega)
 go_enter Tryz.func48,Tryz.ntmps48;go_wp2_with fail;refine HPR.out.mono ?_;rintro e' w1 ⟨v,rfl,hv,hf1⟩;have HF1:=hid (((Fr.refl [q.bC] w).alloc (.cells #[.slice (some ⟨bI,0,none⟩) m cI,.int .i64 s.own,.int .i64 s.bef,.int .i64 s.aft] 101)).trans (hf1.mono (fun _ h _=>absurd h List.not_mem_nil)));have HP1:=hid ((HS.out.alloc (.cells #[.slice (some ⟨bI,0,none⟩) m cI,.int .i64 s.own,.int .i64 s.bef,.int .i64 s.aft] 101)).fr0 hf1);have HX1:=hid (HX0.out.fr hf1 List.not_mem_nil)
 rcases Nat.eq_zero_or_pos ps.length with hz | hz
 ·have hvv:=hv.1 hz
  subst hvv;have HRC:=hid (show R=C by rw[HR.out,brackets,←HPS.out,hz];rfl);clear hv hf1;go_wp2;go_loopw [5] (fun a wr=>a=.int .i64 0∧Hid (PS wr q C L G)∧Hid (Fr [q.bC] w wr)) (fun _ _=>0)
  case atStart=>exact⟨rfl,HP1,HF1⟩
  case round =>
   obtain⟨rfl,HP,HF⟩:=hrel;go_wp2;go_end0;exact⟨rfl,by rw[HRC.out];exact HP.out,HF.out⟩
 ·obtain⟨g,cap,hvv,hg,hcells⟩:=hv.2 hz
  subst hvv;have HCE:=hid hcells
  have hgC:q.bC≠g:=by have:w.heap.size≤g:=by(simp at hg;omega)
                      omega
  clear hv hf1 hcells;obtain⟨np,hnp⟩:∃np,np=ps.length:=⟨_,rfl⟩;have HNP:=hid hnp;rw[←hnp]at hz hpl ⊢;clear hnp;go_wp2;go_loopw [5] (fun a wr=>∃(t:Nat),a=.int .i64 t∧t≤np∧Hid (PS wr q (brTo q.K s ps t C) L G)∧Hid (Fr [q.bC] w wr)∧Hid (Fr [q.bC] w1 wr)∧Hid (boxAt wr w.heap.size bI m cI s.own s.bef s.aft)) (fun a _=>np - (intOf a).toNat)
  case atStart=>exact⟨0,rfl,Nat.zero_le _,HP1,HF1,hid (Fr.refl _ _),HX1⟩
  case round =>
   obtain⟨t,rfl,ht,HP,HF,HF',HX⟩:=hrel;have x0:=HX.out 0 _ rfl;have x1:=HX.out 1 _ rfl;have x2:=HX.out 2 _ rfl;have x3:=HX.out 3 _ rfl;have d2:=HP.out.c2;by_cases hlt:t<np
   ·obtain⟨p1,p2⟩:=HCE.out t (by rw[←HNP.out];exact hlt)
    have g1:=HF'.out.cell p1 (fun h=>hgC (List.mem_singleton.1 h).symm);have g2:=HF'.out.cell p2 (fun h=>hgC (List.mem_singleton.1 h).symm);obtain⟨ha,hb⟩:=HOK.out t (by rw[←HNP.out];exact hlt);have HST:=hid (show brTo q.K s ps (t+1) C=brStep q.K s ((ps[t]?).getD (0,0)) (brTo q.K s ps t C)from rfl);clear p1 p2;generalize hpr:(ps[t]?).getD (0,0)=pr at *;obtain⟨a,b⟩:=pr;have HPT:=hid hpr;clear hpr;dsimp only at *;rw[←HM.out]at hb;have HBF:=hid (br_facts q.K s a b (brTo q.K s ps t C));rw[←HST.out]at HBF;generalize hN2:brTo q.K s ps (t+1) C=N2 at *;have HN2:=hid hN2;clear hN2 HST;generalize brTo q.K s ps t C=C1 at *;go_wp2;go_loopw [6,7,8,9] (fun o1 o2 kk _ wr=>∃(e:Nat),o1=.bool (anyTo (ownF s C1) (a+1) e)∧o2=.bool (anyTo (othF s C1) (a+1) e)∧kk=.int .i64 (a+1+e:Nat)∧a+1+e≤b∧Hid (PS wr q C1 L G)∧Hid (Fr [q.bC] w wr)∧Hid (Fr [q.bC] w1 wr)∧Hid (boxAt wr w.heap.size bI m cI s.own s.bef s.aft)) (fun _ _ kk _ _=>b - (intOf kk).toNat)
    case atStart=>exact⟨0,rfl,rfl,by go_num,by omega,HP,HF,HF',HX⟩
    case round =>
     obtain⟨e,rfl,rfl,rfl,hem,HP2,HF2,HF2',HX2⟩:=hrel;have x0':=HX2.out 0 _ rfl;have x1':=HX2.out 1 _ rfl;have d2':=HP2.out.c2;obtain⟨p1',p2'⟩:=HCE.out t (by rw[←HNP.out];exact hlt);rw[HPT.out]at p1' p2';have g1':=HF2'.out.cell p1' (fun h=>hgC (List.mem_singleton.1 h).symm);have g2':=HF2'.out.cell p2' (fun h=>hgC (List.mem_singleton.1 h).symm);dsimp only at g1' g2';clear p1' p2';by_cases hel:a+1+e<b
     ·obtain⟨hi,e1,e2,e3,e4⟩:=at_k HP2.out HI.out HF2.out (show a+1+e<s.I.length by rw[←HM.out];omega)
      have HO1:=hid (show anyTo (ownF s C1) (a+1) (e+1)=(anyTo (ownF s C1) (a+1) e || (side (nth C1 (nix s.I (a+1+e))) == s.own))from rfl);have HO2:=hid (show anyTo (othF s C1) (a+1) (e+1)=(anyTo (othF s C1) (a+1) e || (decide (0≤side (nth C1 (nix s.I (a+1+e)))) && !(side (nth C1 (nix s.I (a+1+e))) == s.own)))from rfl);have HC40:=hid (ref40_any (nth C1 (nix s.I (a+1+e))));generalize hA1:anyTo (ownF s C1) (a+1) (e+1)=A1 at *;have HA1:=hid hA1;generalize hA2:anyTo (othF s C1) (a+1) (e+1)=A2 at *;have HA2:=hid hA2;clear hA1 hA2;generalize anyTo (ownF s C1) (a+1) e=B1 at *;generalize anyTo (othF s C1) (a+1) e=B2 at *;generalize nix s.I (a+1+e)=i at *;generalize nth C1 i=y at *;generalize side y=sy at *;generalize hke:a+1+e=ke at *;have HKE:=hid hke;clear hke e3 e4;cases B1 <;> cases B2
      all_goals (
       go_wp2
       go_quiet (first | (go_at_call 92;exact Calls.quiet_of_same (HC40.out _)))
       go_wp2)
      all_goals (
       refine⟨⟨e+1,?_,?_,?_,by have:=HKE.out;omega,hid (HP2.out.fr0 (frz _ _ _ rfl rfl rfl rfl)),hid (HF2.out.trans (frz _ _ _ rfl rfl rfl rfl)),hid (HF2'.out.trans (frz _ _ _ rfl rfl rfl rfl)),hid (HX2.out.fr (S:=[]) (frz _ _ _ rfl rfl rfl rfl) List.not_mem_nil)⟩,?_⟩
       ·rw[HA1.out,HO1.out];first | (simp[*];done) | (simp_all;done) | (simp_all;rfl)
       ·rw[HA2.out,HO2.out];first | (simp[*];done) | (simp_all;done) | (simp_all;rfl)
       ·have hz:=HKE.out;rw[show a+1+(e+1)=ke+1 by omega];go_num
       ·simp[intOf];omega)
     ·have hee:e=b - (a+1):=by omega
      rw[←hee]at HBF;have x2':=HX2.out 2 _ rfl;have x3':=HX2.out 3 _ rfl;have hnl:¬((a+1+e:Nat):Int)<(b:Int):=by omega
      have G2H:=hid g2';clear hee;cases hOW:anyTo (ownF s C1) (a+1) e
      ·cases hOT:anyTo (othF s C1) (a+1) e
       ·have HN:=hid (HBF.out.2.2 hOW hOT)
        go_wp2;go_roundw
        case rel=>exact⟨t+1,by go_num,by omega,hid (by rw[HN2.out,HN.out];exact HP2.out),HF2,HF2',HX2⟩
        case measure=>simp[intOf];omega
       ·have HN:=hid (HBF.out.2.1 hOW hOT)
        clear x1';have x1':=HX2.out 1 _ rfl;go_wp2_with fail;refine(ref40_any _ _).mono ?_;rintro e' w2 ⟨rfl,rfl⟩;go_wp2;go_loopw [11,12,13] (fun dd kk _ wr=>∃(k:Nat),dd=.int .i64 (aheadTo s C1 k)∧kk=.int .i64 k∧k≤a∧Hid (PS wr q C1 L G)∧Hid (Fr [q.bC] w wr)∧Hid (Fr [q.bC] w1 wr)∧Hid (boxAt wr w.heap.size bI m cI s.own s.bef s.aft)) (fun _ kk _ _=>a - (intOf kk).toNat)
        case atStart=>exact⟨0,rfl,rfl,Nat.zero_le _,HP2,HF2,HF2',HX2⟩
        case round =>
         obtain⟨k,rfl,rfl,hka,HP5,HF5,HF5',HX5⟩:=hrel;have x05:=HX5.out 0 _ rfl;have x15:=HX5.out 1 _ rfl;have x25:=HX5.out 2 _ rfl;have x35:=HX5.out 3 _ rfl;have d25:=HP5.out.c2;obtain⟨p1',p2'⟩:=HCE.out t (by rw[←HNP.out];exact hlt);rw[HPT.out]at p1' p2';have g15:=HF5'.out.cell p1' (fun h=>hgC (List.mem_singleton.1 h).symm);have g25:=HF5'.out.cell p2' (fun h=>hgC (List.mem_singleton.1 h).symm);dsimp only at g15 g25;clear p1' p2';by_cases hkl:k<a
         ·obtain⟨hi,e1,e2,e3,e4⟩:=at_k HP5.out HI.out HF5.out (show k<s.I.length by rw[←HM.out];omega)
          have HAH:=hid (show aheadTo s C1 (k+1)=if 0≤side (nth C1 (nix s.I k))then side (nth C1 (nix s.I k))else aheadTo s C1 k from rfl);have HC40:=hid (ref40_any (nth C1 (nix s.I k)));generalize hA1:aheadTo s C1 (k+1)=A1 at *;have HA1:=hid hA1;clear hA1;generalize aheadTo s C1 k=A0 at *;generalize nix s.I k=i at *;generalize nth C1 i=y at *;generalize side y=sy at *;clear e3 e4;by_cases hsy:0≤sy
          ·have HA2:=hid (show A1=sy by rw[HAH.out,if_pos hsy])
           go_wp2;go_quiet (first | (go_at_call 92;exact Calls.quiet_of_same (HC40.out _)));go_wp2;go_roundw
           case rel=>exact⟨k+1,by rw[HA1.out,HA2.out],by go_num,by omega,hid (HP5.out.fr0 (frz _ _ _ rfl rfl rfl rfl)),hid (HF5.out.trans (frz _ _ _ rfl rfl rfl rfl)),hid (HF5'.out.trans (frz _ _ _ rfl rfl rfl rfl)),hid (HX5.out.fr (S:=[]) (frz _ _ _ rfl rfl rfl rfl) List.not_mem_nil)⟩
           case measure=>simp[intOf];omega
          ·have HA2:=hid (show A1=A0 by rw[HAH.out,if_neg hsy])
           go_wp2;go_quiet (first | (go_at_call 92;exact Calls.quiet_of_same (HC40.out _)));go_wp2;go_roundw
           case rel=>exact⟨k+1,by rw[HA1.out,HA2.out],by go_num,by omega,hid (HP5.out.fr0 (frz _ _ _ rfl rfl rfl rfl)),hid (HF5.out.trans (frz _ _ _ rfl rfl rfl rfl)),hid (HF5'.out.trans (frz _ _ _ rfl rfl rfl rfl)),hid (HX5.out.fr (S:=[]) (frz _ _ _ rfl rfl rfl rfl) List.not_mem_nil)⟩
           case measure=>simp[intOf];omega
         ·have hka2:k=a:=by omega
          have G5H:=hid g25;obtain⟨A0,hA0⟩:∃A0,A0=aheadTo s C1 a:=⟨_,rfl⟩;rw[←hA0]at HN;rw[show aheadTo s C1 k=A0 by rw[hA0,hka2]];clear hka2 hA0;have hkn:¬(k:Int)<(a:Int):=by omega
          by_cases hA:A0=s.own
          ·have HB1:=hid (fun w hp hi hk=>ref41_any q C1 L G bI cI s a s.own w hp hi hk)
           have HB2:=hid (fun w hp hi hk=>ref41_any q (become q.K s.I a s.own C1) L G bI cI s b s.own w hp hi hk);rw[HV.out]at HB1 HB2;rw[hA]at HN;go_wp2_with fail;go_region_with (first | (go_at_call 93;refine(HB1.out _ ?_ ?_ ?_).mono ?_;exact HP5.out.fr0 (frz _ _ _ rfl rfl rfl rfl);exact HI.out.fr (HF5.out.trans (frz _ _ _ rfl rfl rfl rfl)) (fun e=>nI (List.mem_singleton.1 e));(rw[←HM.out];omega);rintro e' w3 ⟨rfl,hp3,hf3⟩))
           all_goals (
            have hf3':Fr [q.bC] wr w3:=⟨hf3.os,hf3.tape,hf3.output,hf3.size,hf3.block⟩
            have HP3:=hid hp3
            have HF3:=hid (HF5.out.trans hf3')
            have HX3:=hid (HX5.out.fr hf3' HBC.out)
            have u0:=HX3.out 0 _ rfl
            have u1:=HX3.out 1 _ rfl
            have u2:=HX3.out 2 _ rfl
            have u3:=HX3.out 3 _ rfl
            have g2x:=hf3'.cell G5H.out (fun h=>hgC (List.mem_singleton.1 h).symm)
            have HF3':=hid (HF5'.out.trans hf3')
            clear hp3 hf3 hf3'
            go_wp2_with fail
            go_region_with (first | (go_at_call 93;refine(HB2.out _ ?_ ?_ ?_).mono ?_;exact HP3.out.fr0 (frz _ _ _ rfl rfl rfl rfl);exact HI.out.fr (HF3.out.trans (frz _ _ _ rfl rfl rfl rfl)) (fun e=>nI (List.mem_singleton.1 e));(rw[←HM.out];omega);rintro e' w4 ⟨rfl,hp4,hf4⟩))
            all_goals (
             have hf4':Fr [q.bC] w3 w4:=⟨hf4.os,hf4.tape,hf4.output,hf4.size,hf4.block⟩
             have HP4:=hid hp4
             have HF4:=hid (HF3.out.trans hf4')
             have HF4':=hid (HF3'.out.trans hf4')
             have HX4:=hid (HX3.out.fr hf4' HBC.out)
             clear hp4 hf4 hf4' u0 u1 u2 u3 g2x
             go_wp2
             go_roundw
             case rel=>exact⟨t+1,by go_num,by omega,hid (by rw[HN2.out,HN.out];exact HP4.out),HF4,HF4',HX4⟩
             case measure=>simp[intOf];omega))
          ·have HB1:=hid (fun w hp hi hk=>ref41_any q C1 L G bI cI s a A0 w hp hi hk)
           have HB2:=hid (fun w hp hi hk=>ref41_any q (become q.K s.I a A0 C1) L G bI cI s b A0 w hp hi hk);rw[HV.out]at HB1 HB2;go_wp2_with fail;go_region_with (first | (go_at_call 93;refine(HB1.out _ ?_ ?_ ?_).mono ?_;exact HP5.out.fr0 (frz _ _ _ rfl rfl rfl rfl);exact HI.out.fr (HF5.out.trans (frz _ _ _ rfl rfl rfl rfl)) (fun e=>nI (List.mem_singleton.1 e));(rw[←HM.out];omega);rintro e' w3 ⟨rfl,hp3,hf3⟩))
           all_goals (
            have hf3':Fr [q.bC] wr w3:=⟨hf3.os,hf3.tape,hf3.output,hf3.size,hf3.block⟩
            have HP3:=hid hp3
            have HF3:=hid (HF5.out.trans hf3')
            have HX3:=hid (HX5.out.fr hf3' HBC.out)
            have u0:=HX3.out 0 _ rfl
            have u1:=HX3.out 1 _ rfl
            have u2:=HX3.out 2 _ rfl
            have u3:=HX3.out 3 _ rfl
            have g2x:=hf3'.cell G5H.out (fun h=>hgC (List.mem_singleton.1 h).symm)
            have HF3':=hid (HF5'.out.trans hf3')
            clear hp3 hf3 hf3'
            go_wp2_with fail
            go_region_with (first | (go_at_call 93;refine(HB2.out _ ?_ ?_ ?_).mono ?_;exact HP3.out.fr0 (frz _ _ _ rfl rfl rfl rfl);exact HI.out.fr (HF3.out.trans (frz _ _ _ rfl rfl rfl rfl)) (fun e=>nI (List.mem_singleton.1 e));(rw[←HM.out];omega);rintro e' w4 ⟨rfl,hp4,hf4⟩))
            all_goals (
             have hf4':Fr [q.bC] w3 w4:=⟨hf4.os,hf4.tape,hf4.output,hf4.size,hf4.block⟩
             have HP4:=hid hp4
             have HF4:=hid (HF3.out.trans hf4')
             have HF4':=hid (HF3'.out.trans hf4')
             have HX4:=hid (HX3.out.fr hf4' HBC.out)
             clear hp4 hf4 hf4' u0 u1 u2 u3 g2x
             go_wp2
             go_roundw
             case rel=>exact⟨t+1,by go_num,by omega,hid (by rw[HN2.out,HN.out];exact HP4.out),HF4,HF4',HX4⟩
             case measure=>simp[intOf];omega))
      ·have HN:=hid (HBF.out.1 hOW)
       have HB1:=hid (fun w hp hi hk=>ref41_any q C1 L G bI cI s a s.own w hp hi hk);have HB2:=hid (fun w hp hi hk=>ref41_any q (become q.K s.I a s.own C1) L G bI cI s b s.own w hp hi hk);rw[HV.out]at HB1 HB2;go_wp2_with fail;go_region_with (first | (go_at_call 93;refine(HB1.out _ ?_ ?_ ?_).mono ?_;exact HP2.out.fr0 (frz _ _ _ rfl rfl rfl rfl);exact HI.out.fr (HF2.out.trans (frz _ _ _ rfl rfl rfl rfl)) (fun e=>nI (List.mem_singleton.1 e));(rw[←HM.out];omega);rintro e' w3 ⟨rfl,hp3,hf3⟩))
       all_goals (
           have hf3':Fr [q.bC] wr w3:=⟨hf3.os,hf3.tape,hf3.output,hf3.size,hf3.block⟩
           have HP3:=hid hp3
           have HF3:=hid (HF2.out.trans hf3')
           have HX3:=hid (HX2.out.fr hf3' HBC.out)
           have u0:=HX3.out 0 _ rfl
           have u1:=HX3.out 1 _ rfl
           have u2:=HX3.out 2 _ rfl
           have u3:=HX3.out 3 _ rfl
           have g2x:=hf3'.cell G2H.out (fun h=>hgC (List.mem_singleton.1 h).symm)
           have HF3':=hid (HF2'.out.trans hf3')
           clear hp3 hf3 hf3'
           go_wp2_with fail
           go_region_with (first | (go_at_call 93;refine(HB2.out _ ?_ ?_ ?_).mono ?_;exact HP3.out.fr0 (frz _ _ _ rfl rfl rfl rfl);exact HI.out.fr (HF3.out.trans (frz _ _ _ rfl rfl rfl rfl)) (fun e=>nI (List.mem_singleton.1 e));(rw[←HM.out];omega);rintro e' w4 ⟨rfl,hp4,hf4⟩))
           all_goals (
            have hf4':Fr [q.bC] w3 w4:=⟨hf4.os,hf4.tape,hf4.output,hf4.size,hf4.block⟩
            have HP4:=hid hp4
            have HF4:=hid (HF3.out.trans hf4')
            have HF4':=hid (HF3'.out.trans hf4')
            have HX4:=hid (HX3.out.fr hf4' HBC.out)
            clear hp4 hf4 hf4' u0 u1 u2 u3 g2x
            go_wp2
            go_roundw
            case rel=>exact⟨t+1,by go_num,by omega,hid (by rw[HN2.out,HN.out];exact HP4.out),HF4,HF4',HX4⟩
            case measure=>simp[intOf];omega))
   ·have hk2:t=np:=by omega
    have HPZ:=hid (show PS wr q R L G by rw[HR.out,brackets,←HPS.out,←HNP.out,←hk2];exact HP.out);clear hk2;go_wp2;go_end0;exact⟨rfl,HPZ.out,HF.out⟩
end Go.Proofs.YtnakejhohdbfdaaGreatDoor
