import Derived.Test.YtnakejhohdbfdaaGreatDoorVas
set_option maxHeartbeats 8000000
set_option maxRecDepth 10000
set_option linter.unusedSimpArgs false
namespace Go.Proofs.YtnakejhohdbfdaaGreatDoor
open Go.RowKit jN Go.Proofs.Tryz
def QW (w:World)(B:Nat)(v:Value)(ps:List (Nat × Nat)):Prop :=
 (ps.length=0->v=.slice none 0 0)/\(0<ps.length->∃g cap,v=.slice (some ⟨g,0,none⟩) ps.length cap/\B<=g/\∀i,i<ps.length ->
   w.cell? ⟨g,i * 2,none⟩=some (.int .i64 (((ps[i]?).getD (0,0)).1:Nat))/\w.cell? ⟨g,i * 2+1,none⟩=some (.int .i64 (((ps[i]?).getD (0,0)).2:Nat)))
def DR (s:Sq)(C:List Int)(k:Nat):Bool:=decide (0<=side (cl s.I C k)) && !(side (cl s.I C k) == s.own)
def AJ (s:Sq)(C:List Int)(k:Nat):Bool:=side (cl s.I C k) == s.own
theorem FG (s:Sq)(C:List Int)(a:Nat):∀d,je (AJ s C) a d=false->je (fun k=>decide (0<=side (cl s.I C k))) a d=je (DR s C) a d
 | 0,_=>rfl
 | d+1,h=>by
   rw[je,Bool.or_eq_false_iff]at h;rw[je,je,FG s C a d h.1];have h2:=h.2;unfold AJ at h2;unfold DR;rw[h2];simp
theorem QX (K:List Int)(s:Sq)(a b:Nat)(C:List Int) :
 (je (AJ s C) (a+1) (b - (a+1))=true->nK K s (a,b) C=become K s.I b s.own (become K s.I a s.own C)) /\
 (je (AJ s C) (a+1) (b - (a+1))=false->je (DR s C) (a+1) (b - (a+1))=true->nK K s (a,b) C=become K s.I b (iH s C a) (become K s.I a (iH s C a) C)) /\
 (je (AJ s C) (a+1) (b - (a+1))=false->je (DR s C) (a+1) (b - (a+1))=false->nK K s (a,b) C=C):=by
 have e:(fun k=>side (cl s.I C k) == s.own)=AJ s C:=rfl;refine⟨fun h=>?_,fun h h2=>?_,fun h h2=>?_⟩
 ·simp only[nK];rw[e,ay h]
 ·simp only[nK];rw[e,au (by rw[h];exact aE),FG s C _ _ h,ay h2]
 ·simp only[nK];rw[e,au (by rw[h];exact aE),FG s C _ _ h,au (by rw[h2];exact aE)]
theorem MU (q:PH)(C L:List Int)(G:List Bool)(bI cI:Nat)(s:Sq)(w:World)(hs:PS w q C L G)(hI:IS w q bI s.I)(h0:0<s.I.length)
 (ps:List (Nat × Nat)) (hps:ps=(gF q.R s.I C s.I.length).out) (hok:∀i,i<ps.length->((ps[i]?).getD (0,0)).1<((ps[i]?).getD (0,0)).2/\((ps[i]?).getD (0,0)).2<s.I.length) (hpl:ps.length<=1000000)
 (pairs:∀(w:World),PS w q C L G->IS w q bI s.I->Calls prog 91 #[.pointer (some ⟨q.p,0,none⟩),Ee bI cI s] w fun e w'=>∃v,e=.returned v/\QW w' w.heap.size v ps/\Fr [] w w') :
 Calls prog 48 #[.pointer (some ⟨q.p,0,none⟩),Ee bI cI s] w fun e w'=>e=.returned (.tuple #[])/\PS w' q (brackets q.R q.K s C) L G/\Fr [q.bC] w w':=by
 have lp:=hs.lt;have sm:=hI.sm;have nC:=hs.Im.1;have nI:=hI.ne.1;have HS:=hid hs;have HI:=hid hI;obtain⟨R,hR⟩:∃R,R=brackets q.R q.K s C:=⟨_,rfl⟩;have HR:=hid hR;rw[<-hR];obtain⟨m,hm⟩:∃m,m=s.I.length:=⟨_,rfl⟩;have HM:=hid hm;have HV:=hid (show Ee bI cI s=.agg #[.slice (some ⟨bI,0,none⟩) m cI,.int .i64 s.own,.int .i64 s.iq,.int .i64 s.jR] by rw[hm]);rw[HV.out];rw[<-hm]at sm;have hm0:0<m:=by rw[hm];exact h0
 have hn0:0<q.n:=by have:=hI.lt 0 h0;omega
 have Fy:=hid hok;have Ip:=hid hps;have EF:=hid (pairs _ (hs.alloc (.cells #[.slice (some ⟨bI,0,none⟩) m cI,.int .i64 s.own,.int .i64 s.iq,.int .i64 s.jR] 101)) (hI.fr (S:=[]) ((Fr.refl _ w).alloc _) af));rw[HV.out]at EF;have lC0:=hs.Td hn0;clear hm hR hs hI h0 hok hps pairs
 have HX0:=hid (show kB (w.alloc (.cells #[.slice (some ⟨bI,0,none⟩) m cI,.int .i64 s.own,.int .i64 s.iq,.int .i64 s.jR] 101)) w.heap.size bI m cI s.own s.iq s.jR from fun j v hv=>by
  rw[eZ _ _ _ _ rfl];exact hv)
 have A9:=hid (show w.heap.size ∉ [q.bC]from fun h=>by
  have:=HS.out.Td hn0;have:=aj.1 h;omega)
 go_enter func48,ntmps48;go_wp2_with fail;refine EF.out.mono ?_;rintro e' w1 ⟨v,rfl,hv,hf1⟩;have iy:=hid (((Fr.refl [q.bC] w).alloc (.cells #[.slice (some ⟨bI,0,none⟩) m cI,.int .i64 s.own,.int .i64 s.iq,.int .i64 s.jR] 101)).trans (hf1.mono (fun _ h _=>absurd h af)));have DD:=hid ((HS.out.alloc (.cells #[.slice (some ⟨bI,0,none⟩) m cI,.int .i64 s.own,.int .i64 s.iq,.int .i64 s.jR] 101)).iS hf1);have ZQ:=hid (HX0.out.fr hf1 af)
 rcases aS ps.length with hz | hz
 ·have hvv:=hv.1 hz
  subst hvv;have HRC:=hid (show R=C by rw[HR.out,brackets,<-Ip.out,hz];rfl);clear hv hf1;go_wp2;go_loopw [5] (fun a wr=>a=.int .i64 0/\Hid (PS wr q C L G)/\Hid (Fr [q.bC] w wr)) (fun _ _=>0)
  case atStart=>exact⟨rfl,DD,iy⟩
  case round =>
   obtain⟨rfl,HP,HF⟩:=hrel;go_wp2;go_end0;exact⟨rfl,by rw[HRC.out];exact HP.out,HF.out⟩
 ·obtain⟨g,cap,hvv,hg,hcells⟩:=hv.2 hz
  subst hvv;have UL:=hid hcells
  have IC:q.bC≠g:=by have:w.heap.size<=g:=by(simp at hg;omega)
                     omega
  clear hv hf1 hcells;obtain⟨np,hnp⟩:∃np,np=ps.length:=⟨_,rfl⟩;have yZ:=hid hnp;rw[<-hnp]at hz hpl ⊢;clear hnp;go_wp2;go_loopw [5] (fun a wr=>∃(t:Nat),a=.int .i64 t/\t<=np/\Hid (PS wr q (jH q.K s ps t C) L G)/\Hid (Fr [q.bC] w wr)/\Hid (Fr [q.bC] w1 wr)/\Hid (kB wr w.heap.size bI m cI s.own s.iq s.jR)) (fun a _=>np - (intOf a).toNat)
  case atStart=>exact⟨0,rfl,aH _,DD,iy,hid (Fr.refl _ _),ZQ⟩
  case round =>
   obtain⟨t,rfl,ht,HP,HF,Mp,HX⟩:=hrel;have x0:=HX.out 0 _ rfl;have x1:=HX.out 1 _ rfl;have x2:=HX.out 2 _ rfl;have x3:=HX.out 3 _ rfl;have d2:=HP.out.c2;by_cases hlt:t<np
   ·obtain⟨p1,p2⟩:=UL.out t (by rw[<-yZ.out];exact hlt)
    have g1:=Mp.out.cell p1 (fun h=>IC (aj.1 h).symm);have g2:=Mp.out.cell p2 (fun h=>IC (aj.1 h).symm);obtain⟨ha,hb⟩:=Fy.out t (by rw[<-yZ.out];exact hlt);have HST:=hid (show jH q.K s ps (t+1) C=nK q.K s ((ps[t]?).getD (0,0)) (jH q.K s ps t C)from rfl);clear p1 p2;generalize hpr:(ps[t]?).getD (0,0)=pr at *;obtain⟨a,b⟩:=pr;have HPT:=hid hpr;clear hpr;dsimp only at *;rw[<-HM.out]at hb;have Tk:=hid (QX q.K s a b (jH q.K s ps t C));rw[<-HST.out]at Tk;generalize rN:jH q.K s ps (t+1) C=N2 at *;have lQ:=hid rN;clear rN HST;generalize jH q.K s ps t C=C1 at *;go_wp2;go_loopw [6,7,8,9] (fun o1 o2 kk _ wr=>∃(e:Nat),o1=.bool (je (AJ s C1) (a+1) e)/\o2=.bool (je (DR s C1) (a+1) e)/\kk=.int .i64 (a+1+e:Nat)/\a+1+e<=b/\Hid (PS wr q C1 L G)/\Hid (Fr [q.bC] w wr)/\Hid (Fr [q.bC] w1 wr)/\Hid (kB wr w.heap.size bI m cI s.own s.iq s.jR)) (fun _ _ kk _ _=>b - (intOf kk).toNat)
    case atStart=>exact⟨0,rfl,rfl,by go_num,by omega,HP,HF,Mp,HX⟩
    case round =>
     obtain⟨e,rfl,rfl,rfl,hem,mO,f_,MV,qV⟩:=hrel;have x0':=qV.out 0 _ rfl;have x1':=qV.out 1 _ rfl;have d2':=mO.out.c2;obtain⟨p1',p2'⟩:=UL.out t (by rw[<-yZ.out];exact hlt);rw[HPT.out]at p1' p2';have g1':=MV.out.cell p1' (fun h=>IC (aj.1 h).symm);have g2':=MV.out.cell p2' (fun h=>IC (aj.1 h).symm);dsimp only at g1' g2';clear p1' p2';by_cases hel:a+1+e<b
     ·obtain⟨hi,e1,e2,e3,e4⟩:=pq mO.out HI.out f_.out (show a+1+e<s.I.length by rw[<-HM.out];omega)
      have kT:=hid (show je (AJ s C1) (a+1) (e+1)=(je (AJ s C1) (a+1) e || (side (nth C1 (fX s.I (a+1+e))) == s.own))from rfl);have iG:=hid (show je (DR s C1) (a+1) (e+1)=(je (DR s C1) (a+1) e || (decide (0<=side (nth C1 (fX s.I (a+1+e)))) && !(side (nth C1 (fX s.I (a+1+e))) == s.own)))from rfl);have JE:=hid (mF (nth C1 (fX s.I (a+1+e))));generalize hA1:je (AJ s C1) (a+1) (e+1)=A1 at *;have HA1:=hid hA1;generalize hA2:je (DR s C1) (a+1) (e+1)=A2 at *;have HA2:=hid hA2;clear hA1 hA2;generalize je (AJ s C1) (a+1) e=B1 at *;generalize je (DR s C1) (a+1) e=B2 at *;generalize fX s.I (a+1+e)=i at *;generalize nth C1 i=y at *;generalize side y=sy at *;generalize hke:a+1+e=ke at *;have HKE:=hid hke;clear hke e3 e4;cases B1 <;> cases B2
      all_goals (
       go_wp2
       go_quiet (first | (go_at_call 92;exact Calls.quiet_of_same (JE.out _)))
       go_wp2)
      all_goals (
       refine⟨⟨e+1,?_,?_,?_,by have:=HKE.out;omega,hid (mO.out.iS (iD _ _ _ rfl rfl rfl rfl)),hid (f_.out.trans (iD _ _ _ rfl rfl rfl rfl)),hid (MV.out.trans (iD _ _ _ rfl rfl rfl rfl)),hid (qV.out.fr (S:=[]) (iD _ _ _ rfl rfl rfl rfl) af)⟩,?_⟩
       ·rw[HA1.out,kT.out];first | (simp[*];done) | (simp_all;done) | (simp_all;rfl)
       ·rw[HA2.out,iG.out];first | (simp[*];done) | (simp_all;done) | (simp_all;rfl)
       ·have hz:=HKE.out;rw[show a+1+(e+1)=ke+1 by omega];go_num
       ·simp[intOf];omega)
     ·have hee:e=b - (a+1):=by omega
      rw[<-hee]at Tk;have x2':=qV.out 2 _ rfl;have x3':=qV.out 3 _ rfl;have hnl:¬((a+1+e:Nat):Int)<(b:Int):=by omega
      have G2H:=hid g2';clear hee;cases hOW:je (AJ s C1) (a+1) e
      ·cases hOT:je (DR s C1) (a+1) e
       ·have HN:=hid (Tk.out.2.2 hOW hOT)
        go_wp2;go_roundw
        case rel=>exact⟨t+1,by go_num,by omega,hid (by rw[lQ.out,HN.out];exact mO.out),f_,MV,qV⟩
        case measure=>simp[intOf];omega
       ·have HN:=hid (Tk.out.2.1 hOW hOT)
        clear x1';have x1':=qV.out 1 _ rfl;go_wp2_with fail;refine(mF _ _).mono ?_;rintro e' w2 ⟨rfl,rfl⟩;go_wp2;go_loopw [11,12,13] (fun dd kk _ wr=>∃(k:Nat),dd=.int .i64 (iH s C1 k)/\kk=.int .i64 k/\k<=a/\Hid (PS wr q C1 L G)/\Hid (Fr [q.bC] w wr)/\Hid (Fr [q.bC] w1 wr)/\Hid (kB wr w.heap.size bI m cI s.own s.iq s.jR)) (fun _ kk _ _=>a - (intOf kk).toNat)
        case atStart=>exact⟨0,rfl,rfl,aH _,mO,f_,MV,qV⟩
        case round =>
         obtain⟨k,rfl,rfl,hka,uu,jP,MW,xg⟩:=hrel;have x05:=xg.out 0 _ rfl;have x15:=xg.out 1 _ rfl;have x25:=xg.out 2 _ rfl;have x35:=xg.out 3 _ rfl;have d25:=uu.out.c2;obtain⟨p1',p2'⟩:=UL.out t (by rw[<-yZ.out];exact hlt);rw[HPT.out]at p1' p2';have g15:=MW.out.cell p1' (fun h=>IC (aj.1 h).symm);have g25:=MW.out.cell p2' (fun h=>IC (aj.1 h).symm);dsimp only at g15 g25;clear p1' p2';by_cases hkl:k<a
         ·obtain⟨hi,e1,e2,e3,e4⟩:=pq uu.out HI.out jP.out (show k<s.I.length by rw[<-HM.out];omega)
          have IA:=hid (show iH s C1 (k+1)=if 0<=side (nth C1 (fX s.I k))then side (nth C1 (fX s.I k))else iH s C1 k from rfl);have JE:=hid (mF (nth C1 (fX s.I k)));generalize hA1:iH s C1 (k+1)=A1 at *;have HA1:=hid hA1;clear hA1;generalize iH s C1 k=A0 at *;generalize fX s.I k=i at *;generalize nth C1 i=y at *;generalize side y=sy at *;clear e3 e4;by_cases hsy:0<=sy
          ·have HA2:=hid (show A1=sy by rw[IA.out,ay hsy])
           go_wp2;go_quiet (first | (go_at_call 92;exact Calls.quiet_of_same (JE.out _)));go_wp2;go_roundw
           case rel=>exact⟨k+1,by rw[HA1.out,HA2.out],by go_num,by omega,hid (uu.out.iS (iD _ _ _ rfl rfl rfl rfl)),hid (jP.out.trans (iD _ _ _ rfl rfl rfl rfl)),hid (MW.out.trans (iD _ _ _ rfl rfl rfl rfl)),hid (xg.out.fr (S:=[]) (iD _ _ _ rfl rfl rfl rfl) af)⟩
           case measure=>simp[intOf];omega
          ·have HA2:=hid (show A1=A0 by rw[IA.out,au hsy])
           go_wp2;go_quiet (first | (go_at_call 92;exact Calls.quiet_of_same (JE.out _)));go_wp2;go_roundw
           case rel=>exact⟨k+1,by rw[HA1.out,HA2.out],by go_num,by omega,hid (uu.out.iS (iD _ _ _ rfl rfl rfl rfl)),hid (jP.out.trans (iD _ _ _ rfl rfl rfl rfl)),hid (MW.out.trans (iD _ _ _ rfl rfl rfl rfl)),hid (xg.out.fr (S:=[]) (iD _ _ _ rfl rfl rfl rfl) af)⟩
           case measure=>simp[intOf];omega
         ·have abj:k=a:=by omega
          have G5H:=hid g25;obtain⟨A0,XV⟩:∃A0,A0=iH s C1 a:=⟨_,rfl⟩;rw[<-XV]at HN;rw[show iH s C1 k=A0 by rw[XV,abj]];clear abj XV;have hkn:¬(k:Int)<(a:Int):=by omega
          by_cases hA:A0=s.own
          ·have HB1:=hid (fun w hp hi hk=>pT q C1 L G bI cI s a s.own w hp hi hk)
           have HB2:=hid (fun w hp hi hk=>pT q (become q.K s.I a s.own C1) L G bI cI s b s.own w hp hi hk);rw[HV.out]at HB1 HB2;rw[hA]at HN;go_wp2_with fail;go_region_with (first | (go_at_call 93;refine(HB1.out _ ?_ ?_ ?_).mono ?_;exact uu.out.iS (iD _ _ _ rfl rfl rfl rfl);exact HI.out.fr (jP.out.trans (iD _ _ _ rfl rfl rfl rfl)) (fun e=>nI (aj.1 e));(rw[<-HM.out];omega);rintro e' w3 ⟨rfl,hp3,hf3⟩))
           all_goals (
            have uw:Fr [q.bC] wr w3:=⟨hf3.os,hf3.tape,hf3.output,hf3.size,hf3.block⟩
            have oO:=hid hp3
            have iO:=hid (jP.out.trans uw)
            have oD:=hid (xg.out.fr uw A9.out)
            have u0:=oD.out 0 _ rfl
            have u1:=oD.out 1 _ rfl
            have u2:=oD.out 2 _ rfl
            have u3:=oD.out 3 _ rfl
            have g2x:=uw.cell G5H.out (fun h=>IC (aj.1 h).symm)
            have Jz:=hid (MW.out.trans uw)
            clear hp3 hf3 uw
            go_wp2_with fail
            go_region_with (first | (go_at_call 93;refine(HB2.out _ ?_ ?_ ?_).mono ?_;exact oO.out.iS (iD _ _ _ rfl rfl rfl rfl);exact HI.out.fr (iO.out.trans (iD _ _ _ rfl rfl rfl rfl)) (fun e=>nI (aj.1 e));(rw[<-HM.out];omega);rintro e' w4 ⟨rfl,WK,jl⟩))
            all_goals (
             have qz:Fr [q.bC] w3 w4:=⟨jl.os,jl.tape,jl.output,jl.size,jl.block⟩
             have G2:=hid WK
             have gP:=hid (iO.out.trans qz)
             have QY:=hid (Jz.out.trans qz)
             have FH:=hid (oD.out.fr qz A9.out)
             clear WK jl qz u0 u1 u2 u3 g2x
             go_wp2
             go_roundw
             case rel=>exact⟨t+1,by go_num,by omega,hid (by rw[lQ.out,HN.out];exact G2.out),gP,QY,FH⟩
             case measure=>simp[intOf];omega))
          ·have HB1:=hid (fun w hp hi hk=>pT q C1 L G bI cI s a A0 w hp hi hk)
           have HB2:=hid (fun w hp hi hk=>pT q (become q.K s.I a A0 C1) L G bI cI s b A0 w hp hi hk);rw[HV.out]at HB1 HB2;go_wp2_with fail;go_region_with (first | (go_at_call 93;refine(HB1.out _ ?_ ?_ ?_).mono ?_;exact uu.out.iS (iD _ _ _ rfl rfl rfl rfl);exact HI.out.fr (jP.out.trans (iD _ _ _ rfl rfl rfl rfl)) (fun e=>nI (aj.1 e));(rw[<-HM.out];omega);rintro e' w3 ⟨rfl,hp3,hf3⟩))
           all_goals (
            have uw:Fr [q.bC] wr w3:=⟨hf3.os,hf3.tape,hf3.output,hf3.size,hf3.block⟩
            have oO:=hid hp3
            have iO:=hid (jP.out.trans uw)
            have oD:=hid (xg.out.fr uw A9.out)
            have u0:=oD.out 0 _ rfl
            have u1:=oD.out 1 _ rfl
            have u2:=oD.out 2 _ rfl
            have u3:=oD.out 3 _ rfl
            have g2x:=uw.cell G5H.out (fun h=>IC (aj.1 h).symm)
            have Jz:=hid (MW.out.trans uw)
            clear hp3 hf3 uw
            go_wp2_with fail
            go_region_with (first | (go_at_call 93;refine(HB2.out _ ?_ ?_ ?_).mono ?_;exact oO.out.iS (iD _ _ _ rfl rfl rfl rfl);exact HI.out.fr (iO.out.trans (iD _ _ _ rfl rfl rfl rfl)) (fun e=>nI (aj.1 e));(rw[<-HM.out];omega);rintro e' w4 ⟨rfl,WK,jl⟩))
            all_goals (
             have qz:Fr [q.bC] w3 w4:=⟨jl.os,jl.tape,jl.output,jl.size,jl.block⟩
             have G2:=hid WK
             have gP:=hid (iO.out.trans qz)
             have QY:=hid (Jz.out.trans qz)
             have FH:=hid (oD.out.fr qz A9.out)
             clear WK jl qz u0 u1 u2 u3 g2x
             go_wp2
             go_roundw
             case rel=>exact⟨t+1,by go_num,by omega,hid (by rw[lQ.out,HN.out];exact G2.out),gP,QY,FH⟩
             case measure=>simp[intOf];omega))
      ·have HN:=hid (Tk.out.1 hOW)
       have HB1:=hid (fun w hp hi hk=>pT q C1 L G bI cI s a s.own w hp hi hk);have HB2:=hid (fun w hp hi hk=>pT q (become q.K s.I a s.own C1) L G bI cI s b s.own w hp hi hk);rw[HV.out]at HB1 HB2;go_wp2_with fail;go_region_with (first | (go_at_call 93;refine(HB1.out _ ?_ ?_ ?_).mono ?_;exact mO.out.iS (iD _ _ _ rfl rfl rfl rfl);exact HI.out.fr (f_.out.trans (iD _ _ _ rfl rfl rfl rfl)) (fun e=>nI (aj.1 e));(rw[<-HM.out];omega);rintro e' w3 ⟨rfl,hp3,hf3⟩))
       all_goals (
           have uw:Fr [q.bC] wr w3:=⟨hf3.os,hf3.tape,hf3.output,hf3.size,hf3.block⟩
           have oO:=hid hp3
           have iO:=hid (f_.out.trans uw)
           have oD:=hid (qV.out.fr uw A9.out)
           have u0:=oD.out 0 _ rfl
           have u1:=oD.out 1 _ rfl
           have u2:=oD.out 2 _ rfl
           have u3:=oD.out 3 _ rfl
           have g2x:=uw.cell G2H.out (fun h=>IC (aj.1 h).symm)
           have Jz:=hid (MV.out.trans uw)
           clear hp3 hf3 uw
           go_wp2_with fail
           go_region_with (first | (go_at_call 93;refine(HB2.out _ ?_ ?_ ?_).mono ?_;exact oO.out.iS (iD _ _ _ rfl rfl rfl rfl);exact HI.out.fr (iO.out.trans (iD _ _ _ rfl rfl rfl rfl)) (fun e=>nI (aj.1 e));(rw[<-HM.out];omega);rintro e' w4 ⟨rfl,WK,jl⟩))
           all_goals (
            have qz:Fr [q.bC] w3 w4:=⟨jl.os,jl.tape,jl.output,jl.size,jl.block⟩
            have G2:=hid WK
            have gP:=hid (iO.out.trans qz)
            have QY:=hid (Jz.out.trans qz)
            have FH:=hid (oD.out.fr qz A9.out)
            clear WK jl qz u0 u1 u2 u3 g2x
            go_wp2
            go_roundw
            case rel=>exact⟨t+1,by go_num,by omega,hid (by rw[lQ.out,HN.out];exact G2.out),gP,QY,FH⟩
            case measure=>simp[intOf];omega))
   ·have hk2:t=np:=by omega
    have tH:=hid (show PS wr q R L G by rw[HR.out,brackets,<-Ip.out,<-yZ.out,<-hk2];exact HP.out);clear hk2;go_wp2;go_end0;exact⟨rfl,tH.out,HF.out⟩
end Go.Proofs.YtnakejhohdbfdaaGreatDoor
