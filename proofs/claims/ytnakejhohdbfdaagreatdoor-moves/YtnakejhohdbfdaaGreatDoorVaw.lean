import Derived.Test.YtnakejhohdbfdaaGreatDoorVac
set_option maxHeartbeats 8000000
set_option maxRecDepth 10000
set_option linter.unusedSimpArgs false
namespace Go.Proofs.YtnakejhohdbfdaaGreatDoor
open Go.RowKit jN Go.Proofs.Tryz
theorem ug (I:List Nat)(C:List Int)(k:Nat):((cl I C k=4\/cl I C k=5\/cl I C k=7)->jY I C k=put I C k 13)/\(¬(cl I C k=4\/cl I C k=5\/cl I C k=7)->jY I C k=C) :=
 ⟨fun h=>by rw[jY,ay h],fun h=>by rw[jY,au h]⟩
theorem Q6 (s:Sq)(k e:Nat)(C:List Int)(A B:Bool)(hA:A=decide (ah s C k=3))(hB:B=decide (tE s C e=3)) :
 ((A || B)=true->kA s k e C=iE s.I k 3 (e - k) C)/\((A || B)=false->kA s k e C=C):=by
 subst hA hB;unfold kA;by_cases h:ah s C k=3\/tE s C e=3
 ·refine⟨fun _=>by rw[ay h],fun x=>?_⟩
  rcases h with h | h <;> simp[h]at x
 ·refine⟨fun x=>?_,fun _=>by rw[au h]⟩
  simp at x;exact absurd x h
theorem EG (I:List Nat)(k j:Nat)(v:Int)(C:List Int)(h:k<=j):iE I k v (j+1 - k) C=put I (iE I k v (j - k) C) j v:=by
 rw[show j+1 - k=(j - k)+1 by omega,iE,show k+(j - k)=j by omega]
theorem MZ (q:PH)(C L:List Int)(G:List Bool)(bI cI:Nat)(s:Sq)(w:World)(hs:PS w q C L G)(hI:IS w q bI s.I)(h0:0<s.I.length)(hb:s.iq=0\/s.iq=1)(ha:s.jR=0\/s.jR=1)(hinj:inj s.I) :
 Calls prog 90 #[.pointer (some ⟨q.p,0,none⟩),Ee bI cI s] w fun e w'=>e=.returned (.tuple #[])/\PS w' q (iL s.I s.I.length (scan s.I qm (kA s) C)) L G/\Fr [q.bC] w w':=by
 have lp:=hs.lt;have sm:=hI.sm;have nC:=hs.Im.1;have nI:=hI.ne.1;have HS:=hid hs;have HI:=hid hI;obtain⟨R,hR⟩:∃R,R=iL s.I s.I.length (scan s.I qm (kA s) C):=⟨_,rfl⟩;have HR:=hid hR;rw[<-hR];obtain⟨m,hm⟩:∃m,m=s.I.length:=⟨_,rfl⟩;have HM:=hid hm;have HV:=hid (show Ee bI cI s=.agg #[.slice (some ⟨bI,0,none⟩) m cI,.int .i64 s.own,.int .i64 s.iq,.int .i64 s.jR] by rw[hm]);rw[HV.out];rw[<-hm]at sm;have hm0:0<m:=by rw[hm];exact h0
 have hn0:0<q.n:=by have:=hI.lt 0 h0;omega
 have Iq:=hid hb;have HAA:=hid ha;have G8:=hid hinj;clear hm hR hs hI h0 hb ha hinj
 have HX0:=hid (show kB (w.alloc (.cells #[.slice (some ⟨bI,0,none⟩) m cI,.int .i64 s.own,.int .i64 s.iq,.int .i64 s.jR] 101)) w.heap.size bI m cI s.own s.iq s.jR from fun j v hv=>by
  rw[eZ _ _ _ _ rfl];exact hv)
 have A9:=hid (show w.heap.size ∉ [q.bC]from fun h=>by
  have:=HS.out.Td hn0;have:=aj.1 h;omega)
 go_enter func90,ntmps90;go_wp2;go_loopw [5] (fun a wr=>∃(k:Nat) (C':List Int),a=.int .i64 k/\k<=m/\Hid (qG s.I qm (kA s) C k C')/\Hid (PS wr q C' L G)/\Hid (Fr [q.bC] w wr)/\Hid (kB wr w.heap.size bI m cI s.own s.iq s.jR)) (fun a _=>m - (intOf a).toNat)
 case atStart=>exact⟨0,C,rfl,aH _,hid (F0 _ _ _ _),hid (HS.out.alloc _),hid ((Fr.refl _ w).alloc _),HX0⟩
 case round =>
  obtain⟨k,C',rfl,hk,WM,HP,HF,HX⟩:=hrel;have x0:=HX.out 0 _ rfl;have d2:=HP.out.c2;by_cases hlt:k<m
  ·obtain⟨hi,e1,e2,e3,e4⟩:=pq HP.out HI.out HF.out (show k<s.I.length by rw[<-HM.out];exact hlt)
   have WJ:=hid (fun h=>Kn (show k<s.I.length by rw[<-HM.out];exact hlt) (show qm (cl s.I C' k)=false from h) WM.out);dsimp only[cl]at WJ;by_cases h5:nth C' (fX s.I k)=5
   ·have Ya:=hid h5
    rw[h5]at e2;generalize hix:fX s.I k=i at *;have QU:=hid hix;clear hix;go_wp2;go_quiet (fail);go_wp2;go_loopw [6] (fun a wr=>∃(e:Nat),a=.int .i64 e/\k<=e/\e<=m/\Hid (∀j,k<=j->j<e->qm (cl s.I C' j)=true)/\Hid (PS wr q C' L G)/\Hid (Fr [q.bC] w wr)/\Hid (kB wr w.heap.size bI m cI s.own s.iq s.jR)) (fun a _=>m - (intOf a).toNat)
    case atStart=>exact⟨k,rfl,ak _,hk,hid (fun j h1 h2=>by omega),hid (HP.out.iS (iD _ _ _ rfl rfl rfl rfl)),hid (HF.out.trans (iD _ _ _ rfl rfl rfl rfl)),hid (HX.out.fr (S:=[]) (iD _ _ _ rfl rfl rfl rfl) af)⟩
    case round =>
     obtain⟨e,rfl,hke,hem,HE,mO,f_,qV⟩:=hrel;have x0':=qV.out 0 _ rfl;have d2':=mO.out.c2;have hxe:(e<m/\nth C' (fX s.I e)=5)\/((e=m\/qm (cl s.I C' e)=false)/\k<e):=by
      by_cases h1:e<m
      ·by_cases h2:nth C' (fX s.I e)=5
       ·exact .inl ⟨h1,h2⟩
       ·refine .inr ⟨.inr (by simp[qm,h2]),?_⟩
        rcases aA hke with h3 | h3
        ·exact h3
        ·exact absurd (by rw[<-h3,QU.out];exact Ya.out) h2
      ·exact .inr ⟨.inl (by omega),by omega⟩
     rcases hxe with⟨h1,h2⟩ | ⟨hx1,hx2⟩
     ·obtain⟨hj,f1,f2,f3,f4⟩:=pq mO.out HI.out f_.out (show e<s.I.length by rw[<-HM.out];exact h1)
      have HE2:=hid (show ∀j,k<=j->j<e+1->qm (cl s.I C' j)=true from fun j a b=>by
          rcases aA (aM b)with h | h
          ·exact HE.out j a h
          ·rw[h,cl,h2];rfl)
      rw[h2]at f2;generalize fX s.I e=ie at *;have hi1:(e:Int)<(m:Int):=by omega
      clear f3 f4 h2;go_wp2;go_quiet (fail);go_wp2;go_roundw
      case rel=>exact⟨e+1,by go_num,by omega,by omega,HE2,hid (mO.out.iS (iD _ _ _ rfl rfl rfl rfl)),hid (f_.out.trans (iD _ _ _ rfl rfl rfl rfl)),hid (qV.out.fr (S:=[]) (iD _ _ _ rfl rfl rfl rfl) af)⟩
      case measure=>simp[intOf];omega
     ·have To:=hid (E2 (fun a k C h1 h2=>OD G8.out a k C h1 h2) hx2 (show e<=s.I.length by rw[<-HM.out];exact hem) HE.out (by rw[<-HM.out];exact hx1) WM.out)
      obtain⟨AV,hAV⟩:∃AV:Bool,AV=decide (ah s C' k=3):=⟨_,rfl⟩;obtain⟨BV,hBV⟩:∃BV:Bool,BV=decide (tE s C' e=3):=⟨_,rfl⟩;have HAV:=hid hAV;have HBV:=hid hBV
      have hgd:¬(e<m/\nth C' (fX s.I e)=5):=by
          rintro ⟨h1,h2⟩
          rcases hx1 with h | h
          ·omega
          ·simp[qm,cl,h2]at h
      have ZO:=hid (Q6 s k e C' AV BV hAV hBV);clear hAV hBV hx1
      rcases bP e m with h1 | h1
      ·obtain⟨hj,f1,f2,f3,f4⟩:=pq mO.out HI.out f_.out (show e<s.I.length by rw[<-HM.out];exact h1)
       have Yb:=hid (show BV=decide (nth C' (fX s.I e)=3) by rw[HBV.out,tE,ay (by rw[<-HM.out];exact h1)]);have h5e:¬nth C' (fX s.I e)=5:=fun h=>hgd ⟨h1,h⟩
       have nIS:=hid (show bI ∉ [q.bC]from fun h=>nI (aj.1 h));have E1:=hid (HI.out.r e (by rw[<-HM.out];exact h1));generalize fX s.I e=ie at *;generalize hye:nth C' ie=ye at *;have ZU:=hid hye;have hi1:(e:Int)<(m:Int):=by omega
       clear f3 f4 hgd hye;go_wp2_with fail;go_quiet (fail);go_upto_region 9 with fail
       go_cut [7]from 15 to 109 (fun a wx=>a=.bool AV/\Hid (PS wx q C' L G)/\Hid (Fr [q.bC] w wx)/\Hid (kB wx w.heap.size bI m cI s.own s.iq s.jR))
       case first =>
        rcases aS k with hk0 | hk0
        ·have XN:AV=false:=by
          rw[HAV.out,hk0];have:ah s C' 0=s.iq:=rfl;rw[this];have:=Iq.out;exact aK (by omega)
         have JF:=hid XN;have hk1:decide ((0:Int)<(k:Int))=false:=by simp;omega
         clear XN;go_quiet (fail);go_wp2;go_meet
         case rel=>exact⟨by rw[JF.out],hid (mO.out.iS (iD _ _ _ rfl rfl rfl rfl)),hid (f_.out.trans (iD _ _ _ rfl rfl rfl rfl)),hid (qV.out.fr (S:=[]) (iD _ _ _ rfl rfl rfl rfl) af)⟩
        ·obtain⟨k',hk'⟩:∃k',k=k'+1:=⟨k - 1,by omega⟩
         obtain⟨hj',p1,p2,p3,p4⟩:=pq mO.out HI.out f_.out (show k'<s.I.length by rw[<-HM.out];omega);have JF:=hid (show AV=decide (nth C' (fX s.I k')=3) by rw[HAV.out,hk',ah,au (by omega)];rfl);generalize fX s.I k'=i' at *;generalize nth C' i'=y' at *;have hk1:(0:Int)<(k:Int):=by omega
         have hk2:(k:Int) - 1=(k':Int):=by omega
         clear p3 p4;subst hk';go_quiet (fail);go_wp2;go_meet
         case rel=>exact⟨by rw[JF.out] <;> first | rfl | (congr 1;by_cases h:y'=3 <;> simp[h]),hid (mO.out.iS (iD _ _ _ rfl rfl rfl rfl)),hid (f_.out.trans (iD _ _ _ rfl rfl rfl rfl)),hid (qV.out.fr (S:=[]) (iD _ _ _ rfl rfl rfl rfl) af)⟩
       case rest =>
        obtain⟨rfl,oO,iO,oD⟩:=hcut;have x03:=oD.out 0 _ rfl;have d23:=oO.out.c2;have f1':=iO.out.cell E1.out nIS.out;have f2':=oO.out.rC _ hj;rw[ZU.out]at f2';go_upto_region 10 with fail
        go_cut [8]from 15 to 109 (fun a wx=>a=.bool BV/\Hid (PS wx q C' L G)/\Hid (Fr [q.bC] w wx)/\Hid (kB wx w.heap.size bI m cI s.own s.iq s.jR))
        case first =>
         go_quiet (fail);go_wp2;go_meet
         case rel=>exact⟨by rw[Yb.out] <;> first | rfl | (congr 1;by_cases h:ye=3 <;> simp[h]),hid (oO.out.iS (iD _ _ _ rfl rfl rfl rfl)),hid (iO.out.trans (iD _ _ _ rfl rfl rfl rfl)),hid (oD.out.fr (S:=[]) (iD _ _ _ rfl rfl rfl rfl) af)⟩
        case rest =>
         obtain⟨rfl,G2,gP,FH⟩:=hcut;have x04:=FH.out 0 _ rfl;have d24:=G2.out.c2;go_wp2;go_loopw [9] (fun a wr=>∃(j:Nat) (C3:List Int),a=.int .i64 j/\k<=j/\j<=e/\Hid ((AV || BV)=true->C3=iE s.I k 3 (j - k) C')/\Hid ((AV || BV)=false->j=k/\C3=C')/\Hid (PS wr q C3 L G)/\Hid (Fr [q.bC] w wr)/\Hid (kB wr w.heap.size bI m cI s.own s.iq s.jR)) (fun a _=>e - (intOf a).toNat)
         case atStart=>exact⟨k,C',rfl,ak _,hke,hid (fun _=>by rw[bY];rfl),hid (fun _=>⟨rfl,rfl⟩),G2,gP,FH⟩
         case round =>
          obtain⟨j,C3,rfl,hkj,DI,HA1,HA0,uu,jP,xg⟩:=hrel;have x05:=xg.out 0 _ rfl;have d25:=uu.out.c2
          rcases bP j e with hjl | hjl
          ·cases hab:(AV || BV)
           ·obtain⟨hj0,UW⟩:=HA0.out hab
            have yA:=hid (UW.trans (ZO.out.2 hab).symm);have hA:AV=false:=by cases AV;rfl;cases hab
            have hB:BV=false:=by cases BV;rfl;(cases AV <;> cases hab)
            subst hA hB;clear hab UW;go_wp2;go_roundw
            case rel=>exact⟨e,kA s k e C',by go_num,hem,To,hid (by rw[<-yA.out];exact uu.out),jP,xg⟩
            case measure=>simp[intOf];omega
           ·obtain⟨hjj,p1,p2,p3,p4⟩:=pq uu.out HI.out jP.out (show j<s.I.length by rw[<-HM.out];omega)
            have yA:=hid (show iE s.I k 3 (j+1 - k) C'=C3.set (fX s.I j) 3 by rw[EG _ _ _ _ _ hkj,<-HA1.out hab]);have GQ:=hid (fun z=>uu.out.oX hjj z);generalize fX s.I j=ij at *;generalize nth C3 ij=yj at *;clear p4;have Yc:AV=true\/(AV=false/\BV=true):=by cases AV;(right;exact⟨rfl,by simpa using hab⟩);exact .inl rfl
            have Ub:=hid hab;clear hab
            rcases Yc with hA | ⟨hA,hB⟩
            case' inl=>subst hA
            case' inr=>subst hA hB
            all_goals (
             go_wp2
             go_region
             go_wp2
             go_roundw
             case rel=>exact⟨j+1,_,by go_num,by omega,by omega,hid (fun _=>yA.out.symm),hid (fun h=>by simp at h),hid ((GQ.out 3).iS (iD _ _ _ rfl rfl rfl rfl)),hid ((jP.out.set (aj.2 rfl) _).trans (iD _ _ _ rfl rfl rfl rfl)),hid ((xg.out.fr (gH _ q.bC ij (.int .i64 3)) A9.out).fr (S:=[]) (iD _ _ _ rfl rfl rfl rfl) af)⟩
             case measure=>simp[intOf];omega)
          ·have CK:j=e:=by omega
           have yA:=hid (show C3=kA s k e C' by
            cases hab:(AV || BV)
            ·have:=(HA0.out hab).1;omega
            ·rw[ZO.out.1 hab,HA1.out hab,CK])
           have hjd:decide ((j:Int)<(e:Int))=false:=by simp;omega
           clear CK;go_wp2;go_roundw
           case rel=>exact⟨e,kA s k e C',by go_num,hem,To,hid (by rw[<-yA.out];exact uu.out),jP,xg⟩
           case measure=>simp[intOf];omega
      ·have Yb:=hid (show BV=false by
        rw[HBV.out,tE,au (by rw[<-HM.out];omega)]
        have:=HAA.out
        exact aK (by omega))
       have hi1:decide ((e:Int)<(m:Int))=false:=by simp;omega
       have hi2:decide (e<m)=false:=by simp;omega
       clear hgd;go_wp2_with fail;go_quiet (fail);go_upto_region 9 with fail
       go_cut [7]from 15 to 109 (fun a wx=>a=.bool AV/\Hid (PS wx q C' L G)/\Hid (Fr [q.bC] w wx)/\Hid (kB wx w.heap.size bI m cI s.own s.iq s.jR))
       case first =>
        rcases aS k with hk0 | hk0
        ·have XN:AV=false:=by
          rw[HAV.out,hk0];have:ah s C' 0=s.iq:=rfl;rw[this];have:=Iq.out;exact aK (by omega)
         have JF:=hid XN;have hk1:decide ((0:Int)<(k:Int))=false:=by simp;omega
         clear XN;go_quiet (fail);go_wp2;go_meet
         case rel=>exact⟨by rw[JF.out],hid (mO.out.iS (iD _ _ _ rfl rfl rfl rfl)),hid (f_.out.trans (iD _ _ _ rfl rfl rfl rfl)),hid (qV.out.fr (S:=[]) (iD _ _ _ rfl rfl rfl rfl) af)⟩
        ·obtain⟨k',hk'⟩:∃k',k=k'+1:=⟨k - 1,by omega⟩
         obtain⟨hj',p1,p2,p3,p4⟩:=pq mO.out HI.out f_.out (show k'<s.I.length by rw[<-HM.out];omega);have JF:=hid (show AV=decide (nth C' (fX s.I k')=3) by rw[HAV.out,hk',ah,au (by omega)];rfl);generalize fX s.I k'=i' at *;generalize nth C' i'=y' at *;have hk1:(0:Int)<(k:Int):=by omega
         have hk2:(k:Int) - 1=(k':Int):=by omega
         clear p3 p4;subst hk';go_quiet (fail);go_wp2;go_meet
         case rel=>exact⟨by rw[JF.out] <;> first | rfl | (congr 1;by_cases h:y'=3 <;> simp[h]),hid (mO.out.iS (iD _ _ _ rfl rfl rfl rfl)),hid (f_.out.trans (iD _ _ _ rfl rfl rfl rfl)),hid (qV.out.fr (S:=[]) (iD _ _ _ rfl rfl rfl rfl) af)⟩
       case rest =>
        obtain⟨rfl,oO,iO,oD⟩:=hcut;have x03:=oD.out 0 _ rfl;have d23:=oO.out.c2;go_upto_region 10 with fail
        go_cut [8]from 15 to 109 (fun a wx=>a=.bool BV/\Hid (PS wx q C' L G)/\Hid (Fr [q.bC] w wx)/\Hid (kB wx w.heap.size bI m cI s.own s.iq s.jR))
        case first =>
         go_quiet (fail);go_wp2;go_meet
         case rel=>exact⟨by rw[Yb.out],hid (oO.out.iS (iD _ _ _ rfl rfl rfl rfl)),hid (iO.out.trans (iD _ _ _ rfl rfl rfl rfl)),hid (oD.out.fr (S:=[]) (iD _ _ _ rfl rfl rfl rfl) af)⟩
        case rest =>
         obtain⟨rfl,G2,gP,FH⟩:=hcut;have x04:=FH.out 0 _ rfl;have d24:=G2.out.c2;go_wp2;go_loopw [9] (fun a wr=>∃(j:Nat) (C3:List Int),a=.int .i64 j/\k<=j/\j<=e/\Hid ((AV || BV)=true->C3=iE s.I k 3 (j - k) C')/\Hid ((AV || BV)=false->j=k/\C3=C')/\Hid (PS wr q C3 L G)/\Hid (Fr [q.bC] w wr)/\Hid (kB wr w.heap.size bI m cI s.own s.iq s.jR)) (fun a _=>e - (intOf a).toNat)
         case atStart=>exact⟨k,C',rfl,ak _,hke,hid (fun _=>by rw[bY];rfl),hid (fun _=>⟨rfl,rfl⟩),G2,gP,FH⟩
         case round =>
          obtain⟨j,C3,rfl,hkj,DI,HA1,HA0,uu,jP,xg⟩:=hrel;have x05:=xg.out 0 _ rfl;have d25:=uu.out.c2
          rcases bP j e with hjl | hjl
          ·cases hab:(AV || BV)
           ·obtain⟨hj0,UW⟩:=HA0.out hab
            have yA:=hid (UW.trans (ZO.out.2 hab).symm);have hA:AV=false:=by cases AV;rfl;cases hab
            have hB:BV=false:=by cases BV;rfl;(cases AV <;> cases hab)
            subst hA hB;clear hab UW;go_wp2;go_roundw
            case rel=>exact⟨e,kA s k e C',by go_num,hem,To,hid (by rw[<-yA.out];exact uu.out),jP,xg⟩
            case measure=>simp[intOf];omega
           ·obtain⟨hjj,p1,p2,p3,p4⟩:=pq uu.out HI.out jP.out (show j<s.I.length by rw[<-HM.out];omega)
            have yA:=hid (show iE s.I k 3 (j+1 - k) C'=C3.set (fX s.I j) 3 by rw[EG _ _ _ _ _ hkj,<-HA1.out hab]);have GQ:=hid (fun z=>uu.out.oX hjj z);generalize fX s.I j=ij at *;generalize nth C3 ij=yj at *;clear p4;have Yc:AV=true\/(AV=false/\BV=true):=by cases AV;(right;exact⟨rfl,by simpa using hab⟩);exact .inl rfl
            have Ub:=hid hab;clear hab
            rcases Yc with hA | ⟨hA,hB⟩
            case' inl=>subst hA
            case' inr=>subst hA hB
            all_goals (
             go_wp2
             go_region
             go_wp2
             go_roundw
             case rel=>exact⟨j+1,_,by go_num,by omega,by omega,hid (fun _=>yA.out.symm),hid (fun h=>by simp at h),hid ((GQ.out 3).iS (iD _ _ _ rfl rfl rfl rfl)),hid ((jP.out.set (aj.2 rfl) _).trans (iD _ _ _ rfl rfl rfl rfl)),hid ((xg.out.fr (gH _ q.bC ij (.int .i64 3)) A9.out).fr (S:=[]) (iD _ _ _ rfl rfl rfl rfl) af)⟩
             case measure=>simp[intOf];omega)
          ·have CK:j=e:=by omega
           have yA:=hid (show C3=kA s k e C' by
            cases hab:(AV || BV)
            ·have:=(HA0.out hab).1;omega
            ·rw[ZO.out.1 hab,HA1.out hab,CK])
           have hjd:decide ((j:Int)<(e:Int))=false:=by simp;omega
           clear CK;go_wp2;go_roundw
           case rel=>exact⟨e,kA s k e C',by go_num,hem,To,hid (by rw[<-yA.out];exact uu.out),jP,xg⟩
           case measure=>simp[intOf];omega
   ·have HN:=hid (WJ.out (by simp[qm,h5]))
    generalize fX s.I k=i at *;generalize nth C' i=y at *;go_wp2;go_quiet (fail);go_wp2;go_roundw
    case rel=>exact⟨k+1,C',by go_num,by omega,HN,hid (HP.out.iS (iD _ _ _ rfl rfl rfl rfl)),hid (HF.out.trans (iD _ _ _ rfl rfl rfl rfl)),hid (HX.out.fr (S:=[]) (iD _ _ _ rfl rfl rfl rfl) af)⟩
    case measure=>simp[intOf];omega
  ·have hk2:k=s.I.length:=by rw[<-HM.out];omega
   have qp:=hid (show scan s.I qm (kA s) C=C' from OC (by rw[<-hk2];exact WM.out));clear hk2;go_wp2;go_loopw [10] (fun a wr=>∃(k:Nat),a=.int .i64 k/\k<=m/\Hid (PS wr q (iL s.I k C') L G)/\Hid (Fr [q.bC] w wr)/\Hid (kB wr w.heap.size bI m cI s.own s.iq s.jR)) (fun a _=>m - (intOf a).toNat)
   case atStart=>exact⟨0,rfl,aH _,HP,HF,HX⟩
   case round =>
    obtain⟨k,rfl,hk,HP,HF,HX⟩:=hrel;have x0:=HX.out 0 _ rfl;have d2:=HP.out.c2;by_cases hlt3:k<m
    ·obtain⟨hi,e1,e2,e3,e4⟩:=pq HP.out HI.out HF.out (show k<s.I.length by rw[<-HM.out];exact hlt3)
     have HST:=hid (show iL s.I (k+1) C'=jY s.I (iL s.I k C') k from rfl);have qp:=hid (fun z=>HP.out.oX hi z);have mo:=hid (ug s.I (iL s.I k C') k);rw[<-HST.out]at mo;generalize rN:iL s.I (k+1) C'=N2 at *;have lQ:=hid rN;clear rN;generalize iL s.I k C'=N at *;dsimp only[cl,put]at *;generalize fX s.I k=i at *;generalize nth N i=y at *;clear HST;go_wp2;go_quiet (fail);go_wp2
     all_goals (try go_region)
     all_goals (try go_wp2)
     all_goals first
      | (exfalso;(try simp only[beq_iff_eq,aF,ne_eq]at *);omega)
      | (have hN:=mo.out.1 (by(try simp only[beq_iff_eq,aF,ne_eq]at *);omega)
         refine⟨⟨k+1,by go_num,by omega,hid ?_,hid ?_,hid ?_⟩,by simp[intOf];omega⟩
         ·rw[lQ.out,hN];exact(qp.out 13).iS (iD _ _ _ rfl rfl rfl rfl)
         ·exact(HF.out.set (aj.2 rfl) _).trans (iD _ _ _ rfl rfl rfl rfl)
         ·exact(HX.out.fr (gH _ q.bC i (.int .i64 13)) A9.out).fr (S:=[]) (iD _ _ _ rfl rfl rfl rfl) af)
      | (have hN:=mo.out.2 (by(try simp only[beq_iff_eq,aF,ne_eq]at *);omega)
         refine⟨⟨k+1,by go_num,by omega,hid ?_,hid ?_,hid ?_⟩,by simp[intOf];omega⟩
         ·rw[lQ.out,hN];exact HP.out.iS (iD _ _ _ rfl rfl rfl rfl)
         ·exact HF.out.trans (iD _ _ _ rfl rfl rfl rfl)
         ·exact HX.out.fr (S:=[]) (iD _ _ _ rfl rfl rfl rfl) af)
    ·have hk2:k=m:=by omega
     have tH:=hid (show PS wr q R L G by
      rw[HR.out,<-HM.out,qp.out,<-hk2]
      exact HP.out)
     clear hk2;go_wp2;go_end0;exact⟨rfl,tH.out,HF.out⟩
end Go.Proofs.YtnakejhohdbfdaaGreatDoor
