import Derived.Test.YtnakejhohdbfdaaGreatDoorVac
import Derived.Deep.RegionHeld
set_option maxHeartbeats 16000000
set_option maxRecDepth 10000
set_option linter.unusedSimpArgs false
namespace Go.Proofs.YtnakejhohdbfdaaGreatDoor
open Go.RowKit jN Go.Proofs.Tryz
theorem FJ (K:List Int)(s:Sq)(k:Nat)(C:List Int):gQ K s (k+1) C=iQ K s (gQ K s k C) k:=rfl
theorem G6 (K:List Int)(s:Sq)(C:List Int)(k:Nat)(h:¬cl s.I C k=8):iQ K s C k=C:=by rw[iQ,au h]
theorem CG (K:List Int)(s:Sq)(C:List Int)(h:cl s.I C 0=8):iQ K s C 0=put s.I C 0 s.iq:=by
 rw[iQ,ay h,au (by omega)];rfl
theorem CI (K:List Int)(s:Sq)(C:List Int)(k:Nat)(h:cl s.I C (k+1)=8)(ha:j6 (cl s.I K k)=true\/cl s.I K k=22):iQ K s C (k+1)=put s.I C (k+1) 13:=by
 rw[iQ,ay h,ay ⟨by omega,ha⟩]
theorem DS (K:List Int)(s:Sq)(C:List Int)(k:Nat)(h:cl s.I C (k+1)=8)(ha:¬(j6 (cl s.I K k)=true\/cl s.I K k=22)):iQ K s C (k+1)=put s.I C (k+1) (ah s C (k+1)):=by
 rw[iQ,ay h,au (fun x=>ha x.2)]
theorem DT (I:List Nat)(letter v:Int)(q:Int × List Int)(k:Nat) :
 ((cl I q.2 k=0\/cl I q.2 k=1\/cl I q.2 k=2)->iW I true letter v q k=(cl I q.2 k,q.2)) /\
 (¬(cl I q.2 k=0\/cl I q.2 k=1\/cl I q.2 k=2)->(cl I q.2 k=3/\q.1=letter)->iW I true letter v q k=(q.1,put I q.2 k v)) /\
 (¬(cl I q.2 k=0\/cl I q.2 k=1\/cl I q.2 k=2)->¬(cl I q.2 k=3/\q.1=letter)->iW I true letter v q k=q) :=
 ⟨fun h=>by rw[iW,ay (by simpa using h)],fun h h2=>by rw[iW,au (by simpa using h),ay h2],fun h h2=>by rw[iW,au (by simpa using h),au h2]⟩
theorem CJ (I:List Nat)(letter v:Int)(q:Int × List Int)(k:Nat) :
 ((cl I q.2 k=0\/cl I q.2 k=1)->iW I false letter v q k=(cl I q.2 k,q.2)) /\
 (¬(cl I q.2 k=0\/cl I q.2 k=1)->(cl I q.2 k=3/\q.1=letter)->iW I false letter v q k=(q.1,put I q.2 k v)) /\
 (¬(cl I q.2 k=0\/cl I q.2 k=1)->¬(cl I q.2 k=3/\q.1=letter)->iW I false letter v q k=q) :=
 ⟨fun h=>by rw[iW,ay (by simpa using h)],fun h h2=>by rw[iW,au (by simpa using h),ay h2],fun h h2=>by rw[iW,au (by simpa using h),au h2]⟩
theorem G7 (s:Sq)(C:List Int)(k:Nat)(hb:s.iq=0\/s.iq=1)(ha:s.jR=0\/s.jR=1)(h:k=0\/s.I.length<=k+1):jX s C k=C:=by
 rw[jX,au];intro hh
 rcases h with h | h
 ·subst h
  have:ah s C 0=s.iq:=rfl;rw[this]at hh;omega
 ·have:tE s C (k+1)=s.jR:=by rw[tE,au (by omega)]
  rw[this]at hh;omega
theorem X9 (s:Sq)(C:List Int)(k:Nat)(h:k+1+1<s.I.length) :
 ((cl s.I C k=cl s.I C (k+1+1)/\((cl s.I C k=3/\(cl s.I C (k+1)=4\/cl s.I C (k+1)=7))\/(cl s.I C k=6/\cl s.I C (k+1)=7)))->jX s C (k+1)=put s.I C (k+1) (cl s.I C k)) /\
 (¬(cl s.I C k=cl s.I C (k+1+1)/\((cl s.I C k=3/\(cl s.I C (k+1)=4\/cl s.I C (k+1)=7))\/(cl s.I C k=6/\cl s.I C (k+1)=7)))->jX s C (k+1)=C):=by
 have h1:ah s C (k+1)=cl s.I C k:=by rw[ah,au (by omega)];rfl
 have h2:tE s C (k+1+1)=cl s.I C (k+1+1):=by rw[tE,ay h]
 refine⟨fun x=>?_,fun x=>?_⟩
 ·rw[jX,h1,h2,ay x]
 ·rw[jX,h1,h2,au x]
theorem Q4 (I:List Nat)(C:List Int)(k:Nat):(cl I C k=2->nJ I C k=put I C k 1)/\(¬cl I C k=2->nJ I C k=C) :=
 ⟨fun h=>by rw[nJ,ay h],fun h=>by rw[nJ,au h]⟩
theorem Q5 (s:Sq)(C:List Int)(k:Nat)(hb:s.iq=0\/s.iq=1)(ha:s.jR=0\/s.jR=1)(hk:k<=s.I.length)(h:s.I.length<=k+1):ku s s.I.length C=ku s k C:=by
 rcases bP k s.I.length with h1 | h1
 ·rw[show s.I.length=k+1 by omega,ku];exact G7 s _ k hb ha (.inr h)
 ·rw[show k=s.I.length by omega]
theorem MY (q:PH)(C L:List Int)(G:List Bool)(bI cI:Nat)(s:Sq)(w:World)(hs:PS w q C L G)(hI:IS w q bI s.I)(h0:0<s.I.length)(hb:s.iq=0\/s.iq=1)(ha:s.jR=0\/s.jR=1)
 (marks:∀(C:List Int) (w:World),PS w q C L G->IS w q bI s.I->Calls prog 90 #[.pointer (some ⟨q.p,0,none⟩),Ee bI cI s] w fun e w'=>e=.returned (.tuple #[])/\PS w' q (iL s.I s.I.length (scan s.I qm (kA s) C)) L G/\Fr [q.bC] w w') :
 Calls prog 47 #[.pointer (some ⟨q.p,0,none⟩),Ee bI cI s] w fun e w'=>e=.returned (.tuple #[])/\PS w' q (weak q.K s C) L G/\Fr [q.bC] w w':=by
 have lp:=hs.lt;have sm:=hI.sm;have nC:=hs.Im.1;have nCF:=hs.Im.2.2.1;have nI:=hI.ne.1;have HS:=hid hs;have HI:=hid hI;obtain⟨R,hR⟩:∃R,R=weak q.K s C:=⟨_,rfl⟩;have HR:=hid hR;rw[<-hR];obtain⟨m,hm⟩:∃m,m=s.I.length:=⟨_,rfl⟩;have HM:=hid hm;have HV:=hid (show Ee bI cI s=.agg #[.slice (some ⟨bI,0,none⟩) m cI,.int .i64 s.own,.int .i64 s.iq,.int .i64 s.jR] by rw[hm]);rw[HV.out];rw[<-hm]at sm;have hm0:0<m:=by rw[hm];exact h0
 have hn0:0<q.n:=by have:=hI.lt 0 h0;omega
 have Iq:=hid hb;have HAA:=hid ha;have HMK:=hid marks;rw[HV.out]at HMK;clear hm hR hs hI h0 hb ha marks
 have HX0:=hid (show kB (w.alloc (.cells #[.slice (some ⟨bI,0,none⟩) m cI,.int .i64 s.own,.int .i64 s.iq,.int .i64 s.jR] 101)) w.heap.size bI m cI s.own s.iq s.jR from fun j v hv=>by
  rw[eZ _ _ _ _ rfl];exact hv)
 have A9:=hid (show w.heap.size ∉ [q.bC]from fun h=>by
  have:=HS.out.Td hn0;have:=aj.1 h;omega)
 go_enter func47,ntmps47;go_wp2;go_loopw [5] (fun a wr=>∃(k:Nat),a=.int .i64 k/\k<=m/\Hid (PS wr q (gQ q.K s k C) L G)/\Hid (Fr [q.bC] w wr)/\Hid (kB wr w.heap.size bI m cI s.own s.iq s.jR)) (fun a _=>m - (intOf a).toNat)
 case atStart=>exact⟨0,rfl,aH _,hid (HS.out.alloc _),hid ((Fr.refl _ w).alloc _),HX0⟩
 case round =>
  obtain⟨k,rfl,hk,HP,HF,HX⟩:=hrel;have x0:=HX.out 0 _ rfl;have x1:=HX.out 1 _ rfl;have x2:=HX.out 2 _ rfl;have x3:=HX.out 3 _ rfl;have d1:=HP.out.c1;have d2:=HP.out.c2;have lp1:=HP.out.lt;by_cases hlt:k<m
  ·obtain⟨hi,e1,e2,e3,e4⟩:=pq HP.out HI.out HF.out (show k<s.I.length by rw[<-HM.out];exact hlt)
   have HST:=hid (FJ q.K s k C);have FV:=hid (yT q (gQ q.K s k C) L G bI cI s ((k:Int) - 1));have IA:=hid (Gi s (gQ q.K s k C) k (by rw[<-HM.out];exact hk));have zi:=hid (G6 q.K s (gQ q.K s k C) k);have Ey:=hid (CG q.K s (gQ q.K s k C));have HAP:=hid (CI q.K s (gQ q.K s k C));have ZT:=hid (DS q.K s (gQ q.K s k C));have qp:=hid (fun z=>HP.out.oX hi z);generalize gQ q.K s k C=C1 at *;by_cases h8:nth C1 (fX s.I k)=8
   ·rw[h8]at e2
    rw[HV.out,IA.out]at FV;have abo:=hid (fun(hk0:k=0)=>HST.out.trans (show iQ q.K s C1 k=put s.I C1 k s.iq by subst hk0;exact Ey.out h8));have abp:=hid (fun k' (hk0:k=k'+1) (ha:j6 (cl s.I q.K k')=true\/cl s.I q.K k'=22)=>HST.out.trans (show iQ q.K s C1 k=put s.I C1 k 13 by subst hk0;exact HAP.out k' h8 ha));have abq:=hid (fun k' (hk0:k=k'+1) (ha:¬(j6 (cl s.I q.K k')=true\/cl s.I q.K k'=22))=>HST.out.trans (show iQ q.K s C1 k=put s.I C1 k (ah s C1 k) by subst hk0;exact ZT.out k' h8 ha));generalize hix:fX s.I k=i at *;have QU:=hid hix;clear h8 hix Ey HAP ZT HST IA;have lC:=eS _ _ e2;go_wp2;go_quiet (fail);go_upto_region 6 with fail
    go_cut []from 21 to 83 (fun wx=>Hid (PS wx q (C1.set i (ah s C1 k)) L G)/\Hid (Fr [q.bC] w wx)/\Hid (kB wx w.heap.size bI m cI s.own s.iq s.jR))
    case first =>
     have hwr:IntKind.i64.wrap ((k:Int) - 1)=(k:Int) - 1:=by rw[eT];omega
     have nX:q.bC≠w.heap.size:=fun h=>A9.out (aj.2 h.symm)
     clear d1 e4 lp lp1 nCF abo abp abq zi qp HS HM HR HX0;go_region_held (fun wz=>wz.cell? ⟨q.p,2,none⟩=some (.slice (some ⟨q.bC,0,none⟩) q.n q.cC)/\wz.cell? ⟨w.heap.size,0,none⟩=some (.slice (some ⟨bI,0,none⟩) m cI)/\wz.cell? ⟨w.heap.size,1,none⟩=some (.int .i64 s.own)/\wz.cell? ⟨w.heap.size,2,none⟩=some (.int .i64 s.iq)/\wz.cell? ⟨w.heap.size,3,none⟩=some (.int .i64 s.jR)/\wz.cell? ⟨bI,k,none⟩=some (.int .i64 i))
      (first | exact⟨d2,x0,x1,x2,x3,e1⟩ | exact⟨g2,g3,g4,g5,g6,g7⟩ | exact⟨(cell_far _ _ _ _ _ _ nC).trans g2,(cell_far _ _ _ _ _ _ nX).trans g3,(cell_far _ _ _ _ _ _ nX).trans g4,(cell_far _ _ _ _ _ _ nX).trans g5,(cell_far _ _ _ _ _ _ nX).trans g6,(cell_far _ _ _ _ _ _ (fun h=>nI h.symm)).trans g7⟩)
      (first | (go_at_call 89;refine(FV.out _ ?_ ?_).mono ?_;(exact HP.out.iS ⟨rfl,rfl,rfl,ak _,fun _ _ _=>rfl⟩);(exact HI.out.fr (HF.out.trans ⟨rfl,rfl,rfl,ak _,fun _ _ _=>rfl⟩) (fun e=>nI (aj.1 e)));rintro e w' ⟨rfl,hf'⟩;have g2:=hf'.cell d2 af;have g3:=hf'.cell x0 af;have g4:=hf'.cell x1 af;have g5:=hf'.cell x2 af;have g6:=hf'.cell x3 af;have g7:=hf'.cell e1 af;have g8:=hf'.cell e2 af;have g9:=hf'.j8 e2 af e3))
     go_wp2_with fail;go_meet
     case rel=>exact⟨hid ((HP.out.iS (w':=w') ⟨hf'.os,hf'.tape,hf'.output,hf'.size,hf'.block⟩).oX hi _),hid ((HF.out.trans (w'':=w') ⟨hf'.os,hf'.tape,hf'.output,hf'.size,fun k h1 _=>hf'.block k h1 af⟩).set (aj.2 rfl) _),hid ((HX.out.fr (S:=[]) (w':=w') ⟨hf'.os,hf'.tape,hf'.output,hf'.size,hf'.block⟩ af).fr (gH _ q.bC i _) A9.out)⟩
    case rest =>
     obtain⟨mO,f_,qV⟩:=hcut;have x0':=qV.out 0 _ rfl;have d1':=mO.out.c1;have d2':=mO.out.c2;have lp':=mO.out.lt;obtain⟨hi',e1',e2',e3',e4'⟩:=pq mO.out HI.out f_.out (show k<s.I.length by rw[<-HM.out];exact hlt);rw[QU.out]at hi' e1' e2' e3' e4';generalize nth (C1.set i (ah s C1 k)) i=y' at *
     rcases aS k with hk0 | hk0
     ·have AK:=hid (abo.out hk0)
      have Ub:=hid (show ah s C1 k=s.iq by rw[hk0];rfl);have hk1:¬(0:Int)<(k:Int):=by omega
      clear hk0;go_wp2;go_roundw
      case rel=>exact⟨k+1,by go_num,by omega,hid (by rw[AK.out,put,<-Ub.out,QU.out];exact mO.out),f_,qV⟩
      case measure=>simp[intOf];omega
     ·obtain⟨k',hk'⟩:∃k',k=k'+1:=⟨k - 1,by omega⟩
      have X_:=hid (abp.out k' hk');have abr:=hid (abq.out k' hk');obtain⟨hj,f1,f2,f3,f4⟩:=pq mO.out HI.out f_.out (show k'<s.I.length by rw[<-HM.out];omega);have hkk:(k:Int) - 1=(k':Int):=by omega
      have abt:=hid (fun z=>mO.out.oX hi' z);simp only[cl]at X_ abr;generalize fX s.I k'=i' at *;generalize nth q.K i'=f at *;have hk1:(0:Int)<(k:Int):=by omega
      subst hk';by_cases h22:f=22
      ·have AK:=hid (X_.out (.inr h22))
       subst h22;have hin:j6 22=false:=rfl;go_wp2;go_quiet (fail);go_wp2_with (go_at_call 41;refine(gG _ _).mono ?_;rintro e w' ⟨rfl,rfl⟩);go_region;go_wp2;go_roundw
       case rel=>exact⟨k'+1+1,by go_num,by omega,hid (by rw[AK.out,put,QU.out,<-sK C1 i (ah s C1 (k'+1)) 13];exact(abt.out 13).iS ⟨rfl,rfl,rfl,ak _,fun _ _ _=>rfl⟩),hid ((f_.out.set (aj.2 rfl) _).trans ⟨rfl,rfl,rfl,ak _,fun _ _ _=>rfl⟩),hid ((qV.out.fr (gH _ q.bC i (.int .i64 13)) A9.out).fr (S:=[]) ⟨rfl,rfl,rfl,ak _,fun _ _ _=>rfl⟩ af)⟩
       case measure=>simp[intOf];omega
      ·cases hin:j6 f
       ·have AK:=hid (abr.out (fun h=>by rcases h with h | h;(rw[hin]at h;cases h);exact h22 h))
        go_wp2;go_quiet (fail);go_wp2_with (go_at_call 41;refine(gG _ _).mono ?_;rintro e w' ⟨rfl,rfl⟩);go_roundw
        case rel=>exact⟨k'+1+1,by go_num,by omega,hid (by rw[AK.out,put,QU.out];exact mO.out.iS ⟨rfl,rfl,rfl,ak _,fun _ _ _=>rfl⟩),hid (f_.out.trans ⟨rfl,rfl,rfl,ak _,fun _ _ _=>rfl⟩),hid (qV.out.fr (S:=[]) ⟨rfl,rfl,rfl,ak _,fun _ _ _=>rfl⟩ af)⟩
        case measure=>simp[intOf];omega
       ·have AK:=hid (X_.out (.inl hin))
        go_wp2;go_quiet (fail);go_wp2_with (go_at_call 41;refine(gG _ _).mono ?_;rintro e w' ⟨rfl,rfl⟩);go_region;go_wp2;go_roundw
        case rel=>exact⟨k'+1+1,by go_num,by omega,hid (by rw[AK.out,put,QU.out,<-sK C1 i (ah s C1 (k'+1)) 13];exact(abt.out 13).iS ⟨rfl,rfl,rfl,ak _,fun _ _ _=>rfl⟩),hid ((f_.out.set (aj.2 rfl) _).trans ⟨rfl,rfl,rfl,ak _,fun _ _ _=>rfl⟩),hid ((qV.out.fr (gH _ q.bC i (.int .i64 13)) A9.out).fr (S:=[]) ⟨rfl,rfl,rfl,ak _,fun _ _ _=>rfl⟩ af)⟩
        case measure=>simp[intOf];omega
   ·have AK:=hid (HST.out.trans (zi.out h8))
    generalize fX s.I k=i at *;generalize nth C1 i=y at *;go_wp2;go_quiet (fail);go_wp2;go_roundw
    case rel=>exact⟨k+1,by go_num,by omega,hid (by rw[AK.out];exact HP.out.drewN _),hid (HF.out.drewN _),hid (HX.out.fr (frq [] _ _) af)⟩
    case measure=>simp[intOf];omega
  ·have hk2:k=m:=by omega
   have DD:=hid (show PS wr q (gQ q.K s m C) L G by rw[<-hk2];exact HP.out);clear hk2 HP;obtain⟨C1,hC1⟩:∃C1,C1=gQ q.K s m C:=⟨_,rfl⟩;have UU:=hid hC1;rw[<-hC1]at DD;clear hC1;go_wp2;go_loopw [8,9] (fun a b wr=>∃(k:Nat),a=.int .i64 (iw s.I true 2 6 k (s.iq,C1)).1/\b=.int .i64 k/\k<=m/\Hid (PS wr q (iw s.I true 2 6 k (s.iq,C1)).2 L G)/\Hid (Fr [q.bC] w wr)/\Hid (kB wr w.heap.size bI m cI s.own s.iq s.jR)) (fun _ b _=>m - (intOf b).toNat)
   case atStart=>exact⟨0,rfl,rfl,aH _,DD,HF,HX⟩
   case round =>
    obtain⟨k,rfl,rfl,hk,HP,HF,HX⟩:=hrel;have x0:=HX.out 0 _ rfl;have d2:=HP.out.c2;by_cases hlt2:k<m
    ·obtain⟨hi,e1,e2,e3,e4⟩:=pq HP.out HI.out HF.out (show k<s.I.length by rw[<-HM.out];exact hlt2)
     have HST:=hid (show iw s.I true 2 6 (k+1) (s.iq,C1)=iW s.I true 2 6 (iw s.I true 2 6 k (s.iq,C1)) k from rfl);have qp:=hid (fun z=>HP.out.oX hi z);have mo:=hid (DT s.I 2 6 (iw s.I true 2 6 k (s.iq,C1)) k);rw[<-HST.out]at mo;generalize rN:iw s.I true 2 6 (k+1) (s.iq,C1)=N2 at *;have lQ:=hid rN;clear rN;generalize iw s.I true 2 6 k (s.iq,C1)=N at *;obtain⟨la,C2⟩:=N;dsimp only[cl,put]at *;generalize fX s.I k=i at *;generalize nth C2 i=y at *;clear HST;go_wp2;go_quiet (fail);go_wp2
     all_goals (try go_region)
     all_goals (try go_wp2)
     all_goals first
      | (exfalso;simp only[beq_iff_eq,aF,ne_eq]at *;omega)
      | (have hN:=mo.out.1 (by simp only[beq_iff_eq,aF,ne_eq]at *;omega)
         refine⟨⟨k+1,?_,by go_num,by omega,hid ?_,hid ?_,hid ?_⟩,by simp[intOf];omega⟩
         ·rw[lQ.out,hN] <;> first | rfl | (congr 1;omega)
         ·rw[lQ.out,hN];exact HP.out.iS (iD _ _ _ rfl rfl rfl rfl)
         ·exact HF.out.trans (iD _ _ _ rfl rfl rfl rfl)
         ·exact HX.out.fr (S:=[]) (iD _ _ _ rfl rfl rfl rfl) af)
      | (have hN:=mo.out.2.1 (by simp only[beq_iff_eq,aF,ne_eq]at *;omega) (by simp only[beq_iff_eq,aF,ne_eq]at *;omega)
         refine⟨⟨k+1,?_,by go_num,by omega,hid ?_,hid ?_,hid ?_⟩,by simp[intOf];omega⟩
         ·rw[lQ.out,hN]
         ·rw[lQ.out,hN];exact(qp.out 6).iS (iD _ _ _ rfl rfl rfl rfl)
         ·exact(HF.out.set (aj.2 rfl) _).trans (iD _ _ _ rfl rfl rfl rfl)
         ·exact(HX.out.fr (gH _ q.bC i (.int .i64 6)) A9.out).fr (S:=[]) (iD _ _ _ rfl rfl rfl rfl) af)
      | (have hN:=mo.out.2.2 (by simp only[beq_iff_eq,aF,ne_eq]at *;omega) (by simp only[beq_iff_eq,aF,ne_eq]at *;omega)
         refine⟨⟨k+1,?_,by go_num,by omega,hid ?_,hid ?_,hid ?_⟩,by simp[intOf];omega⟩
         ·rw[lQ.out,hN]
         ·rw[lQ.out,hN];exact HP.out.iS (iD _ _ _ rfl rfl rfl rfl)
         ·exact HF.out.trans (iD _ _ _ rfl rfl rfl rfl)
         ·exact HX.out.fr (S:=[]) (iD _ _ _ rfl rfl rfl rfl) af)
    ·have hk2:k=m:=by omega
     have DD:=hid (show PS wr q (iw s.I true 2 6 m (s.iq,C1)).2 L G by rw[<-hk2];exact HP.out);clear hk2 HP;obtain⟨C2,hC2⟩:∃C2,C2=(iw s.I true 2 6 m (s.iq,C1)).2:=⟨_,rfl⟩;have AK:=hid hC2;rw[<-hC2]at DD;clear hC2;generalize (iw s.I true 2 6 k (s.iq,C1)).1=la;go_wp2;go_loopw [11] (fun b wr=>∃(k:Nat),b=.int .i64 k/\k<=m/\Hid (PS wr q (mP s.I k C2) L G)/\Hid (Fr [q.bC] w wr)/\Hid (kB wr w.heap.size bI m cI s.own s.iq s.jR)) (fun b _=>m - (intOf b).toNat)
     case atStart=>exact⟨0,rfl,aH _,DD,HF,HX⟩
     case round =>
      obtain⟨k,rfl,hk,HP,HF,HX⟩:=hrel;have x0:=HX.out 0 _ rfl;have d2:=HP.out.c2;by_cases hlt3:k<m
      ·obtain⟨hi,e1,e2,e3,e4⟩:=pq HP.out HI.out HF.out (show k<s.I.length by rw[<-HM.out];exact hlt3)
       have HST:=hid (show mP s.I (k+1) C2=nJ s.I (mP s.I k C2) k from rfl);have qp:=hid (fun z=>HP.out.oX hi z);have mo:=hid (Q4 s.I (mP s.I k C2) k);rw[<-HST.out]at mo;generalize rN:mP s.I (k+1) C2=N2 at *;have lQ:=hid rN;clear rN;generalize mP s.I k C2=N at *;dsimp only[cl,put]at *;generalize fX s.I k=i at *;generalize nth N i=y at *;clear HST;by_cases hy:y=2
       ·have hN:=mo.out.1 hy
        have HN:=hid hN;clear hN;subst hy;go_wp2;go_quiet (fail);go_wp2;go_region;go_wp2;go_roundw
        case rel=>exact⟨k+1,by go_num,by omega,hid (by rw[lQ.out,HN.out];exact(qp.out 1).iS (iD _ _ _ rfl rfl rfl rfl)),hid ((HF.out.set (aj.2 rfl) _).trans (iD _ _ _ rfl rfl rfl rfl)),hid ((HX.out.fr (gH _ q.bC i (.int .i64 1)) A9.out).fr (S:=[]) (iD _ _ _ rfl rfl rfl rfl) af)⟩
        case measure=>simp[intOf];omega
       ·have HN:=hid (mo.out.2 hy)
        go_wp2;go_quiet (fail);go_wp2;go_roundw
        case rel=>exact⟨k+1,by go_num,by omega,hid (by rw[lQ.out,HN.out];exact HP.out.iS (iD _ _ _ rfl rfl rfl rfl)),hid (HF.out.trans (iD _ _ _ rfl rfl rfl rfl)),hid (HX.out.fr (S:=[]) (iD _ _ _ rfl rfl rfl rfl) af)⟩
        case measure=>simp[intOf];omega
      ·have hk2:k=m:=by omega
       have DD:=hid (show PS wr q (mP s.I m C2) L G by rw[<-hk2];exact HP.out);clear hk2 HP;obtain⟨C3,UW⟩:∃C3,C3=mP s.I m C2:=⟨_,rfl⟩;have yA:=hid UW;rw[<-UW]at DD;clear UW;go_wp2;go_loopw [12] (fun b wr=>∃(k:Nat),b=.int .i64 (k+1:Nat)/\k+1<=m/\Hid (PS wr q (ku s (k+1) C3) L G)/\Hid (Fr [q.bC] w wr)/\Hid (kB wr w.heap.size bI m cI s.own s.iq s.jR)) (fun b _=>m - (intOf b).toNat)
       case atStart=>exact⟨0,rfl,hm0,hid (by rw[ku,G7 s _ 0 Iq.out HAA.out (.inl rfl)];exact DD.out),HF,HX⟩
       case round =>
        obtain⟨k,rfl,hk,HP,HF,HX⟩:=hrel;have x0:=HX.out 0 _ rfl;have d2:=HP.out.c2;by_cases afx:k+1+1<m
        ·obtain⟨hi0,e1,e2,e3,e4⟩:=pq HP.out HI.out HF.out (show k<s.I.length by rw[<-HM.out];omega)
         obtain⟨hi1,f1,f2,f3,f4⟩:=pq HP.out HI.out HF.out (show k+1<s.I.length by rw[<-HM.out];omega);obtain⟨hi2,g1,g2,g3,g4⟩:=pq HP.out HI.out HF.out (show k+1+1<s.I.length by rw[<-HM.out];omega);have HST:=hid (show ku s (k+1+1) C3=jX s (ku s (k+1) C3) (k+1)from rfl);have qp:=hid (fun z=>HP.out.oX hi1 z);have mo:=hid (X9 s (ku s (k+1) C3) k (by rw[<-HM.out];exact afx));rw[<-HST.out]at mo;generalize rN:ku s (k+1+1) C3=N2 at *;have lQ:=hid rN;clear rN;generalize ku s (k+1) C3=N at *;dsimp only[cl,put]at *;generalize fX s.I k=i0 at *;generalize fX s.I (k+1)=i1 at *;generalize fX s.I (k+1+1)=i2 at *;generalize nth N i0=ya at *;generalize nth N i1=yc at *;generalize nth N i2=yb at *;clear HST e3 e4 f4 g3 g4;have hz1:((k+1:Nat):Int)=(k:Int)+1:=by omega
         have hz2:((k+1:Nat):Int)+1<(m:Int):=by omega
         have hz3:((k+1:Nat):Int) - 1=(k:Int):=by omega
         have AM:((k+1:Nat):Int)+1=((k+1+1:Nat):Int):=by omega
         go_wp2;go_quiet (fail);go_wp2;go_quiet (fail);go_wp2;go_quiet (fail);go_wp2
         all_goals (try go_region)
         all_goals (try go_wp2)
         all_goals first
          | (exfalso;(try simp only[beq_iff_eq,aF,ne_eq]at *);omega)
          | (have hy3:ya=3:=by(try simp only[beq_iff_eq,aF,ne_eq]at *);omega
             have hN:=mo.out.1 (by(try simp only[beq_iff_eq,aF,ne_eq]at *);omega)
             rw[hy3]at hN
             refine⟨⟨k+1,by go_num,by omega,hid ?_,hid ?_,hid ?_⟩,by simp[intOf];omega⟩
             ·rw[lQ.out,hN];exact(qp.out 3).iS (iD _ _ _ rfl rfl rfl rfl)
             ·exact(HF.out.set (aj.2 rfl) _).trans (iD _ _ _ rfl rfl rfl rfl)
             ·exact(HX.out.fr (gH _ q.bC i1 (.int .i64 3)) A9.out).fr (S:=[]) (iD _ _ _ rfl rfl rfl rfl) af)
          | (have hy3:ya=6:=by(try simp only[beq_iff_eq,aF,ne_eq]at *);omega
             have hN:=mo.out.1 (by(try simp only[beq_iff_eq,aF,ne_eq]at *);omega)
             rw[hy3]at hN
             refine⟨⟨k+1,by go_num,by omega,hid ?_,hid ?_,hid ?_⟩,by simp[intOf];omega⟩
             ·rw[lQ.out,hN];exact(qp.out 6).iS (iD _ _ _ rfl rfl rfl rfl)
             ·exact(HF.out.set (aj.2 rfl) _).trans (iD _ _ _ rfl rfl rfl rfl)
             ·exact(HX.out.fr (gH _ q.bC i1 (.int .i64 6)) A9.out).fr (S:=[]) (iD _ _ _ rfl rfl rfl rfl) af)
          | (have hN:=mo.out.2 (by(try simp only[beq_iff_eq,aF,ne_eq]at *);omega)
             refine⟨⟨k+1,by go_num,by omega,hid ?_,hid ?_,hid ?_⟩,by simp[intOf];omega⟩
             ·rw[lQ.out,hN];exact HP.out.iS (iD _ _ _ rfl rfl rfl rfl)
             ·exact HF.out.trans (iD _ _ _ rfl rfl rfl rfl)
             ·exact HX.out.fr (S:=[]) (iD _ _ _ rfl rfl rfl rfl) af)
        ·have DD:=hid (show PS wr q (ku s m C3) L G by rw[HM.out,Q5 s C3 (k+1) Iq.out HAA.out (by rw[<-HM.out];exact hk) (by rw[<-HM.out];omega)];exact HP.out)
         clear HP;obtain⟨C4,hC4⟩:∃C4,C4=ku s m C3:=⟨_,rfl⟩;have HC4:=hid hC4;rw[<-hC4]at DD;clear hC4;have hz2:¬((k+1:Nat):Int)+1<(m:Int):=by omega
         have x1:=HX.out 1 _ rfl;have x2:=HX.out 2 _ rfl;have x3:=HX.out 3 _ rfl;have afz:=hid (HMK.out C4 wr DD.out (HI.out.fr HF.out (fun e=>nI (aj.1 e))));go_wp2_with fail;refine afz.out.mono ?_;rintro e w1 ⟨rfl,hpm,hfm⟩;have jP:=hid (HF.out.trans hfm);have xg:=hid (HX.out.fr hfm A9.out);have y2:=xg.out 2 _ rfl;obtain⟨C5,hC5⟩:∃C5,C5=iL s.I s.I.length (scan s.I qm (kA s) C4):=⟨_,rfl⟩;have HC5:=hid hC5;rw[<-hC5]at hpm;have uu:=hid hpm;clear hC5 hpm hfm;go_wp2;go_loopw [8,16] (fun a b wr=>∃(k:Nat),a=.int .i64 (iw s.I false 0 0 k (s.iq,C5)).1/\b=.int .i64 k/\k<=m/\Hid (PS wr q (iw s.I false 0 0 k (s.iq,C5)).2 L G)/\Hid (Fr [q.bC] w wr)/\Hid (kB wr w.heap.size bI m cI s.own s.iq s.jR)) (fun _ b _=>m - (intOf b).toNat)
         case atStart=>exact⟨0,rfl,rfl,aH _,uu,jP,xg⟩
         case round =>
          obtain⟨k,rfl,rfl,hk,HP,HF,HX⟩:=hrel;have x0:=HX.out 0 _ rfl;have d2:=HP.out.c2;by_cases afB:k<m
          ·obtain⟨hi,e1,e2,e3,e4⟩:=pq HP.out HI.out HF.out (show k<s.I.length by rw[<-HM.out];exact afB)
           have HST:=hid (show iw s.I false 0 0 (k+1) (s.iq,C5)=iW s.I false 0 0 (iw s.I false 0 0 k (s.iq,C5)) k from rfl);have qp:=hid (fun z=>HP.out.oX hi z);have mo:=hid (CJ s.I 0 0 (iw s.I false 0 0 k (s.iq,C5)) k);rw[<-HST.out]at mo;generalize rN:iw s.I false 0 0 (k+1) (s.iq,C5)=N2 at *;have lQ:=hid rN;clear rN;generalize iw s.I false 0 0 k (s.iq,C5)=N at *;obtain⟨la,C6⟩:=N;dsimp only[cl,put]at *;generalize fX s.I k=i at *;generalize nth C6 i=y at *;clear HST;go_wp2;go_quiet (fail);go_wp2
           all_goals (try go_region)
           all_goals (try go_wp2)
           all_goals first
            | (exfalso;(try simp only[beq_iff_eq,aF,ne_eq]at *);omega)
            | (have hN:=mo.out.1 (by(try simp only[beq_iff_eq,aF,ne_eq]at *);omega)
               refine⟨⟨k+1,?_,by go_num,by omega,hid ?_,hid ?_,hid ?_⟩,by simp[intOf];omega⟩
               ·rw[lQ.out,hN] <;> first | rfl | (congr 1;omega)
               ·rw[lQ.out,hN];exact HP.out.iS (iD _ _ _ rfl rfl rfl rfl)
               ·exact HF.out.trans (iD _ _ _ rfl rfl rfl rfl)
               ·exact HX.out.fr (S:=[]) (iD _ _ _ rfl rfl rfl rfl) af)
            | (have hN:=mo.out.2.1 (by(try simp only[beq_iff_eq,aF,ne_eq]at *);omega) (by(try simp only[beq_iff_eq,aF,ne_eq]at *);omega)
               refine⟨⟨k+1,?_,by go_num,by omega,hid ?_,hid ?_,hid ?_⟩,by simp[intOf];omega⟩
               ·rw[lQ.out,hN]
               ·rw[lQ.out,hN];exact(qp.out 0).iS (iD _ _ _ rfl rfl rfl rfl)
               ·exact(HF.out.set (aj.2 rfl) _).trans (iD _ _ _ rfl rfl rfl rfl)
               ·exact(HX.out.fr (gH _ q.bC i (.int .i64 0)) A9.out).fr (S:=[]) (iD _ _ _ rfl rfl rfl rfl) af)
            | (have hN:=mo.out.2.2 (by(try simp only[beq_iff_eq,aF,ne_eq]at *);omega) (by(try simp only[beq_iff_eq,aF,ne_eq]at *);omega)
               refine⟨⟨k+1,?_,by go_num,by omega,hid ?_,hid ?_,hid ?_⟩,by simp[intOf];omega⟩
               ·rw[lQ.out,hN]
               ·rw[lQ.out,hN];exact HP.out.iS (iD _ _ _ rfl rfl rfl rfl)
               ·exact HF.out.trans (iD _ _ _ rfl rfl rfl rfl)
               ·exact HX.out.fr (S:=[]) (iD _ _ _ rfl rfl rfl rfl) af)
          ·have hk2:k=m:=by omega
           have tH:=hid (show PS wr q R L G by
            rw[HR.out,weak,<-HM.out,<-UU.out,<-AK.out,<-yA.out,<-HC4.out]
            have hz:=HC5.out
            rw[<-HM.out]at hz
            rw[<-hz,<-hk2]
            exact HP.out)
           clear hk2;go_wp2;go_end0;exact⟨rfl,tH.out,HF.out⟩
end Go.Proofs.YtnakejhohdbfdaaGreatDoor
