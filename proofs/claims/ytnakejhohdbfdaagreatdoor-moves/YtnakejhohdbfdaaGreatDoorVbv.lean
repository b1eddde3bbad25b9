import Derived.Test.YtnakejhohdbfdaaGreatDoorVbq
set_option maxHeartbeats 4000000
set_option maxRecDepth 10000
namespace Go.Proofs.YtnakejhohdbfdaaGreatDoor
open Go.RowKit jN Lay uS Go.Proofs.Tryz
theorem Zv (P g1 g2 nB:Nat)(Bd:List Int)(ta:Int)(tb m:Bool)(off goal pa:Int)(back pb:Bool)(s:ByteArray)(v1 vC vL:Value)(w:World)
 (ho:w.heap[P]?=some (.cells #[.string s,v1,vC,vL] 46 (0,0)))
 (hp:oP 18 P off back (.agg #[.int .i64 pa,.bool pb]) w)
 (hg:oP 20 P off back (.agg #[.int .i64 (g1:Nat),.int .i64 (g2:Nat)]) w)
 (hb:SF s nB Bd w)
 (yK:nB<=1000) (hm:m=!(decide (ta=pa/\tb=pb))) (hT:tN Bd nB pa pb nB=(ta,tb)) :
 Calls prog 28 #[.pointer (some ⟨P,0,none⟩),.int .i64 2,.agg #[.int .i64 off,.bool back],.int .i64 goal] w fun e w'=>e=.returned (.tuple #[.agg #[.int .i64 ta,.bool tb],.bool m])/\Fr [] w w':=by
 obtain⟨w2,hw2,f_,iG,HR2⟩:=jW w off back;have j9:=hid ho;have rW:=h_ ho;have zN:=hid hp;have r8:=hid hg;have yE:=hid hb;have HM:=hid hm;have HT:=hid hT;clear ho hp hg hb hm hT;go_enter func28,ntmps28;have HW2:=hid hw2;clear hw2;go_wp2_with fail;rw[<-HW2.out];refine(zN.out _ f_.out).mono ?_;rintro e w3 ⟨rfl,hf3⟩;obtain⟨w4,hw4,jF,jD⟩:=jE hf3 #[.int .i64 pa,.bool pb] 55;have gP:=hid (f_.out.trans jF.out);have oQ:=hid hw4;have hz3:w.heap.size+2<=w3.heap.size:=by
  have h5:=hf3.size;rw[HW2.out]at h5;simpa using h5
 have AM:w4.heap.size=w3.heap.size+1:=by rw[hw4];simp
 obtain⟨s0,s1⟩:=gI (fO iG.out jF.out af);rw[hw4]at s0 s1;clear hf3 hw4;go_wp2_with fail;rw[<-oQ.out];refine(r8.out _ gP.out).mono ?_;rintro e w5 ⟨rfl,jC⟩;obtain⟨w6,w7,nu,hw7,hs6,hs7,jv,pg,DU,FY⟩:=mC jC #[.int .i64 (g1:Nat),.int .i64 (g2:Nat)] #[.int .i64 pa,.bool pb] 58 55;have Dq:=jC.size;have m7:=hid (gP.out.trans pg.out);clear s0 s1;obtain⟨f0,f1⟩:=gI (fO jD.out jv.out af);have x0:=fN (fO j9.out m7.out af) (i:=0) (v:=.string s) rfl;have Av:=hid hw7;rw[hw7]at x0;have AX:=hid nu;rw[nu]at f0 f1 x0;clear jC hw7 nu;have FK:=hid (fO jD.out pg.out af);go_wp2_with fail;rw[<-AX.out,<-Av.out];refine(yE.out _ m7.out).mono ?_;rintro e w8 ⟨gB,cB,rfl,hrow,hgB,nE⟩;have Ow:=hid (show gB≠w5.heap.size+1 by omega);clear hgB;have HRW:=hid hrow;have r9:=hid nE;have q8:=hid (m7.out.trans nE);clear hrow nE f0 f1 x0;have hq3:¬w3.heap.size=w.heap.size+1:=by omega
 have Ki:¬w.heap.size+1=w3.heap.size:=by omega
 have hq5:¬w5.heap.size+1=w.heap.size+1:=by omega
 have SR:¬w.heap.size+1=w5.heap.size+1:=by omega
 have hq6:¬w5.heap.size=w.heap.size:=by omega
 have Wb:¬w.heap.size=w5.heap.size:=by omega
 have yg:=hid (show w3.heap.size≠w5.heap.size+1 by omega);have KQ:=hid (show w.heap.size+1≠w5.heap.size+1 by omega);have DB:=hid (show w.heap.size<=w5.heap.size+1 by omega);clear hs6 hs7 Dq AM hz3;have Ti:=hid (fO FK.out r9.out af);have Md:=hid (fO FY.out r9.out af);have Xb:gB≠w5.heap.size+1:=Ow.out;go_wp2_with fail;go_loopw [14] (fun ii wr=>∃k:Nat,ii=.int .i64 ((nB:Int) - 1 - (k:Int))/\k<=nB/\Hid (wr.heap[w5.heap.size+1]?=some (.cells #[.int .i64 (tN Bd nB pa pb (k)).1,.bool (tN Bd nB pa pb (k)).2] 55 (0,0)))/\Hid (Fr [w5.heap.size+1] w8 wr)) (fun ii _=>(intOf ii+1).toNat)
 case atStart=>exact⟨0,by simp,aH _,hid Md.out,hid (Fr.refl _ _)⟩
 case round =>
  obtain⟨k,rfl,hkn,S6,yl⟩:=hrel;have T4:=hid (fO Ti.out yl.out (by simpa using yg.out));by_cases hlt:k<nB
  ·obtain⟨j,hj⟩:∃j:Nat,(nB:Int) - 1 - (k:Int)=(j:Int):=⟨(nB - 1 - k),by omega⟩
   have HJ:=hid (show(nB - 1 - k)=j by omega);have hjn:j<nB:=by omega
   have hji:(j:Int)<(nB:Int):=by omega
   have hj0:0<=(j:Int):=by omega
   have HJ2:=hid hj;rw[hj];clear hj;have hwj:IntKind.i64.wrap ((j:Int) - 1)=(j:Int) - 1:=by rw[eT];omega
   have b0:wr.cell? ⟨gB,j,none⟩=some (.int .i64 (nth Bd j)):=(HRW.out.fr yl.out (by simpa using Xb)) j hjn;have f0:=fN T4.out (i:=0) (v:=.int .i64 pa) rfl;have zm:=hid (show tN Bd nB pa pb (k+1)=if pa<nth Bd (nB - 1 - k)then(nth Bd (nB - 1 - k),true)else tN Bd nB pa pb (k)from rfl);obtain⟨t1,ht1⟩:∃t1,t1=tN Bd nB pa pb (k+1):=⟨_,rfl⟩;obtain⟨t,ht⟩:∃t,t=tN Bd nB pa pb (k):=⟨_,rfl⟩;rw[<-ht1,<-ht]at zm;rw[HJ.out]at zm;rw[<-ht]at S6;have HT1:=hid ht1;clear ht1 ht;generalize nth Bd j=y at *;have Yj:=hid hlt;clear hlt hkn hjn;by_cases hc:pa<y
   ·have hct:t1=(y,true):=by rw[zm.out,ay hc]
    have Ur:=hid hct;clear hct;go_wp2_with fail;go_quiet (fail);obtain⟨wq,hwq⟩:∃wq,wq=wr.drewN nq:=⟨_,rfl⟩;have v_:=hid (show Fr [] wr wq by rw[hwq];exact Fr.drewN (Fr.refl [] wr) _);rw[<-hwq];have Wc:=hid (fO S6.out v_.out af);have b1:=v_.out.cell b0 af;obtain⟨q0,q1⟩:=gI Wc.out;have z0:=fT Wc.out 0;have z1:=fT Wc.out 1;clear hwq b0 f0;go_wp2;go_roundw
    case rel=>exact⟨k+1,by have:=HJ2.out;congr 1;omega,Yj.out,hid (by rw[<-HT1.out,Ur.out];exact fP (fP Wc.out 0 _) 1 _),hid (((yl.out.trans (v_.out.mono (fun _ h _=>absurd h af))).set (bA ..) _).set (bA ..) _)⟩
    case measure=>simp[intOf] <;> omega
   ·have hct:t1=t:=by rw[zm.out,au hc]
    have Ur:=hid hct;clear hct;have hcd:decide (pa<y)=false:=by simpa using hc
    go_wp2_with fail;go_quiet (fail);go_wp2;go_roundw
    case rel=>exact⟨k+1,by have:=HJ2.out;congr 1;omega,Yj.out,hid (by rw[<-HT1.out,Ur.out];exact fO S6.out (Fr.drewN (Fr.refl [] wr) _) af),hid (Fr.drewN yl.out _)⟩
    case measure=>simp[intOf] <;> omega
  ·obtain rfl:k=nB:=by omega
   rw[HT.out]at S6;have Zo:=hid S6.out;have tH:=hid T4.out;have zq:=hid (fO (fO HR2.out (jF.out.trans (pg.out.trans r9.out)) af) yl.out (by simpa using KQ.out));have Ay:=hid (show Fr [] w wr from((q8.out.mono (fun _ h _=>absurd h af)).trans yl.out).mono (fun b h hlt=>by simp at h;have:=DB.out;omega));have hI:(k:Int) - 1 - (k:Int)=-1:=by omega
   rw[hI];clear hlt hkn hI;obtain⟨f0,f1⟩:=gI tH.out;obtain⟨t0,t1⟩:=gI Zo.out;obtain⟨r0,r1,k0,k1⟩:=jM zq.out;by_cases ho:ta=pa
   ·by_cases hb:tb=pb
    ·obtain rfl:m=false:=by rw[HM.out];simp[ho,hb]
     subst ho;subst hb;go_wp2_with fail;go_region
     all_goals (
      go_wp2
      refine eU (fW (t:=55) (fr:=(0,0)) rfl _ _ (w.heap.size+1) _ _ rfl (fP (fP zq.out 0 _) 1 _) underlying55 rfl (by kernel_rfl)) rfl ?_
      exact⟨rfl,(Fr.fQ (b:=w.heap.size+1) (i:=1) (v:=.bool tb) (Fr.fQ (b:=w.heap.size+1) (i:=0) (v:=.int .i64 ta) Ay.out (by omega)) (by omega)).trans (iD _ _ _ rfl rfl rfl rfl)⟩)
    ·obtain rfl:m=true:=by rw[HM.out];simp[hb]
     subst ho;go_wp2_with fail;go_region
     all_goals (
      go_wp2
      refine eU (fW (t:=55) (fr:=(0,0)) rfl _ _ (w.heap.size+1) _ _ rfl (fP (fP zq.out 0 _) 1 _) underlying55 rfl (by kernel_rfl)) rfl ?_
      exact⟨rfl,(Fr.fQ (b:=w.heap.size+1) (i:=1) (v:=.bool tb) (Fr.fQ (b:=w.heap.size+1) (i:=0) (v:=.int .i64 ta) Ay.out (by omega)) (by omega)).trans (iD _ _ _ rfl rfl rfl rfl)⟩)
   ·obtain rfl:m=true:=by rw[HM.out];simp[ho]
    go_wp2_with fail;go_region
    all_goals (
     go_wp2
     refine eU (fW (t:=55) (fr:=(0,0)) rfl _ _ (w.heap.size+1) _ _ rfl (fP (fP zq.out 0 _) 1 _) underlying55 rfl (by kernel_rfl)) rfl ?_
     exact⟨rfl,(Fr.fQ (b:=w.heap.size+1) (i:=1) (v:=.bool tb) (Fr.fQ (b:=w.heap.size+1) (i:=0) (v:=.int .i64 ta) Ay.out (by omega)) (by omega)).trans (iD _ _ _ rfl rfl rfl rfl)⟩)
theorem Zw (P g1 g2 nB:Nat)(Bd:List Int)(ta:Int)(tb m:Bool)(off goal pa:Int)(back pb:Bool)(s:ByteArray)(v1 vC vL:Value)(w:World)
 (ho:w.heap[P]?=some (.cells #[.string s,v1,vC,vL] 46 (0,0)))
 (hp:oP 18 P off back (.agg #[.int .i64 pa,.bool pb]) w)
 (hg:oP 20 P off back (.agg #[.int .i64 (g1:Nat),.int .i64 (g2:Nat)]) w)
 (hb:SF s nB Bd w)
 (yK:nB<=1000) (hm:m=!(decide (ta=pa/\tb=pb))) (hT:tP Bd pa pb nB=(ta,tb)) :
 Calls prog 28 #[.pointer (some ⟨P,0,none⟩),.int .i64 3,.agg #[.int .i64 off,.bool back],.int .i64 goal] w fun e w'=>e=.returned (.tuple #[.agg #[.int .i64 ta,.bool tb],.bool m])/\Fr [] w w':=by
 obtain⟨w2,hw2,f_,iG,HR2⟩:=jW w off back;have j9:=hid ho;have rW:=h_ ho;have zN:=hid hp;have r8:=hid hg;have yE:=hid hb;have HM:=hid hm;have HT:=hid hT;clear ho hp hg hb hm hT;go_enter func28,ntmps28;have HW2:=hid hw2;clear hw2;go_wp2_with fail;rw[<-HW2.out];refine(zN.out _ f_.out).mono ?_;rintro e w3 ⟨rfl,hf3⟩;obtain⟨w4,hw4,jF,jD⟩:=jE hf3 #[.int .i64 pa,.bool pb] 55;have gP:=hid (f_.out.trans jF.out);have oQ:=hid hw4;have hz3:w.heap.size+2<=w3.heap.size:=by
  have h5:=hf3.size;rw[HW2.out]at h5;simpa using h5
 have AM:w4.heap.size=w3.heap.size+1:=by rw[hw4];simp
 obtain⟨s0,s1⟩:=gI (fO iG.out jF.out af);rw[hw4]at s0 s1;clear hf3 hw4;go_wp2_with fail;rw[<-oQ.out];refine(r8.out _ gP.out).mono ?_;rintro e w5 ⟨rfl,jC⟩;obtain⟨w6,w7,nu,hw7,hs6,hs7,jv,pg,DU,FY⟩:=mC jC #[.int .i64 (g1:Nat),.int .i64 (g2:Nat)] #[.int .i64 pa,.bool pb] 58 55;have Dq:=jC.size;have m7:=hid (gP.out.trans pg.out);clear s0 s1;obtain⟨f0,f1⟩:=gI (fO jD.out jv.out af);have x0:=fN (fO j9.out m7.out af) (i:=0) (v:=.string s) rfl;have Av:=hid hw7;rw[hw7]at x0;have AX:=hid nu;rw[nu]at f0 f1 x0;clear jC hw7 nu;have FK:=hid (fO jD.out pg.out af);go_wp2_with fail;rw[<-AX.out,<-Av.out];refine(yE.out _ m7.out).mono ?_;rintro e w8 ⟨gB,cB,rfl,hrow,hgB,nE⟩;have Ow:=hid (show gB≠w5.heap.size+1 by omega);clear hgB;have HRW:=hid hrow;have r9:=hid nE;have q8:=hid (m7.out.trans nE);clear hrow nE f0 f1 x0;have hq3:¬w3.heap.size=w.heap.size+1:=by omega
 have Ki:¬w.heap.size+1=w3.heap.size:=by omega
 have hq5:¬w5.heap.size+1=w.heap.size+1:=by omega
 have SR:¬w.heap.size+1=w5.heap.size+1:=by omega
 have hq6:¬w5.heap.size=w.heap.size:=by omega
 have Wb:¬w.heap.size=w5.heap.size:=by omega
 have yg:=hid (show w3.heap.size≠w5.heap.size+1 by omega);have KQ:=hid (show w.heap.size+1≠w5.heap.size+1 by omega);have DB:=hid (show w.heap.size<=w5.heap.size+1 by omega);clear hs6 hs7 Dq AM hz3;have Ti:=hid (fO FK.out r9.out af);have Md:=hid (fO FY.out r9.out af);have Xb:gB≠w5.heap.size+1:=Ow.out;go_wp2_with fail;go_loopw [15] (fun ii wr=>∃k:Nat,ii=.int .i64 ((k:Int))/\k<=nB/\Hid (wr.heap[w5.heap.size+1]?=some (.cells #[.int .i64 (tP Bd pa pb (k)).1,.bool (tP Bd pa pb (k)).2] 55 (0,0)))/\Hid (Fr [w5.heap.size+1] w8 wr)) (fun ii _=>nB - (intOf ii).toNat)
 case atStart=>exact⟨0,by rfl,aH _,hid Md.out,hid (Fr.refl _ _)⟩
 case round =>
  obtain⟨k,rfl,hkn,S6,yl⟩:=hrel;have T4:=hid (fO Ti.out yl.out (by simpa using yg.out));by_cases hlt:k<nB
  ·obtain⟨j,hj⟩:∃j:Nat,(k:Int)=(j:Int):=⟨k,by omega⟩
   have HJ:=hid (show k=j by omega);have hjn:j<nB:=by omega
   have hji:(j:Int)<(nB:Int):=by omega
   have hj0:0<=(j:Int):=by omega
   have HJ2:=hid hj;rw[hj];clear hj;have hwj:IntKind.i64.wrap ((j:Int)+1)=(j:Int)+1:=by rw[eT];omega
   have b0:wr.cell? ⟨gB,j,none⟩=some (.int .i64 (nth Bd j)):=(HRW.out.fr yl.out (by simpa using Xb)) j hjn;have f0:=fN T4.out (i:=0) (v:=.int .i64 pa) rfl;have zm:=hid (show tP Bd pa pb (k+1)=if nth Bd k<pa then(nth Bd k,false)else tP Bd pa pb (k)from rfl);obtain⟨t1,ht1⟩:∃t1,t1=tP Bd pa pb (k+1):=⟨_,rfl⟩;obtain⟨t,ht⟩:∃t,t=tP Bd pa pb (k):=⟨_,rfl⟩;rw[<-ht1,<-ht]at zm;rw[HJ.out]at zm;rw[<-ht]at S6;have HT1:=hid ht1;clear ht1 ht;generalize nth Bd j=y at *;have Yj:=hid hlt;clear hlt hkn hjn;by_cases hc:y<pa
   ·have hct:t1=(y,false):=by rw[zm.out,ay hc]
    have Ur:=hid hct;clear hct;go_wp2_with fail;go_quiet (fail);obtain⟨wq,hwq⟩:∃wq,wq=wr.drewN nq:=⟨_,rfl⟩;have v_:=hid (show Fr [] wr wq by rw[hwq];exact Fr.drewN (Fr.refl [] wr) _);rw[<-hwq];have Wc:=hid (fO S6.out v_.out af);have b1:=v_.out.cell b0 af;obtain⟨q0,q1⟩:=gI Wc.out;have z0:=fT Wc.out 0;have z1:=fT Wc.out 1;clear hwq b0 f0;go_wp2;go_roundw
    case rel=>exact⟨k+1,by have:=HJ2.out;congr 1;omega,Yj.out,hid (by rw[<-HT1.out,Ur.out];exact fP (fP Wc.out 0 _) 1 _),hid (((yl.out.trans (v_.out.mono (fun _ h _=>absurd h af))).set (bA ..) _).set (bA ..) _)⟩
    case measure=>simp[intOf] <;> omega
   ·have hct:t1=t:=by rw[zm.out,au hc]
    have Ur:=hid hct;clear hct;have hcd:decide (y<pa)=false:=by simpa using hc
    go_wp2_with fail;go_quiet (fail);go_wp2;go_roundw
    case rel=>exact⟨k+1,by have:=HJ2.out;congr 1;omega,Yj.out,hid (by rw[<-HT1.out,Ur.out];exact fO S6.out (Fr.drewN (Fr.refl [] wr) _) af),hid (Fr.drewN yl.out _)⟩
    case measure=>simp[intOf] <;> omega
  ·obtain rfl:k=nB:=by omega
   rw[HT.out]at S6;have Zo:=hid S6.out;have tH:=hid T4.out;have zq:=hid (fO (fO HR2.out (jF.out.trans (pg.out.trans r9.out)) af) yl.out (by simpa using KQ.out));have Ay:=hid (show Fr [] w wr from((q8.out.mono (fun _ h _=>absurd h af)).trans yl.out).mono (fun b h hlt=>by simp at h;have:=DB.out;omega));have hI:¬(k:Int)<(k:Int):=by omega
   clear hlt hkn;obtain⟨f0,f1⟩:=gI tH.out;obtain⟨t0,t1⟩:=gI Zo.out;obtain⟨r0,r1,k0,k1⟩:=jM zq.out;by_cases ho:ta=pa
   ·by_cases hb:tb=pb
    ·obtain rfl:m=false:=by rw[HM.out];simp[ho,hb]
     subst ho;subst hb;go_wp2_with fail;go_region
     all_goals (
      go_wp2
      refine eU (fW (t:=55) (fr:=(0,0)) rfl _ _ (w.heap.size+1) _ _ rfl (fP (fP zq.out 0 _) 1 _) underlying55 rfl (by kernel_rfl)) rfl ?_
      exact⟨rfl,(Fr.fQ (b:=w.heap.size+1) (i:=1) (v:=.bool tb) (Fr.fQ (b:=w.heap.size+1) (i:=0) (v:=.int .i64 ta) Ay.out (by omega)) (by omega)).trans (iD _ _ _ rfl rfl rfl rfl)⟩)
    ·obtain rfl:m=true:=by rw[HM.out];simp[hb]
     subst ho;go_wp2_with fail;go_region
     all_goals (
      go_wp2
      refine eU (fW (t:=55) (fr:=(0,0)) rfl _ _ (w.heap.size+1) _ _ rfl (fP (fP zq.out 0 _) 1 _) underlying55 rfl (by kernel_rfl)) rfl ?_
      exact⟨rfl,(Fr.fQ (b:=w.heap.size+1) (i:=1) (v:=.bool tb) (Fr.fQ (b:=w.heap.size+1) (i:=0) (v:=.int .i64 ta) Ay.out (by omega)) (by omega)).trans (iD _ _ _ rfl rfl rfl rfl)⟩)
   ·obtain rfl:m=true:=by rw[HM.out];simp[ho]
    go_wp2_with fail;go_region
    all_goals (
     go_wp2
     refine eU (fW (t:=55) (fr:=(0,0)) rfl _ _ (w.heap.size+1) _ _ rfl (fP (fP zq.out 0 _) 1 _) underlying55 rfl (by kernel_rfl)) rfl ?_
     exact⟨rfl,(Fr.fQ (b:=w.heap.size+1) (i:=1) (v:=.bool tb) (Fr.fQ (b:=w.heap.size+1) (i:=0) (v:=.int .i64 ta) Ay.out (by omega)) (by omega)).trans (iD _ _ _ rfl rfl rfl rfl)⟩)
theorem We (P g1 g2 nB:Nat)(Bd:List Int)(gL cL K:Nat)(ra:Int)(rb:Bool)(off goal pa:Int)(back pb:Bool)(s:ByteArray)(v1 vC vL:Value)(w:World)
 (ho:w.heap[P]?=some (.cells #[.string s,v1,vC,vL] 46 (0,0)))
 (hp:oP 18 P off back (.agg #[.int .i64 pa,.bool pb]) w)
 (hg:oP 20 P off back (.agg #[.int .i64 (g1:Nat),.int .i64 (g2:Nat)]) w)
 (hb:SF s nB Bd w)
 (qw:vL=.slice (some ⟨gL,0,none⟩) K cL) (hi:g1<K) (hK:K<=400) (hl:0<g1)
 (hq:FZ 26 #[.pointer (some ⟨P,0,none⟩),.int .i64 ((g1:Int) - 1),.int .i64 goal] (.agg #[.int .i64 ra,.bool rb]) w) :
 Calls prog 28 #[.pointer (some ⟨P,0,none⟩),.int .i64 6,.agg #[.int .i64 off,.bool back],.int .i64 goal] w fun e w'=>e=.returned (.tuple #[.agg #[.int .i64 ra,.bool rb],.bool true])/\Fr [] w w':=by
 obtain⟨w2,hw2,f_,iG,HR2⟩:=jW w off back;have j9:=hid ho;have rW:=h_ ho;have zN:=hid hp;have r8:=hid hg;have yE:=hid hb;subst qw;obtain⟨ln,hln⟩:∃ln:Int,ln=(g1:Int) - 1:=⟨_,rfl⟩;rw[<-hln]at hq;have HQ:=hid hq;clear hq;have hw1:IntKind.i64.wrap ((g1:Int) - 1)=ln:=by rw[hln,eT];omega
 have hl0:¬ln<0:=by omega
 have ac7:decide (ln<0)=false:=by simpa using hl0
 have hl1:¬(K:Int)<=ln:=by omega
 have ahg:decide ((K:Int)<=ln)=false:=by simpa using hl1
 have tI:=hid hl;have HKK:=hid hK;have HII:=hid hi;clear ho hp hg hb hln hl hK hi;go_enter func28,ntmps28;have HW2:=hid hw2;clear hw2;go_wp2_with fail;rw[<-HW2.out];refine(zN.out _ f_.out).mono ?_;rintro e w3 ⟨rfl,hf3⟩;obtain⟨w4,hw4,jF,jD⟩:=jE hf3 #[.int .i64 pa,.bool pb] 55;have gP:=hid (f_.out.trans jF.out);have oQ:=hid hw4;have hz3:w.heap.size+2<=w3.heap.size:=by
  have h5:=hf3.size;rw[HW2.out]at h5;simpa using h5
 have AM:w4.heap.size=w3.heap.size+1:=by rw[hw4];simp
 obtain⟨s0,s1⟩:=gI (fO iG.out jF.out af);rw[hw4]at s0 s1;clear hf3 hw4;go_wp2_with fail;rw[<-oQ.out];refine(r8.out _ gP.out).mono ?_;rintro e w5 ⟨rfl,jC⟩;obtain⟨w6,w7,nu,hw7,hs6,hs7,jv,pg,DU,FY⟩:=mC jC #[.int .i64 (g1:Nat),.int .i64 (g2:Nat)] #[.int .i64 pa,.bool pb] 58 55;have Dq:=jC.size;have m7:=hid (gP.out.trans pg.out);clear s0 s1;obtain⟨f0,f1⟩:=gI (fO jD.out jv.out af);have x0:=fN (fO j9.out m7.out af) (i:=0) (v:=.string s) rfl;have Av:=hid hw7;rw[hw7]at x0;have AX:=hid nu;rw[nu]at f0 f1 x0;clear jC hw7 nu;have FK:=hid (fO jD.out pg.out af);go_wp2_with fail;rw[<-AX.out,<-Av.out];refine(yE.out _ m7.out).mono ?_;rintro e w8 ⟨gB,cB,rfl,hrow,hgB,nE⟩;have Ow:=hid (show gB≠w5.heap.size+1 by omega);clear hgB;have HRW:=hid hrow;have r9:=hid nE;have q8:=hid (m7.out.trans nE);clear hrow nE f0 f1 x0;have x3:=fN (fO j9.out q8.out af) (i:=3) (v:=.slice (some ⟨gL,0,none⟩) K cL) rfl;have Dr:=hid (fO DU.out r9.out af);have g0:=fN Dr.out (i:=0) (v:=.int .i64 (g1:Nat)) rfl;clear hs6 hs7 Dq AM hz3;go_wp2_with fail;refine(HQ.out _ q8.out).mono ?_;rintro e w9 ⟨rfl,yL⟩;have vY:=hid (jF.out.trans (pg.out.trans (r9.out.trans yL)));clear yL;have jd:=hid (fO HR2.out vY.out af);obtain⟨r0,r1,k0,k1⟩:=jM jd.out;go_wp2_with fail;refine eU (fW (t:=55) (fr:=(0,0)) rfl _ _ (w.heap.size+1) _ _ rfl (fP (fP jd.out 0 _) 1 _) underlying55 rfl (by kernel_rfl)) rfl ?_;exact⟨rfl,Fr.fQ (Fr.fQ (f_.out.trans vY.out) (by omega)) (by omega)⟩
theorem Wf (P g1 g2 nB:Nat)(Bd:List Int)(gL cL K:Nat)(off goal pa:Int)(back pb:Bool)(s:ByteArray)(v1 vC vL:Value)(w:World)
 (ho:w.heap[P]?=some (.cells #[.string s,v1,vC,vL] 46 (0,0)))
 (hp:oP 18 P off back (.agg #[.int .i64 pa,.bool pb]) w)
 (hg:oP 20 P off back (.agg #[.int .i64 (g1:Nat),.int .i64 (g2:Nat)]) w)
 (hb:SF s nB Bd w)
 (qw:vL=.slice (some ⟨gL,0,none⟩) K cL) (hi:g1<K) (hK:K<=400) (hl:g1=0) :
 Calls prog 28 #[.pointer (some ⟨P,0,none⟩),.int .i64 6,.agg #[.int .i64 off,.bool back],.int .i64 goal] w fun e w'=>e=.returned (.tuple #[.agg #[.int .i64 pa,.bool pb],.bool false])/\Fr [] w w':=by
 obtain⟨w2,hw2,f_,iG,HR2⟩:=jW w off back;have j9:=hid ho;have rW:=h_ ho;have zN:=hid hp;have r8:=hid hg;have yE:=hid hb;subst qw;obtain⟨ln,hln⟩:∃ln:Int,ln=(g1:Int) - 1:=⟨_,rfl⟩;have hw1:IntKind.i64.wrap ((g1:Int) - 1)=ln:=by rw[hln,eT];omega
 have hl0:ln<0:=by omega
 have tI:=hid hl;have HKK:=hid hK;have HII:=hid hi;clear ho hp hg hb hln hl hK hi;go_enter func28,ntmps28;have HW2:=hid hw2;clear hw2;go_wp2_with fail;rw[<-HW2.out];refine(zN.out _ f_.out).mono ?_;rintro e w3 ⟨rfl,hf3⟩;obtain⟨w4,hw4,jF,jD⟩:=jE hf3 #[.int .i64 pa,.bool pb] 55;have gP:=hid (f_.out.trans jF.out);have oQ:=hid hw4;have hz3:w.heap.size+2<=w3.heap.size:=by
  have h5:=hf3.size;rw[HW2.out]at h5;simpa using h5
 have AM:w4.heap.size=w3.heap.size+1:=by rw[hw4];simp
 obtain⟨s0,s1⟩:=gI (fO iG.out jF.out af);rw[hw4]at s0 s1;clear hf3 hw4;go_wp2_with fail;rw[<-oQ.out];refine(r8.out _ gP.out).mono ?_;rintro e w5 ⟨rfl,jC⟩;obtain⟨w6,w7,nu,hw7,hs6,hs7,jv,pg,DU,FY⟩:=mC jC #[.int .i64 (g1:Nat),.int .i64 (g2:Nat)] #[.int .i64 pa,.bool pb] 58 55;have Dq:=jC.size;have m7:=hid (gP.out.trans pg.out);clear s0 s1;obtain⟨f0,f1⟩:=gI (fO jD.out jv.out af);have x0:=fN (fO j9.out m7.out af) (i:=0) (v:=.string s) rfl;have Av:=hid hw7;rw[hw7]at x0;have AX:=hid nu;rw[nu]at f0 f1 x0;clear jC hw7 nu;have FK:=hid (fO jD.out pg.out af);go_wp2_with fail;rw[<-AX.out,<-Av.out];refine(yE.out _ m7.out).mono ?_;rintro e w8 ⟨gB,cB,rfl,hrow,hgB,nE⟩;have Ow:=hid (show gB≠w5.heap.size+1 by omega);clear hgB;have HRW:=hid hrow;have r9:=hid nE;have q8:=hid (m7.out.trans nE);clear hrow nE f0 f1 x0;have x3:=fN (fO j9.out q8.out af) (i:=3) (v:=.slice (some ⟨gL,0,none⟩) K cL) rfl;have Dr:=hid (fO DU.out r9.out af);have g0:=fN Dr.out (i:=0) (v:=.int .i64 (g1:Nat)) rfl;have HP8:=hid (fO FK.out r9.out af);obtain⟨f0,f1⟩:=gI HP8.out;have hq3:¬w3.heap.size=w.heap.size+1:=by omega
 have Ki:¬w.heap.size+1=w3.heap.size:=by omega
 clear hs6 hs7 Dq AM hz3;have vY:=hid (jF.out.trans (pg.out.trans r9.out));have jd:=hid (fO HR2.out vY.out af);obtain⟨r0,r1,k0,k1⟩:=jM jd.out;go_wp2_with fail;refine eU (fW (t:=55) (fr:=(0,0)) rfl _ _ (w.heap.size+1) _ _ rfl (fP (fP jd.out 0 _) 1 _) underlying55 rfl (by kernel_rfl)) rfl ?_;exact⟨rfl,Fr.fQ (Fr.fQ (f_.out.trans vY.out) (by omega)) (by omega)⟩
theorem Wg (P g1 g2 nB:Nat)(Bd:List Int)(gL cL K:Nat)(ra:Int)(rb:Bool)(off goal pa:Int)(back pb:Bool)(s:ByteArray)(v1 vC vL:Value)(w:World)
 (ho:w.heap[P]?=some (.cells #[.string s,v1,vC,vL] 46 (0,0)))
 (hp:oP 18 P off back (.agg #[.int .i64 pa,.bool pb]) w)
 (hg:oP 20 P off back (.agg #[.int .i64 (g1:Nat),.int .i64 (g2:Nat)]) w)
 (hb:SF s nB Bd w)
 (qw:vL=.slice (some ⟨gL,0,none⟩) K cL) (hi:g1<K) (hK:K<=400) (hl:g1+1<K)
 (hq:FZ 26 #[.pointer (some ⟨P,0,none⟩),.int .i64 ((g1:Int)+1),.int .i64 goal] (.agg #[.int .i64 ra,.bool rb]) w) :
 Calls prog 28 #[.pointer (some ⟨P,0,none⟩),.int .i64 7,.agg #[.int .i64 off,.bool back],.int .i64 goal] w fun e w'=>e=.returned (.tuple #[.agg #[.int .i64 ra,.bool rb],.bool true])/\Fr [] w w':=by
 obtain⟨w2,hw2,f_,iG,HR2⟩:=jW w off back;have j9:=hid ho;have rW:=h_ ho;have zN:=hid hp;have r8:=hid hg;have yE:=hid hb;subst qw;obtain⟨ln,hln⟩:∃ln:Int,ln=(g1:Int)+1:=⟨_,rfl⟩;rw[<-hln]at hq;have HQ:=hid hq;clear hq;have hw0:IntKind.i64.wrap ((g1:Int) - 1)=(g1:Int) - 1:=by rw[eT];omega
 have hw1:IntKind.i64.wrap ((g1:Int)+1)=ln:=by rw[hln,eT];omega
 have hl0:¬ln<0:=by omega
 have ac7:decide (ln<0)=false:=by simpa using hl0
 have hl1:¬(K:Int)<=ln:=by omega
 have ahg:decide ((K:Int)<=ln)=false:=by simpa using hl1
 have tI:=hid hl;have HKK:=hid hK;have HII:=hid hi;clear ho hp hg hb hln hl hK hi;go_enter func28,ntmps28;have HW2:=hid hw2;clear hw2;go_wp2_with fail;rw[<-HW2.out];refine(zN.out _ f_.out).mono ?_;rintro e w3 ⟨rfl,hf3⟩;obtain⟨w4,hw4,jF,jD⟩:=jE hf3 #[.int .i64 pa,.bool pb] 55;have gP:=hid (f_.out.trans jF.out);have oQ:=hid hw4;have hz3:w.heap.size+2<=w3.heap.size:=by
  have h5:=hf3.size;rw[HW2.out]at h5;simpa using h5
 have AM:w4.heap.size=w3.heap.size+1:=by rw[hw4];simp
 obtain⟨s0,s1⟩:=gI (fO iG.out jF.out af);rw[hw4]at s0 s1;clear hf3 hw4;go_wp2_with fail;rw[<-oQ.out];refine(r8.out _ gP.out).mono ?_;rintro e w5 ⟨rfl,jC⟩;obtain⟨w6,w7,nu,hw7,hs6,hs7,jv,pg,DU,FY⟩:=mC jC #[.int .i64 (g1:Nat),.int .i64 (g2:Nat)] #[.int .i64 pa,.bool pb] 58 55;have Dq:=jC.size;have m7:=hid (gP.out.trans pg.out);clear s0 s1;obtain⟨f0,f1⟩:=gI (fO jD.out jv.out af);have x0:=fN (fO j9.out m7.out af) (i:=0) (v:=.string s) rfl;have Av:=hid hw7;rw[hw7]at x0;have AX:=hid nu;rw[nu]at f0 f1 x0;clear jC hw7 nu;have FK:=hid (fO jD.out pg.out af);go_wp2_with fail;rw[<-AX.out,<-Av.out];refine(yE.out _ m7.out).mono ?_;rintro e w8 ⟨gB,cB,rfl,hrow,hgB,nE⟩;have Ow:=hid (show gB≠w5.heap.size+1 by omega);clear hgB;have HRW:=hid hrow;have r9:=hid nE;have q8:=hid (m7.out.trans nE);clear hrow nE f0 f1 x0;have x3:=fN (fO j9.out q8.out af) (i:=3) (v:=.slice (some ⟨gL,0,none⟩) K cL) rfl;have Dr:=hid (fO DU.out r9.out af);have g0:=fN Dr.out (i:=0) (v:=.int .i64 (g1:Nat)) rfl;clear hs6 hs7 Dq AM hz3;go_wp2_with fail;refine(HQ.out _ q8.out).mono ?_;rintro e w9 ⟨rfl,yL⟩;have vY:=hid (jF.out.trans (pg.out.trans (r9.out.trans yL)));clear yL;have jd:=hid (fO HR2.out vY.out af);obtain⟨r0,r1,k0,k1⟩:=jM jd.out;go_wp2_with fail;refine eU (fW (t:=55) (fr:=(0,0)) rfl _ _ (w.heap.size+1) _ _ rfl (fP (fP jd.out 0 _) 1 _) underlying55 rfl (by kernel_rfl)) rfl ?_;exact⟨rfl,Fr.fQ (Fr.fQ (f_.out.trans vY.out) (by omega)) (by omega)⟩
theorem Wh (P g1 g2 nB:Nat)(Bd:List Int)(gL cL K:Nat)(off goal pa:Int)(back pb:Bool)(s:ByteArray)(v1 vC vL:Value)(w:World)
 (ho:w.heap[P]?=some (.cells #[.string s,v1,vC,vL] 46 (0,0)))
 (hp:oP 18 P off back (.agg #[.int .i64 pa,.bool pb]) w)
 (hg:oP 20 P off back (.agg #[.int .i64 (g1:Nat),.int .i64 (g2:Nat)]) w)
 (hb:SF s nB Bd w)
 (qw:vL=.slice (some ⟨gL,0,none⟩) K cL) (hi:g1<K) (hK:K<=400) (hl:g1+1=K) :
 Calls prog 28 #[.pointer (some ⟨P,0,none⟩),.int .i64 7,.agg #[.int .i64 off,.bool back],.int .i64 goal] w fun e w'=>e=.returned (.tuple #[.agg #[.int .i64 pa,.bool pb],.bool false])/\Fr [] w w':=by
 obtain⟨w2,hw2,f_,iG,HR2⟩:=jW w off back;have j9:=hid ho;have rW:=h_ ho;have zN:=hid hp;have r8:=hid hg;have yE:=hid hb;subst qw;obtain⟨ln,hln⟩:∃ln:Int,ln=(g1:Int)+1:=⟨_,rfl⟩;have hw0:IntKind.i64.wrap ((g1:Int) - 1)=(g1:Int) - 1:=by rw[eT];omega
 have hw1:IntKind.i64.wrap ((g1:Int)+1)=ln:=by rw[hln,eT];omega
 have hl0:¬ln<0:=by omega
 have ac7:decide (ln<0)=false:=by simpa using hl0
 have hl1:(K:Int)<=ln:=by omega
 have tI:=hid hl;have HKK:=hid hK;have HII:=hid hi;clear ho hp hg hb hln hl hK hi;go_enter func28,ntmps28;have HW2:=hid hw2;clear hw2;go_wp2_with fail;rw[<-HW2.out];refine(zN.out _ f_.out).mono ?_;rintro e w3 ⟨rfl,hf3⟩;obtain⟨w4,hw4,jF,jD⟩:=jE hf3 #[.int .i64 pa,.bool pb] 55;have gP:=hid (f_.out.trans jF.out);have oQ:=hid hw4;have hz3:w.heap.size+2<=w3.heap.size:=by
  have h5:=hf3.size;rw[HW2.out]at h5;simpa using h5
 have AM:w4.heap.size=w3.heap.size+1:=by rw[hw4];simp
 obtain⟨s0,s1⟩:=gI (fO iG.out jF.out af);rw[hw4]at s0 s1;clear hf3 hw4;go_wp2_with fail;rw[<-oQ.out];refine(r8.out _ gP.out).mono ?_;rintro e w5 ⟨rfl,jC⟩;obtain⟨w6,w7,nu,hw7,hs6,hs7,jv,pg,DU,FY⟩:=mC jC #[.int .i64 (g1:Nat),.int .i64 (g2:Nat)] #[.int .i64 pa,.bool pb] 58 55;have Dq:=jC.size;have m7:=hid (gP.out.trans pg.out);clear s0 s1;obtain⟨f0,f1⟩:=gI (fO jD.out jv.out af);have x0:=fN (fO j9.out m7.out af) (i:=0) (v:=.string s) rfl;have Av:=hid hw7;rw[hw7]at x0;have AX:=hid nu;rw[nu]at f0 f1 x0;clear jC hw7 nu;have FK:=hid (fO jD.out pg.out af);go_wp2_with fail;rw[<-AX.out,<-Av.out];refine(yE.out _ m7.out).mono ?_;rintro e w8 ⟨gB,cB,rfl,hrow,hgB,nE⟩;have Ow:=hid (show gB≠w5.heap.size+1 by omega);clear hgB;have HRW:=hid hrow;have r9:=hid nE;have q8:=hid (m7.out.trans nE);clear hrow nE f0 f1 x0;have x3:=fN (fO j9.out q8.out af) (i:=3) (v:=.slice (some ⟨gL,0,none⟩) K cL) rfl;have Dr:=hid (fO DU.out r9.out af);have g0:=fN Dr.out (i:=0) (v:=.int .i64 (g1:Nat)) rfl;have HP8:=hid (fO FK.out r9.out af);obtain⟨f0,f1⟩:=gI HP8.out;have hq3:¬w3.heap.size=w.heap.size+1:=by omega
 have Ki:¬w.heap.size+1=w3.heap.size:=by omega
 clear hs6 hs7 Dq AM hz3;have vY:=hid (jF.out.trans (pg.out.trans r9.out));have jd:=hid (fO HR2.out vY.out af);obtain⟨r0,r1,k0,k1⟩:=jM jd.out;go_wp2_with fail;refine eU (fW (t:=55) (fr:=(0,0)) rfl _ _ (w.heap.size+1) _ _ rfl (fP (fP jd.out 0 _) 1 _) underlying55 rfl (by kernel_rfl)) rfl ?_;exact⟨rfl,Fr.fQ (Fr.fQ (f_.out.trans vY.out) (by omega)) (by omega)⟩
end Go.Proofs.YtnakejhohdbfdaaGreatDoor
