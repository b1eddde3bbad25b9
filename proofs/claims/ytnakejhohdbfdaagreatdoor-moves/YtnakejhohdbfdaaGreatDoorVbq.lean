import Derived.Test.YtnakejhohdbfdaaGreatDoorVbp
set_option maxHeartbeats 4000000
set_option maxRecDepth 10000
namespace Go.Proofs.YtnakejhohdbfdaaGreatDoor
open Go.RowKit jN Lay uS Go.Proofs.Tryz
theorem Bi {w:World}{b c:Nat}{o:Obj}{x y:Value}(h:w.heap[b]?=some o)(hn:b≠c):((w.setCell ⟨c,0,none⟩ x).setCell ⟨c,1,none⟩ y).heap[b]?=some o :=
 fO h (((Fr.refl [c] w).set (bA ..) x).set (bA ..) y) (by simp[hn])
def tN (Bd:List Int)(n:Nat)(pa:Int)(pb:Bool):Nat->Int × Bool
 | 0=>(pa,pb)
 | k+1=>if pa<nth Bd (n - 1 - k)then(nth Bd (n - 1 - k),true)else tN Bd n pa pb k
def tP (Bd:List Int)(pa:Int)(pb:Bool):Nat->Int × Bool
 | 0=>(pa,pb)
 | k+1=>if nth Bd k<pa then(nth Bd k,false)else tP Bd pa pb k
theorem Zk (P g1 g2 nB:Nat)(Bd:List Int)(ra:Int)(rb m:Bool)(off goal pa:Int)(back pb:Bool)(s:ByteArray)(v1 vC vL:Value)(w:World)
 (ho:w.heap[P]?=some (.cells #[.string s,v1,vC,vL] 46 (0,0)))
 (hp:oP 18 P off back (.agg #[.int .i64 pa,.bool pb]) w)
 (hg:oP 20 P off back (.agg #[.int .i64 (g1:Nat),.int .i64 (g2:Nat)]) w)
 (hb:SF s nB Bd w)
 (hs:FZ 67 #[.pointer (some ⟨P,0,none⟩),.bool false,.agg #[.int .i64 off,.bool back]] (.tuple #[.agg #[.int .i64 ra,.bool rb],.bool m]) w) :
 Calls prog 28 #[.pointer (some ⟨P,0,none⟩),.int .i64 0,.agg #[.int .i64 off,.bool back],.int .i64 goal] w fun e w'=>e=.returned (.tuple #[.agg #[.int .i64 ra,.bool rb],.bool m])/\Fr [] w w':=by
 obtain⟨w2,hw2,f_,iG,HR2⟩:=jW w off back;have j9:=hid ho;have rW:=h_ ho;have zN:=hid hp;have r8:=hid hg;have yE:=hid hb;have HS:=hid hs;clear ho hp hg hb hs;go_enter func28,ntmps28;have HW2:=hid hw2;clear hw2;go_wp2_with fail;rw[<-HW2.out];refine(zN.out _ f_.out).mono ?_;rintro e w3 ⟨rfl,hf3⟩;obtain⟨w4,hw4,jF,jD⟩:=jE hf3 #[.int .i64 pa,.bool pb] 55;have gP:=hid (f_.out.trans jF.out);have oQ:=hid hw4;have hz3:w.heap.size+2<=w3.heap.size:=by
  have h5:=hf3.size;rw[HW2.out]at h5;simpa using h5
 have AM:w4.heap.size=w3.heap.size+1:=by rw[hw4];simp
 obtain⟨s0,s1⟩:=gI (fO iG.out jF.out af);rw[hw4]at s0 s1;clear hf3 hw4;go_wp2_with fail;rw[<-oQ.out];refine(r8.out _ gP.out).mono ?_;rintro e w5 ⟨rfl,jC⟩;obtain⟨w6,w7,nu,hw7,hs6,hs7,jv,pg,DU,FY⟩:=mC jC #[.int .i64 (g1:Nat),.int .i64 (g2:Nat)] #[.int .i64 pa,.bool pb] 58 55;have Dq:=jC.size;have m7:=hid (gP.out.trans pg.out);clear s0 s1;obtain⟨f0,f1⟩:=gI (fO jD.out jv.out af);have x0:=fN (fO j9.out m7.out af) (i:=0) (v:=.string s) rfl;have Av:=hid hw7;rw[hw7]at x0;have AX:=hid nu;rw[nu]at f0 f1 x0;clear jC hw7 nu;have FK:=hid (fO jD.out pg.out af);go_wp2_with fail;rw[<-AX.out,<-Av.out];refine(yE.out _ m7.out).mono ?_;rintro e w8 ⟨gB,cB,rfl,hrow,hgB,nE⟩;have Ow:=hid (show gB≠w5.heap.size+1 by omega);clear hgB;have HRW:=hid hrow;have r9:=hid nE;have q8:=hid (m7.out.trans nE);clear hrow nE f0 f1 x0;obtain⟨s0,s1⟩:=gI (fO iG.out (jF.out.trans (pg.out.trans r9.out)) af);clear hs6 hs7 Dq AM hz3;go_wp2_with fail;refine(HS.out _ q8.out).mono ?_;rintro e w9 ⟨rfl,yL⟩;have vY:=hid (jF.out.trans (pg.out.trans (r9.out.trans yL)));clear yL;have jd:=hid (fO HR2.out vY.out af);obtain⟨r0,r1,k0,k1⟩:=jM jd.out;go_wp2_with fail;refine eU (fW (t:=55) (fr:=(0,0)) rfl _ _ (w.heap.size+1) _ _ rfl (fP (fP jd.out 0 _) 1 _) underlying55 rfl (by kernel_rfl)) rfl ?_;exact⟨rfl,Fr.fQ (Fr.fQ (f_.out.trans vY.out) (by omega)) (by omega)⟩
theorem Zm (P g1 g2 nB:Nat)(Bd:List Int)(ra:Int)(rb m:Bool)(off goal pa:Int)(back pb:Bool)(s:ByteArray)(v1 vC vL:Value)(w:World)
 (ho:w.heap[P]?=some (.cells #[.string s,v1,vC,vL] 46 (0,0)))
 (hp:oP 18 P off back (.agg #[.int .i64 pa,.bool pb]) w)
 (hg:oP 20 P off back (.agg #[.int .i64 (g1:Nat),.int .i64 (g2:Nat)]) w)
 (hb:SF s nB Bd w)
 (hs:FZ 67 #[.pointer (some ⟨P,0,none⟩),.bool true,.agg #[.int .i64 off,.bool back]] (.tuple #[.agg #[.int .i64 ra,.bool rb],.bool m]) w) :
 Calls prog 28 #[.pointer (some ⟨P,0,none⟩),.int .i64 1,.agg #[.int .i64 off,.bool back],.int .i64 goal] w fun e w'=>e=.returned (.tuple #[.agg #[.int .i64 ra,.bool rb],.bool m])/\Fr [] w w':=by
 obtain⟨w2,hw2,f_,iG,HR2⟩:=jW w off back;have j9:=hid ho;have rW:=h_ ho;have zN:=hid hp;have r8:=hid hg;have yE:=hid hb;have HS:=hid hs;clear ho hp hg hb hs;go_enter func28,ntmps28;have HW2:=hid hw2;clear hw2;go_wp2_with fail;rw[<-HW2.out];refine(zN.out _ f_.out).mono ?_;rintro e w3 ⟨rfl,hf3⟩;obtain⟨w4,hw4,jF,jD⟩:=jE hf3 #[.int .i64 pa,.bool pb] 55;have gP:=hid (f_.out.trans jF.out);have oQ:=hid hw4;have hz3:w.heap.size+2<=w3.heap.size:=by
  have h5:=hf3.size;rw[HW2.out]at h5;simpa using h5
 have AM:w4.heap.size=w3.heap.size+1:=by rw[hw4];simp
 obtain⟨s0,s1⟩:=gI (fO iG.out jF.out af);rw[hw4]at s0 s1;clear hf3 hw4;go_wp2_with fail;rw[<-oQ.out];refine(r8.out _ gP.out).mono ?_;rintro e w5 ⟨rfl,jC⟩;obtain⟨w6,w7,nu,hw7,hs6,hs7,jv,pg,DU,FY⟩:=mC jC #[.int .i64 (g1:Nat),.int .i64 (g2:Nat)] #[.int .i64 pa,.bool pb] 58 55;have Dq:=jC.size;have m7:=hid (gP.out.trans pg.out);clear s0 s1;obtain⟨f0,f1⟩:=gI (fO jD.out jv.out af);have x0:=fN (fO j9.out m7.out af) (i:=0) (v:=.string s) rfl;have Av:=hid hw7;rw[hw7]at x0;have AX:=hid nu;rw[nu]at f0 f1 x0;clear jC hw7 nu;have FK:=hid (fO jD.out pg.out af);go_wp2_with fail;rw[<-AX.out,<-Av.out];refine(yE.out _ m7.out).mono ?_;rintro e w8 ⟨gB,cB,rfl,hrow,hgB,nE⟩;have Ow:=hid (show gB≠w5.heap.size+1 by omega);clear hgB;have HRW:=hid hrow;have r9:=hid nE;have q8:=hid (m7.out.trans nE);clear hrow nE f0 f1 x0;obtain⟨s0,s1⟩:=gI (fO iG.out (jF.out.trans (pg.out.trans r9.out)) af);clear hs6 hs7 Dq AM hz3;go_wp2_with fail;refine(HS.out _ q8.out).mono ?_;rintro e w9 ⟨rfl,yL⟩;have vY:=hid (jF.out.trans (pg.out.trans (r9.out.trans yL)));clear yL;have jd:=hid (fO HR2.out vY.out af);obtain⟨r0,r1,k0,k1⟩:=jM jd.out;go_wp2_with fail;refine eU (fW (t:=55) (fr:=(0,0)) rfl _ _ (w.heap.size+1) _ _ rfl (fP (fP jd.out 0 _) 1 _) underlying55 rfl (by kernel_rfl)) rfl ?_;exact⟨rfl,Fr.fQ (Fr.fQ (f_.out.trans vY.out) (by omega)) (by omega)⟩
theorem Zn (P g1 g2 nB:Nat)(Bd:List Int)(gL cL K:Nat)(x ta:Int)(tb m:Bool)(off goal pa:Int)(back pb:Bool)(s:ByteArray)(v1 vC vL:Value)(w:World)
 (ho:w.heap[P]?=some (.cells #[.string s,v1,vC,vL] 46 (0,0)))
 (hp:oP 18 P off back (.agg #[.int .i64 pa,.bool pb]) w)
 (hg:oP 20 P off back (.agg #[.int .i64 (g1:Nat),.int .i64 (g2:Nat)]) w)
 (hb:SF s nB Bd w)
 (qw:vL=.slice (some ⟨gL,0,none⟩) K cL) (hi:g1<K) (hx:w.cell? ⟨gL,g1 * 4,none⟩=some (.int .i64 x)) (hm:m=!(decide (ta=pa/\tb=pb)))
 (hq:oP 18 P x false (.agg #[.int .i64 ta,.bool tb]) w) :
 Calls prog 28 #[.pointer (some ⟨P,0,none⟩),.int .i64 4,.agg #[.int .i64 off,.bool back],.int .i64 goal] w fun e w'=>e=.returned (.tuple #[.agg #[.int .i64 ta,.bool tb],.bool m])/\Fr [] w w':=by
 obtain⟨w2,hw2,f_,iG,HR2⟩:=jW w off back;have j9:=hid ho;have rW:=h_ ho;have zN:=hid hp;have r8:=hid hg;have yE:=hid hb;subst qw;have HM:=hid hm;have HQ:=hid hq;have HX:=hid hx;have hgi:(g1:Int)<(K:Int):=Int.ofNat_lt.mpr hi;clear ho hp hg hb hm hq hx;go_enter func28,ntmps28;have HW2:=hid hw2;clear hw2;go_wp2_with fail;rw[<-HW2.out];refine(zN.out _ f_.out).mono ?_;rintro e w3 ⟨rfl,hf3⟩;obtain⟨w4,hw4,jF,jD⟩:=jE hf3 #[.int .i64 pa,.bool pb] 55;have gP:=hid (f_.out.trans jF.out);have oQ:=hid hw4;have hz3:w.heap.size+2<=w3.heap.size:=by
  have h5:=hf3.size;rw[HW2.out]at h5;simpa using h5
 have AM:w4.heap.size=w3.heap.size+1:=by rw[hw4];simp
 obtain⟨s0,s1⟩:=gI (fO iG.out jF.out af);rw[hw4]at s0 s1;clear hf3 hw4;go_wp2_with fail;rw[<-oQ.out];refine(r8.out _ gP.out).mono ?_;rintro e w5 ⟨rfl,jC⟩;obtain⟨w6,w7,nu,hw7,hs6,hs7,jv,pg,DU,FY⟩:=mC jC #[.int .i64 (g1:Nat),.int .i64 (g2:Nat)] #[.int .i64 pa,.bool pb] 58 55;have Dq:=jC.size;have m7:=hid (gP.out.trans pg.out);clear s0 s1;obtain⟨f0,f1⟩:=gI (fO jD.out jv.out af);have x0:=fN (fO j9.out m7.out af) (i:=0) (v:=.string s) rfl;have Av:=hid hw7;rw[hw7]at x0;have AX:=hid nu;rw[nu]at f0 f1 x0;clear jC hw7 nu;have FK:=hid (fO jD.out pg.out af);go_wp2_with fail;rw[<-AX.out,<-Av.out];refine(yE.out _ m7.out).mono ?_;rintro e w8 ⟨gB,cB,rfl,hrow,hgB,nE⟩;have Ow:=hid (show gB≠w5.heap.size+1 by omega);clear hgB;have HRW:=hid hrow;have r9:=hid nE;have q8:=hid (m7.out.trans nE);clear hrow nE f0 f1 x0;have hq3:¬w3.heap.size=w.heap.size+1:=by omega
 have Ki:¬w.heap.size+1=w3.heap.size:=by omega
 have hq5:¬w5.heap.size+1=w.heap.size+1:=by omega
 have SR:¬w.heap.size+1=w5.heap.size+1:=by omega
 have hq6:¬w5.heap.size=w.heap.size:=by omega
 have Wb:¬w.heap.size=w5.heap.size:=by omega
 have yg:=hid (show w3.heap.size≠w5.heap.size+1 by omega);have KQ:=hid (show w.heap.size+1≠w5.heap.size+1 by omega);have DB:=hid (show w.heap.size<=w5.heap.size+1 by omega);clear hs6 hs7 Dq AM hz3;have x3:=fN (fO j9.out q8.out af) (i:=3) (v:=.slice (some ⟨gL,0,none⟩) K cL) rfl;have y0:=q8.out.cell HX.out af;have Dr:=hid (fO DU.out r9.out af);have g0:=fN Dr.out (i:=0) (v:=.int .i64 (g1:Nat)) rfl;go_wp2_with fail
 go_region_with (first
  | (go_at_call 18;refine(HQ.out _ ?fa).mono ?_;(case fa=>exact q8.out.trans (iD _ _ _ rfl rfl rfl rfl));rintro e w9 ⟨rfl,yL⟩;have vY:=hid (show Fr [] w8 w9 from⟨yL.os,yL.tape,yL.output,yL.size,yL.block⟩);have SU:=hid (fO FY.out (r9.out.trans vY.out) af);have t0:=fN SU.out (i:=0) (v:=.int .i64 pa) rfl;have t1:=fN SU.out (i:=1) (v:=.bool pb) rfl;have k0:=fT SU.out 0;have k1:=fT SU.out 1;clear yL))
 all_goals (
  obtain⟨wz,hwz⟩:∃wz,wz=(w9.setCell ⟨w5.heap.size+1,0,none⟩ (.int .i64 ta)).setCell ⟨w5.heap.size+1,1,none⟩ (.bool tb):=⟨_,rfl⟩
  have Zo:=hid (show wz.heap[w5.heap.size+1]?=some (.cells #[.int .i64 ta,.bool tb] 55 (0,0)) by rw[hwz];exact fP (fP SU.out 0 _) 1 _)
  have tH:=hid (show wz.heap[w3.heap.size]?=some (.cells #[.int .i64 pa,.bool pb] 55 (0,0)) by rw[hwz];exact Bi (fO FK.out (r9.out.trans vY.out) af) yg.out)
  have zq:=hid (show wz.heap[w.heap.size+1]?=some (.cells #[.int .i64 0,.bool false] 55 (0,0)) by rw[hwz];exact Bi (fO HR2.out (jF.out.trans (pg.out.trans (r9.out.trans vY.out))) af) KQ.out)
  have Ay:=hid (show Fr [] w wz by rw[hwz];exact Fr.fQ (Fr.fQ (q8.out.trans vY.out) DB.out) DB.out)
  rw[<-hwz]
  clear hwz t0 t1 k0 k1
  obtain⟨f0,f1⟩:=gI tH.out
  obtain⟨t0,t1⟩:=gI Zo.out
  obtain⟨r0,r1,k0,k1⟩:=jM zq.out
  by_cases ho:ta=pa
  ·by_cases hb:tb=pb
   ·obtain rfl:m=false:=by rw[HM.out];simp[ho,hb]
    subst ho
    subst hb
    go_wp2_with fail
    go_region
    all_goals (
     go_wp2
     refine eU (fW (t:=55) (fr:=(0,0)) rfl _ _ (w.heap.size+1) _ _ rfl (fP (fP zq.out 0 _) 1 _) underlying55 rfl (by kernel_rfl)) rfl ?_
     exact⟨rfl,(Fr.fQ (b:=w.heap.size+1) (i:=1) (v:=.bool tb) (Fr.fQ (b:=w.heap.size+1) (i:=0) (v:=.int .i64 ta) Ay.out (by omega)) (by omega)).trans (iD _ _ _ rfl rfl rfl rfl)⟩)
   ·obtain rfl:m=true:=by rw[HM.out];simp[hb]
    subst ho
    go_wp2_with fail
    go_region
    all_goals (
     go_wp2
     refine eU (fW (t:=55) (fr:=(0,0)) rfl _ _ (w.heap.size+1) _ _ rfl (fP (fP zq.out 0 _) 1 _) underlying55 rfl (by kernel_rfl)) rfl ?_
     exact⟨rfl,(Fr.fQ (b:=w.heap.size+1) (i:=1) (v:=.bool tb) (Fr.fQ (b:=w.heap.size+1) (i:=0) (v:=.int .i64 ta) Ay.out (by omega)) (by omega)).trans (iD _ _ _ rfl rfl rfl rfl)⟩)
  ·obtain rfl:m=true:=by rw[HM.out];simp[ho]
   go_wp2_with fail
   go_region
   all_goals (
    go_wp2
    refine eU (fW (t:=55) (fr:=(0,0)) rfl _ _ (w.heap.size+1) _ _ rfl (fP (fP zq.out 0 _) 1 _) underlying55 rfl (by kernel_rfl)) rfl ?_
    exact⟨rfl,(Fr.fQ (b:=w.heap.size+1) (i:=1) (v:=.bool tb) (Fr.fQ (b:=w.heap.size+1) (i:=0) (v:=.int .i64 ta) Ay.out (by omega)) (by omega)).trans (iD _ _ _ rfl rfl rfl rfl)⟩))
theorem Zp (P g1 g2 nB:Nat)(Bd:List Int)(gL cL K:Nat)(x ta:Int)(tb m:Bool)(off goal pa:Int)(back pb:Bool)(s:ByteArray)(v1 vC vL:Value)(w:World)
 (ho:w.heap[P]?=some (.cells #[.string s,v1,vC,vL] 46 (0,0)))
 (hp:oP 18 P off back (.agg #[.int .i64 pa,.bool pb]) w)
 (hg:oP 20 P off back (.agg #[.int .i64 (g1:Nat),.int .i64 (g2:Nat)]) w)
 (hb:SF s nB Bd w)
 (qw:vL=.slice (some ⟨gL,0,none⟩) K cL) (hi:g1<K) (hx:w.cell? ⟨gL,g1 * 4+1,none⟩=some (.int .i64 x)) (hm:m=!(decide (ta=pa/\tb=pb)))
 (hq:oP 18 P x true (.agg #[.int .i64 ta,.bool tb]) w) :
 Calls prog 28 #[.pointer (some ⟨P,0,none⟩),.int .i64 5,.agg #[.int .i64 off,.bool back],.int .i64 goal] w fun e w'=>e=.returned (.tuple #[.agg #[.int .i64 ta,.bool tb],.bool m])/\Fr [] w w':=by
 obtain⟨w2,hw2,f_,iG,HR2⟩:=jW w off back;have j9:=hid ho;have rW:=h_ ho;have zN:=hid hp;have r8:=hid hg;have yE:=hid hb;subst qw;have HM:=hid hm;have HQ:=hid hq;have HX:=hid hx;have hgi:(g1:Int)<(K:Int):=Int.ofNat_lt.mpr hi;clear ho hp hg hb hm hq hx;go_enter func28,ntmps28;have HW2:=hid hw2;clear hw2;go_wp2_with fail;rw[<-HW2.out];refine(zN.out _ f_.out).mono ?_;rintro e w3 ⟨rfl,hf3⟩;obtain⟨w4,hw4,jF,jD⟩:=jE hf3 #[.int .i64 pa,.bool pb] 55;have gP:=hid (f_.out.trans jF.out);have oQ:=hid hw4;have hz3:w.heap.size+2<=w3.heap.size:=by
  have h5:=hf3.size;rw[HW2.out]at h5;simpa using h5
 have AM:w4.heap.size=w3.heap.size+1:=by rw[hw4];simp
 obtain⟨s0,s1⟩:=gI (fO iG.out jF.out af);rw[hw4]at s0 s1;clear hf3 hw4;go_wp2_with fail;rw[<-oQ.out];refine(r8.out _ gP.out).mono ?_;rintro e w5 ⟨rfl,jC⟩;obtain⟨w6,w7,nu,hw7,hs6,hs7,jv,pg,DU,FY⟩:=mC jC #[.int .i64 (g1:Nat),.int .i64 (g2:Nat)] #[.int .i64 pa,.bool pb] 58 55;have Dq:=jC.size;have m7:=hid (gP.out.trans pg.out);clear s0 s1;obtain⟨f0,f1⟩:=gI (fO jD.out jv.out af);have x0:=fN (fO j9.out m7.out af) (i:=0) (v:=.string s) rfl;have Av:=hid hw7;rw[hw7]at x0;have AX:=hid nu;rw[nu]at f0 f1 x0;clear jC hw7 nu;have FK:=hid (fO jD.out pg.out af);go_wp2_with fail;rw[<-AX.out,<-Av.out];refine(yE.out _ m7.out).mono ?_;rintro e w8 ⟨gB,cB,rfl,hrow,hgB,nE⟩;have Ow:=hid (show gB≠w5.heap.size+1 by omega);clear hgB;have HRW:=hid hrow;have r9:=hid nE;have q8:=hid (m7.out.trans nE);clear hrow nE f0 f1 x0;have hq3:¬w3.heap.size=w.heap.size+1:=by omega
 have Ki:¬w.heap.size+1=w3.heap.size:=by omega
 have hq5:¬w5.heap.size+1=w.heap.size+1:=by omega
 have SR:¬w.heap.size+1=w5.heap.size+1:=by omega
 have hq6:¬w5.heap.size=w.heap.size:=by omega
 have Wb:¬w.heap.size=w5.heap.size:=by omega
 have yg:=hid (show w3.heap.size≠w5.heap.size+1 by omega);have KQ:=hid (show w.heap.size+1≠w5.heap.size+1 by omega);have DB:=hid (show w.heap.size<=w5.heap.size+1 by omega);clear hs6 hs7 Dq AM hz3;have x3:=fN (fO j9.out q8.out af) (i:=3) (v:=.slice (some ⟨gL,0,none⟩) K cL) rfl;have y0:=q8.out.cell HX.out af;have Dr:=hid (fO DU.out r9.out af);have g0:=fN Dr.out (i:=0) (v:=.int .i64 (g1:Nat)) rfl;go_wp2_with fail
 go_region_with (first
  | (go_at_call 18;refine(HQ.out _ ?fa).mono ?_;(case fa=>exact q8.out.trans (iD _ _ _ rfl rfl rfl rfl));rintro e w9 ⟨rfl,yL⟩;have vY:=hid (show Fr [] w8 w9 from⟨yL.os,yL.tape,yL.output,yL.size,yL.block⟩);have SU:=hid (fO FY.out (r9.out.trans vY.out) af);have t0:=fN SU.out (i:=0) (v:=.int .i64 pa) rfl;have t1:=fN SU.out (i:=1) (v:=.bool pb) rfl;have k0:=fT SU.out 0;have k1:=fT SU.out 1;clear yL))
 all_goals (
  obtain⟨wz,hwz⟩:∃wz,wz=(w9.setCell ⟨w5.heap.size+1,0,none⟩ (.int .i64 ta)).setCell ⟨w5.heap.size+1,1,none⟩ (.bool tb):=⟨_,rfl⟩
  have Zo:=hid (show wz.heap[w5.heap.size+1]?=some (.cells #[.int .i64 ta,.bool tb] 55 (0,0)) by rw[hwz];exact fP (fP SU.out 0 _) 1 _)
  have tH:=hid (show wz.heap[w3.heap.size]?=some (.cells #[.int .i64 pa,.bool pb] 55 (0,0)) by rw[hwz];exact Bi (fO FK.out (r9.out.trans vY.out) af) yg.out)
  have zq:=hid (show wz.heap[w.heap.size+1]?=some (.cells #[.int .i64 0,.bool false] 55 (0,0)) by rw[hwz];exact Bi (fO HR2.out (jF.out.trans (pg.out.trans (r9.out.trans vY.out))) af) KQ.out)
  have Ay:=hid (show Fr [] w wz by rw[hwz];exact Fr.fQ (Fr.fQ (q8.out.trans vY.out) DB.out) DB.out)
  rw[<-hwz]
  clear hwz t0 t1 k0 k1
  obtain⟨f0,f1⟩:=gI tH.out
  obtain⟨t0,t1⟩:=gI Zo.out
  obtain⟨r0,r1,k0,k1⟩:=jM zq.out
  by_cases ho:ta=pa
  ·by_cases hb:tb=pb
   ·obtain rfl:m=false:=by rw[HM.out];simp[ho,hb]
    subst ho
    subst hb
    go_wp2_with fail
    go_region
    all_goals (
     go_wp2
     refine eU (fW (t:=55) (fr:=(0,0)) rfl _ _ (w.heap.size+1) _ _ rfl (fP (fP zq.out 0 _) 1 _) underlying55 rfl (by kernel_rfl)) rfl ?_
     exact⟨rfl,(Fr.fQ (b:=w.heap.size+1) (i:=1) (v:=.bool tb) (Fr.fQ (b:=w.heap.size+1) (i:=0) (v:=.int .i64 ta) Ay.out (by omega)) (by omega)).trans (iD _ _ _ rfl rfl rfl rfl)⟩)
   ·obtain rfl:m=true:=by rw[HM.out];simp[hb]
    subst ho
    go_wp2_with fail
    go_region
    all_goals (
     go_wp2
     refine eU (fW (t:=55) (fr:=(0,0)) rfl _ _ (w.heap.size+1) _ _ rfl (fP (fP zq.out 0 _) 1 _) underlying55 rfl (by kernel_rfl)) rfl ?_
     exact⟨rfl,(Fr.fQ (b:=w.heap.size+1) (i:=1) (v:=.bool tb) (Fr.fQ (b:=w.heap.size+1) (i:=0) (v:=.int .i64 ta) Ay.out (by omega)) (by omega)).trans (iD _ _ _ rfl rfl rfl rfl)⟩)
  ·obtain rfl:m=true:=by rw[HM.out];simp[ho]
   go_wp2_with fail
   go_region
   all_goals (
    go_wp2
    refine eU (fW (t:=55) (fr:=(0,0)) rfl _ _ (w.heap.size+1) _ _ rfl (fP (fP zq.out 0 _) 1 _) underlying55 rfl (by kernel_rfl)) rfl ?_
    exact⟨rfl,(Fr.fQ (b:=w.heap.size+1) (i:=1) (v:=.bool tb) (Fr.fQ (b:=w.heap.size+1) (i:=0) (v:=.int .i64 ta) Ay.out (by omega)) (by omega)).trans (iD _ _ _ rfl rfl rfl rfl)⟩))
theorem Zq (P g1 g2 nB:Nat)(Bd:List Int)(d:Int)(off goal pa:Int)(back pb:Bool)(s:ByteArray)(v1 vC vL:Value)(w:World)
 (ho:w.heap[P]?=some (.cells #[.string s,v1,vC,vL] 46 (0,0)))
 (hp:oP 18 P off back (.agg #[.int .i64 pa,.bool pb]) w)
 (hg:oP 20 P off back (.agg #[.int .i64 (g1:Nat),.int .i64 (g2:Nat)]) w)
 (hb:SF s nB Bd w)
 (h:d<0\/7<d) :
 Calls prog 28 #[.pointer (some ⟨P,0,none⟩),.int .i64 d,.agg #[.int .i64 off,.bool back],.int .i64 goal] w fun e w'=>e=.returned (.tuple #[.agg #[.int .i64 pa,.bool pb],.bool false])/\Fr [] w w':=by
 obtain⟨w2,hw2,f_,iG,HR2⟩:=jW w off back;have j9:=hid ho;have rW:=h_ ho;have zN:=hid hp;have r8:=hid hg;have yE:=hid hb;have n0:(d == 0)=false:=by simp;omega
 have n1:(d == 1)=false:=by simp;omega
 have n2:(d == 2)=false:=by simp;omega
 have n3:(d == 3)=false:=by simp;omega
 have n4:(d == 4)=false:=by simp;omega
 have n5:(d == 5)=false:=by simp;omega
 have n6:(d == 6)=false:=by simp;omega
 have n7:(d == 7)=false:=by simp;omega
 clear ho hp hg hb h;go_enter func28,ntmps28;have HW2:=hid hw2;clear hw2;go_wp2_with fail;rw[<-HW2.out];refine(zN.out _ f_.out).mono ?_;rintro e w3 ⟨rfl,hf3⟩;obtain⟨w4,hw4,jF,jD⟩:=jE hf3 #[.int .i64 pa,.bool pb] 55;have gP:=hid (f_.out.trans jF.out);have oQ:=hid hw4;have hz3:w.heap.size+2<=w3.heap.size:=by
  have h5:=hf3.size;rw[HW2.out]at h5;simpa using h5
 have AM:w4.heap.size=w3.heap.size+1:=by rw[hw4];simp
 obtain⟨s0,s1⟩:=gI (fO iG.out jF.out af);rw[hw4]at s0 s1;clear hf3 hw4;go_wp2_with fail;rw[<-oQ.out];refine(r8.out _ gP.out).mono ?_;rintro e w5 ⟨rfl,jC⟩;obtain⟨w6,w7,nu,hw7,hs6,hs7,jv,pg,DU,FY⟩:=mC jC #[.int .i64 (g1:Nat),.int .i64 (g2:Nat)] #[.int .i64 pa,.bool pb] 58 55;have Dq:=jC.size;have m7:=hid (gP.out.trans pg.out);clear s0 s1;obtain⟨f0,f1⟩:=gI (fO jD.out jv.out af);have x0:=fN (fO j9.out m7.out af) (i:=0) (v:=.string s) rfl;have Av:=hid hw7;rw[hw7]at x0;have AX:=hid nu;rw[nu]at f0 f1 x0;clear jC hw7 nu;have FK:=hid (fO jD.out pg.out af);go_wp2_with fail;rw[<-AX.out,<-Av.out];refine(yE.out _ m7.out).mono ?_;rintro e w8 ⟨gB,cB,rfl,hrow,hgB,nE⟩;have Ow:=hid (show gB≠w5.heap.size+1 by omega);clear hgB;have HRW:=hid hrow;have r9:=hid nE;have q8:=hid (m7.out.trans nE);clear hrow nE f0 f1 x0;have hq3:¬w3.heap.size=w.heap.size+1:=by omega
 have Ki:¬w.heap.size+1=w3.heap.size:=by omega
 have hq5:¬w5.heap.size+1=w.heap.size+1:=by omega
 have SR:¬w.heap.size+1=w5.heap.size+1:=by omega
 have hq6:¬w5.heap.size=w.heap.size:=by omega
 have Wb:¬w.heap.size=w5.heap.size:=by omega
 clear hs6 hs7 Dq AM hz3;have HP8:=hid (fO FK.out r9.out af);have HT8:=hid (fO FY.out r9.out af);have jd:=hid (fO HR2.out (jF.out.trans (pg.out.trans r9.out)) af);obtain⟨f0,f1⟩:=gI HP8.out;obtain⟨t0,t1⟩:=gI HT8.out;obtain⟨r0,r1,k0,k1⟩:=jM jd.out;go_wp2_with fail;go_region
 all_goals (
  go_wp2
  refine eU (fW (t:=55) (fr:=(0,0)) rfl _ _ (w.heap.size+1) _ _ rfl (fP (fP jd.out 0 _) 1 _) underlying55 rfl (by kernel_rfl)) rfl ?_
  exact⟨rfl,(Fr.fQ (b:=w.heap.size+1) (i:=1) (v:=.bool pb) (Fr.fQ (b:=w.heap.size+1) (i:=0) (v:=.int .i64 pa) q8.out (by omega)) (by omega)).trans (iD _ _ _ rfl rfl rfl rfl)⟩)
end Go.Proofs.YtnakejhohdbfdaaGreatDoor
