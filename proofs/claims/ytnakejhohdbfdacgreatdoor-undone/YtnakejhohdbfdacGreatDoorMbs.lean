import Derived.Test.YtnakejhohdbfdacGreatDoorMbr
set_option maxHeartbeats 8000000
set_option maxRecDepth 100000
namespace Go.Proofs.YtnakejhohdbfdacGreatDoor.Cls.Dc
open Go.RowKit Dec BA pS Lay j9 Go.Proofs.Tryz
theorem Hs (B D lo hi:Nat)(R ao fo d a x:Int)(ab fb ext bk done:Bool)(l l':List Int)(us rs us' rs':List Mo)(oc:ByteArray)(w:World)(h:jY w B D R l ao ab fo fb us rs lo hi)
 (hd:∀Y,Fr [] w Y->Calls prog 25 #[.pointer (some ⟨D,0,none⟩),.agg (opC d ext a x bk oc)] Y fun e w'=>e=.returned (.iface 91 (.agg #[]))/\Fr [] Y w')
 (hc:∀Y,Fr [] w Y->Calls prog 29 #[.pointer (some ⟨D,0,none⟩)] Y fun e w'=>e=.returned (.bool done)/\Il Y w' B D R l' us' rs' lo hi) :
 Calls prog 15 #[.pointer (some ⟨D,0,none⟩),.agg (opC d ext a x bk oc)] w fun e w'=>NB (tu l') done us'.length rs'.length e/\Il w w' B D R l' us' rs' lo hi:=by
 obtain⟨wb,hwb⟩:∃wb,wb=(w.alloc (.cells (opC d ext a x bk oc) 37)).alloc (.cells #[.int .i64 0,.bool false,.int .i64 0,.bool false,.int .i64 0,.int .i64 0,.int .i64 0,.int .i64 0,.int .i64 0,.int .i64 0,.int .i64 0,.slice none 0 0,.bool false,.string ⟨#[]⟩,.slice none 0 0,.int .i64 0,.int .i64 0] 34):=⟨_,rfl⟩;have j8:=hid (show Fr [] w wb by rw[hwb];exact((Fr.refl [] w).alloc _).alloc _)
 have yF:=hid (show wb.heap[w.heap.size+1]?=some (.cells #[.int .i64 0,.bool false,.int .i64 0,.bool false,.int .i64 0,.int .i64 0,.int .i64 0,.int .i64 0,.int .i64 0,.int .i64 0,.int .i64 0,.slice none 0 0,.bool false,.string ⟨#[]⟩,.slice none 0 0,.int .i64 0,.int .i64 0] 34 (0,0)) by
  have h:=iL (w.alloc (.cells (opC d ext a x bk oc) 37)) (.cells #[.int .i64 0,.bool false,.int .i64 0,.bool false,.int .i64 0,.int .i64 0,.int .i64 0,.int .i64 0,.int .i64 0,.int .i64 0,.int .i64 0,.slice none 0 0,.bool false,.string ⟨#[]⟩,.slice none 0 0,.int .i64 0,.int .i64 0] 34)
  rw[<-hwb]at h;simpa using h)
 have hDl:D<w.heap.size:=by
  obtain⟨vB,Z,P,Bl,V,Ls,vU,vR,L,aim,goal,hD,_⟩:=h.x;exact iO hD
 have GZ:=hid h.bw;have Va:=hid h.hw;have Gm:=hid (hd wb j8.out);have Pg:=hid hc;have WC:=uu1 (.agg #[]);have Ws:=uu2 (.agg #[]);have ZQ:=uu3 (.agg #[]);clear h hd hc;go_enter func15,ntmps15;go_wp2_with fail;rw[<-hwb];clear hwb;refine Gm.out.mono ?_;rintro e w1 ⟨rfl,hf1⟩;have jc:=hid (j8.out.trans hf1);have HR1:=hid (iJ yF.out hf1 aj);have i_:=hid (show Fr [] w (w1.alloc (.cells #[] 91))from jc.out.alloc _);have HR2:=hid (show(w1.alloc (.cells #[] 91)).heap[w.heap.size+1]?=some (.cells #[.int .i64 0,.bool false,.int .i64 0,.bool false,.int .i64 0,.int .i64 0,.int .i64 0,.int .i64 0,.int .i64 0,.int .i64 0,.int .i64 0,.slice none 0 0,.bool false,.string ⟨#[]⟩,.slice none 0 0,.int .i64 0,.int .i64 0] 34 (0,0))from iJ HR1.out ((Fr.refl [] w1).alloc _) aj);have Hr:=hid (Pg.out _ i_.out);clear hf1 Gm Pg;go_wp2_with fail;refine Hr.out.mono ?_;rintro e w3 ⟨rfl,hA⟩;clear Hr WC Ws ZQ;obtain⟨lR,mg,mV,mX,lo',hi',kS,hlh,kH⟩:=hA;obtain⟨vB,Z,P,Bl,V,Ls,vU,vR,L,aim,goal,hD3,hZ3,hL3,Ho,K5,_,sU,hLl,_⟩:=id kS.x;obtain⟨aU,cU,Vb,_⟩:=Wr.jo Ho;subst Vb;obtain⟨aR,cR,Pv,_⟩:=Wr.jo K5;subst Pv;obtain⟨aB,cB,Fo,_⟩:=Wr.jo sU;subst Fo;have rZ:=hid kS;have Vc:=hid hlh;have Dl:=hid ((lM.FA i_.out).trans kH);have HR3:=hid (kH.obj HR2.out (by omega) (by decide) (by decide));have HD3:=hid hD3;have E3:=hid sU;have d6:=iG HD3.out (i:=6) (v:=.pointer (some ⟨Z,0,none⟩)) rfl;have RR:=hid (Bn lR mV goal mg mX aim done hZ3 hL3);obtain⟨nt,hnt⟩:∃nt,nt=tu l':=⟨_,rfl⟩;rw[<-hnt]at HD3;have zJ:=hid hnt;obtain⟨nU,tB⟩:∃nU,nU=us'.length:=⟨_,rfl⟩;obtain⟨nR,hnR⟩:∃nR,nR=rs'.length:=⟨_,rfl⟩;rw[<-tB,<-hnR]at HD3;have FC:=hid tB;have D3:=hid hnR;clear kS kH hD3 hZ3 hL3 Ho K5 sU hlh hnt tB hnR;go_wp2_with fail;refine RR.out.mono ?_;rintro e w4 ⟨a1,a2,gx,b1,b2,c1,c2,aS,nS,cS,rfl,jG⟩;have og:=hid jG;have K6:=hid (uA D Z B L.length cB nU cU nR cR nS cS 2 10 20 R lR mV a1 a2 gx b1 b2 c1 c2 mg mX done nt aB aU aR aS L w4 (iJ HD3.out jG aj) (iM E3.out jG) (by omega));clear jG RR d6;go_wp2_with fail;refine K6.out.mono ?_;rintro e w5 ⟨vB5,rfl,qi,kK⟩;obtain⟨a5,c5,hv5,_⟩:=Wr.jo qi;subst hv5;have kD:=hid (og.out.trans kK);have je:=hid (iJ HR3.out kD.out aj);have r0:=iG je.out (i:=0) (v:=.int .i64 0) rfl;have k0:=iH je.out 0;have r1:=iG je.out (i:=1) (v:=.bool false) rfl;have k1:=iH je.out 1;have r2:=iG je.out (i:=2) (v:=.int .i64 0) rfl;have k2:=iH je.out 2;have r3:=iG je.out (i:=3) (v:=.bool false) rfl;have k3:=iH je.out 3;have r4:=iG je.out (i:=4) (v:=.int .i64 0) rfl;have k4:=iH je.out 4;have r5:=iG je.out (i:=5) (v:=.int .i64 0) rfl;have k5:=iH je.out 5;have r6:=iG je.out (i:=6) (v:=.int .i64 0) rfl;have k6:=iH je.out 6;have r7:=iG je.out (i:=7) (v:=.int .i64 0) rfl;have k7:=iH je.out 7;have r8:=iG je.out (i:=8) (v:=.int .i64 0) rfl;have k8:=iH je.out 8;have r9:=iG je.out (i:=9) (v:=.int .i64 0) rfl;have k9:=iH je.out 9;have Ig:=iG je.out (i:=10) (v:=.int .i64 0) rfl;have k10:=iH je.out 10;have Ih:=iG je.out (i:=11) (v:=.slice none 0 0) rfl;have k11:=iH je.out 11;have Ii:=iG je.out (i:=12) (v:=.bool false) rfl;have k12:=iH je.out 12;have U0:=iG je.out (i:=13) (v:=.string ⟨#[]⟩) rfl;have k13:=iH je.out 13;have ZR:=iG je.out (i:=14) (v:=.slice none 0 0) rfl;have k14:=iH je.out 14;have WB:=iG je.out (i:=15) (v:=.int .i64 0) rfl;have k15:=iH je.out 15;have r16:=iG je.out (i:=16) (v:=.int .i64 0) rfl;have k16:=iH je.out 16;clear qi kK K6;go_wp2;refine fE (fH (t:=34) (fr:=(0,0)) rfl _ _ (w.heap.size+1) _ _ rfl (iI (iI (iI (iI (iI (iI (iI (iI (iI (iI (iI (iI (iI (iI (iI (iI (iI je.out 0 _) 1 _) 2 _) 3 _) 4 _) 5 _) 6 _) 7 _) 8 _) 9 _) 10 _) 11 _) 12 _) 13 _) 14 _) 15 _) 16 _) underlying34 rfl (by kernel_rfl)) rfl ?_;have Vd:=hid (show 9<w.heap.size+1 by have h1:=rZ.out.b9;have h2:=GZ.out;omega);have hlt:=iO HR2.out;have hfs:=i_.out.size;have YU:=Va.out;have hlo:=Vc.out;refine⟨⟨lR,mg,mV,mX,a1,a2,gx,b1,b2,c1,c2,aS,nS,cS,a5,L.length,c5,?_⟩,lR,mg,mV,mX,lo',hi',(rZ.out.fr kD.out).ZS (AW w5 (w.heap.size+1) _ _ _ _ _ _ _ _ _ _ _ _ _ _ _ _ _) je.out (by omega) Vd.out,by omega,?_⟩
 ·rw[<-zJ.out,<-FC.out,<-D3.out]
  simp
 ·exact(Dl.out.trans (lM.FA kD.out)).own (AW w5 (w.heap.size+1) _ _ _ _ _ _ _ _ _ _ _ _ _ _ _ _ _) (by have:=GZ.out;omega)
theorem Ht (B D lo hi:Nat)(R ao fo d a x:Int)(ab fb ext bk done:Bool)(l l':List Int)(us rs us' rs':List Mo)(oc:ByteArray)(w:World)(h:jY w B D R l ao ab fo fb us rs lo hi)
 (hd:∀Y,Fr [] w Y->Calls prog 25 #[.pointer (some ⟨D,0,none⟩),.agg (opC d ext a x bk oc)] Y fun e w'=>e=.returned (.iface 92 (.agg #[]))/\Fr [] Y w')
 (hc:∀Y,Fr [] w Y->Calls prog 30 #[.pointer (some ⟨D,0,none⟩)] Y fun e w'=>e=.returned (.bool done)/\Il Y w' B D R l' us' rs' lo hi) :
 Calls prog 15 #[.pointer (some ⟨D,0,none⟩),.agg (opC d ext a x bk oc)] w fun e w'=>NB (tu l') done us'.length rs'.length e/\Il w w' B D R l' us' rs' lo hi:=by
 obtain⟨wb,hwb⟩:∃wb,wb=(w.alloc (.cells (opC d ext a x bk oc) 37)).alloc (.cells #[.int .i64 0,.bool false,.int .i64 0,.bool false,.int .i64 0,.int .i64 0,.int .i64 0,.int .i64 0,.int .i64 0,.int .i64 0,.int .i64 0,.slice none 0 0,.bool false,.string ⟨#[]⟩,.slice none 0 0,.int .i64 0,.int .i64 0] 34):=⟨_,rfl⟩;have j8:=hid (show Fr [] w wb by rw[hwb];exact((Fr.refl [] w).alloc _).alloc _)
 have yF:=hid (show wb.heap[w.heap.size+1]?=some (.cells #[.int .i64 0,.bool false,.int .i64 0,.bool false,.int .i64 0,.int .i64 0,.int .i64 0,.int .i64 0,.int .i64 0,.int .i64 0,.int .i64 0,.slice none 0 0,.bool false,.string ⟨#[]⟩,.slice none 0 0,.int .i64 0,.int .i64 0] 34 (0,0)) by
  have h:=iL (w.alloc (.cells (opC d ext a x bk oc) 37)) (.cells #[.int .i64 0,.bool false,.int .i64 0,.bool false,.int .i64 0,.int .i64 0,.int .i64 0,.int .i64 0,.int .i64 0,.int .i64 0,.int .i64 0,.slice none 0 0,.bool false,.string ⟨#[]⟩,.slice none 0 0,.int .i64 0,.int .i64 0] 34)
  rw[<-hwb]at h;simpa using h)
 have hDl:D<w.heap.size:=by
  obtain⟨vB,Z,P,Bl,V,Ls,vU,vR,L,aim,goal,hD,_⟩:=h.x;exact iO hD
 have GZ:=hid h.bw;have Va:=hid h.hw;have Gm:=hid (hd wb j8.out);have Pg:=hid hc;have WC:=ur1 (.agg #[]);have Ws:=ur2 (.agg #[]);have ZQ:=ur3 (.agg #[]);have ta3:=ur4 (.agg #[]);clear h hd hc;go_enter func15,ntmps15;go_wp2_with fail;rw[<-hwb];clear hwb;refine Gm.out.mono ?_;rintro e w1 ⟨rfl,hf1⟩;have jc:=hid (j8.out.trans hf1);have HR1:=hid (iJ yF.out hf1 aj);have i_:=hid (show Fr [] w (w1.alloc (.cells #[] 92))from jc.out.alloc _);have HR2:=hid (show(w1.alloc (.cells #[] 92)).heap[w.heap.size+1]?=some (.cells #[.int .i64 0,.bool false,.int .i64 0,.bool false,.int .i64 0,.int .i64 0,.int .i64 0,.int .i64 0,.int .i64 0,.int .i64 0,.int .i64 0,.slice none 0 0,.bool false,.string ⟨#[]⟩,.slice none 0 0,.int .i64 0,.int .i64 0] 34 (0,0))from iJ HR1.out ((Fr.refl [] w1).alloc _) aj);have Hr:=hid (Pg.out _ i_.out);clear hf1 Gm Pg;go_wp2_with fail;refine Hr.out.mono ?_;rintro e w3 ⟨rfl,hA⟩;clear Hr WC Ws ZQ ta3;obtain⟨lR,mg,mV,mX,lo',hi',kS,hlh,kH⟩:=hA;obtain⟨vB,Z,P,Bl,V,Ls,vU,vR,L,aim,goal,hD3,hZ3,hL3,Ho,K5,_,sU,hLl,_⟩:=id kS.x;obtain⟨aU,cU,Vb,_⟩:=Wr.jo Ho;subst Vb;obtain⟨aR,cR,Pv,_⟩:=Wr.jo K5;subst Pv;obtain⟨aB,cB,Fo,_⟩:=Wr.jo sU;subst Fo;have rZ:=hid kS;have Vc:=hid hlh;have Dl:=hid ((lM.FA i_.out).trans kH);have HR3:=hid (kH.obj HR2.out (by omega) (by decide) (by decide));have HD3:=hid hD3;have E3:=hid sU;have d6:=iG HD3.out (i:=6) (v:=.pointer (some ⟨Z,0,none⟩)) rfl;have RR:=hid (Bn lR mV goal mg mX aim done hZ3 hL3);obtain⟨nt,hnt⟩:∃nt,nt=tu l':=⟨_,rfl⟩;rw[<-hnt]at HD3;have zJ:=hid hnt;obtain⟨nU,tB⟩:∃nU,nU=us'.length:=⟨_,rfl⟩;obtain⟨nR,hnR⟩:∃nR,nR=rs'.length:=⟨_,rfl⟩;rw[<-tB,<-hnR]at HD3;have FC:=hid tB;have D3:=hid hnR;clear kS kH hD3 hZ3 hL3 Ho K5 sU hlh hnt tB hnR;go_wp2_with fail;refine RR.out.mono ?_;rintro e w4 ⟨a1,a2,gx,b1,b2,c1,c2,aS,nS,cS,rfl,jG⟩;have og:=hid jG;have K6:=hid (uA D Z B L.length cB nU cU nR cR nS cS 2 10 20 R lR mV a1 a2 gx b1 b2 c1 c2 mg mX done nt aB aU aR aS L w4 (iJ HD3.out jG aj) (iM E3.out jG) (by omega));clear jG RR d6;go_wp2_with fail;refine K6.out.mono ?_;rintro e w5 ⟨vB5,rfl,qi,kK⟩;obtain⟨a5,c5,hv5,_⟩:=Wr.jo qi;subst hv5;have kD:=hid (og.out.trans kK);have je:=hid (iJ HR3.out kD.out aj);have r0:=iG je.out (i:=0) (v:=.int .i64 0) rfl;have k0:=iH je.out 0;have r1:=iG je.out (i:=1) (v:=.bool false) rfl;have k1:=iH je.out 1;have r2:=iG je.out (i:=2) (v:=.int .i64 0) rfl;have k2:=iH je.out 2;have r3:=iG je.out (i:=3) (v:=.bool false) rfl;have k3:=iH je.out 3;have r4:=iG je.out (i:=4) (v:=.int .i64 0) rfl;have k4:=iH je.out 4;have r5:=iG je.out (i:=5) (v:=.int .i64 0) rfl;have k5:=iH je.out 5;have r6:=iG je.out (i:=6) (v:=.int .i64 0) rfl;have k6:=iH je.out 6;have r7:=iG je.out (i:=7) (v:=.int .i64 0) rfl;have k7:=iH je.out 7;have r8:=iG je.out (i:=8) (v:=.int .i64 0) rfl;have k8:=iH je.out 8;have r9:=iG je.out (i:=9) (v:=.int .i64 0) rfl;have k9:=iH je.out 9;have Ig:=iG je.out (i:=10) (v:=.int .i64 0) rfl;have k10:=iH je.out 10;have Ih:=iG je.out (i:=11) (v:=.slice none 0 0) rfl;have k11:=iH je.out 11;have Ii:=iG je.out (i:=12) (v:=.bool false) rfl;have k12:=iH je.out 12;have U0:=iG je.out (i:=13) (v:=.string ⟨#[]⟩) rfl;have k13:=iH je.out 13;have ZR:=iG je.out (i:=14) (v:=.slice none 0 0) rfl;have k14:=iH je.out 14;have WB:=iG je.out (i:=15) (v:=.int .i64 0) rfl;have k15:=iH je.out 15;have r16:=iG je.out (i:=16) (v:=.int .i64 0) rfl;have k16:=iH je.out 16;clear qi kK K6;go_wp2;refine fE (fH (t:=34) (fr:=(0,0)) rfl _ _ (w.heap.size+1) _ _ rfl (iI (iI (iI (iI (iI (iI (iI (iI (iI (iI (iI (iI (iI (iI (iI (iI (iI je.out 0 _) 1 _) 2 _) 3 _) 4 _) 5 _) 6 _) 7 _) 8 _) 9 _) 10 _) 11 _) 12 _) 13 _) 14 _) 15 _) 16 _) underlying34 rfl (by kernel_rfl)) rfl ?_;have Vd:=hid (show 9<w.heap.size+1 by have h1:=rZ.out.b9;have h2:=GZ.out;omega);have hlt:=iO HR2.out;have hfs:=i_.out.size;have YU:=Va.out;have hlo:=Vc.out;refine⟨⟨lR,mg,mV,mX,a1,a2,gx,b1,b2,c1,c2,aS,nS,cS,a5,L.length,c5,?_⟩,lR,mg,mV,mX,lo',hi',(rZ.out.fr kD.out).ZS (AW w5 (w.heap.size+1) _ _ _ _ _ _ _ _ _ _ _ _ _ _ _ _ _) je.out (by omega) Vd.out,by omega,?_⟩
 ·rw[<-zJ.out,<-FC.out,<-D3.out]
  simp
 ·exact(Dl.out.trans (lM.FA kD.out)).own (AW w5 (w.heap.size+1) _ _ _ _ _ _ _ _ _ _ _ _ _ _ _ _ _) (by have:=GZ.out;omega)
theorem K7 (B D lo hi:Nat)(R ao fo d a x:Int)(ab fb ext bk:Bool)(l:List Int)(us rs:List Mo)(oc:ByteArray)(w:World)(h:jY w B D R l ao ab fo fb us rs lo hi)
 (hd:∀Y,Fr [] w Y->Calls prog 25 #[.pointer (some ⟨D,0,none⟩),.agg (opC d ext a x bk oc)] Y fun e w'=>e=.returned (.nilIface)/\Fr [] Y w') :
 Calls prog 15 #[.pointer (some ⟨D,0,none⟩),.agg (opC d ext a x bk oc)] w fun e w'=>NB (tu l) false us.length rs.length e/\Il w w' B D R l us rs lo hi:=by
 obtain⟨wb,hwb⟩:∃wb,wb=(w.alloc (.cells (opC d ext a x bk oc) 37)).alloc (.cells #[.int .i64 0,.bool false,.int .i64 0,.bool false,.int .i64 0,.int .i64 0,.int .i64 0,.int .i64 0,.int .i64 0,.int .i64 0,.int .i64 0,.slice none 0 0,.bool false,.string ⟨#[]⟩,.slice none 0 0,.int .i64 0,.int .i64 0] 34):=⟨_,rfl⟩;have j8:=hid (show Fr [] w wb by rw[hwb];exact((Fr.refl [] w).alloc _).alloc _)
 have yF:=hid (show wb.heap[w.heap.size+1]?=some (.cells #[.int .i64 0,.bool false,.int .i64 0,.bool false,.int .i64 0,.int .i64 0,.int .i64 0,.int .i64 0,.int .i64 0,.int .i64 0,.int .i64 0,.slice none 0 0,.bool false,.string ⟨#[]⟩,.slice none 0 0,.int .i64 0,.int .i64 0] 34 (0,0)) by
  have h:=iL (w.alloc (.cells (opC d ext a x bk oc) 37)) (.cells #[.int .i64 0,.bool false,.int .i64 0,.bool false,.int .i64 0,.int .i64 0,.int .i64 0,.int .i64 0,.int .i64 0,.int .i64 0,.int .i64 0,.slice none 0 0,.bool false,.string ⟨#[]⟩,.slice none 0 0,.int .i64 0,.int .i64 0] 34)
  rw[<-hwb]at h;simpa using h)
 have hDl:D<w.heap.size:=by
  obtain⟨vB,Z,P,Bl,V,Ls,vU,vR,L,aim,goal,hD,_⟩:=h.x;exact iO hD
 have GZ:=hid h.bw;have Va:=hid h.hw;have Gm:=hid (hd wb j8.out);have HH:=hid h;have WC:=un1;have Ws:=un2;have ZQ:=un3;have ta3:=un4;clear h hd;go_enter func15,ntmps15;go_wp2_with fail;rw[<-hwb];clear hwb;refine Gm.out.mono ?_;rintro e w1 ⟨rfl,hf1⟩;have jc:=hid (j8.out.trans hf1);have HR1:=hid (iJ yF.out hf1 aj);have i_:=jc;have HR2:=HR1;have hA:Il w1 w1 B D R l us rs lo hi:=⟨ao,ab,fo,fb,lo,hi,HH.out.fr jc.out,.inr ⟨au _,au _⟩,lM.FA (Fr.refl [] w1)⟩;clear hf1 Gm;obtain⟨lR,mg,mV,mX,lo',hi',kS,hlh,kH⟩:=hA;obtain⟨vB,Z,P,Bl,V,Ls,vU,vR,L,aim,goal,hD3,hZ3,hL3,Ho,K5,_,sU,hLl,_⟩:=id kS.x;obtain⟨aU,cU,Vb,_⟩:=Wr.jo Ho;subst Vb;obtain⟨aR,cR,Pv,_⟩:=Wr.jo K5;subst Pv;obtain⟨aB,cB,Fo,_⟩:=Wr.jo sU;subst Fo;have rZ:=hid kS;have Vc:=hid hlh;have Dl:=hid ((lM.FA i_.out).trans kH);have HR3:=hid (kH.obj HR2.out (by omega) (by decide) (by decide));have HD3:=hid hD3;have E3:=hid sU;have d6:=iG HD3.out (i:=6) (v:=.pointer (some ⟨Z,0,none⟩)) rfl;have RR:=hid (Bn lR mV goal mg mX aim false hZ3 hL3);obtain⟨nt,hnt⟩:∃nt,nt=tu l:=⟨_,rfl⟩;rw[<-hnt]at HD3;have zJ:=hid hnt;obtain⟨nU,tB⟩:∃nU,nU=us.length:=⟨_,rfl⟩;obtain⟨nR,hnR⟩:∃nR,nR=rs.length:=⟨_,rfl⟩;rw[<-tB,<-hnR]at HD3;have FC:=hid tB;have D3:=hid hnR;clear kS kH hD3 hZ3 hL3 Ho K5 sU hlh hnt tB hnR;go_wp2_with fail;refine RR.out.mono ?_;rintro e w4 ⟨a1,a2,gx,b1,b2,c1,c2,aS,nS,cS,rfl,jG⟩;have og:=hid jG;have K6:=hid (uA D Z B L.length cB nU cU nR cR nS cS 2 10 20 R lR mV a1 a2 gx b1 b2 c1 c2 mg mX false nt aB aU aR aS L w4 (iJ HD3.out jG aj) (iM E3.out jG) (by omega));clear jG RR d6;go_wp2_with fail;refine K6.out.mono ?_;rintro e w5 ⟨vB5,rfl,qi,kK⟩;obtain⟨a5,c5,hv5,_⟩:=Wr.jo qi;subst hv5;have kD:=hid (og.out.trans kK);have je:=hid (iJ HR3.out kD.out aj);have r0:=iG je.out (i:=0) (v:=.int .i64 0) rfl;have k0:=iH je.out 0;have r1:=iG je.out (i:=1) (v:=.bool false) rfl;have k1:=iH je.out 1;have r2:=iG je.out (i:=2) (v:=.int .i64 0) rfl;have k2:=iH je.out 2;have r3:=iG je.out (i:=3) (v:=.bool false) rfl;have k3:=iH je.out 3;have r4:=iG je.out (i:=4) (v:=.int .i64 0) rfl;have k4:=iH je.out 4;have r5:=iG je.out (i:=5) (v:=.int .i64 0) rfl;have k5:=iH je.out 5;have r6:=iG je.out (i:=6) (v:=.int .i64 0) rfl;have k6:=iH je.out 6;have r7:=iG je.out (i:=7) (v:=.int .i64 0) rfl;have k7:=iH je.out 7;have r8:=iG je.out (i:=8) (v:=.int .i64 0) rfl;have k8:=iH je.out 8;have r9:=iG je.out (i:=9) (v:=.int .i64 0) rfl;have k9:=iH je.out 9;have Ig:=iG je.out (i:=10) (v:=.int .i64 0) rfl;have k10:=iH je.out 10;have Ih:=iG je.out (i:=11) (v:=.slice none 0 0) rfl;have k11:=iH je.out 11;have Ii:=iG je.out (i:=12) (v:=.bool false) rfl;have k12:=iH je.out 12;have U0:=iG je.out (i:=13) (v:=.string ⟨#[]⟩) rfl;have k13:=iH je.out 13;have ZR:=iG je.out (i:=14) (v:=.slice none 0 0) rfl;have k14:=iH je.out 14;have WB:=iG je.out (i:=15) (v:=.int .i64 0) rfl;have k15:=iH je.out 15;have r16:=iG je.out (i:=16) (v:=.int .i64 0) rfl;have k16:=iH je.out 16;clear qi kK K6;go_wp2;refine fE (fH (t:=34) (fr:=(0,0)) rfl _ _ (w.heap.size+1) _ _ rfl (iI (iI (iI (iI (iI (iI (iI (iI (iI (iI (iI (iI (iI (iI (iI (iI (iI je.out 0 _) 1 _) 2 _) 3 _) 4 _) 5 _) 6 _) 7 _) 8 _) 9 _) 10 _) 11 _) 12 _) 13 _) 14 _) 15 _) 16 _) underlying34 rfl (by kernel_rfl)) rfl ?_;have Vd:=hid (show 9<w.heap.size+1 by have h1:=rZ.out.b9;have h2:=GZ.out;omega);have hlt:=iO HR2.out;have hfs:=i_.out.size;have YU:=Va.out;have hlo:=Vc.out;refine⟨⟨lR,mg,mV,mX,a1,a2,gx,b1,b2,c1,c2,aS,nS,cS,a5,L.length,c5,?_⟩,lR,mg,mV,mX,lo',hi',(rZ.out.fr kD.out).ZS (AW w5 (w.heap.size+1) _ _ _ _ _ _ _ _ _ _ _ _ _ _ _ _ _) je.out (by omega) Vd.out,by omega,?_⟩
 ·rw[<-zJ.out,<-FC.out,<-D3.out]
  simp
 ·exact(Dl.out.trans (lM.FA kD.out)).own (AW w5 (w.heap.size+1) _ _ _ _ _ _ _ _ _ _ _ _ _ _ _ _ _) (by have:=GZ.out;omega)
theorem jY.ses {w w':World}{B D lo hi Z P Bl:Nat}{R ao fo lR mV goal':Int}{l:List Int}{ab fb mg mX Ry:Bool}{us rs:List Mo}{V L:List Int}{Ls:List Ln}{vB vU vR:Value}{c:Array Value}(h:jY w B D R l ao ab fo fb us rs lo hi)(hf:Fr [Z] w w')
 (q1:w.heap[D]?=some (.cells (zH 2 10 20 R (tu l) vB Z vU vR) 85 (0,0))) (q2:w.heap[Z]?=some (.cells c 134 (0,0))) (q3:Laid (yj w Z) Bl P (bnd (tu l) l.length) V ((tu l).size:Nat) Ls) (q4:w.ownsRow B 116 5 vU us.length (qp us)) (q5:w.ownsRow B 116 5 vR rs.length (qp rs)) (q6:∀g,vU.ownBlock=some g->vR.ownBlock≠some g) (q7:w.ownsRow B 3 1 vB L.length (iS L)) (q8:L.length<=5000/\lo<=Bl/\Bl<=Z/\Z<hi/\B<=Z)
 (hZ:w'.heap[Z]?=some (.cells (kL P lR mg mV mX Ry goal') 134 (0,0))) (pa:NV (bnd (tu l) l.length) ((tu l).size:Nat) (lR,mg)) (pf:NV (bnd (tu l) l.length) ((tu l).size:Nat) (mV,mX)):jY w' B D R l lR mg mV mX us rs lo hi:=by
 have no:∀ {e:TypeId} {size n:Nat} {v:Value} {xs:List Value},w.ownsRow B e size v n xs->e≠134->w'.ownsRow B e size v n xs:=fun ho he=>Wr.jU ho (fun g hg=>hf.block g (ho.lt g hg).2 (fun hm=>own_ne ho q2 (fun c f' h=>he (by cases h;rfl)) (by rw[<-ak.1 hm];exact hg.symm)))
 have hDZ:D ∉ [Z]:=fun hm=>by
  have e:=ak.1 hm;rw[e,q2]at q1;cases q1
 have hb9:=h.b9;exact⟨⟨vB,Z,P,Bl,V,Ls,vU,vR,L,Ry,goal',iJ q1 hf hDZ,hZ,q3.cut hf (b7 (iO q2)) (fun k hk=>.inr (by rw[ak.1 hk];exact au _)),no q4 (by decide),no q5 (by decide),q6,no q7 (by decide),q8⟩,pa,pf,h.t,h.mu,h.mr,h.n6,h.r,h.bD,h.b9,h.g.fr hf (fun k hk=>by rw[ak.1 hk];omega),aK h.bw hf.size,aK h.hw hf.size⟩
theorem acj {w:World}{B D lo hi:Nat}{R ao fo:Int}{l:List Int}{ab fb:Bool}{us rs:List Mo}(h:jY w B D R l ao ab fo fb us rs lo hi)(d a x:Int)(ext bk:Bool)(t:ByteArray):∃Z,w.cell? ⟨D,6,none⟩=some (.pointer (some ⟨Z,0,none⟩))/\∀Y,Fr [] w Y->Calls prog 27 #[.pointer (some ⟨Z,0,none⟩),.agg #[.int .i64 d,.bool ext,.int .i64 a,.int .i64 x,.bool bk,.string t]] Y fun e w'=>∃(lR:Int) (mg:Bool) (mV:Int) (mX:Bool) (a1 a2 gx b1 b2 c1 c2:Int) (aS:Option Addr) (nS cS:Nat) (m:Bool),e=.returned (.agg (SL lR mg mV mX a1 a2 gx b1 b2 c1 c2 (.slice aS nS cS) m))/\jY w' B D R l lR mg mV mX us rs lo hi/\lM Y w' B D:=by
 obtain⟨vB,Z,P,Bl,V,Ls,vU,vR,L,aim,goal,q1,q2,q3,q4,q5,q6,q7,q8⟩:=id h.x;refine⟨Z,iG q1 rfl,fun Y hf=>?_⟩;have hZY:=iJ q2 hf aj;have hLY:=q3.cut hf (b7 (iO q2)) (fun k hk=>absurd hk aj);obtain⟨r,L0⟩:=hLY.lyt;refine(YL L0 hLY.f hLY.z0 hLY.k0 Z ao fo goal d a x ab fb aim ext bk t Y (KW (b7 (iO hZY))) (by rw[nN (b7 (iO hZY))];exact au _) hZY h.pf).mono ?_;rintro e w' ⟨lR,mg,mV,mX,Ry,goal',a1,a2,x1,b1,b2,c1,c2,v,m,rfl,own,hz,hfr,hp,afQ⟩;obtain⟨aS,cS,rfl,_⟩:=Wr.jo own;have hpa:NV (bnd (tu l) l.length) ((tu l).size:Nat) (lR,mg):=by
  rcases afQ with⟨rfl,rfl⟩ | ⟨rfl,rfl⟩
  ·exact h.pa
  ·exact hp
 refine⟨lR,mg,mV,mX,a1,a2,x1,b1,b2,c1,c2,aS,_,cS,m,rfl,jY.ses (h.fr hf) hfr (iJ q1 hf aj) hZY hLY (iM q4 hf) (iM q5 hf) q6 (iM q7 hf) q8 hz hpa hp,lM.of hfr (fun k hk=>?_)⟩;rw[ak.1 hk];exact⟨q8.2.2.2.2,.inr (.inr ⟨_,_,hZY⟩)⟩
theorem JY (B D lo hi:Nat)(R ao fo d a x d' a' x':Int)(ab fb ext bk ext' SN:Bool)(l:List Int)(us rs:List Mo)(oc ZT:ByteArray)(w:World)(h:jY w B D R l ao ab fo fb us rs lo hi)
 (hd:∀Y,Fr [] w Y->Calls prog 25 #[.pointer (some ⟨D,0,none⟩),.agg (opC d ext a x bk oc)] Y fun e w'=>e=.returned (.iface 78 (.agg (opC d' ext' a' x' SN ZT)))/\Fr [] Y w') :
 Calls prog 15 #[.pointer (some ⟨D,0,none⟩),.agg (opC d ext a x bk oc)] w fun e w'=>∃moved,NB (tu l) moved us.length rs.length e/\Il w w' B D R l us rs lo hi:=by
 obtain⟨wb,hwb⟩:∃wb,wb=(w.alloc (.cells (opC d ext a x bk oc) 37)).alloc (.cells #[.int .i64 0,.bool false,.int .i64 0,.bool false,.int .i64 0,.int .i64 0,.int .i64 0,.int .i64 0,.int .i64 0,.int .i64 0,.int .i64 0,.slice none 0 0,.bool false,.string ⟨#[]⟩,.slice none 0 0,.int .i64 0,.int .i64 0] 34):=⟨_,rfl⟩;have j8:=hid (show Fr [] w wb by rw[hwb];exact((Fr.refl [] w).alloc _).alloc _)
 have yF:=hid (show wb.heap[w.heap.size+1]?=some (.cells #[.int .i64 0,.bool false,.int .i64 0,.bool false,.int .i64 0,.int .i64 0,.int .i64 0,.int .i64 0,.int .i64 0,.int .i64 0,.int .i64 0,.slice none 0 0,.bool false,.string ⟨#[]⟩,.slice none 0 0,.int .i64 0,.int .i64 0] 34 (0,0)) by
  have h:=iL (w.alloc (.cells (opC d ext a x bk oc) 37)) (.cells #[.int .i64 0,.bool false,.int .i64 0,.bool false,.int .i64 0,.int .i64 0,.int .i64 0,.int .i64 0,.int .i64 0,.int .i64 0,.int .i64 0,.slice none 0 0,.bool false,.string ⟨#[]⟩,.slice none 0 0,.int .i64 0,.int .i64 0] 34)
  rw[<-hwb]at h;simpa using h)
 have hDl:D<w.heap.size:=by
  obtain⟨vB,Z,P,Bl,V,Ls,vU,vR,L,aim,goal,hD,_⟩:=h.x;exact iO hD
 have GZ:=hid h.bw;have Va:=hid h.hw;have HH:=hid h;have Gm:=hid (hd wb j8.out);have WC:=um1 (.agg (opC d' ext' a' x' SN ZT));clear h hd;go_enter func15,ntmps15;go_wp2_with fail;rw[<-hwb];clear hwb;refine Gm.out.mono ?_;rintro e w1 ⟨rfl,hf1⟩;obtain⟨wc,hwc⟩:∃wc,wc=w1.alloc (.cells (opC d' ext' a' x' SN ZT) 78):=⟨_,rfl⟩;have HFc:=hid (show Fr [] wb wc by rw[hwc];exact hf1.alloc _);have i_:=hid (show Fr [] w wc from j8.out.trans HFc.out);have ZU:=hid (show wc.heap[w1.heap.size]?=some (.cells (opC d' ext' a' x' SN ZT) 78 (0,0)) by rw[hwc];exact iL w1 _);have HRc:=hid (iJ yF.out HFc.out aj);obtain⟨Z,hz6,h27⟩:=acj (HH.out.fr i_.out) d' a' x' ext' SN ZT;have H27:=hid h27;have y0:=iG ZU.out (i:=0) (v:=.int .i64 d') rfl;have y1:=iG ZU.out (i:=1) (v:=.bool ext') rfl;have y2:=iG ZU.out (i:=2) (v:=.int .i64 a') rfl;have y3:=iG ZU.out (i:=3) (v:=.int .i64 x') rfl;have y4:=iG ZU.out (i:=4) (v:=.bool SN) rfl;have y5:=iG ZU.out (i:=5) (v:=.string ZT) rfl;clear hf1 Gm h27;go_wp2_with fail;rw[<-hwc];clear hwc WC
 go_region_with (first
  | (go_at_call 27;refine(H27.out _ (Fr.refl [] wc).drew).mono ?_;rintro e w3 ⟨lR,mg,mV,mX,a1,a2,gx,b1,b2,c1,c2,aS,nS,cS,m,rfl,kS,kH⟩;obtain⟨vB,Z3,P,Bl,V,Ls,vU,vR,L,aim,goal,hD3,hZ3,hL3,Ho,K5,_,sU,hLl,_⟩:=id kS.x;obtain⟨aU,cU,Vb,_⟩:=Wr.jo Ho;subst Vb;obtain⟨aR,cR,Pv,_⟩:=Wr.jo K5;subst Pv;obtain⟨aB,cB,Fo,_⟩:=Wr.jo sU;subst Fo;have rZ:=hid kS;have Dl:=hid ((lM.FA (i_.out.trans (Fr.refl [] wc).drew)).trans kH);have HR3:=hid (kH.obj (iJ HRc.out (Fr.refl [] wc).drew aj) (by omega) (by decide) (by decide));have K6:=hid (uA D Z3 B L.length cB us.length cU rs.length cR nS cS 2 10 20 R lR mV a1 a2 gx b1 b2 c1 c2 mg mX m (tu l) aB aU aR aS L w3 hD3 sU (by omega));clear kS kH hD3 hZ3 hL3 Ho K5 sU)
  | (go_at_call 26;refine K6.out.mono ?_;rintro e w5 ⟨vB5,rfl,qi,kK⟩;obtain⟨a5,c5,hv5,_⟩:=Wr.jo qi;subst hv5;have kD:=hid kK;have je:=hid (iJ HR3.out kK aj);have r0:=iG je.out (i:=0) (v:=.int .i64 0) rfl;have k0:=iH je.out 0;have r1:=iG je.out (i:=1) (v:=.bool false) rfl;have k1:=iH je.out 1;have r2:=iG je.out (i:=2) (v:=.int .i64 0) rfl;have k2:=iH je.out 2;have r3:=iG je.out (i:=3) (v:=.bool false) rfl;have k3:=iH je.out 3;have r4:=iG je.out (i:=4) (v:=.int .i64 0) rfl;have k4:=iH je.out 4;have r5:=iG je.out (i:=5) (v:=.int .i64 0) rfl;have k5:=iH je.out 5;have r6:=iG je.out (i:=6) (v:=.int .i64 0) rfl;have k6:=iH je.out 6;have r7:=iG je.out (i:=7) (v:=.int .i64 0) rfl;have k7:=iH je.out 7;have r8:=iG je.out (i:=8) (v:=.int .i64 0) rfl;have k8:=iH je.out 8;have r9:=iG je.out (i:=9) (v:=.int .i64 0) rfl;have k9:=iH je.out 9;have Ig:=iG je.out (i:=10) (v:=.int .i64 0) rfl;have k10:=iH je.out 10;have Ih:=iG je.out (i:=11) (v:=.slice none 0 0) rfl;have k11:=iH je.out 11;have Ii:=iG je.out (i:=12) (v:=.bool false) rfl;have k12:=iH je.out 12;have U0:=iG je.out (i:=13) (v:=.string ⟨#[]⟩) rfl;have k13:=iH je.out 13;have ZR:=iG je.out (i:=14) (v:=.slice none 0 0) rfl;have k14:=iH je.out 14;have WB:=iG je.out (i:=15) (v:=.int .i64 0) rfl;have k15:=iH je.out 15;have r16:=iG je.out (i:=16) (v:=.int .i64 0) rfl;have k16:=iH je.out 16;clear qi kK K6))
 all_goals (
  go_wp2
  refine fE (fH (t:=34) (fr:=(0,0)) rfl _ _ (w.heap.size+1) _ _ rfl (iI (iI (iI (iI (iI (iI (iI (iI (iI (iI (iI (iI (iI (iI (iI (iI (iI je.out 0 _) 1 _) 2 _) 3 _) 4 _) 5 _) 6 _) 7 _) 8 _) 9 _) 10 _) 11 _) 12 _) 13 _) 14 _) 15 _) 16 _) underlying34 rfl (by kernel_rfl)) rfl ?_
  have Vd:=hid (show 9<w.heap.size+1 by have h1:=rZ.out.b9;have h2:=GZ.out;omega)
  have YU:=Va.out
  refine⟨m,⟨lR,mg,mV,mX,a1,a2,gx,b1,b2,c1,c2,aS,nS,cS,a5,L.length,c5,by simp⟩,lR,mg,mV,mX,lo,hi,(rZ.out.fr kD.out).ZS (AW w5 (w.heap.size+1) _ _ _ _ _ _ _ _ _ _ _ _ _ _ _ _ _) je.out (by omega) Vd.out,.inr ⟨au _,au _⟩,?_⟩
  exact(Dl.out.trans (lM.FA kD.out)).own (AW w5 (w.heap.size+1) _ _ _ _ _ _ _ _ _ _ _ _ _ _ _ _ _) (by have:=GZ.out;omega))
theorem NC (B D f u lo hi:Nat)(R ao fo:Int)(l:List Int)(ct nt:ByteArray)(ab fb up back:Bool)(us rs:List Mo)(w:World)(h:jY w B D R l ao ab fo fb us rs lo hi)(hfu:f<=u)(hu:u<=(tu l).size)(hnt:nt=(tu l).extract 0 f++ct++(tu l).extract u (tu l).size)(hct:ct.size<=100000)(hbig:400<nt.size) :
 Calls prog 28 #[.pointer (some ⟨D,0,none⟩),.agg #[.int .i64 (f:Nat),.int .i64 (u:Nat),.string ct,.bool up,.bool back]] w fun e w'=>e=.returned (.bool false)/\Fr [] w w':=by
 obtain⟨vB,Z,P,Bl,V,Ls,vU,vR,L,aim,goal,hD,_⟩:=id h.x;obtain⟨t,ht⟩:∃t,t=tu l:=⟨_,rfl⟩;rw[<-ht]at hD hu hnt;obtain⟨wb,hwb⟩:∃wb,wb=w.alloc (.cells #[.int .i64 (f:Nat),.int .i64 (u:Nat),.string ct,.bool up,.bool back] 88):=⟨_,rfl⟩;have j8:=hid (show Fr [] w wb by rw[hwb];exact(Fr.refl [] w).alloc _);have nD:=hid (show wb.heap[w.heap.size]?=some (.cells #[.int .i64 (f:Nat),.int .i64 (u:Nat),.string ct,.bool up,.bool back] 88 (0,0)) by rw[hwb];exact iL w _);have uz:=hid (iJ hD j8.out aj);have TA:(f:Int)<=(t.size:Int):=by omega
 have huI:(u:Int)<=(t.size:Int):=by omega
 have hft:f<=t.size:=by omega
 have hts:t.size<=400:=by rw[ht];exact h.t.z
 have hnd:(400:Int)<((nt.size:Nat):Int):=by omega
 have d4:=iG uz.out (i:=4) (v:=.string t) rfl;have c0:=iG nD.out (i:=0) (v:=.int .i64 (f:Nat)) rfl;have c1:=iG nD.out (i:=1) (v:=.int .i64 (u:Nat)) rfl;have c2:=iG nD.out (i:=2) (v:=.string ct) rfl;have zJ:=hid hnt;clear h hD hnt ht;go_enter func28,ntmps28;go_wp2_with fail;rw[<-hwb];clear hwb;go_quiet (fail);rw[<-zJ.out];clear d4 c0 c1 c2;go_wp2;go_ret;exact⟨rfl,j8.out.trans (jf _ _)⟩
end Go.Proofs.YtnakejhohdbfdacGreatDoor.Cls.Dc
namespace Go.Proofs.YtnakejhohdbfdacGreatDoor.Cls.Wr.Bw
open Go.RowKit Dec BA pS Lay j9 Go.Shelf Go.Proofs.Tryz
attribute [local go_sem] gy
def YV (c:Int):Bool:=c == 0 || c == 1 || c == 2 || c == 3 || c == 6
def Ve (s:ByteArray)(n i:Nat):Bool:=YV (kc s n i)
def sV (s:ByteArray)(n:Nat):Nat->List Int
 | 0=>[]
 | i+1=>if 0<i/\i+1<(bnd s n).length/\Ve s n (i - 1)=Ve s n i then sV s n i else sV s n i++[(bnd s n).getD i 0]
def wd (s:ByteArray)(n:Nat):List Int:=sV s n (bnd s n).length
theorem yC (s:ByteArray)(n:Nat):∀k,(sV s n k).length<=k
 | 0=>au _
 | k+1=>by
   have ih:=yC s n k;rw[sV];split
   ·omega
   ·rw[aD,bq];omega
theorem ND {s:ByteArray}{n i:Nat}(h:0<i/\i+1<(bnd s n).length/\Ve s n (i - 1)=Ve s n i):sV s n (i+1)=sV s n i:=by rw[sV,aE h]
theorem Dm {s:ByteArray}{n i:Nat}(h:¬(0<i/\i+1<(bnd s n).length/\Ve s n (i - 1)=Ve s n i)):sV s n (i+1)=sV s n i++[(bnd s n).getD i 0]:=by rw[sV,ay h]
theorem Ct (t:ByteArray)(w:World)(hT:Lib.Utf8Tabs 8 9 w)(h3:TabAt w 1 jg.jv)(h4:TabAt w 2 jg.jh) :
 Calls prog 91 #[.string t] w fun e w'=>e=.returned (.bool (YV (jg.look jg.iY ((Lib.decodeGo t).1:Nat))))/\Below w.heap.size w w':=by
 have H51:=hid (xR t w hT h3 h4);clear hT h3 h4;generalize jg.look jg.iY ((Lib.decodeGo t).1:Nat)=c at *;unfold YV;go_enter func91,ntmps91;go_wp2_with fail;refine H51.out.mono ?_;rintro e w1 ⟨rfl,hb1⟩;have HB1:=hid hb1;clear hb1 H51;go_wp2
 all_goals (
  go_ret
  exact⟨tF (by simp[*]),HB1.out⟩)
def AX (s:ByteArray)(n i:Nat):List Int:=if i=0 then [0]else sV s n i
def Fp (s:ByteArray)(n i:Nat):Bool:=if i=0 then false else Ve s n (i - 1)
structure WS (w:World)(s:ByteArray)(n i:Nat)(A:World):Prop where
 b:Below w.heap.size w A
 t:A.heap[w.heap.size+1+1+1]?=some (.cells #[.string s] 9 (0,0))
 a:A.heap[w.heap.size+1+1]?=some (.cells #[.bool (Fp s n i)] 4 (0,0))
 v:∃v,A.heap[w.heap.size+1]?=some (.cells #[v] 32 (0,0))/\A.ownsRow w.heap.size 3 1 v (AX s n i).length (iS (AX s n i))/\∀g,v.ownBlock=some g->g≠w.heap.size+4/\g≠w.heap.size+4+1
def Dq (w A:World)(k:Nat):Prop:=k≠w.heap.size+1/\k≠w.heap.size+1+1/\∀v,A.heap[w.heap.size+1]?=some (.cells #[v] 32 (0,0))->v.ownBlock≠some k
theorem WS.kp {w A B:World}{s:ByteArray}{n i:Nat}(h:WS w s n i A)(hk:Kp (w.heap.size+4) A B):WS w s n i B:=by
 obtain⟨v,v1,v2,v3⟩:=h.v;have hA:=nG h.t;refine⟨⟨hk.os.trans h.b.os,hk.tape.trans h.b.tape,hk.output.trans h.b.output,aK h.b.size hk.size,fun k hk1=>(hk.block k (by omega) (by omega) (by omega)).trans (h.b.block k hk1)⟩,?_,?_,v,?_,?_,v3⟩
 ·rw[hk.block _ (by omega) (by omega) (by omega)];exact h.t
 ·rw[hk.block _ (by omega) (by omega) (by omega)];exact h.a
 ·rw[hk.block _ (by omega) (by omega) (by omega)];exact v1
 ·exact jU v2 (fun g hg=>hk.block g (v2.lt g hg).2 (v3 g hg).1 (v3 g hg).2)
theorem Dq.kp {w A B:World}{s:ByteArray}{n i k:Nat}(h:WS w s n i A)(hk:Kp (w.heap.size+4) A B)(hf:Dq w A k):Dq w B k:=by
 have hA:=nG h.t;refine⟨hf.1,hf.2.1,fun v hv=>hf.2.2 v ?_⟩;rw[hk.block _ (by omega) (by omega) (by omega)]at hv;exact hv
theorem Dq.new {w A B:World}{s:ByteArray}{n i k:Nat}(h:WS w s n i A)(hb:Below A.heap.size A B)(hk:A.heap.size<=k):Dq w B k:=by
 have hA:=nG h.t;obtain⟨v,v1,v2,_⟩:=h.v;refine⟨by omega,by omega,fun u hu e=>?_⟩;rw[hb.block _ (by omega),v1]at hu;cases hu;have:=(v2.lt k e).2;omega
theorem K8 {w A A1:World}{s:ByteArray}{n i:Nat}(act:Act)(h:WS w s n i A)(hb:Below A.heap.size A A1)(he:AX s n (i+1)=AX s n i)(hsz:w.heap.size+4+1<A.heap.size) :
 ET (w.heap.size+4) (WS w s n) (Dq w) (i+1) A .normal act (A1.setCell ⟨w.heap.size+1+1,0,none⟩ (.bool (Fp s n (i+1)))):=by
 obtain⟨v,v1,v2,v3⟩:=h.v;have ho:∀k,k<A.heap.size->k≠w.heap.size+1+1->(A1.setCell ⟨w.heap.size+1+1,0,none⟩ (.bool (Fp s n (i+1)))).heap[k]?=A.heap[k]?:=fun k h1 h2=>(fP _ _ _ _ h2).trans (hb.block k h1)
 have hn2:∀g,v.ownBlock=some g->g≠w.heap.size+1+1:=fun g hg e=>own_ne v2 h.a (fun c f hc=>by cases hc) (by rw[<-e,hg])
 refine⟨ho _ (by omega) (by omega),ho _ (by omega) (by omega),by rw[gq];exact hb.size,⟨?_,?_,?_,v,?_,?_,v3⟩,fun k hk hf=>⟨ho k hk hf.2.1,hf.1,hf.2.1,fun u hu=>hf.2.2 u ?_⟩⟩
 ·exact⟨hb.os.trans h.b.os,hb.tape.trans h.b.tape,hb.output.trans h.b.output,by rw[gq];exact aK h.b.size hb.size,fun k hk=>(ho k (by omega) (by omega)).trans (h.b.block k hk)⟩
 ·rw[ho _ (by omega) (by omega)];exact h.t
 ·have:=fU A1 (w.heap.size+1+1) 0 _ 4 (.bool (Fp s n (i+1))) ((hb.block _ (by omega)).trans h.a)
  exact this
 ·rw[ho _ (by omega) (by omega)];exact v1
 ·rw[he];exact jU v2 (fun g hg=>ho g (v2.lt g hg).2 (hn2 g hg))
 ·rw[ho _ (by omega) (by omega)]at hu;exact hu
theorem YW {w A A1 A2:World}{s:ByteArray}{n i:Nat}{v v':Value}{ob:Obj}(act:Act)(h:WS w s n i A)(hb:Below A.heap.size A A1)(hv:A.heap[w.heap.size+1]?=some (.cells #[v] 32 (0,0)))(hown:A.ownsRow w.heap.size 3 1 v (AX s n i).length (iS (AX s n i)))(hv3:∀g,v.ownBlock=some g->g≠w.heap.size+4/\g≠w.heap.size+4+1)
 (hg:(A1.alloc ob).grownBy A2 v.ownBlock) (own:A2.ownsRow w.heap.size 3 1 v' (AX s n (i+1)).length (iS (AX s n (i+1)))) (hor:v'.ownBlock=v.ownBlock\/v'.ownBlock=some (A1.alloc ob).heap.size) (hsz:w.heap.size+4+1<A.heap.size) :
 ET (w.heap.size+4) (WS w s n) (Dq w) (i+1) A .normal act ((A2.setCell ⟨w.heap.size+1,0,none⟩ v').setCell ⟨w.heap.size+1+1,0,none⟩ (.bool (Fp s n (i+1)))):=by
 have hs1:=hb.size;have hs2:=hg.size;rw[fD]at hs2 hor;have h2:∀k,k<A.heap.size->v.ownBlock≠some k->A2.heap[k]?=A.heap[k]?:=fun k hk hne=>((hg.block k (by rw[fD];omega) (fun e=>hne e.symm)).trans (fS _ _ _ (by omega))).trans (hb.block k hk)
 have ho:∀k,k<A.heap.size->v.ownBlock≠some k->k≠w.heap.size+1->k≠w.heap.size+1+1->((A2.setCell ⟨w.heap.size+1,0,none⟩ v').setCell ⟨w.heap.size+1+1,0,none⟩ (.bool (Fp s n (i+1)))).heap[k]?=A.heap[k]?:=fun k q1 q2 q3 q4=>((fP _ _ _ _ q4).trans (fP _ _ _ _ q3)).trans (h2 k q1 q2)
 have n1:v.ownBlock≠some (w.heap.size+1):=fun e=>own_ne hown hv (fun c f hc=>by cases hc) e.symm
 have n2:v.ownBlock≠some (w.heap.size+1+1):=fun e=>own_ne hown h.a (fun c f hc=>by cases hc) e.symm
 have n3:v.ownBlock≠some (w.heap.size+1+1+1):=fun e=>own_ne hown h.t (fun c f hc=>by cases hc) e.symm
 have n4:v.ownBlock≠some (w.heap.size+4):=fun e=>(hv3 _ e).1 rfl
 have n5:v.ownBlock≠some (w.heap.size+4+1):=fun e=>(hv3 _ e).2 rfl
 have hlow:∀k,k<w.heap.size->v.ownBlock≠some k:=fun k hk e=>by have:=(hown.lt k e).1;omega
 have m1:∀g,v'.ownBlock=some g->g≠w.heap.size+1/\g≠w.heap.size+1+1/\g≠w.heap.size+4/\g≠w.heap.size+4+1:=fun g hgb=>by
  rcases hor with e | e
  ·rw[e]at hgb
   exact⟨fun q=>n1 (q ▸ hgb),fun q=>n2 (q ▸ hgb),fun q=>n4 (q ▸ hgb),fun q=>n5 (q ▸ hgb)⟩
  ·rw[hgb]at e
   have:=aZ e;omega
 have k1:=fU A2 (w.heap.size+1) 0 _ 32 v' ((h2 _ (by omega) n1).trans hv);have k2:=fU (A2.setCell ⟨w.heap.size+1,0,none⟩ v') (w.heap.size+1+1) 0 _ 4 (.bool (Fp s n (i+1))) (((fP _ _ _ _ (by show w.heap.size+1+1≠w.heap.size+1;omega)).trans (h2 _ (by omega) n2)).trans h.a);have hbx:((A2.setCell ⟨w.heap.size+1,0,none⟩ v').setCell ⟨w.heap.size+1+1,0,none⟩ (.bool (Fp s n (i+1)))).heap[w.heap.size+1]?=some (.cells #[v'] 32 (0,0)):=(fP _ _ _ _ (by show w.heap.size+1≠w.heap.size+1+1;omega)).trans k1;refine⟨ho _ (by omega) n4 (by omega) (by omega),ho _ (by omega) n5 (by omega) (by omega),by rw[gq,gq];omega,⟨?_,?_,k2,v',hbx,?_,fun g hgb=>(m1 g hgb).2.2⟩,fun k hk hf=>⟨ho k hk (hf.2.2 v hv) hf.1 hf.2.1,hf.1,hf.2.1,fun u hu e=>?_⟩⟩
 ·exact⟨(hg.os.trans hb.os).trans h.b.os,(hg.tape.trans hb.tape).trans h.b.tape,(hg.output.trans hb.output).trans h.b.output,by rw[gq,gq];have:=h.b.size;omega,fun k hk=>(ho k (by omega) (hlow k hk) (by omega) (by omega)).trans (h.b.block k hk)⟩
 ·rw[ho _ (by omega) n3 (by omega) (by omega)];exact h.t
 ·exact jU own (fun g hgb=>(fP _ _ _ _ (m1 g hgb).2.1).trans (fP _ _ _ _ (m1 g hgb).1))
 ·rw[hbx]at hu
  cases hu
  rcases hor with q | q
  ·exact hf.2.2 v hv (q ▸ e)
  ·rw[e]at q
   have:=aZ q;omega
theorem Hu {s:ByteArray}{n:Nat}(h:Dec.Ends s n):AX s n (0+1)=AX s n 0:=by
 show sV s n (0+1)=[0];rw[Dm (fun h=>absurd h.1 (eG 0)),xM h (aN _),rD];rfl
theorem RS {s:ByteArray}{n i:Nat}(h:Dec.Ends s n)(h0:0<i)(hi:i<cn s n)(he:Ve s n i=Fp s n i):AX s n (i+1)=AX s n i:=by
 unfold AX;rw[ay (Nat.succ_ne_zero i),ay (by omega)];unfold Fp at he;rw[ay (by omega)]at he;exact ND ⟨h0,by rw[mO h];omega,he.symm⟩
theorem Vf {s:ByteArray}{n i:Nat}(h:Dec.Ends s n)(h0:0<i)(hi:i<cn s n)(he:Ve s n i≠Fp s n i):AX s n (i+1)=AX s n i++[((pos s (iP (jd s n) i):Nat):Int)]:=by
 unfold AX;rw[ay (Nat.succ_ne_zero i),ay (by omega),<-xM h (by omega)];unfold Fp at he;rw[ay (by omega)]at he;exact Dm (fun hh=>he hh.2.2.symm)
theorem Vg {s:ByteArray}{n:Nat}(h:Dec.Ends s n)(hn:0<n):wd s n=AX s n (cn s n)++[((s.size:Nat):Int)]:=by
 have hc:0<cn s n:=by have:=(jA s n).2.2 hn;unfold cn;omega
 rw[wd,mO h,Dm (by rw[mO h];omega),xM h (au _),lE,h.1];unfold AX;rw[ay (by omega)]
theorem K9 (s:ByteArray)(n i:Nat):(AX s n i).length<=i+1:=by
 unfold AX;split
 ·simp
 ·have:=yC s n i;omega
theorem Vh {s:ByteArray}(h:Dec.Ends s 0):wd s 0=AX s 0 (cn s 0):=by
 have hc:cn s 0=0:=rfl;rw[wd,mO h,hc];exact Hu h
theorem YX {w A A2:World}{s:ByteArray}{n i:Nat}{v v':Value}{ob d:Obj}{L:Nat}{xs:List Value}(h:WS w s n i A)(hv:A.heap[w.heap.size+1]?=some (.cells #[v] 32 (0,0)))(hown:A.ownsRow w.heap.size 3 1 v (AX s n i).length (iS (AX s n i)))(hv3:∀g,v.ownBlock=some g->g≠w.heap.size+4/\g≠w.heap.size+4+1)
 (hg:(A.alloc ob).grownBy A2 v.ownBlock) (own:A2.ownsRow w.heap.size 3 1 v' L xs) (hor:v'.ownBlock=v.ownBlock\/v'.ownBlock=some (A.alloc ob).heap.size) (hD:A.heap[w.heap.size+4]?=some d) :
 (A2.setCell ⟨w.heap.size+1,0,none⟩ v').heap[w.heap.size+4]?=some d/\∀o,((A2.setCell ⟨w.heap.size+1,0,none⟩ v').putObj (w.heap.size+4) o).ownsRow w.heap.size 3 1 v' L xs/\Below w.heap.size w ((A2.setCell ⟨w.heap.size+1,0,none⟩ v').putObj (w.heap.size+4) o):=by
 have hs2:=hg.size;have hA:=nG hD;rw[fD]at hs2 hor;have h2:∀k,k<A.heap.size->v.ownBlock≠some k->A2.heap[k]?=A.heap[k]?:=fun k hk hne=>(hg.block k (by rw[fD];omega) (fun e=>hne e.symm)).trans (fS _ _ _ (by omega))
 have n1:v.ownBlock≠some (w.heap.size+1):=fun e=>own_ne hown hv (fun c f hc=>by cases hc) e.symm
 have n4:v.ownBlock≠some (w.heap.size+4):=fun e=>(hv3 _ e).1 rfl
 have hlow:∀k,k<w.heap.size->v.ownBlock≠some k:=fun k hk e=>by have:=(hown.lt k e).1;omega
 have m1:∀g,v'.ownBlock=some g->g≠w.heap.size+1/\g≠w.heap.size+4:=fun g hgb=>by
  rcases hor with e | e
  ·rw[e]at hgb
   exact⟨fun q=>n1 (q ▸ hgb),fun q=>n4 (q ▸ hgb)⟩
  ·rw[hgb]at e
   have:=aZ e;omega
 refine⟨((fP _ _ _ _ (by show w.heap.size+4≠w.heap.size+1;omega)).trans (h2 _ hA n4)).trans hD,fun o=>⟨jU own (fun g hgb=>(fK (m1 g hgb).2).trans (fP _ _ _ _ (m1 g hgb).1)),hg.os.trans h.b.os,hg.tape.trans h.b.tape,hg.output.trans h.b.output,by rw[gA,gq];have:=h.b.size;omega,fun k hk=>?_⟩⟩;rw[fK (by omega),fP _ _ _ _ (by show k≠w.heap.size+1;omega),h2 k (by omega) (hlow k hk)];exact h.b.block k hk
theorem Hv (s:ByteArray)(w:World)(hs:s.size<=1000000)(n:Nat)(hend:Dec.Ends s n)(hT:Lib.Utf8Tabs 8 9 w)(h0:TabAt w 0 jg.jr)(h3:TabAt w 1 jg.jv)(h4:TabAt w 2 jg.jh) :
 Calls prog 48 #[.string s] w fun e w'=>∃v,e=.returned v/\w'.ownsRow w.heap.size 3 1 v (wd s n).length (iS (wd s n))/\Below w.heap.size w w':=by
 obtain⟨i0,hi,hz0,hz1,hz2⟩:=fY info3;have H42:=hid (fun w=>Gn s w);have HE:=hid hend;have HT0:=hid (fun(A:World) (hb:Below w.heap.size w A)=>h0.below (h0.lt (by decide)) hb);have HT3:=hid (fun(A:World) (hb:Below w.heap.size w A)=>h3.below (h3.lt (by decide)) hb);have A8:=hid (fun(A:World) (hb:Below w.heap.size w A)=>h4.below (h4.lt (by decide)) hb);have HTU:=hid (fun(A:World) (hb:Below w.heap.size w A)=>wu hT hb);have hcs:cn s n<=1000000:=by
  have h1:=(jA s n).1;have h2:=lV s n;have h3:=hend.1;unfold cn;omega
 clear hend hT h0 h3 h4;refine(fF (n:=3)).1 ?_;refine gI func48 rfl trivial ?_ rfl;simp only[ntmps48,cK,bg,List.length_nil,Nat.reduceAdd,Nat.reduceSub,bY,bZ,cN,b_,bT,bV];gi_wp2_with (refine⟨trivial,?_⟩;gi_at_call 69;refine(fF.2 (H42.out _)).mono ?_;rintro e w' ⟨rfl,rfl⟩);obtain⟨W0,hW0⟩:∃W0,(((w.alloc (.cells #[.int .i64 0] 3)).alloc (.cells #[.slice (some ⟨w.heap.size,0,none⟩) 1 1] 32)).alloc (.cells #[.bool false] 4)).alloc (.cells #[.string s] 9)=W0:=⟨_,rfl⟩;have hsz:W0.heap.size=w.heap.size+4:=by rw[<-hW0];simp only[fD]
 have Aa:WS w s n 0 W0:=by
  rw[<-hW0];refine⟨((((fN _ w).alloc (au _) _).alloc (by simp only[fD];omega) _).alloc (by simp only[fD];omega) _).alloc (by simp only[fD];omega) _,?_,?_,.slice (some ⟨w.heap.size,0,none⟩) 1 1,?_,?_,?_⟩
  ·have h:=fR (((w.alloc (.cells #[.int .i64 0] 3)).alloc (.cells #[.slice (some ⟨w.heap.size,0,none⟩) 1 1] 32)).alloc (.cells #[.bool false] 4)) (.cells #[.string s] 9)
   simp only[fD]at h;exact h
  ·have h:=fR ((w.alloc (.cells #[.int .i64 0] 3)).alloc (.cells #[.slice (some ⟨w.heap.size,0,none⟩) 1 1] 32)) (.cells #[.bool false] 4)
   rw[fS _ _ _ (by simp only[fD];omega)];simp only[fD]at h;exact h
  ·have h:=fR (w.alloc (.cells #[.int .i64 0] 3)) (.cells #[.slice (some ⟨w.heap.size,0,none⟩) 1 1] 32)
   rw[fS _ _ _ (by simp only[fD];omega),fS _ _ _ (by simp only[fD];omega)];simp only[fD]at h;exact h
  ·have h:=iq (base:=w.heap.size) (e:=3) (size:=1) w #[.int .i64 0] 1 (au _) (by decide) rfl
   exact((h.alloc _).alloc _).alloc _
  ·intro g hg
   have:g=w.heap.size:=by simpa[Value.ownBlock] using hg.symm
   omega
 rw[hW0];refine vH rfl (by omega) (gf:=115) (lb:=#[.pointer (some ⟨w.heap.size+1+1+1,0,none⟩)]) rfl trivial (g_ func115 (by kernel_rfl) rfl)
  (encs:=fun x:Nat=>#[.int .i64 ((pos s (iP (jd s n) x):Nat):Int),.string (s.extract (pos s (iP (jd s n) x)) (pos s (iP (jd s n) (x+1))))]) (fun _=>rfl)
  (WS w s n) (Dq w) (fun i A B h hk=>h.kp (by rw[hsz]at hk;exact hk)) (fun i A B k h hk hf=>Dq.kp h (by rw[hsz]at hk;exact hk) hf) id (cn s n)
  (fun l V' W q1 q2 q3 q4=>Ku s n (w.heap.size+1+1+1) hs HE.out (Dq w) _ l V' (fun i A h=>⟨z_ (q1 i A h).t,HT0.out A (q1 i A h).b⟩) (fun i A B k h hb hk=>Dq.new (q1 i A h) hb hk) q2 (fun i A k _ hf=>hf) q3 W q4)
  (fun x=>{ tmps:=#[.string s,undef,.slice none 0 0,.pointer (some ⟨w.heap.size+1,0,none⟩),.pointer (some ⟨w.heap.size+1+1,0,none⟩),.int .i64 ((pos s (iP (jd s n) x):Nat):Int),.string (s.extract (pos s (iP (jd s n) x)) (pos s (iP (jd s n) (x+1)))),undef,.slice (some ⟨w.heap.size,0,none⟩) 1 1,.string s,.func (.func 115) #[] #[.pointer (some ⟨w.heap.size+1+1+1,0,none⟩)],.int .i64 ((pos s (iP (jd s n) x):Nat):Int),.string (s.extract (pos s (iP (jd s n) x)) (pos s (iP (jd s n) (x+1)))),undef,undef,undef,undef,undef,undef,undef,undef,undef,undef,undef,undef,undef,undef,undef,undef,undef,undef,undef,undef,undef,undef,undef],defers:=[] })
  Aa ?assign ?body ?done
 case assign =>
  intro l x W K hK;gi_wp2;exact hK
 case body =>
  intro l i A hV hic hAs;rw[hsz]at hAs ⊢;obtain⟨v,v1,v2,v3⟩:=hV.v;have HV:=hid hV;have D5:=hid v1;have Ab:=hid v2;have Ft:=hid v3
  have Nz:=hid (show Calls prog 91 #[.string (s.extract (pos s (iP (jd s n) i)) (pos s (iP (jd s n) (i+1))))] A fun e w'=>e=.returned (.bool (Fp s n (i+1)))/\Below A.heap.size A w' by
   have h:=Ct (s.extract (pos s (iP (jd s n) i)) (pos s (iP (jd s n) (i+1)))) A (HTU.out A hV.b) (HT3.out A hV.b) (A8.out A hV.b)
   rw[vG HE.out hic]at h
   exact h)
  have Vi:=hid hV.a;have HSK:=hid (fun(h0:0<i) (he:Fp s n (i+1)=Fp s n i)=>RS HE.out h0 hic he);have HAD:=hid (fun(h0:0<i) (he:Fp s n (i+1)≠Fp s n i)=>Vf HE.out h0 hic he);have HP0:=hid (show i=0->pos s (iP (jd s n) i)=0 from fun e=>by rw[e,rD];rfl)
  have PR:=hid (show 0<i->0<pos s (iP (jd s n) i)from fun e=>by
   have h1:=qN (lI s n) (i:=0) (j:=i) e (by unfold cn at hic;omega)
   have h2:=kR s _ _ h1
   omega)
  have hlen:=K9 s n i;have hs1:=hV.b.size;dsimp only[id];generalize s.extract (pos s (iP (jd s n) i)) (pos s (iP (jd s n) (i+1)))=sub at *;generalize pos s (iP (jd s n) i)=p at *;obtain⟨x,hx⟩:∃x,x=Fp s n (i+1):=⟨_,rfl⟩;obtain⟨y,hy⟩:∃y,y=Fp s n i:=⟨_,rfl⟩;have SE:=hid hx;have HYY:=hid hy;rw[<-hx]at Nz;rw[<-hy]at Vi;clear hx hy hV v1 v2 v3 Aa hW0;by_cases hi0:i=0
  ·have hp0:=HP0.out hi0
   subst hp0;have HEQ:=hid (show AX s n (i+1)=AX s n i by rw[hi0];exact Hu HE.out);clear hi0;gi_wp2_with (refine⟨trivial,?_⟩;first | (gi_at_call 91;refine(fJ l (fF.2 Nz.out)).mono ?_;rintro e A1 ⟨rfl,hb1⟩;have HB1:=hid hb1;have a0:A1.cell? ⟨w.heap.size+1+1,0,none⟩=some (.bool y):=fI A1 (w.heap.size+1+1) 0 _ _ _ ((hb1.block _ (by omega)).trans Vi.out);have f0:A1.frozen? ⟨w.heap.size+1+1,0,none⟩=false:=fT A1 (w.heap.size+1+1) 0 _ _ ((hb1.block _ (by omega)).trans Vi.out);have b0:A1.cell? ⟨w.heap.size+1,0,none⟩=some v:=fI A1 (w.heap.size+1) 0 _ _ _ ((hb1.block _ (by omega)).trans D5.out);have f1:A1.frozen? ⟨w.heap.size+1,0,none⟩=false:=fT A1 (w.heap.size+1) 0 _ _ ((hb1.block _ (by omega)).trans D5.out);clear hb1) | skip);rw[SE.out];exact K8 _ HV.out HB1.out HEQ.out hAs
  ·have hp1:=PR.out (by omega)
   have akz:(0:Int)<(p:Int):=by omega
   by_cases hxy:x=y
   ·have HEQ:=hid (HSK.out (by omega) (by rw[<-SE.out,<-HYY.out];exact hxy))
    obtain rfl:y=x:=hxy.symm;gi_wp2_with (refine⟨trivial,?_⟩;first | (gi_at_call 91;refine(fJ l (fF.2 Nz.out)).mono ?_;rintro e A1 ⟨rfl,hb1⟩;have HB1:=hid hb1;have a0:A1.cell? ⟨w.heap.size+1+1,0,none⟩=some (.bool y):=fI A1 (w.heap.size+1+1) 0 _ _ _ ((hb1.block _ (by omega)).trans Vi.out);have f0:A1.frozen? ⟨w.heap.size+1+1,0,none⟩=false:=fT A1 (w.heap.size+1+1) 0 _ _ ((hb1.block _ (by omega)).trans Vi.out);have b0:A1.cell? ⟨w.heap.size+1,0,none⟩=some v:=fI A1 (w.heap.size+1) 0 _ _ _ ((hb1.block _ (by omega)).trans D5.out);have f1:A1.frozen? ⟨w.heap.size+1,0,none⟩=false:=fT A1 (w.heap.size+1) 0 _ _ ((hb1.block _ (by omega)).trans D5.out);clear hb1) | skip);rw[SE.out];exact K8 _ HV.out HB1.out HEQ.out hAs
   ·have HEQ:=hid (HAD.out (by omega) (by rw[<-SE.out,<-HYY.out];exact hxy))
    have akA:(x == y)=false:=by simpa using hxy
    have Xv:=hid (own_ne Ab.out D5.out (fun c f hc=>by cases hc));have NE2:=hid (own_ne Ab.out Vi.out (fun c f hc=>by cases hc))
    gi_wp2_with (first
     | (gi_at_builtin;refine qh _ rfl _ _ 32 rfl w.heap.size 3 i0 _ 1 8 underlying32 hi hz0 hz1 hz2 rfl (by decide) _ _ _ rfl HOW.out ⟨A1.heap.size,0,none⟩ 1 1 [.int .i64 (p:Nat)] rfl rfl (iF _ _ _) (one_cell _) (by unfold maxLen;omega) (by omega) (by rw[fD];omega) ?_;intro v' A2 jR hgr hor;obtain⟨g2,c2,hv2⟩:=jl (by omega) jR;subst hv2;have HG2:=hid hgr;have jO:=hid jR;have wY:=hid hor;have Qd:=hgr.size;rw[fD]at Qd;have e0:A2.cell? ⟨w.heap.size+1+1,0,none⟩=some (.bool y):=fI A2 (w.heap.size+1+1) 0 _ _ _ ((hgr.block _ (by rw[fD];omega) NE2.out).trans ((fS _ _ _ (by omega)).trans K2.out));have g0:A2.frozen? ⟨w.heap.size+1+1,0,none⟩=false:=fT A2 (w.heap.size+1+1) 0 _ _ ((hgr.block _ (by rw[fD];omega) NE2.out).trans ((fS _ _ _ (by omega)).trans K2.out));have e1:A2.cell? ⟨w.heap.size+1,0,none⟩=some v:=fI A2 (w.heap.size+1) 0 _ _ _ ((hgr.block _ (by rw[fD];omega) Xv.out).trans ((fS _ _ _ (by omega)).trans K1.out));have g1:A2.frozen? ⟨w.heap.size+1,0,none⟩=false:=fT A2 (w.heap.size+1) 0 _ _ ((hgr.block _ (by rw[fD];omega) Xv.out).trans ((fS _ _ _ (by omega)).trans K1.out));clear jR hgr hor a0 f0 b0 f1)
     | (refine⟨trivial,?_⟩;gi_at_call 91;refine(fJ l (fF.2 Nz.out)).mono ?_;rintro e A1 ⟨rfl,hb1⟩;have HB1:=hid hb1;have a0:A1.cell? ⟨w.heap.size+1+1,0,none⟩=some (.bool y):=fI A1 (w.heap.size+1+1) 0 _ _ _ ((hb1.block _ (by omega)).trans Vi.out);have f0:A1.frozen? ⟨w.heap.size+1+1,0,none⟩=false:=fT A1 (w.heap.size+1+1) 0 _ _ ((hb1.block _ (by omega)).trans Vi.out);have b0:A1.cell? ⟨w.heap.size+1,0,none⟩=some v:=fI A1 (w.heap.size+1) 0 _ _ _ ((hb1.block _ (by omega)).trans D5.out);have f1:A1.frozen? ⟨w.heap.size+1,0,none⟩=false:=fT A1 (w.heap.size+1) 0 _ _ ((hb1.block _ (by omega)).trans D5.out);have HOW:=hid ((oM Ab.out hb1).alloc (.cells #[.int .i64 (p:Nat)] 3));have hsA:w.heap.size<=A1.heap.size:=aK hs1 hb1.size;have K1:=hid ((hb1.block (w.heap.size+1) (by omega)).trans D5.out);have K2:=hid ((hb1.block (w.heap.size+1+1) (by omega)).trans Vi.out);have hsB:A.heap.size<=A1.heap.size:=hb1.size;clear hb1))
    rw[SE.out];exact YW _ HV.out HB1.out D5.out Ab.out Ft.out HG2.out (by rw[HEQ.out,xg,<-qU];exact jO.out) wY.out hAs
 case done =>
  intro D A hV hD hK;rw[hsz]at hD;obtain⟨v,v1,v2,v3⟩:=hV.v;have HV:=hid hV;have D5:=hid v1;have Ab:=hid v2;have Ft:=hid v3;have b0:A.cell? ⟨w.heap.size+1,0,none⟩=some v:=fI A (w.heap.size+1) 0 _ _ _ v1;have f0:A.frozen? ⟨w.heap.size+1,0,none⟩=false:=fT A (w.heap.size+1) 0 _ _ v1;have hlen:=K9 s n (cn s n);have hs1:=hV.b.size;have hAt:=nG hV.t;clear hV v1 v2 v3 Aa hW0;by_cases hn:0<n
  ·have hs0:(0:Int)<(s.size:Int):=by have:=lV s n;have:=HE.out.1;omega
   have HWE:=hid (Vg HE.out hn);have HOW:=hid (Ab.out.alloc (.cells #[.int .i64 (s.size:Nat)] 3));have Xv:=hid (own_ne Ab.out D5.out (fun c f hc=>by cases hc))
   gi_wp2_with (first
    | (gi_at_builtin;refine qh _ rfl _ _ 32 rfl w.heap.size 3 i0 _ 1 8 underlying32 hi hz0 hz1 hz2 rfl (by decide) _ _ _ rfl HOW.out ⟨A.heap.size,0,none⟩ 1 1 [.int .i64 (s.size:Nat)] rfl rfl (iF _ _ _) (one_cell _) (by unfold maxLen;omega) (by omega) (by rw[fD];omega) ?_;intro v' A2 jR hgr hor;obtain⟨g2,c2,hv2⟩:=jl (by omega) jR;subst hv2;have HG2:=hid hgr;have jO:=hid jR;have wY:=hid hor;have Qd:=hgr.size;rw[fD]at Qd;have K1:=(hgr.block _ (by rw[fD];omega) Xv.out).trans ((fS _ _ _ (by omega)).trans D5.out);have e1:A2.cell? ⟨w.heap.size+1,0,none⟩=some v:=fI A2 (w.heap.size+1) 0 _ _ _ K1;have g1:A2.frozen? ⟨w.heap.size+1,0,none⟩=false:=fT A2 (w.heap.size+1) 0 _ _ K1;clear jR hgr hor b0 f0 K1))
   subst hD;obtain⟨q1,q2⟩:=YX HV.out D5.out Ab.out Ft.out HG2.out jO.out wY.out hK;refine⟨by simp,.inl ⟨_,_,rfl,gG q1,?_⟩⟩;refine⟨_,results_tmp rfl _ _ _,_,rfl,?_,(q2 _).2⟩;rw[HWE.out,xg,<-qU];exact(q2 _).1
  ·obtain rfl:n=0:=by omega
   have hs0:s.size=0:=HE.out.1.symm;have akC:¬(0:Int)<(s.size:Int):=by omega
   have HWN:=hid (Vh HE.out);gi_wp2;subst hD;refine⟨by simp,.inl ⟨_,_,rfl,gG hK,?_⟩⟩;have hk:=HV.out.kp (Cw (A:=A) (.inl rfl) (.deferred none));refine⟨_,results_tmp rfl _ _ _,_,rfl,?_,hk.b⟩;rw[HWN.out];exact jU Ab.out (fun g hg=>fK (Ft.out g hg).1)
end Go.Proofs.YtnakejhohdbfdacGreatDoor.Cls.Wr.Bw
