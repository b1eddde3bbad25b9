import Derived.Test.YtnakejhohdbfdacGreatDoorMbo
import Derived.Deep.RegionHeld3
set_option maxHeartbeats 8000000
set_option maxRecDepth 10000
namespace Go.Proofs.YtnakejhohdbfdacGreatDoor.Cls.Dc
open Go.RowKit Dec BA pS Lay j9 Go.Proofs.Tryz
theorem RD {S:List Nat}{w w':World}(h:Floor w)(hf:Fr S w w')(hS:∀k∈S,9<k):Floor w':=by
 have hn:∀g,g<=9->g ∉ S:=fun g hg hm=>by have:=hS g hm;omega
 exact⟨xZ h.t3 hf (hn _ (by decide)),xZ h.t4 hf (hn _ (by decide)),xZ h.t9 hf (hn _ (by decide)),hf.cell h.e0 (hn _ (by decide))⟩
theorem RE {S:List Nat}{w w':World}(h:Lib.Utf8Tabs 8 9 w)(hf:Fr S w w')(hS:∀k∈S,9<k):Lib.Utf8Tabs 8 9 w':=by
 have hn:∀g,g<=9->g ∉ S:=fun g hg hm=>by have:=hS g hm;omega
 exact⟨fun c hc=>hf.cell (h.1 c hc) (hn _ (by decide)),fun i hi=>⟨hf.cell (h.2 i hi).1 (hn _ (by decide)),hf.cell (h.2 i hi).2 (hn _ (by decide))⟩⟩
structure Gr (w:World):Prop where
 f:Floor w
 u:Lib.Utf8Tabs 8 9 w
theorem Gr.fr {S:List Nat}{w w':World}(h:Gr w)(hf:Fr S w w')(hS:∀k∈S,9<k):Gr w':=⟨RD h.f hf hS,RE h.u hf hS⟩
theorem Hh {w:World}{B:Nat}{v:Value}{l:List Int}(h:w.ownsRow B 3 1 v l.length (iS l)):zy w v l:=by
 rcases h.2 with⟨h1,h0⟩ | ⟨g,cap,cur,hv,_⟩
 ·exact⟨none,0,by rw[h1,h0],.inl ⟨rfl,rfl,h0⟩⟩
 ·subst hv
  refine⟨_,_,rfl,.inr ⟨_,rfl,fun i hi=>?_⟩⟩;rw[Addr.add_lit,dL];exact(h.cellAt i (by omega)).trans (Wr.Pq hi)
theorem RF {s:ByteArray}{n:Nat}(hend:Dec.Ends s n)(hs:s.size<=4096)(W:List Int)(hW:W.length=n)(R:Int)(hR:-9223372036854775808<=R/\R<=9223372036854775807){B:Nat}{a:Option Addr}{c:Nat}{w:World}(h:w.ownsRow B 3 1 (.slice a n c) n (iS W))(hG:Gr w) :
 Calls prog 19 #[.string s,.slice a n c,.int .i64 R] w fun e w'=>∃v,e=.returned v/\w'.ownsRow w.heap.size 3 1 v (Wr.Gd s n W R).length (iS (Wr.Gd s n W R))/\Fr [] w w':=by
 have hx:∃g,0<n->a=some ⟨g,0,none⟩/\g<w.heap.size:=by
  rcases bO n with h0 | h0
  ·exact⟨0,fun h'=>by omega⟩
  ·obtain⟨g,c',hv⟩:=jl h0 h
   cases hv;exact⟨g,fun _=>⟨rfl,(ji h).2⟩⟩
 obtain⟨g,hg⟩:=hx;obtain⟨a',c',e,hcc⟩:=Wr.jo h;cases e;have hl:=Wr.Tx h hW;refine(Wr.I0 s w hs n hend hG.u hG.f.t9 hG.f.t3 hG.f.t4 W a g 0 c hW (fun h=>(hg h).1) hcc (fun Y hY j hj=>?_) R hR).mono ?_
 ·obtain⟨g1,g2⟩:=hg (by omega)
  obtain⟨g',o',e1,e2⟩:=hl j (by omega);rw[g1]at e1;cases e1;exact(hY.cell (p:=⟨g,0+j,none⟩) g2).trans e2
 ·rintro e w' ⟨v,rfl,k1,k2⟩
  exact⟨v,rfl,k1,Fr.of_below k2⟩
theorem Cx (D n:Nat)(b na wi R ao fo:Int)(t0 mt:ByteArray)(vB0 vZ0 vU vR:Value)(ab fb:Bool)(w:World)
 (hD:w.heap[D]?=some (.cells #[.int .i64 b,.int .i64 na,.int .i64 wi,.int .i64 R,.string t0,vB0,vZ0,vU,vR] 85 (0,0))) (hD9:9<D) (hG:Gr w) (hend:Dec.Ends mt n) (hs:mt.size<=400) (hb:b=0\/b=1\/b=2) (hna:0<=na/\na<=1073741824) (hwi:0<=wi/\wi<=1073741824) (hR:-9223372036854775808<=R/\R<=9223372036854775807) (hB:∀k,k<n->jg.look jg.iY (rune mt k)≠10) :
 Calls prog 45 #[.pointer (some ⟨D,0,none⟩),.agg #[.string mt,.int .i64 ao,.bool ab,.int .i64 fo,.bool fb]] w fun e w'=>e=.returned (.tuple #[])/\∃vB Z P Bl Bd V Ls,w'.heap[D]?=some (.cells (zH b na wi R mt vB Z vU vR) 85 (0,0))/\w'.heap[Z]?=some (.cells (kL P (iR Bd (mt.size:Nat) ao ab).1 (iR Bd (mt.size:Nat) ao ab).2 (iR Bd (mt.size:Nat) fo fb).1 (iR Bd (mt.size:Nat) fo fb).2 false 0) 134 (0,0))/\Laid (yj w' Z) Bl P Bd V (mt.size:Nat) Ls/\Bd=bnd mt n/\w.heap.size<=Bl/\Bl<=Z/\w'.ownsRow w.heap.size 3 1 vB (Wr.Gd mt n (Aq mt na wi n) R).length (iS (Wr.Gd mt n (Aq mt na wi n) R))/\Fr [D] w w':=by
 obtain⟨Bd,V,Ls,hbd,ab6⟩:=UW hend hs hb hna hwi R hB;have XG:=hid hbd;have afJ:=hid ab6;have HE:=hid hend;have HGR:=hid hG;have HDS:=hid (show ∀k∈[D],9<k from fun k hk=>by rw[ak.1 hk];exact hD9);obtain⟨wb,hwb⟩:∃wb,wb=w.alloc (.cells #[.string mt,.int .i64 ao,.bool ab,.int .i64 fo,.bool fb] 116):=⟨_,rfl⟩;have j8:=hid (show Fr [] w wb by rw[hwb];exact(Fr.refl [] w).alloc _);have nD:=hid (show wb.heap[w.heap.size]?=some (.cells #[.string mt,.int .i64 ao,.bool ab,.int .i64 fo,.bool fb] 116 (0,0)) by rw[hwb];exact iL w _);have uz:=hid (iJ hD j8.out aj);have hDl:=iO hD;have HDl:=hid hDl;have HGb:=hid (hG.fr j8.out (fun k hk=>absurd hk aj));have H85:=hid (fun(Y:World) (hf:Fr [] wb Y)=>Fc mt na wi Y (by omega) (lB HGb.out.f.t3 hf) (lB HGb.out.f.t4 hf));have m0:=iG nD.out (i:=0) (v:=.string mt) rfl;have d1:=iG uz.out (i:=1) (v:=.int .i64 na) rfl;have d2:=iG uz.out (i:=2) (v:=.int .i64 wi) rfl;have hmx:Tryz.prog.follows .mixedOrders=true:=by kernel_rfl
 have HMX:=hid hmx;clear ab6 hend hG hD hb hna hwi hB hmx hbd;go_enter func45,ntmps45;go_wp2_with fail;rw[<-hwb];clear hwb;go_cut [4]from 6 to 50 (fun v4 wx=>∃a1 c1,v4=.slice a1 n c1/\Hid (wx.ownsRow wb.heap.size 3 1 (.slice a1 n c1) n (iS (Aq mt na wi n)))/\Hid (Fr [] wb wx))
 case first =>
  go_region_with (go_at_call 85;refine(H85.out _ ?fa).mono ?_;(case fa=>exact(Fr.refl [] wb).drew);rintro e w1 ⟨n1,v1,he1,rfl,sY,hb1⟩;have hn1:=Dec.kW he1 HE.out;subst hn1;have Hw1:=hid (show Fr [] wb w1 from Fr.trans (Fr.refl [] wb).drew (Fr.of_below hb1));obtain⟨a1,c1,hv1,_⟩:=Wr.jo sY;subst hv1;have lT:=hid sY;clear sY hb1 he1)
  all_goals (
   go_wp2
   go_meet
   exact⟨a1,c1,rfl,lT,Hw1⟩)
 case rest =>
  obtain⟨a1,c1,rfl,lT,nH⟩:=hcut;obtain⟨w1,hw1⟩:∃w1,w1=wc:=⟨_,rfl⟩;rw[<-hw1]at lT nH ⊢;have HB1:=hid (iJ nD.out nH.out aj);have HD1:=hid (iJ uz.out nH.out aj);have jc:=hid (j8.out.trans nH.out);clear hw1 m0 d1 d2 H85;have m0:=iG HB1.out (i:=0) (v:=.string mt) rfl;have d4:=iG HD1.out (i:=4) (v:=.string t0) rfl;have f4:=iH HD1.out 4;go_wp2_with fail;obtain⟨w2,hw2⟩:∃w2,w2=w1.setCell ⟨D,4,none⟩ (.string mt):=⟨_,rfl⟩;have HG2:=hid (show Fr [D] w1 w2 by rw[hw2];exact(Fr.refl [D] w1).set bX _);have i_:=hid (show Fr [D] w w2 from(jc.out.mono (fun k hk=>absurd hk aj)).trans HG2.out);have HB2:=hid (iJ HB1.out HG2.out (fun h=>by have:=ak.1 h;have:=HDl.out;omega));have HD2:=hid (show w2.heap[D]?=some (.cells #[.int .i64 b,.int .i64 na,.int .i64 wi,.int .i64 R,.string mt,vB0,vZ0,vU,vR] 85 (0,0)) by rw[hw2];exact iI HD1.out 4 _);have jO:=hid (show w2.ownsRow wb.heap.size 3 1 (.slice a1 n c1) n (iS (Aq mt na wi n)) by rw[hw2];exact nA lT.out (fun e=>own_ne lT.out HD1.out (fun c f h=>by cases h) e.symm));rw[<-hw2];clear hw2 m0 d4 f4 lT HB1 HD1;have m0:=iG HB2.out (i:=0) (v:=.string mt) rfl;have d3:=iG HD2.out (i:=3) (v:=.int .i64 R) rfl;have H19:=hid (fun(Y:World) (hf:Fr [] w2 Y)=>RF HE.out (by omega) (Aq mt na wi n) (Fb _ _ _ _) R hR (iM jO.out hf) ((HGR.out.fr i_.out HDS.out).fr hf (fun k hk=>absurd hk aj)));go_cut []from 6 to 50 (fun wx=>∃vB,Hid (wx.heap[D]?=some (.cells #[.int .i64 b,.int .i64 na,.int .i64 wi,.int .i64 R,.string mt,vB,vZ0,vU,vR] 85 (0,0)))/\Hid (wx.ownsRow w.heap.size 3 1 vB (Wr.Gd mt n (Aq mt na wi n) R).length (iS (Wr.Gd mt n (Aq mt na wi n) R)))/\Hid (Fr [D] w2 wx))
  case first =>
   go_region_with (go_at_call 19;refine(H19.out _ ?fa).mono ?_;(case fa=>exact(Fr.refl [] w2).drew);rintro e w3 ⟨vB,rfl,lK,hf3⟩;have Ri:=hid (show Fr [] w2 w3 from Fr.trans (Fr.refl [] w2).drew hf3);obtain⟨aB,cB,hvB,_⟩:=Wr.jo lK;subst hvB;have lD:=hid lK;have HD3:=hid (iJ HD2.out Ri.out aj);have q5:=iG HD3.out (i:=5) (v:=vB0) rfl;have k5:=iH HD3.out 5;clear lK hf3)
   all_goals (
    go_wp2
    go_meet
    refine⟨_,hid (iI HD3.out 5 _),hid ?_,hid ?_⟩
    ·exact iU (nA lD.out (fun e=>own_ne lD.out HD3.out (fun c f h=>by cases h) e.symm)) (by have h1:=i_.out.size;have h2:w2.drew.heap.size=w2.heap.size:=rfl;omega)
    ·exact(Ri.out.mono (fun k hk=>absurd hk aj)).set bX _)
  case rest =>
   obtain⟨vB,HD4,oI,og⟩:=hcut;obtain⟨w4,hw4⟩:∃w4,w4=wc:=⟨_,rfl⟩;rw[<-hw4]at HD4 oI og ⊢;obtain⟨aB,cB,hvB,_⟩:=Wr.jo oI.out;subst hvB;have jI:=hid (i_.out.trans og.out);have FL:=hid (iJ HB2.out og.out (fun h=>by have:=ak.1 h;have:=HDl.out;omega));have DH:=hid (show w4.ownsRow wb.heap.size 3 1 (.slice a1 n c1) n (iS (Aq mt na wi n))from Cd jO.out og.out (fun k hk=>by rw[ak.1 hk];have:=HDl.out;have:=j8.out.size;omega));clear hw4 m0 d3 H19;have m0:=iG FL.out (i:=0) (v:=.string mt) rfl;have d0:=iG HD4.out (i:=0) (v:=.int .i64 b) rfl;have d5:=iG HD4.out (i:=5) rfl;have SH:=hid (fun(Y:World) (hf:Fr [] w4 Y)=>afJ.out Y (.slice a1 n c1) _ ((HGR.out.fr jI.out HDS.out).fr hf (fun k hk=>absurd hk aj)).f (zy.at (Hh (by rw[Fb];exact iM DH.out hf))) (Hh (iM oI.out hf)));go_wp2_with fail;go_cut [5]from 6 to 50 (fun v5 wx=>∃P,v5=.pointer (some ⟨P,0,none⟩)/\Hid (Laid wx w4.heap.size P Bd V (mt.size:Nat) Ls)/\Hid (Fr [] w4 wx))
   case first =>
    go_region_with (go_at_call 66;refine(SH.out _ ?fa).mono ?_;(case fa=>exact(Fr.refl [] w4).drew);rintro e w5 ⟨P,rfl,hL,kK⟩;have ZP:=hid (show Fr [] w4 w5 from Fr.trans (Fr.refl [] w4).drew kK);have Yx:=hid hL;clear hL kK)
    all_goals (
     go_wp2
     go_meet
     exact⟨P,rfl,Yx,ZP⟩)
   case rest =>
    obtain⟨P,rfl,Yx,kD⟩:=hcut;obtain⟨w5,nK⟩:∃w5,w5=wc:=⟨_,rfl⟩;rw[<-nK]at Yx kD ⊢;have pF:=hid (jI.out.trans (kD.out.mono (fun k hk=>absurd hk aj)));have NP:=hid (iJ FL.out kD.out aj);have HD5:=hid (iJ HD4.out kD.out aj);have rK:=hid (iM oI.out kD.out);clear nK m0 d0 d5 SH;have m1:=iG NP.out (i:=1) (v:=.int .i64 ao) rfl;have m2:=iG NP.out (i:=2) (v:=.bool ab) rfl;have m3:=iG NP.out (i:=3) (v:=.int .i64 fo) rfl;have m4:=iG NP.out (i:=4) (v:=.bool fb) rfl;have H86:=hid (JQ P Bd V (mt.size:Nat) Ls ao fo ab fb w5 Yx.out.lyd);obtain⟨p1,hp1⟩:∃p1,p1=(iR Bd ((mt.size:Nat):Int) ao ab).1:=⟨_,rfl⟩;obtain⟨p2,hp2⟩:∃p2,p2=(iR Bd ((mt.size:Nat):Int) ao ab).2:=⟨_,rfl⟩;obtain⟨q1,hq1⟩:∃q1,q1=(iR Bd ((mt.size:Nat):Int) fo fb).1:=⟨_,rfl⟩;obtain⟨q2,hq2⟩:∃q2,q2=(iR Bd ((mt.size:Nat):Int) fo fb).2:=⟨_,rfl⟩;rw[<-hp1,<-hp2,<-hq1,<-hq2]at H86;have PR:=hid hp1;have ZH:=hid hp2;have P_:=hid hq1;have Ye:=hid hq2;clear hp1 hp2 hq1 hq2;go_wp2_with fail;refine H86.out.mono ?_;rintro e w6 ⟨Z,rfl,hZ,hZo,jJ⟩;have lu:=hid jJ;have lg:=hid hZo;have HZl:=hid hZ;have HD6:=hid (iJ HD5.out jJ aj);have r6:=iG HD6.out (i:=6) (v:=vZ0) rfl;have k6:=iH HD6.out 6;clear hZ hZo jJ m1 m2 m3 m4 H86;go_wp2;go_end0;have hDZ:D≠Z:=by have h1:=HDl.out;have h2:=pF.out.size;have h3:=HZl.out;omega
    have hset:=(Fr.refl [D] w6).set (b:=D) (i:=6) bX (.pointer (some ⟨Z,0,none⟩));have hbl:w.heap.size<=w4.heap.size:=jI.out.size;refine⟨rfl,_,Z,P,w4.heap.size,Bd,V,Ls,iI HD6.out 6 _,?_,?_,XG.out,hbl,aK kD.out.size HZl.out,?_,(pF.out.trans (lu.out.mono (fun k hk=>absurd hk aj))).trans hset⟩
    ·rw[<-PR.out,<-ZH.out,<-P_.out,<-Ye.out]
     exact iJ lg.out hset (fun h=>hDZ (ak.1 h).symm)
    ·refine Yx.out.fr (UU ((lu.out.mono (fun k hk=>absurd hk aj):Fr [D] w5 w6).trans hset) HZl.out (b7 (aM (iO lg.out) hset.size))) (fun k hk=>by rw[ak.1 hk];have:=HDl.out;omega)
    ·exact nA (iM rK.out lu.out) (fun e=>own_ne (iM rK.out lu.out) HD6.out (fun c f h=>by cases h) e.symm)
abbrev AV (ao:Int)(ab:Bool)(fo:Int)(fb:Bool)(a1 a2 gx b1 b2 c1 c2:Int)(aS:Option Addr)(nS cS:Nat)(moved:Bool)(t:ByteArray)(vB:Value)(nU nR:Nat):Array Value:=#[.int .i64 ao,.bool ab,.int .i64 fo,.bool fb,.int .i64 a1,.int .i64 a2,.int .i64 gx,.int .i64 b1,.int .i64 b2,.int .i64 c1,.int .i64 c2,.slice aS nS cS,.bool moved,.string t,vB,.int .i64 (nU:Nat),.int .i64 (nR:Nat)]
theorem uA (D Z B kB cB nU cU nR cR nS cS:Nat)(b na wi R ao fo a1 a2 gx b1 b2 c1 c2:Int)(ab fb moved:Bool)(t:ByteArray)(aB aU aR aS:Option Addr)(L:List Int)(w:World)(hD:w.heap[D]?=some (.cells (zH b na wi R t (.slice aB kB cB) Z (.slice aU nU cU) (.slice aR nR cR)) 85 (0,0)))(hB:w.ownsRow B 3 1 (.slice aB kB cB) kB (iS L))(hk:kB<=100000) :
 Calls prog 26 #[.pointer (some ⟨D,0,none⟩),.agg #[.int .i64 ao,.bool ab,.int .i64 fo,.bool fb,.int .i64 a1,.int .i64 a2,.int .i64 gx,.int .i64 b1,.int .i64 b2,.int .i64 c1,.int .i64 c2,.slice aS nS cS,.bool moved]] w fun e w'=>∃vB',e=.returned (.agg (AV ao ab fo fb a1 a2 gx b1 b2 c1 c2 aS nS cS moved t vB' nU nR))/\w'.ownsRow w.heap.size 3 1 vB' kB (iS L)/\Fr [] w w':=by
 obtain⟨wb,hwb⟩:∃wb,wb=(w.alloc (.cells #[.int .i64 ao,.bool ab,.int .i64 fo,.bool fb,.int .i64 a1,.int .i64 a2,.int .i64 gx,.int .i64 b1,.int .i64 b2,.int .i64 c1,.int .i64 c2,.slice aS nS cS,.bool moved] 31)).alloc (.cells #[.int .i64 0,.bool false,.int .i64 0,.bool false,.int .i64 0,.int .i64 0,.int .i64 0,.int .i64 0,.int .i64 0,.int .i64 0,.int .i64 0,.slice none 0 0,.bool false,.string ⟨#[]⟩,.slice none 0 0,.int .i64 0,.int .i64 0] 34):=⟨_,rfl⟩;have j8:=hid (show Fr [] w wb by rw[hwb];exact((Fr.refl [] w).alloc _).alloc _);have Nv:=hid (show wb.heap[w.heap.size]?=some (.cells #[.int .i64 ao,.bool ab,.int .i64 fo,.bool fb,.int .i64 a1,.int .i64 a2,.int .i64 gx,.int .i64 b1,.int .i64 b2,.int .i64 c1,.int .i64 c2,.slice aS nS cS,.bool moved] 31 (0,0)) by rw[hwb];exact iJ (iL w _) ((Fr.refl [] _).alloc _) aj)
 have yF:=hid (show wb.heap[w.heap.size+1]?=some (.cells #[.int .i64 0,.bool false,.int .i64 0,.bool false,.int .i64 0,.int .i64 0,.int .i64 0,.int .i64 0,.int .i64 0,.int .i64 0,.int .i64 0,.slice none 0 0,.bool false,.string ⟨#[]⟩,.slice none 0 0,.int .i64 0,.int .i64 0] 34 (0,0)) by
  have h:=iL (w.alloc (.cells #[.int .i64 ao,.bool ab,.int .i64 fo,.bool fb,.int .i64 a1,.int .i64 a2,.int .i64 gx,.int .i64 b1,.int .i64 b2,.int .i64 c1,.int .i64 c2,.slice aS nS cS,.bool moved] 31)) (.cells #[.int .i64 0,.bool false,.int .i64 0,.bool false,.int .i64 0,.int .i64 0,.int .i64 0,.int .i64 0,.int .i64 0,.int .i64 0,.int .i64 0,.slice none 0 0,.bool false,.string ⟨#[]⟩,.slice none 0 0,.int .i64 0,.int .i64 0] 34)
  rw[<-hwb]at h;simpa using h)
 have uz:=hid (iJ hD j8.out aj);have H54:=hid (fun(Y:World) (hf:Fr [] wb Y)=>Ut Y B kB _ _ (iM (iM hB j8.out) hf) hk (fun u hu=>by obtain⟨x,_,rfl⟩:=dX.1 hu;rfl));have HK:=hid (fun(wz:World) (hf:Fr [] wb wz)=>show wz.cell? ⟨w.heap.size,0,none⟩=some (.int .i64 ao)/\wz.cell? ⟨w.heap.size,1,none⟩=some (.bool ab)/\wz.cell? ⟨w.heap.size,2,none⟩=some (.int .i64 fo)/\wz.cell? ⟨w.heap.size,3,none⟩=some (.bool fb)/\wz.cell? ⟨w.heap.size,4,none⟩=some (.int .i64 a1)/\wz.cell? ⟨w.heap.size,5,none⟩=some (.int .i64 a2)/\wz.cell? ⟨w.heap.size,6,none⟩=some (.int .i64 gx)/\wz.cell? ⟨w.heap.size,7,none⟩=some (.int .i64 b1)/\wz.cell? ⟨w.heap.size,8,none⟩=some (.int .i64 b2)/\wz.cell? ⟨w.heap.size,9,none⟩=some (.int .i64 c1)/\wz.cell? ⟨w.heap.size,10,none⟩=some (.int .i64 c2)/\wz.cell? ⟨w.heap.size,11,none⟩=some (.slice aS nS cS)/\wz.cell? ⟨w.heap.size,12,none⟩=some (.bool moved)/\wz.cell? ⟨D,4,none⟩=some (.string t)/\wz.cell? ⟨D,5,none⟩=some (.slice aB kB cB)/\wz.cell? ⟨D,7,none⟩=some (.slice aU nU cU)/\wz.cell? ⟨D,8,none⟩=some (.slice aR nR cR)from⟨iG (iJ Nv.out hf aj) (i:=0) rfl,iG (iJ Nv.out hf aj) (i:=1) rfl,iG (iJ Nv.out hf aj) (i:=2) rfl,iG (iJ Nv.out hf aj) (i:=3) rfl,iG (iJ Nv.out hf aj) (i:=4) rfl,iG (iJ Nv.out hf aj) (i:=5) rfl,iG (iJ Nv.out hf aj) (i:=6) rfl,iG (iJ Nv.out hf aj) (i:=7) rfl,iG (iJ Nv.out hf aj) (i:=8) rfl,iG (iJ Nv.out hf aj) (i:=9) rfl,iG (iJ Nv.out hf aj) (i:=10) rfl,iG (iJ Nv.out hf aj) (i:=11) rfl,iG (iJ Nv.out hf aj) (i:=12) rfl,iG (iJ uz.out hf aj) (i:=4) rfl,iG (iJ uz.out hf aj) (i:=5) rfl,iG (iJ uz.out hf aj) (i:=7) rfl,iG (iJ uz.out hf aj) (i:=8) rfl⟩);have hDl:=iO hD;have hwl:w.heap.size+1<wb.heap.size:=iO yF.out;have SM:D<wb.heap.size:=iO uz.out;have hne1:¬D=w.heap.size+1:=by omega
 have hne2:¬w.heap.size+1=D:=by omega
 have TG:=HK.out wb (Fr.refl [] wb);obtain⟨q0,q1,q2,q3,q4,q5,q6,q7,q8,q9,Wy,Wz,WA,q13,q14,q15,q16⟩:=TG;clear hD hB;go_enter func26,ntmps26;go_wp2_with fail;rw[<-hwb];clear hwb;go_region_held3 (fun wz=>wz.cell? ⟨w.heap.size,0,none⟩=some (.int .i64 ao)/\wz.cell? ⟨w.heap.size,1,none⟩=some (.bool ab)/\wz.cell? ⟨w.heap.size,2,none⟩=some (.int .i64 fo)/\wz.cell? ⟨w.heap.size,3,none⟩=some (.bool fb)/\wz.cell? ⟨w.heap.size,4,none⟩=some (.int .i64 a1)/\wz.cell? ⟨w.heap.size,5,none⟩=some (.int .i64 a2)/\wz.cell? ⟨w.heap.size,6,none⟩=some (.int .i64 gx)/\wz.cell? ⟨w.heap.size,7,none⟩=some (.int .i64 b1)/\wz.cell? ⟨w.heap.size,8,none⟩=some (.int .i64 b2)/\wz.cell? ⟨w.heap.size,9,none⟩=some (.int .i64 c1)/\wz.cell? ⟨w.heap.size,10,none⟩=some (.int .i64 c2)/\wz.cell? ⟨w.heap.size,11,none⟩=some (.slice aS nS cS)/\wz.cell? ⟨w.heap.size,12,none⟩=some (.bool moved)/\wz.cell? ⟨D,4,none⟩=some (.string t)/\wz.cell? ⟨D,5,none⟩=some (.slice aB kB cB)/\wz.cell? ⟨D,7,none⟩=some (.slice aU nU cU)/\wz.cell? ⟨D,8,none⟩=some (.slice aR nR cR)) (first | with_reducible exact l9 | with_reducible exact HK.out _ HKK.out | go_keep)
  (first
    | (go_at_call 54;refine(H54.out _ ?fa).mono ?_;(case fa=>exact(Fr.refl [] wb).drew);rintro e w2 ⟨v2,rfl,jR,hf2⟩;obtain⟨JT,c2',hv2,_⟩:=Wr.jo jR;subst hv2;have JG:=hid (show Fr [] wb w2 from Fr.trans (Fr.refl [] wb).drew hf2);have jO:=hid jR;have l9:=HK.out _ JG.out;have i_:=hid (j8.out.trans JG.out);have HR2:=hid (iJ yF.out JG.out aj);have r0:=iG HR2.out (i:=0) (v:=.int .i64 0) rfl;have k0:=iH HR2.out 0;have r1:=iG HR2.out (i:=1) (v:=.bool false) rfl;have k1:=iH HR2.out 1;have r2:=iG HR2.out (i:=2) (v:=.int .i64 0) rfl;have k2:=iH HR2.out 2;have r3:=iG HR2.out (i:=3) (v:=.bool false) rfl;have k3:=iH HR2.out 3;have r4:=iG HR2.out (i:=4) (v:=.int .i64 0) rfl;have k4:=iH HR2.out 4;have r5:=iG HR2.out (i:=5) (v:=.int .i64 0) rfl;have k5:=iH HR2.out 5;have r6:=iG HR2.out (i:=6) (v:=.int .i64 0) rfl;have k6:=iH HR2.out 6;have r7:=iG HR2.out (i:=7) (v:=.int .i64 0) rfl;have k7:=iH HR2.out 7;have r8:=iG HR2.out (i:=8) (v:=.int .i64 0) rfl;have k8:=iH HR2.out 8;have r9:=iG HR2.out (i:=9) (v:=.int .i64 0) rfl;have k9:=iH HR2.out 9;have Ig:=iG HR2.out (i:=10) (v:=.int .i64 0) rfl;have k10:=iH HR2.out 10;have Ih:=iG HR2.out (i:=11) (v:=.slice none 0 0) rfl;have k11:=iH HR2.out 11;have Ii:=iG HR2.out (i:=12) (v:=.bool false) rfl;have k12:=iH HR2.out 12;have U0:=iG HR2.out (i:=13) (v:=.string ⟨#[]⟩) rfl;have k13:=iH HR2.out 13;have ZR:=iG HR2.out (i:=14) (v:=.slice none 0 0) rfl;have k14:=iH HR2.out 14;have WB:=iG HR2.out (i:=15) (v:=.int .i64 0) rfl;have k15:=iH HR2.out 15;have r16:=iG HR2.out (i:=16) (v:=.int .i64 0) rfl;have k16:=iH HR2.out 16;have HKK:=hid (show Fr [] w w2 from i_.out);clear jR hf2))
 all_goals (
  go_wp2
  refine fE (fH (t:=34) (fr:=(0,0)) rfl _ _ (w.heap.size+1) _ _ rfl (iI (iI (iI (iI (iI (iI (iI (iI (iI (iI (iI (iI (iI (iI (iI (iI (iI HR2.out 0 _) 1 _) 2 _) 3 _) 4 _) 5 _) 6 _) 7 _) 8 _) 9 _) 10 _) 11 _) 12 _) 13 _) 14 _) 15 _) 16 _) underlying34 rfl (by kernel_rfl)) rfl ?_
  refine⟨.slice JT kB c2',by simp,?_,?_⟩
  ·have lD:=hid (show w2.ownsRow w.heap.size 3 1 (.slice JT kB c2') kB (iS L)from iU jO.out (by show w.heap.size<=wb.heap.size;omega))
   have hno:(Value.slice JT kB c2').ownBlock≠some (w.heap.size+1):=fun e=>by
    have h:=(jO.out.lt _ e).1
    have h2:wb.heap.size<=w.heap.size+1:=h
    omega
   iterate 17 refine nA ?_ hno
   exact lD.out
  ·have hge:w.heap.size<=w.heap.size+1:=aF _
   iterate 17 refine Fr.iK ?_ hge
   exact i_.out)
end Go.Proofs.YtnakejhohdbfdacGreatDoor.Cls.Dc
