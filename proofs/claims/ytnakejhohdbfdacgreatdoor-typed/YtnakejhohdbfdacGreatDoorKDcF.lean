import Derived.Test.YtnakejhohdbfdacGreatDoorKSsA
namespace Go.Proofs.YtnakejhohdbfdacGreatDoor.Cls.Dc
open Go.RowKit Dec Kin Bnd Lay Lev
theorem floor_fr {S:List Nat}{w w':World}(h:Floor w)(hf:Fr S w w')(hS:∀k∈S,9<k):Floor w':=by
 have hn:∀g,g≤9→g ∉ S:=fun g hg hm=>by have:=hS g hm;omega
 exact⟨tab_frS h.t3 hf (hn _ (by decide)),tab_frS h.t4 hf (hn _ (by decide)),tab_frS h.t9 hf (hn _ (by decide)),hf.cell h.e0 (hn _ (by decide))⟩
theorem u8_fr {S:List Nat}{w w':World}(h:Lib.Utf8Tabs 8 9 w)(hf:Fr S w w')(hS:∀k∈S,9<k):Lib.Utf8Tabs 8 9 w':=by
 have hn:∀g,g≤9→g ∉ S:=fun g hg hm=>by have:=hS g hm;omega
 exact⟨fun c hc=>hf.cell (h.1 c hc) (hn _ (by decide)),fun i hi=>⟨hf.cell (h.2 i hi).1 (hn _ (by decide)),hf.cell (h.2 i hi).2 (hn _ (by decide))⟩⟩
structure Gr (w:World):Prop where
 f:Floor w
 u:Lib.Utf8Tabs 8 9 w
theorem Gr.fr {S:List Nat}{w w':World}(h:Gr w)(hf:Fr S w w')(hS:∀k∈S,9<k):Gr w':=⟨floor_fr h.f hf hS,u8_fr h.u hf hS⟩
theorem own_slAd {w:World}{B:Nat}{v:Value}{l:List Int}(h:w.ownsRow B 3 1 v l.length (ints64 l)):slAd w v l:=by
 rcases h.2 with⟨h1,h0⟩ | ⟨g,cap,cur,hv,_⟩
 ·exact⟨none,0,by rw[h1,h0],.inl ⟨rfl,rfl,h0⟩⟩
 ·subst hv
  refine⟨_,_,rfl,.inr ⟨_,rfl,fun i hi=>?_⟩⟩;rw[Addr.add_lit,Nat.zero_add];exact(h.cellAt i (by omega)).trans (Wr.nth_at hi)
theorem wrap_doc {s:ByteArray}{n:Nat}(hend:Dec.Ends s n)(hs:s.size≤4096)(W:List Int)(hW:W.length=n)(R:Int)(hR:-9223372036854775808≤R∧R≤9223372036854775807){B:Nat}{a:Option Addr}{c:Nat}{w:World}(h:w.ownsRow B 3 1 (.slice a n c) n (ints64 W))(hG:Gr w) :
 Calls Tryz.prog 19 #[.string s,.slice a n c,.int .i64 R] w fun e w'=>∃v,e=.returned v∧w'.ownsRow w.heap.size 3 1 v (Wr.wrp s n W R).length (ints64 (Wr.wrp s n W R))∧Fr [] w w':=by
 have hx:∃g,0<n→a=some ⟨g,0,none⟩∧g<w.heap.size:=by
  rcases Nat.eq_zero_or_pos n with h0 | h0
  ·exact⟨0,fun h'=>by omega⟩
  ·obtain⟨g,c',hv⟩:=owns_shape_pos h0 h
   cases hv;exact⟨g,fun _=>⟨rfl,(owns_at h).2⟩⟩
 obtain⟨g,hg⟩:=hx;obtain⟨a',c',e,hcc⟩:=Wr.owns_any h;cases e;have hl:=Wr.own_lst h hW;refine(Wr.wrapP_good s w hs n hend hG.u hG.f.t9 hG.f.t3 hG.f.t4 W a g 0 c hW (fun h=>(hg h).1) hcc (fun Y hY j hj=>?_) R hR).mono ?_
 ·obtain⟨g1,g2⟩:=hg (by omega)
  obtain⟨g',o',e1,e2⟩:=hl j (by omega);rw[g1]at e1;cases e1;exact(hY.cell (p:=⟨g,0+j,none⟩) g2).trans e2
 ·rintro e w' ⟨v,rfl,k1,k2⟩
  exact⟨v,rfl,k1,Fr.of_below k2⟩
set_option maxRecDepth 10000 in
set_option maxHeartbeats 8000000 in
theorem turn_any (D n:Nat)(b na wi R ao fo:Int)(t0 mt:ByteArray)(vB0 vZ0 vU vR:Value)(ab fb:Bool)(w:World)
 (hD:w.heap[D]?=some (.cells #[.int .i64 b,.int .i64 na,.int .i64 wi,.int .i64 R,.string t0,vB0,vZ0,vU,vR] 85 (0,0))) (hD9:9<D) (hG:Gr w) (hend:Dec.Ends mt n) (hs:mt.size≤400) (hb:b=0∨b=1∨b=2) (hna:0≤na∧na≤1073741824) (hwi:0≤wi∧wi≤1073741824) (hR:-9223372036854775808≤R∧R≤9223372036854775807) (hB:∀k,k<n→Tabs.look Tabs.classTab (rune mt k)≠10) :
 Calls Tryz.prog 45 #[.pointer (some ⟨D,0,none⟩),.agg #[.string mt,.int .i64 ao,.bool ab,.int .i64 fo,.bool fb]] w fun e w'=>e=.returned (.tuple #[])∧∃vB Z P Bl Bd V Ls,w'.heap[D]?=some (.cells (docC b na wi R mt vB Z vU vR) 85 (0,0))∧w'.heap[Z]?=some (.cells (sesC P (placeL Bd (mt.size:Nat) ao ab).1 (placeL Bd (mt.size:Nat) ao ab).2 (placeL Bd (mt.size:Nat) fo fb).1 (placeL Bd (mt.size:Nat) fo fb).2 false 0) 134 (0,0))∧Laid w' Bl P Bd V (mt.size:Nat) Ls∧w.heap.size≤Bl∧Bl≤Z∧w'.ownsRow w.heap.size 3 1 vB (Wr.wrp mt n (wdL mt na wi n) R).length (ints64 (Wr.wrp mt n (wdL mt na wi n) R))∧Fr [D] w w':=by
 obtain⟨Bd,V,Ls,hLay⟩:=lay_doc hend hs hb hna hwi R hB;have HLAY:=hid hLay;have HE:=hid hend;have HGR:=hid hG;have HDS:=hid (show ∀k∈[D],9<k from fun k hk=>by rw[List.mem_singleton.1 hk];exact hD9);obtain⟨wb,hwb⟩:∃wb,wb=w.alloc (.cells #[.string mt,.int .i64 ao,.bool ab,.int .i64 fo,.bool fb] 116):=⟨_,rfl⟩;have HFb:=hid (show Fr [] w wb by rw[hwb];exact(Fr.refl [] w).alloc _);have HOb:=hid (show wb.heap[w.heap.size]?=some (.cells #[.string mt,.int .i64 ao,.bool ab,.int .i64 fo,.bool fb] 116 (0,0)) by rw[hwb];exact obj_new w _);have HDb:=hid (obj_fr hD HFb.out List.not_mem_nil);have hDl:=obj_lt hD;have HDl:=hid hDl;have HGb:=hid (hG.fr HFb.out (fun k hk=>absurd hk List.not_mem_nil));have H85:=hid (fun(Y:World) (hf:Fr [] wb Y)=>widthsOf_any mt na wi Y (by omega) (tab_fr HGb.out.f.t3 hf) (tab_fr HGb.out.f.t4 hf));have m0:=obj_cell HOb.out (i:=0) (v:=.string mt) rfl;have d1:=obj_cell HDb.out (i:=1) (v:=.int .i64 na) rfl;have d2:=obj_cell HDb.out (i:=2) (v:=.int .i64 wi) rfl;have hmx:Tryz.prog.follows .mixedOrders=true:=by kernel_rfl
 have HMX:=hid hmx;clear hLay hend hG hD hb hna hwi hB hmx;go_enter Tryz.func45,Tryz.ntmps45;go_wp2_with fail;rw[←hwb];clear hwb;go_cut [4]from 6 to 50 (fun v4 wx=>∃a1 c1,v4=.slice a1 n c1∧Hid (wx.ownsRow wb.heap.size 3 1 (.slice a1 n c1) n (ints64 (wdL mt na wi n)))∧Hid (Fr [] wb wx))
 case first =>
  go_region_with (go_at_call 85;refine(H85.out _ ?fa).mono ?_;(case fa=>exact(Fr.refl [] wb).drew);rintro e w1 ⟨n1,v1,he1,rfl,own1,hb1⟩;have hn1:=Dec.ends_unique he1 HE.out;subst hn1;have Hw1:=hid (show Fr [] wb w1 from Fr.trans (Fr.refl [] wb).drew (Fr.of_below hb1));obtain⟨a1,c1,hv1,_⟩:=Wr.owns_any own1;subst hv1;have HO1:=hid own1;clear own1 hb1 he1)
  all_goals (
   go_wp2
   go_meet
   exact⟨a1,c1,rfl,HO1,Hw1⟩)
 case rest =>
  obtain⟨a1,c1,rfl,HO1,HG1⟩:=hcut;obtain⟨w1,hw1⟩:∃w1,w1=wc:=⟨_,rfl⟩;rw[←hw1]at HO1 HG1 ⊢;have HB1:=hid (obj_fr HOb.out HG1.out List.not_mem_nil);have HD1:=hid (obj_fr HDb.out HG1.out List.not_mem_nil);have HF1:=hid (HFb.out.trans HG1.out);clear hw1 m0 d1 d2 H85;have m0:=obj_cell HB1.out (i:=0) (v:=.string mt) rfl;have d4:=obj_cell HD1.out (i:=4) (v:=.string t0) rfl;have f4:=obj_froz HD1.out 4;go_wp2_with fail;obtain⟨w2,hw2⟩:∃w2,w2=w1.setCell ⟨D,4,none⟩ (.string mt):=⟨_,rfl⟩;have HG2:=hid (show Fr [D] w1 w2 by rw[hw2];exact(Fr.refl [D] w1).set List.mem_cons_self _);have HF2:=hid (show Fr [D] w w2 from(HF1.out.mono (fun k hk=>absurd hk List.not_mem_nil)).trans HG2.out);have HB2:=hid (obj_fr HB1.out HG2.out (fun h=>by have:=List.mem_singleton.1 h;have:=HDl.out;omega));have HD2:=hid (show w2.heap[D]?=some (.cells #[.int .i64 b,.int .i64 na,.int .i64 wi,.int .i64 R,.string mt,vB0,vZ0,vU,vR] 85 (0,0)) by rw[hw2];exact obj_set HD1.out 4 _);have HO2:=hid (show w2.ownsRow wb.heap.size 3 1 (.slice a1 n c1) n (ints64 (wdL mt na wi n)) by rw[hw2];exact own_set HO1.out (fun e=>own_ne HO1.out HD1.out (fun c f h=>by cases h) e.symm));rw[←hw2];clear hw2 m0 d4 f4 HO1 HB1 HD1;have m0:=obj_cell HB2.out (i:=0) (v:=.string mt) rfl;have d3:=obj_cell HD2.out (i:=3) (v:=.int .i64 R) rfl;have H19:=hid (fun(Y:World) (hf:Fr [] w2 Y)=>wrap_doc HE.out (by omega) (wdL mt na wi n) (wdL_len _ _ _ _) R hR (owns_fr0 HO2.out hf) ((HGR.out.fr HF2.out HDS.out).fr hf (fun k hk=>absurd hk List.not_mem_nil)));go_cut []from 6 to 50 (fun wx=>∃vB,Hid (wx.heap[D]?=some (.cells #[.int .i64 b,.int .i64 na,.int .i64 wi,.int .i64 R,.string mt,vB,vZ0,vU,vR] 85 (0,0)))∧Hid (wx.ownsRow w.heap.size 3 1 vB (Wr.wrp mt n (wdL mt na wi n) R).length (ints64 (Wr.wrp mt n (wdL mt na wi n) R)))∧Hid (Fr [D] w2 wx))
  case first =>
   go_region_with (go_at_call 19;refine(H19.out _ ?fa).mono ?_;(case fa=>exact(Fr.refl [] w2).drew);rintro e w3 ⟨vB,rfl,own3,hf3⟩;have Hw3:=hid (show Fr [] w2 w3 from Fr.trans (Fr.refl [] w2).drew hf3);obtain⟨aB,cB,hvB,_⟩:=Wr.owns_any own3;subst hvB;have HO3:=hid own3;have HD3:=hid (obj_fr HD2.out Hw3.out List.not_mem_nil);have q5:=obj_cell HD3.out (i:=5) (v:=vB0) rfl;have k5:=obj_froz HD3.out 5;clear own3 hf3)
   all_goals (
    go_wp2
    go_meet
    refine⟨_,hid (obj_set HD3.out 5 _),hid ?_,hid ?_⟩
    ·exact owns_low (own_set HO3.out (fun e=>own_ne HO3.out HD3.out (fun c f h=>by cases h) e.symm)) (by have h1:=HF2.out.size;have h2:w2.drew.heap.size=w2.heap.size:=rfl;omega)
    ·exact(Hw3.out.mono (fun k hk=>absurd hk List.not_mem_nil)).set List.mem_cons_self _)
  case rest =>
   obtain⟨vB,HD4,HO4,HG4⟩:=hcut;obtain⟨w4,hw4⟩:∃w4,w4=wc:=⟨_,rfl⟩;rw[←hw4]at HD4 HO4 HG4 ⊢;obtain⟨aB,cB,hvB,_⟩:=Wr.owns_any HO4.out;subst hvB;have HF4:=hid (HF2.out.trans HG4.out);have HB4:=hid (obj_fr HB2.out HG4.out (fun h=>by have:=List.mem_singleton.1 h;have:=HDl.out;omega));have HW4:=hid (show w4.ownsRow wb.heap.size 3 1 (.slice a1 n c1) n (ints64 (wdL mt na wi n))from owns_frB HO2.out HG4.out (fun k hk=>by rw[List.mem_singleton.1 hk];have:=HDl.out;have:=HFb.out.size;omega));clear hw4 m0 d3 H19;have m0:=obj_cell HB4.out (i:=0) (v:=.string mt) rfl;have d0:=obj_cell HD4.out (i:=0) (v:=.int .i64 b) rfl;have d5:=obj_cell HD4.out (i:=5) rfl;have H66:=hid (fun(Y:World) (hf:Fr [] w4 Y)=>HLAY.out Y (.slice a1 n c1) _ ((HGR.out.fr HF4.out HDS.out).fr hf (fun k hk=>absurd hk List.not_mem_nil)).f (slAd.at (own_slAd (by rw[wdL_len];exact owns_fr0 HW4.out hf))) (own_slAd (owns_fr0 HO4.out hf)));go_wp2_with fail;go_cut [5]from 6 to 50 (fun v5 wx=>∃P,v5=.pointer (some ⟨P,0,none⟩)∧Hid (Laid wx w4.heap.size P Bd V (mt.size:Nat) Ls)∧Hid (Fr [] w4 wx))
   case first =>
    go_region_with (go_at_call 66;refine(H66.out _ ?fa).mono ?_;(case fa=>exact(Fr.refl [] w4).drew);rintro e w5 ⟨P,rfl,hL,hf5⟩;have Hw5:=hid (show Fr [] w4 w5 from Fr.trans (Fr.refl [] w4).drew hf5);have HL5:=hid hL;clear hL hf5)
    all_goals (
     go_wp2
     go_meet
     exact⟨P,rfl,HL5,Hw5⟩)
   case rest =>
    obtain⟨P,rfl,HL5,HG5⟩:=hcut;obtain⟨w5,hw5⟩:∃w5,w5=wc:=⟨_,rfl⟩;rw[←hw5]at HL5 HG5 ⊢;have HF5:=hid (HF4.out.trans (HG5.out.mono (fun k hk=>absurd hk List.not_mem_nil)));have HB5:=hid (obj_fr HB4.out HG5.out List.not_mem_nil);have HD5:=hid (obj_fr HD4.out HG5.out List.not_mem_nil);have HO5:=hid (owns_fr0 HO4.out HG5.out);clear hw5 m0 d0 d5 H66;have m1:=obj_cell HB5.out (i:=1) (v:=.int .i64 ao) rfl;have m2:=obj_cell HB5.out (i:=2) (v:=.bool ab) rfl;have m3:=obj_cell HB5.out (i:=3) (v:=.int .i64 fo) rfl;have m4:=obj_cell HB5.out (i:=4) (v:=.bool fb) rfl;have H86:=hid (resume_any P Bd V (mt.size:Nat) Ls ao fo ab fb w5 HL5.out.lyd);obtain⟨p1,hp1⟩:∃p1,p1=(placeL Bd ((mt.size:Nat):Int) ao ab).1:=⟨_,rfl⟩;obtain⟨p2,hp2⟩:∃p2,p2=(placeL Bd ((mt.size:Nat):Int) ao ab).2:=⟨_,rfl⟩;obtain⟨q1,hq1⟩:∃q1,q1=(placeL Bd ((mt.size:Nat):Int) fo fb).1:=⟨_,rfl⟩;obtain⟨q2,hq2⟩:∃q2,q2=(placeL Bd ((mt.size:Nat):Int) fo fb).2:=⟨_,rfl⟩;rw[←hp1,←hp2,←hq1,←hq2]at H86;have HP1:=hid hp1;have HP2:=hid hp2;have HQ1:=hid hq1;have HQ2:=hid hq2;clear hp1 hp2 hq1 hq2;go_wp2_with fail;refine H86.out.mono ?_;rintro e w6 ⟨Z,rfl,hZ,hZo,hf6⟩;have HG6:=hid hf6;have HZ6:=hid hZo;have HZl:=hid hZ;have HD6:=hid (obj_fr HD5.out hf6 List.not_mem_nil);have r6:=obj_cell HD6.out (i:=6) (v:=vZ0) rfl;have k6:=obj_froz HD6.out 6;clear hZ hZo hf6 m1 m2 m3 m4 H86;go_wp2;go_end0;have hDZ:D≠Z:=by have h1:=HDl.out;have h2:=HF5.out.size;have h3:=HZl.out;omega
    have hset:=(Fr.refl [D] w6).set (b:=D) (i:=6) List.mem_cons_self (.pointer (some ⟨Z,0,none⟩));have hbl:w.heap.size≤w4.heap.size:=HF4.out.size;refine⟨rfl,_,Z,P,w4.heap.size,Bd,V,Ls,obj_set HD6.out 6 _,?_,?_,hbl,Nat.le_trans HG5.out.size HZl.out,?_,(HF5.out.trans (HG6.out.mono (fun k hk=>absurd hk List.not_mem_nil))).trans hset⟩
    ·rw[←HP1.out,←HP2.out,←HQ1.out,←HQ2.out]
     exact obj_fr HZ6.out hset (fun h=>hDZ (List.mem_singleton.1 h).symm)
    ·exact(HL5.out.fr HG6.out (fun k hk=>absurd hk List.not_mem_nil)).fr hset (fun k hk=>by rw[List.mem_singleton.1 hk];have:=HDl.out;omega)
    ·exact own_set (owns_fr0 HO5.out HG6.out) (fun e=>own_ne (owns_fr0 HO5.out HG6.out) HD6.out (fun c f h=>by cases h) e.symm)
end Go.Proofs.YtnakejhohdbfdacGreatDoor.Cls.Dc
