import Derived.Test.YtnakejhohdbfdabGreatDoorKKpM
namespace Go.Proofs.YtnakejhohdbfdabGreatDoor
open Go.RowKit Lev Lay Bnd
theorem flag_ne {a b:Int}{c d:Bool}(h:a≠b):(!(decide (a=b∧c=d)))=true:=by simp[h]
structure StepsOk (Bd V:List Int)(z r:Int)(Ls:List Ln):Prop where
 home:∀off bk,0<V.length→(mvP Bd V z r Ls 4 off 0 bk).1=(lnN Ls (gapL Bd V z Ls off bk).1).f
 fin:∀off bk,0<V.length→(mvP Bd V z r Ls 5 off 0 bk).1=(lnN Ls (gapL Bd V z Ls off bk).1).t
theorem steps_ok {s:ByteArray}{n:Nat}(hend:Dec.Ends s n){bs r:Int}{W Br Bd V:List Int}{Ls:List Ln}(F:Fine Bd V (s.size:Nat) Ls)(hK0:0<Ls.length)(h:0<V.length→Edges s n Br∧0<n∧(bs=0∨bs=1)∧Bd=bnd s n∧V=lvE s n bs Br∧Ls=lns s n bs W Br (Br.length+1)):StepsOk Bd V (s.size:Nat) r Ls:=by
 refine⟨fun off bk h0=>?_,fun off bk h0=>?_⟩
 ·obtain⟨E,hn,hb,rfl,rfl,rfl⟩:=h h0
  have hi:=(F.gap_in hK0 off bk).1;rw[lns_len]at hi;obtain⟨⟨a,ha,e⟩,_⟩:=st_ends (bs:=bs) (W:=W) hend E hi;exact st_home F.rs off bk ha e
 ·obtain⟨E,hn,hb,rfl,rfl,rfl⟩:=h h0
  have hi:=(F.gap_in hK0 off bk).1;rw[lns_len]at hi;obtain⟨_,⟨a,ha,e⟩⟩:=st_ends (bs:=bs) (W:=W) hend E hi;exact st_end F.rs off bk ha e
set_option maxRecDepth 10000 in
set_option maxHeartbeats 4000000 in
theorem steps_good (s:ByteArray)(b:Int)(vW vB:Value)(W Br:List Int)(n:Nat)(w:World)(hF:Floor w)(hend:Dec.Ends s n)(hW:slAd w vW W)(hB:slAd w vB Br)(hs:s.size≤4096)(hWl:W.length≤4096)(hBl:Br.length≤4096)(hck:chk s n (clsOf s n) b W Br=0) :
 Calls Tryz.prog 7 #[.agg #[.string s,.int .i64 b,vW,vB]] w fun e w'=>e=.returned (.bool true)∧Fr [] w w':=by
 obtain⟨Bd,V,X,r,bs,Cs,Ls,T,TT,F,hex,hBd,hrr⟩:=keep_two s b W Br n hend (by omega) hck;have HSO:=hid (steps_ok (r:=r) hend F T.l0 hex);obtain⟨aW,cW,rfl,_⟩:=id hW;obtain⟨aB,cB,rfl,_⟩:=id hB;obtain⟨wb,hwb⟩:∃wb,wb=w.alloc (.cells #[.string s,.int .i64 b,.slice aW W.length cW,.slice aB Br.length cB] 48):=⟨_,rfl⟩;have HFb:=hid (show Fr [] w wb by rw[hwb];exact(Fr.refl [] w).alloc _);have HOb:=hid (show wb.heap[w.heap.size]?=some (.cells #[.string s,.int .i64 b,.slice aW W.length cW,.slice aB Br.length cB] 48 (0,0)) by rw[hwb];exact obj_new w _);have HA:=hid (fun(Z:World) (hf:Fr [] w Z)=>alive_any Z (hF.fr hf));have HL:=hid (fun(Z:World) (hf:Fr [] w Z)=>laid_good s b _ _ W Br Z (hF.fr hf) (hW.fr hf) (hB.fr hf) hs hWl hBl Bd V X r bs Cs Ls T);have H38:=hid (fun(Z:World) (hf:Fr [] w Z)=>clusters38 s n Z hend (by omega) (hF.fr hf).t9);rw[←hBd]at H38;obtain⟨K,hK⟩:∃K,K=Ls.length:=⟨_,rfl⟩;obtain⟨L,hL⟩:∃L,L=Bd.length:=⟨_,rfl⟩;have HK:=hid hK;have HLL:=hid hL;rw[←hL]at H38;have hK0:0<K:=by rw[hK];exact T.l0
 have hK1:K≤400:=by rw[hK];exact T.l1
 have hL0:0<L:=by rw[hL,T.bd];omega
 have hL1:L≤401:=by have:=T.vl;rw[hL,T.bd];omega
 have HT:=hid T;have HTT:=hid TT;have HFF:=hid F;have HRR:=hid hrr;generalize W.length=nW at *;generalize Br.length=nB at *;clear hF hW hB T TT F hend hck hK hL hex hBd hrr;go_enter Tryz.func7,Tryz.ntmps7;go_wp2_with fail;rw[←hwb];clear hwb;refine(HA.out wb HFb.out).mono ?_;rintro e w1 ⟨rfl,hf1⟩;have HF1:=hid (HFb.out.trans hf1);have HO1:=hid (obj_fr HOb.out hf1 List.not_mem_nil);have c0:=obj_cell HO1.out (i:=0) (v:=.string s) rfl;have c1:=obj_cell HO1.out (i:=1) (v:=.int .i64 b) rfl;have c2:=obj_cell HO1.out (i:=2) (v:=.slice aW nW cW) rfl;have c3:=obj_cell HO1.out (i:=3) (v:=.slice aB nB cB) rfl;clear hf1 HA;go_wp2_with fail;refine(HL.out w1 HF1.out).mono ?_;rintro e w2 ⟨Q,P,v0,v1,v2,vL,hs2,rfl,hQ,_,⟨B,_,hLP⟩,hf2⟩;have HF2:=hid (HF1.out.trans hf2);have HKC:=hid (KC.of hQ hLP HFF.out (by omega) HTT.out HT.out.bd HT.out.vl HT.out.l0 HT.out.l1 HT.out.ll);have HKM:=hid (KM.of hQ hLP HFF.out (by omega) HTT.out HRR.out HT.out.bd HT.out.vl HT.out.l0 HT.out.l1 HT.out.ll)
 have HLN:=hid (fun(Z:World) (hf:Fr [] w2 Z)=>lay_lines Q P Z (obj_cell (obj_fr hQ hf List.not_mem_nil) rfl) (fun v w'=>∃hs',w'.ownsRow Z.heap.size 72 4 v K hs'∧lnsAt w' Z.heap.size w'.heap.size hs' Ls∧Fr [] Z w') (by
  have hLP:=hLP.fr hf (fun k hk=>absurd hk List.not_mem_nil)
  obtain⟨U,_,hn⟩:=hLP.n
  have hll:=hLP.l
  rw[←HK.out]at hll
  refine(lines56_any P K _ U v0 v1 v2 vL _ hs2 _ Z hLP.o hll hn hK0 (by omega) HK.out.symm HT.out.ll).mono ?_
  rintro e w' ⟨v,hs',rfl,h1,h2,_,h4⟩
  exact⟨v,rfl,hs',h1,h2,h4⟩))
 have k0:=obj_cell (obj_fr HO1.out hf2 List.not_mem_nil) (i:=0) (v:=.string s) rfl;clear hQ hLP hf2 HL c0 c1 c2 c3;go_wp2_with fail;refine(H38.out w2 HF2.out).mono ?_;rintro e w3 ⟨vb,rfl,own3,hf3⟩;obtain⟨gB,cB3,rfl⟩:=owns_shape hL0 own3;have HF3:=hid (HF2.out.trans hf3);have HK3:=hid hf3;have HB3:=hid own3;clear own3 hf3 H38 k0;go_wp2_with fail;have H39:=hid (HKM.out.place w3 HK3.out 0 false)
 rw[show placeL Bd (s.size:Nat) 0 false=(nth Bd 0,false) by
  have h:=place_bd HFF.out.rs (j:=0) (by rw[←HLL.out];exact hL0) false
  rw[if_pos rfl,rises_first HFF.out.rs]at h
  rw[rises_first HFF.out.rs];exact h]at H39
 refine H39.out.mono ?_;rintro e w4 ⟨rfl,hf4⟩;obtain⟨w5,hw5⟩:∃w5,w5=w4.alloc (.cells #[.int .i64 (nth Bd 0),.bool false] 35):=⟨_,rfl⟩;have HR5:=hid (show Fr [] w3 w5 by rw[hw5];exact hf4.alloc _);have HC5:=hid (show w5.heap[w4.heap.size]?=some (.cells #[.int .i64 (nth Bd 0),.bool false] 35 (0,0)) by rw[hw5];exact obj_new w4 _);have hcb:w3.heap.size≤w4.heap.size:=hf4.size;have HW5:=hid hw5;obtain⟨x0,hx0⟩:∃x0,x0=nth Bd 0:=⟨_,rfl⟩;have HX0:=hid hx0;rw[←hx0]at HW5 ⊢;clear hf4 hw5 H39 hx0;go_wp2_with fail;rw[←HW5.out];go_loopw [7] (fun a wr=>∃(i:Nat) (bk:Bool),a=.int .i64 i∧1≤i∧i≤L∧Hid (wr.heap[w4.heap.size]?=some (.cells #[.int .i64 (nth Bd (i - 1)),.bool bk] 35 (0,0)))∧Hid (Fr [] w3 wr)) (fun a _=>L - (intOf a).toNat)
 case atStart=>exact⟨1,false,rfl,Nat.le_refl _,hL0,hid HC5.out,hid HR5.out⟩
 case round =>
  obtain⟨i,bk,rfl,hi1,hiL,HCi,HR⟩:=hrel;by_cases hi:i<L
  ·obtain⟨p,rfl⟩:∃p,i=p+1:=⟨i - 1,by omega⟩
   rw[Nat.add_sub_cancel]at HCi;have hiI:((p+1:Nat):Int)<(L:Int):=by omega
   have HIi:=hid hi;have hpL:p+1<Bd.length:=by rw[←HLL.out];exact hi
   have hV0:0<V.length:=by have:=HT.out.bd;omega
   obtain⟨xp,hxp⟩:∃xp,xp=nth Bd p:=⟨_,rfl⟩;obtain⟨xn,hxn⟩:∃xn,xn=nth Bd (p+1):=⟨_,rfl⟩;rw[←hxp]at HCi;have HNE:=hid (show xp≠xn by rw[hxp,hxn];have:=rises_lt HFF.out.rs (show p<p+1 by omega) hpL;omega);have HM2:=hid (fun(Y:World) (hf:Fr [] w3 Y)=>HKM.out.move Y (HK3.out.trans hf) 2 xp bk (xn,true) (by rw[hxp,hxn,st_next HFF.out.rs hpL]));rw[show(!(decide (((xn,true):Int × Bool).1=(placeL Bd (s.size:Nat) xp bk).1∧((xn,true):Int × Bool).2=(placeL Bd (s.size:Nat) xp bk).2)))=true from flag_ne (by rw[hxp,place_bd HFF.out.rs (by omega),←hxp];exact fun e=>HNE.out e.symm)]at HM2;have HXP:=hid hxp;have HXN:=hid hxn;have c0:=obj_cell HCi.out (i:=0) (v:=.int .i64 xp) rfl;have c1:=obj_cell HCi.out (i:=1) (v:=.bool bk) rfl;clear hxp hxn;go_wp2_with fail;refine(HM2.out wr HR.out).mono ?_;rintro e w6 ⟨rfl,hf6⟩
   have HBW:=hid (show ∀Y,Fr [] w3 Y→∀t,t<L→Y.cell? ⟨gB,t,none⟩=some (.int .i64 (nth Bd t))from fun Y hf t ht=>by
    rw[(owns_fr0 HB3.out hf).cellAt _ (by omega)];exact ints64_at (by rw[←HLL.out];exact ht))
   have HR6:=hid (HR.out.trans hf6);have HC6:=hid (obj_fr HCi.out hf6 List.not_mem_nil);obtain⟨w7,hw7⟩:∃w7,w7=w6.alloc (.cells #[.int .i64 xn,.bool true] 35):=⟨_,rfl⟩;have HR7:=hid (show Fr [] w3 w7 by rw[hw7];exact HR6.out.alloc _);have HC7:=hid (show w7.heap[w4.heap.size]?=some (.cells #[.int .i64 xp,.bool bk] 35 (0,0)) by rw[hw7];exact obj_fr HC6.out ((Fr.refl [] _).alloc _) List.not_mem_nil);have HD7:=hid (show w7.heap[w6.heap.size]?=some (.cells #[.int .i64 xn,.bool true] 35 (0,0)) by rw[hw7];exact obj_new w6 _);have hcd:w4.heap.size<w6.heap.size:=obj_lt HC6.out;have b1:=HBW.out w7 HR7.out (p+1) hi;rw[←HXN.out]at b1;have d0:=obj_cell HD7.out (i:=0) (v:=.int .i64 xn) rfl;obtain⟨ea,eb,hR3⟩:∃ea eb,(ea,eb)=mvP Bd V (s.size:Nat) r Ls 3 xn 0 true:=⟨_,_,rfl⟩;have hea:ea=xp:=by
    have h:=st_prev (V:=V) (r:=r) (Ls:=Ls) HFF.out.rs hpL true;rw[←HXN.out,←hR3,←HXP.out]at h;exact h
   have HM3:=hid (fun(Y:World) (hf:Fr [] w3 Y)=>HKM.out.move Y (HK3.out.trans hf) 3 xn true (ea,eb) hR3);rw[show(!(decide (((ea,eb):Int × Bool).1=(placeL Bd (s.size:Nat) xn true).1∧((ea,eb):Int × Bool).2=(placeL Bd (s.size:Nat) xn true).2)))=true from flag_ne (by rw[HXN.out,place_bd HFF.out.rs hpL,←HXN.out];exact fun e=>HNE.out (hea.symm.trans e))]at HM3;subst hea;have HW7:=hid hw7;clear hf6 hw7 hR3 c0 c1 HM2;go_wp2_with fail;rw[←HW7.out];go_quiet (fail);obtain⟨wq,hwq⟩:∃wq,wq=w7.drewN nq:=⟨_,rfl⟩;have HQ7:=hid (show Fr [] w7 wq by rw[hwq];exact Fr.drewN (Fr.refl [] w7) _);rw[←hwq];have d0:=obj_cell (obj_fr HD7.out HQ7.out List.not_mem_nil) (i:=0) (v:=.int .i64 xn) rfl;have d1:=obj_cell (obj_fr HD7.out HQ7.out List.not_mem_nil) (i:=1) (v:=.bool true) rfl;clear hwq b1;go_wp2_with fail;refine(HM3.out wq (HR7.out.trans HQ7.out)).mono ?_;rintro e w8 ⟨rfl,hf8⟩;have HG8:=hid (HQ7.out.trans hf8);obtain⟨w9,hw9⟩:∃w9,w9=w8.alloc (.cells #[.int .i64 ea,.bool eb] 35):=⟨_,rfl⟩;have HG9:=hid (show Fr [] w7 w9 by rw[hw9];exact HG8.out.alloc _);have HE9:=hid (show w9.heap[w8.heap.size]?=some (.cells #[.int .i64 ea,.bool eb] 35 (0,0)) by rw[hw9];exact obj_new w8 _);have HW9:=hid hw9;have b0:=HBW.out w9 (HR7.out.trans HG9.out) p (by omega);rw[←HXP.out]at b0;have e0:=obj_cell HE9.out (i:=0) (v:=.int .i64 ea) rfl;have hsub:(((p+1:Nat):Int)) - 1=(p:Int):=by omega
   have hpI:(p:Int)<(L:Int):=by omega
   clear hf8 hw9 d0 d1 HM3;go_wp2_with fail;rw[←HW9.out];go_quiet (fail);obtain⟨wr9,hwr9⟩:∃wr9,wr9=w9.drewN nq:=⟨_,rfl⟩;have HQ9:=hid (show Fr [] w7 wr9 by rw[hwr9];exact Fr.drewN HG9.out _);rw[←hwr9];clear hwr9 b0 e0;go_wp2_with fail;have HR9:=hid (HR7.out.trans HQ9.out);refine(HLN.out wr9 (HK3.out.trans HR9.out)).mono ?_;rintro e w10 ⟨vN,rfl,hs',own10,hl10,hf10⟩;obtain⟨gN,cN,rfl⟩:=owns_shape hK0 own10;have HN:=hid own10;have HNL:=hid hl10;have HG10:=hid (HQ9.out.trans hf10);obtain⟨gi,gk,hgg⟩:∃gi gk,gapL Bd V (s.size:Nat) Ls xn true=(gi,gk):=⟨_,_,rfl⟩;have hgi:gi<K:=by
    have h:=(HFF.out.gap_in HT.out.l0 xn true).1;rw[hgg]at h;rw[HK.out];exact h
   obtain⟨ha,hb,hR4⟩:∃ha hb,(ha,hb)=mvP Bd V (s.size:Nat) r Ls 4 xn 0 true:=⟨_,_,rfl⟩;obtain⟨ka,kb,hR5⟩:∃ka kb,(ka,kb)=mvP Bd V (s.size:Nat) r Ls 5 xn 0 true:=⟨_,_,rfl⟩
   have HHA:=hid (show ha=(lnN Ls gi).f by
    have h:=HSO.out.home xn true hV0
    rw[←hR4,hgg]at h
    exact h)
   have HKA:=hid (show ka=(lnN Ls gi).t by
    have h:=HSO.out.fin xn true hV0
    rw[←hR5,hgg]at h
    exact h)
   obtain⟨m4,hm4⟩:∃m4,m4=(!(decide (((ha,hb):Int × Bool).1=(placeL Bd (s.size:Nat) xn true).1∧((ha,hb):Int × Bool).2=(placeL Bd (s.size:Nat) xn true).2))):=⟨_,rfl⟩;obtain⟨m5,hm5⟩:∃m5,m5=(!(decide (((ka,kb):Int × Bool).1=(placeL Bd (s.size:Nat) xn true).1∧((ka,kb):Int × Bool).2=(placeL Bd (s.size:Nat) xn true).2))):=⟨_,rfl⟩;have HM4:=hid (fun(Y:World) (hf:Fr [] w7 Y)=>HKM.out.move Y (HK3.out.trans (HR7.out.trans hf)) 4 xn true (ha,hb) hR4);have HM5:=hid (fun(Y:World) (hf:Fr [] w7 Y)=>HKM.out.move Y (HK3.out.trans (HR7.out.trans hf)) 5 xn true (ka,kb) hR5);rw[←hm4]at HM4;rw[←hm5]at HM5;have H36:=hid (HKC.out.gap w10 (HK3.out.trans (HR7.out.trans HG10.out)) xn true);rw[hgg]at H36;have d0:=obj_cell (obj_fr HD7.out HG10.out List.not_mem_nil) (i:=0) (v:=.int .i64 xn) rfl;have d1:=obj_cell (obj_fr HD7.out HG10.out List.not_mem_nil) (i:=1) (v:=.bool true) rfl;clear own10 hl10 hgg hR4 hR5 hm4 hm5;go_wp2_with fail;refine H36.out.mono ?_;rintro e w11 ⟨rfl,hf11⟩;have HN11:=hid (hf10.trans hf11);have HM11:=hid hf11;have HG11:=hid (HG10.out.trans hf11);obtain⟨w12,hw12⟩:∃w12,w12=w11.alloc (.cells #[.int .i64 (gi:Nat),.int .i64 (gk:Nat)] 37):=⟨_,rfl⟩;have HB12:=hid (show Fr [] w11 w12 by rw[hw12];exact(Fr.refl [] _).alloc _);have HG12:=hid (HG11.out.trans HB12.out);have HO12:=hid (show w12.heap[w11.heap.size]?=some (.cells #[.int .i64 (gi:Nat),.int .i64 (gk:Nat)] 37 (0,0)) by rw[hw12];exact obj_new w11 _);have d2:=obj_cell (obj_fr HD7.out HG12.out List.not_mem_nil) (i:=0) (v:=.int .i64 xn) rfl;have d3:=obj_cell (obj_fr HD7.out HG12.out List.not_mem_nil) (i:=1) (v:=.bool true) rfl;have HW12:=hid hw12;rw[hw12]at d2 d3;clear hf10 hf11 hw12 H36 d0 d1;go_wp2_with fail;rw[←HW12.out];refine(HM4.out w12 HG12.out).mono ?_;rintro e w13 ⟨rfl,hf13⟩;obtain⟨w14,hw14⟩:∃w14,w14=w13.alloc (.cells #[.int .i64 ha,.bool hb] 35):=⟨_,rfl⟩;have HB14:=hid (show Fr [] w12 w14 by rw[hw14];exact hf13.alloc _);have HG14:=hid (HG12.out.trans HB14.out);have HO14:=hid (show w14.heap[w13.heap.size]?=some (.cells #[.int .i64 ha,.bool hb] 35 (0,0)) by rw[hw14];exact obj_new w13 _);have d4:=obj_cell (obj_fr HD7.out HG14.out List.not_mem_nil) (i:=0) (v:=.int .i64 xn) rfl;have d5:=obj_cell (obj_fr HD7.out HG14.out List.not_mem_nil) (i:=1) (v:=.bool true) rfl;have HW14:=hid hw14;rw[hw14]at d4 d5;clear hf13 hw14 d2 d3 HM4;go_wp2_with fail;rw[←HW14.out];refine(HM5.out w14 HG14.out).mono ?_;rintro e w15 ⟨rfl,hf15⟩;obtain⟨w16,hw16⟩:∃w16,w16=w15.alloc (.cells #[.int .i64 ka,.bool kb] 35):=⟨_,rfl⟩;have HB16:=hid (show Fr [] w14 w16 by rw[hw16];exact hf15.alloc _);have HG16:=hid (HG14.out.trans HB16.out);have HO16:=hid (show w16.heap[w15.heap.size]?=some (.cells #[.int .i64 ka,.bool kb] 35 (0,0)) by rw[hw16];exact obj_new w15 _);have HW16:=hid hw16;have HX16:=hid (show Fr [] w10 w16 from HM11.out.trans (HB12.out.trans (HB14.out.trans HB16.out)));have hl:=HN.out.1;obtain⟨vO,vX,a1,a2,_⟩:=HNL.out gi _ (lnN_get' (by rw[←HK.out];exact hgi));have n0:w16.cell? ⟨gN,gi * 4,none⟩=some (.int .i64 ha):=by rw[(owns_fr0 HN.out HX16.out).cellAt _ (by omega),HHA.out];exact a1
   have n1:w16.cell? ⟨gN,gi * 4+1,none⟩=some (.int .i64 ka):=by rw[(owns_fr0 HN.out HX16.out).cellAt _ (by omega),HKA.out];exact a2
   have g0:=obj_cell (obj_fr HO12.out (HB14.out.trans HB16.out) List.not_mem_nil) (i:=0) (v:=.int .i64 (gi:Nat)) rfl;have h0:=obj_cell (obj_fr HO14.out HB16.out List.not_mem_nil) (i:=0) (v:=.int .i64 ha) rfl;have k0:=obj_cell HO16.out (i:=0) (v:=.int .i64 ka) rfl;have hgI:(gi:Int)<(K:Int):=by omega
   clear hf15 hw16 d4 d5 HM5 a1 a2 hl;go_wp2_with fail;rw[←HW16.out];go_quiet (fail);obtain⟨w17,hw17⟩:∃w17,w17=w16.drewN nq:=⟨_,rfl⟩;have HG17:=hid (show Fr [] w7 w17 by rw[hw17];exact Fr.drewN HG16.out _);rw[←hw17];have d6:=obj_cell (obj_fr HD7.out HG17.out List.not_mem_nil) (i:=0) (v:=.int .i64 xn) rfl;have d7:=obj_cell (obj_fr HD7.out HG17.out List.not_mem_nil) (i:=1) (v:=.bool true) rfl;have HC17:=hid (obj_fr HC7.out HG17.out List.not_mem_nil);have c0:=obj_cell HC17.out (i:=0) (v:=.int .i64 ea) rfl;have c1:=obj_cell HC17.out (i:=1) (v:=.bool bk) rfl;have f0:=obj_froz HC17.out 0;have f1:=obj_froz HC17.out 1;clear hw17 n0 n1 g0 h0 k0;go_wp2;refine⟨⟨p+1+1,true,by go_num,by omega,HIi.out,hid ?_,hid ?_⟩,by simp[intOf];have:=HIi.out;omega⟩
   ·rw[Nat.add_sub_cancel,←HXN.out]
    exact obj_set (obj_set HC17.out 0 _) 1 _
   ·exact Fr.set_new (Fr.set_new (HR7.out.trans HG17.out) hcb) hcb
  ·obtain rfl:i=L:=by omega
   have hid2:decide ((i:Int)<(i:Int))=false:=by simp
   obtain⟨xp,hxp⟩:∃xp,xp=nth Bd (i - 1):=⟨_,rfl⟩;rw[←hxp]at HCi;obtain⟨ra,rb,hR⟩:∃ra rb,(ra,rb)=mvP Bd V (s.size:Nat) r Ls 2 xp 0 bk:=⟨_,_,rfl⟩;have HM:=hid (HKM.out.move wr (HK3.out.trans HR.out) 2 xp bk (ra,rb) hR)
   rw[show(!(decide (((ra,rb):Int × Bool).1=(placeL Bd (s.size:Nat) xp bk).1∧((ra,rb):Int × Bool).2=(placeL Bd (s.size:Nat) xp bk).2)))=false by
    have h:=st_last (V:=V) (r:=r) (Ls:=Ls) HFF.out.rs (by rw[←HLL.out];exact hL0) bk
    rw[←HLL.out,←hxp,←hR]at h
    rw[←h]
    simp]at HM
   have c0:=obj_cell HCi.out (i:=0) (v:=.int .i64 xp) rfl;have c1:=obj_cell HCi.out (i:=1) (v:=.bool bk) rfl;clear hxp hR;go_wp2_with fail;refine HM.out.mono ?_;rintro e w6 ⟨rfl,hf6⟩;have HF6:=hid (HF3.out.trans (HR.out.trans hf6));clear hf6 HM c0 c1;go_wp2;go_ret;exact⟨rfl,HF6.out.alloc _⟩
set_option maxRecDepth 10000 in
set_option maxHeartbeats 4000000 in
theorem steps_none (s:ByteArray)(b:Int)(aW aB:Option Addr)(nW cW nB cB:Nat)(w:World)(hF:Floor w)
 (hL:∀Z,Fr [] w Z→Calls Tryz.prog 30 #[.agg #[.string s,.int .i64 b,.slice aW nW cW,.slice aB nB cB]] Z fun e w'=>e=.returned (.pointer none)∧Fr [] Z w') :
 Calls Tryz.prog 7 #[.agg #[.string s,.int .i64 b,.slice aW nW cW,.slice aB nB cB]] w fun e w'=>e=.returned (.bool true)∧Fr [] w w':=by
 obtain⟨wb,hwb⟩:∃wb,wb=w.alloc (.cells #[.string s,.int .i64 b,.slice aW nW cW,.slice aB nB cB] 48):=⟨_,rfl⟩;have HFb:=hid (show Fr [] w wb by rw[hwb];exact(Fr.refl [] w).alloc _);have HOb:=hid (show wb.heap[w.heap.size]?=some (.cells #[.string s,.int .i64 b,.slice aW nW cW,.slice aB nB cB] 48 (0,0)) by rw[hwb];exact obj_new w _);have HA:=hid (fun(Z:World) (hf:Fr [] w Z)=>alive_any Z (hF.fr hf));have HL:=hid hL;clear hF hL;go_enter Tryz.func7,Tryz.ntmps7;go_wp2_with fail;rw[←hwb];clear hwb;refine(HA.out wb HFb.out).mono ?_;rintro e w1 ⟨rfl,hf1⟩;have HF1:=hid (HFb.out.trans hf1);have HO1:=hid (obj_fr HOb.out hf1 List.not_mem_nil);have c0:=obj_cell HO1.out (i:=0) (v:=.string s) rfl;have c1:=obj_cell HO1.out (i:=1) (v:=.int .i64 b) rfl;have c2:=obj_cell HO1.out (i:=2) (v:=.slice aW nW cW) rfl;have c3:=obj_cell HO1.out (i:=3) (v:=.slice aB nB cB) rfl;clear hf1 HA;go_wp2_with fail;refine(HL.out w1 HF1.out).mono ?_;rintro e w2 ⟨rfl,hf2⟩;have HF2:=hid (HF1.out.trans hf2);clear hf2 c0 c1 c2 c3 HL;go_wp2;go_ret;exact⟨rfl,HF2.out⟩
theorem steps_any (s:ByteArray)(b:Int)(vW vB:Value)(W Br:List Int)(w:World)(hF:Floor w)(hW:slAd w vW W)(hB:slAd w vB Br) :
 Calls Tryz.prog 7 #[.agg #[.string s,.int .i64 b,vW,vB]] w fun e w'=>e=.returned (.bool true)∧Fr [] w w':=by
 obtain⟨aW,cW,rfl,_⟩:=id hW;obtain⟨aB,cB,rfl,_⟩:=id hB;by_cases h:∃n,Dec.Ends s n∧(s.size≤4096∧W.length≤4096∧Br.length≤4096)∧chk s n (clsOf s n) b W Br=0
 ·obtain⟨n,hend,hf,hck⟩:=h
  exact steps_good s b _ _ W Br n w hF hend hW hB hf.1 hf.2.1 hf.2.2 hck
 ·refine steps_none s b aW aB W.length cW Br.length cB w hF (fun Z hf=>laid_none s b aW aB cW cB W Br Z (hF.fr hf) (hW.fr hf) (hB.fr hf) (fun n hend hl hck=>h ⟨n,hend,hl,hck⟩))
end Go.Proofs.YtnakejhohdbfdabGreatDoor
