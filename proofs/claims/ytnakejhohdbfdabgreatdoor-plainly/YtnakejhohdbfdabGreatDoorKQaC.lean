import Derived.Test.YtnakejhohdbfdabGreatDoorKPwK
namespace Go.Proofs.YtnakejhohdbfdabGreatDoor
open Go.RowKit Lev Lay Bnd
set_option maxRecDepth 10000 in
set_option maxHeartbeats 2000000 in
theorem side_any (Bd V:List Int)(gB cB nB gV nV cV c:Nat)(v2:Value)(right:Bool)(w:World)(hc:c<nV)(hn:nB=nV+1)(hB:rowAt w gB nB Bd)(hV:rowAt w gV nV V)(h0:0≤nth V c)(hn1:nV≤1000) :
 Calls Tryz.prog 149 #[.agg #[.slice (some ⟨gB,0,none⟩) nB cB,.slice (some ⟨gV,0,none⟩) nV cV,v2],.int .i64 (c:Nat),.bool right] w fun e w'=>e=.returned (.agg #[.int .i64 (sideP Bd V c right).1,.bool (sideP Bd V c right).2])∧Fr [] w w':=by
 obtain⟨w2,hw2⟩:∃w2,w2=(w.alloc (.cells #[.slice (some ⟨gB,0,none⟩) nB cB,.slice (some ⟨gV,0,none⟩) nV cV,v2] 207)).alloc (.cells #[.int .i64 0,.bool false] 35):=⟨_,rfl⟩;have HF2:=hid (show Fr [] w w2 by rw[hw2];exact((Fr.refl [] w).alloc _).alloc _);have HO1:=hid (show w2.heap[w.heap.size]?=some (.cells #[.slice (some ⟨gB,0,none⟩) nB cB,.slice (some ⟨gV,0,none⟩) nV cV,v2] 207 (0,0)) by rw[hw2];exact obj_fr (obj_new w _) ((Fr.refl [] _).alloc _) List.not_mem_nil)
 have HO2:=hid (show w2.heap[w.heap.size+1]?=some (.cells #[.int .i64 0,.bool false] 35 (0,0)) by
  have h:=obj_new (w.alloc (.cells #[.slice (some ⟨gB,0,none⟩) nB cB,.slice (some ⟨gV,0,none⟩) nV cV,v2] 207)) (.cells #[.int .i64 0,.bool false] 35)
  rw[←hw2]at h;simpa using h)
 have H105:=hid (left_any V gV nV cV c (.slice (some ⟨gB,0,none⟩) nB cB) v2 w2 hc (hV.fr HF2.out List.not_mem_nil) h0);have HB:=hid hB;obtain⟨x,y,hxy⟩:∃x y,sideP Bd V c right=(x,y):=⟨_,_,rfl⟩;have HXY:=hid hxy;rw[hxy];have k0:=obj_cell HO1.out (i:=0) (v:=.slice (some ⟨gB,0,none⟩) nB cB) rfl;have k1:=obj_cell HO1.out (i:=1) (v:=.slice (some ⟨gV,0,none⟩) nV cV) rfl;have k2:=obj_cell HO1.out (i:=2) (v:=v2) rfl;have HN:=hid hn;have hb1:c<nB∧c+1<nB:=by omega
 clear hB hV hxy h0 hn;go_enter Tryz.func149,Tryz.ntmps149;go_wp2_with fail;rw[←hw2];clear hw2;refine H105.out.mono ?_;rintro e w3 ⟨rfl,hf3⟩;have HF3:=hid (HF2.out.trans hf3);have HO13:=hid (obj_fr HO1.out hf3 List.not_mem_nil);have HO23:=hid (obj_fr HO2.out hf3 List.not_mem_nil);clear k0 k1 k2 hf3 H105;have k0:=obj_cell HO13.out (i:=0) (v:=.slice (some ⟨gB,0,none⟩) nB cB) rfl;have z0:=obj_cell HO23.out (i:=0) (v:=.int .i64 0) rfl;have z1:=obj_cell HO23.out (i:=1) (v:=.bool false) rfl;have f0:=obj_froz HO23.out 0;have f1:=obj_froz HO23.out 1;have c0:=HF3.out.cell (HB.out c hb1.1) List.not_mem_nil;have c1:=HF3.out.cell (HB.out (c+1) hb1.2) List.not_mem_nil;have hcI:(c:Int)<(nB:Int):=by omega
 have hcI2:(c:Int)+1<(nB:Int):=by omega
 have hS:right=(nth V c % 2 == 1)→x=nth Bd c∧y=false:=fun h=>by
  have e:=HXY.out;rw[sideP,if_pos h]at e;cases e;exact⟨rfl,rfl⟩
 have hS':¬right=(nth V c % 2 == 1)→x=nth Bd (c+1)∧y=true:=fun h=>by
  have e:=HXY.out;rw[sideP,if_neg h]at e;cases e;exact⟨rfl,rfl⟩
 have HEND:=hid (fun(x:Int) (y:Bool)=>(show((w3.setCell ⟨w.heap.size+1,0,none⟩ (.int .i64 x)).setCell ⟨w.heap.size+1,1,none⟩ (.bool y)).heap[w.heap.size+1]?=some (.cells #[.int .i64 x,.bool y] 35 (0,0))from obj_set (obj_set HO23.out 0 _) 1 _));have HFE:=hid (fun(x:Int) (y:Bool)=>(show Fr [] w ((w3.setCell ⟨w.heap.size+1,0,none⟩ (.int .i64 x)).setCell ⟨w.heap.size+1,1,none⟩ (.bool y))from HF3.out.behind ((fr_set1 _ _ _ _).set (List.mem_singleton.2 rfl) _) (fun k hk=>by rw[List.mem_singleton.1 hk];omega)));generalize (nth V c % 2 == 1)=od at *;generalize nth Bd c=y0 at *;generalize nth Bd (c+1)=y1 at *;clear hb1;by_cases hr:right=od
 ·obtain⟨rfl,rfl⟩:=hS hr
  subst hr;clear hS hS' HXY;go_wp2_with fail;refine bodyPost_ret (results_cell_row (t:=35) (fr:=(0,0)) rfl _ _ (w.heap.size+1) _ _ rfl (HEND.out _ _) Tryz.underlying35 rfl (by kernel_rfl)) rfl ?_;exact⟨rfl,HFE.out _ _⟩
 ·obtain⟨rfl,rfl⟩:=hS' hr
  have hr2:(right == od)=false:=by simpa using hr
  clear hS hS' HXY;go_wp2_with fail;refine bodyPost_ret (results_cell_row (t:=35) (fr:=(0,0)) rfl _ _ (w.heap.size+1) _ _ rfl (HEND.out _ _) Tryz.underlying35 rfl (by kernel_rfl)) rfl ?_;exact⟨rfl,HFE.out _ _⟩
theorem near_nat {x:Int}{m:Nat}:∃k:Nat,near x (m:Int)=(k:Int)∧k≤m:=by
 have h:=near_in (x:=x) (hi:=(m:Int)) (by omega);exact⟨(near x m).toNat,by omega,by omega⟩
theorem lnN_get {Ls:List Ln}{i:Nat}(h:i<Ls.length):Ls[i]?=some (lnN Ls i):=by rw[lnN,List.getElem?_eq_getElem h];rfl
set_option maxRecDepth 10000 in
set_option maxHeartbeats 4000000 in
theorem normP_any (B P:Nat)(Bd V X:List Int)(r:Int)(Ls:List Ln)(v0 v1 v2 vL:Value)(hs:List Value)(line gap:Int)(w:World)(h:LP w B P Bd V X r Ls v0 v1 v2 vL hs)(T:Tame Bd V Ls)(hbd:Bd.length=V.length+1)(hv4:V.length≤400)(hK0:0<Ls.length)(hK:Ls.length≤400)(hlo:∀l∈Ls,l.o.length≤1000) :
 Calls Tryz.prog 83 #[.pointer (some ⟨P,0,none⟩),.agg #[.int .i64 line,.int .i64 gap]] w fun e w'=>e=.returned (.agg #[.int .i64 (normP Bd V Ls line gap).1,.bool (normP Bd V Ls line gap).2])∧Fr [] w w':=by
 obtain⟨i,hi,hiK⟩:=near_nat (x:=line) (m:=Ls.length - 1);have hi':near line ((Ls.length:Int) - 1)=(i:Int):=by rw[←hi];congr 1;omega
 have hil:i<Ls.length:=by omega
 obtain⟨k,hk,hkl⟩:=near_nat (x:=gap) (m:=(lnN Ls i).o.length)
 have HNP:=hid (show normP Bd V Ls line gap=if(lnN Ls i).o.length=0 then(0,false)else if k=0 then sideP Bd V (nix (lnN Ls i).o 0) false else sideP Bd V (nix (lnN Ls i).o (k - 1)) true by
  unfold normP;dsimp only;rw[hi',Int.toNat_natCast,hk,Int.toNat_natCast])
 obtain⟨U,_,hn⟩:=h.n;obtain⟨vO,vX,_,_,a3,_,a5,_⟩:=hn i _ (lnN_get hil);obtain⟨gL,cL,hvL⟩:=owns_shape hK0 h.l;subst hvL;obtain⟨aO,cO,hvO⟩:=owns_slice a5;subst hvO;have hob:=T.ob _ (lnN_mem hil);have hlo1:=hlo _ (lnN_mem hil);have H106:=hid (fun Y:World=>nearL_any (some ⟨gL,0,none⟩) Ls.length cL line Y hK0 (by omega));have H107:=hid (fun Y:World=>nearP_any gap (((lnN Ls i).o.length:Nat):Int) Y (by omega));rw[hi']at H106;rw[hk]at H107;have HVB:=hid T.vb;have HVO:=hid a5;have HLP:=hid h;have HOB:=hid hob;have c3:w.cell? ⟨gL,i * 4+2,none⟩=some (.slice aO (lnN Ls i).o.length cO):=by rw[h.l.cellAt _ (by omega)];exact a3
 have p3:=obj_cell h.o (i:=3) (v:=.slice (some ⟨gL,0,none⟩) Ls.length cL) rfl;have hPl:=obj_lt h.o;have hgl:=World.block_lt_of_cell? _ _ c3;dsimp only at hgl;obtain⟨x,y,hxy⟩:∃x y,normP Bd V Ls line gap=(x,y):=⟨_,_,rfl⟩;rw[hxy]at HNP ⊢;obtain⟨o,ho⟩:∃o,o=(lnN Ls i).o:=⟨_,rfl⟩;rw[←ho]at HNP HVO H107 HOB c3 hkl hlo1;obtain⟨lo,hlo'⟩:∃lo,lo=o.length:=⟨_,rfl⟩;have HLO:=hid hlo';rw[←hlo']at HNP HVO H107 c3 hkl hlo1;obtain⟨K,hK'⟩:∃K,K=Ls.length:=⟨_,rfl⟩;rw[←hK']at H106 p3 hK0 hK hil;obtain⟨w2,hw2⟩:∃w2,w2=(w.alloc (.cells #[.int .i64 line,.int .i64 gap] 37)).alloc (.cells #[.int .i64 0,.bool false] 35):=⟨_,rfl⟩;have HF2:=hid (show Fr [] w w2 by rw[hw2];exact((Fr.refl [] w).alloc _).alloc _);have HO1:=hid (show w2.heap[w.heap.size]?=some (.cells #[.int .i64 line,.int .i64 gap] 37 (0,0)) by rw[hw2];exact obj_fr (obj_new w _) ((Fr.refl [] _).alloc _) List.not_mem_nil)
 have HO2:=hid (show w2.heap[w.heap.size+1]?=some (.cells #[.int .i64 0,.bool false] 35 (0,0)) by
  have h:=obj_new (w.alloc (.cells #[.int .i64 line,.int .i64 gap] 37)) (.cells #[.int .i64 0,.bool false] 35)
  rw[←hw2]at h;simpa using h)
 have HP2:=hid (HF2.out.cell p3 List.not_mem_nil);have HC2:=hid (HF2.out.cell c3 List.not_mem_nil);have hiI:(i:Int)<(K:Int):=by omega
 have HBD:=hid hbd;clear h T hbd hn a3 a5 hi hi' hk hxy ho hlo' hK' hob hlo c3 p3;go_enter Tryz.func83,Tryz.ntmps83;go_wp2_with fail;rw[←hw2];clear hw2;have b0:=obj_cell HO1.out (i:=0) (v:=.int .i64 line) rfl;have b1:=obj_cell HO1.out (i:=1) (v:=.int .i64 gap) rfl;have p3:=HP2.out;have c3:=HC2.out;go_quiet (first | (go_at_call 147;exact Calls.quiet_of_same (H106.out _)));have z0:=obj_cell HO2.out (i:=0) (v:=.int .i64 0) rfl;have z1:=obj_cell HO2.out (i:=1) (v:=.bool false) rfl;have f0:=obj_froz HO2.out 0;have f1:=obj_froz HO2.out 1;have HEND:=hid (fun(Y:World) (hY:Y.heap[w.heap.size+1]?=some (.cells #[.int .i64 0,.bool false] 35 (0,0))) (x:Int) (y:Bool)=>(show((Y.setCell ⟨w.heap.size+1,0,none⟩ (.int .i64 x)).setCell ⟨w.heap.size+1,1,none⟩ (.bool y)).heap[w.heap.size+1]?=some (.cells #[.int .i64 x,.bool y] 35 (0,0))from obj_set (obj_set hY 0 _) 1 _));have HFE:=hid (fun(Y:World) (hY:Fr [] w Y) (x:Int) (y:Bool)=>(show Fr [] w ((Y.setCell ⟨w.heap.size+1,0,none⟩ (.int .i64 x)).setCell ⟨w.heap.size+1,1,none⟩ (.bool y))from hY.behind ((fr_set1 _ _ _ _).set (List.mem_singleton.2 rfl) _) (fun k hk=>by rw[List.mem_singleton.1 hk];omega)));by_cases hl0:lo=0
 ·subst hl0
  have HXY:=hid (show(x,y)=((0:Int),false) by rw[HNP.out,if_pos rfl]);obtain⟨rfl,rfl⟩:=Prod.mk.inj HXY.out;clear HNP HXY;go_wp2_with (first | (go_at_call 148;refine(H107.out _).mono ?_;rintro e w' ⟨rfl,rfl⟩));refine bodyPost_ret (results_cell_row (t:=35) (fr:=(0,0)) rfl _ _ (w.heap.size+1) _ _ rfl (HEND.out _ ?h1 _ _) Tryz.underlying35 rfl (by kernel_rfl)) rfl ?_
  case h1=>exact HO2.out
  exact⟨rfl,HFE.out (w2.drewN nq) (HF2.out.trans (fr_drewN _ _)) _ _⟩
 ·have hl0':((lo:Nat):Int)≠0:=by omega
  have hl0b:(((lo:Nat):Int) == 0)=false:=by simp;omega
  obtain⟨gO,cO',hvO⟩:=owns_shape (by omega) HVO.out;cases hvO;have hvp:0<V.length:=by
   have:=HOB.out (nix o 0) (nix_mem (by rw[←HLO.out];omega));omega
  obtain⟨gB,cB,rfl,_,rB⟩:=HLP.out.b.row (by rw[HBD.out];omega);obtain⟨gV,cV,rfl,_,rV⟩:=HLP.out.v.row hvp;have HRB:=hid (rB.fr HF2.out List.not_mem_nil);have HRV:=hid (rV.fr HF2.out List.not_mem_nil);obtain⟨aX,cX,hvX,_⟩:=id HLP.out.x;subst hvX;have HPO:=hid (obj_fr HLP.out.o HF2.out List.not_mem_nil);have q0:=obj_cell HPO.out (i:=0) (v:=.slice (some ⟨gB,0,none⟩) Bd.length cB) rfl;have q1:=obj_cell HPO.out (i:=1) (v:=.slice (some ⟨gV,0,none⟩) V.length cV) rfl;have q2:=obj_cell HPO.out (i:=2) (v:=.slice aX X.length cX) rfl;have HSD:=hid (fun(c:Nat) (right:Bool) (Y:World) (hf:Fr [] w2 Y) (hc:c<V.length)=>side_any Bd V gB cB Bd.length gV V.length cV c (.slice aX X.length cX) right Y hc HBD.out (HRB.out.fr hf List.not_mem_nil) (HRV.out.fr hf List.not_mem_nil) (HVB.out c).1 (by omega));have HVO2:=hid (owns_fr0 HVO.out HF2.out);clear rB rV;by_cases hk0:k=0
  ·subst hk0
   have HXY:=hid (show(x,y)=sideP Bd V (nix o 0) false by rw[HNP.out,if_neg hl0,if_pos rfl]);have d0:w2.cell? ⟨gO,0,none⟩=some (.int .i64 (nix o 0:Nat)):=by rw[HVO2.out.cellAt 0 (by omega)];exact intsN_at (by rw[←HLO.out];omega)
   have HC:=hid (HOB.out (nix o 0) (nix_mem (by rw[←HLO.out];omega)));have hlp:(0:Int)<(lo:Int):=by omega
   have H108:=hid (fun(Y:World) (hf:Fr [] w2 Y)=>HSD.out (nix o 0) false Y hf HC.out);rw[←HXY.out]at H108;dsimp only at H108;generalize nix o 0=c0 at *;clear HNP HXY;go_wp2_with (first | (go_at_call 148;refine(H107.out _).mono ?_;rintro e w' ⟨rfl,rfl⟩));go_region_with (first | (go_at_call 149;refine(H108.out _ ?_).mono ?_;exact frz _ _ _ rfl rfl rfl rfl;rintro e w4 ⟨rfl,hf4⟩;have hf4':Fr [] w2 w4:=⟨hf4.os,hf4.tape,hf4.output,hf4.size,hf4.block⟩;have HF4:=hid hf4';have HO24:=hid (obj_fr HO2.out hf4' List.not_mem_nil);have y0:=obj_cell HO24.out (i:=0) (v:=.int .i64 0) rfl;have y1:=obj_cell HO24.out (i:=1) (v:=.bool false) rfl;have g0:=obj_froz HO24.out 0;have g1:=obj_froz HO24.out 1;clear hf4 hf4'))
   all_goals (
    go_wp2_with fail
    refine bodyPost_ret (results_cell_row (t:=35) (fr:=(0,0)) rfl _ _ (w.heap.size+1) _ _ rfl (HEND.out _ ?h1 _ _) Tryz.underlying35 rfl (by kernel_rfl)) rfl ?_
    case h1=>exact HO24.out
    exact⟨rfl,HFE.out w4 (HF2.out.trans HF4.out) _ _⟩)
  ·have hk0':((k:Nat):Int)≠0:=by omega
   have hk0b:(((k:Nat):Int) == 0)=false:=by simp;omega
   have HXY:=hid (show(x,y)=sideP Bd V (nix o (k - 1)) true by rw[HNP.out,if_neg hl0,if_neg hk0]);have hkl':k - 1<lo:=by omega
   have d0:w2.cell? ⟨gO,k - 1,none⟩=some (.int .i64 (nix o (k - 1):Nat)):=by rw[HVO2.out.cellAt (k - 1) (by omega)];exact intsN_at (by rw[←HLO.out];omega)
   have HC:=hid (HOB.out (nix o (k - 1)) (nix_mem (by rw[←HLO.out];omega)));have H108:=hid (fun(Y:World) (hf:Fr [] w2 Y)=>HSD.out (nix o (k - 1)) true Y hf HC.out);rw[←HXY.out]at H108;dsimp only at H108;obtain⟨k1,hk1⟩:∃k1,k1=k - 1:=⟨_,rfl⟩;rw[←hk1]at d0 H108 HC HXY hkl';have hw1:IntKind.i64.wrap ((k:Int) - 1)=(k1:Int):=by rw[IntKind.wrap_i64];omega
   have hk1I:(k1:Int)<(lo:Int):=by omega
   generalize nix o k1=c0 at *;clear HNP HXY hk1;go_wp2_with (first | (go_at_call 148;refine(H107.out _).mono ?_;rintro e w' ⟨rfl,rfl⟩));go_region_with (first | (go_at_call 149;refine(H108.out _ ?_).mono ?_;exact frz _ _ _ rfl rfl rfl rfl;rintro e w4 ⟨rfl,hf4⟩;have hf4':Fr [] w2 w4:=⟨hf4.os,hf4.tape,hf4.output,hf4.size,hf4.block⟩;have HF4:=hid hf4';have HO24:=hid (obj_fr HO2.out hf4' List.not_mem_nil);have y0:=obj_cell HO24.out (i:=0) (v:=.int .i64 0) rfl;have y1:=obj_cell HO24.out (i:=1) (v:=.bool false) rfl;have g0:=obj_froz HO24.out 0;have g1:=obj_froz HO24.out 1;clear hf4 hf4'))
   all_goals (
    go_wp2_with fail
    refine bodyPost_ret (results_cell_row (t:=35) (fr:=(0,0)) rfl _ _ (w.heap.size+1) _ _ rfl (HEND.out _ ?h1 _ _) Tryz.underlying35 rfl (by kernel_rfl)) rfl ?_
    case h1=>exact HO24.out
    exact⟨rfl,HFE.out w4 (HF2.out.trans HF4.out) _ _⟩)
set_option maxRecDepth 10000 in
set_option maxHeartbeats 4000000 in
theorem hitP_any (B P:Nat)(Bd V X:List Int)(r:Int)(Ls:List Ln)(v0 v1 v2 vL:Value)(hs:List Value)(line x:Int)(w:World)(h:LP w B P Bd V X r Ls v0 v1 v2 vL hs)(T:Tame Bd V Ls)(hbd:Bd.length=V.length+1)(hv4:V.length≤400)(hK0:0<Ls.length)(hK:Ls.length≤400)(hlo:∀l∈Ls,l.o.length≤1000) :
 Calls Tryz.prog 88 #[.pointer (some ⟨P,0,none⟩),.int .i64 line,.int .i64 x] w fun e w'=>e=.returned (.agg #[.int .i64 (hitP Bd V Ls line x).1,.bool (hitP Bd V Ls line x).2])∧Fr [] w w':=by
 obtain⟨i,hi,hiK⟩:=near_nat (x:=line) (m:=Ls.length - 1);have hi':near line ((Ls.length:Int) - 1)=(i:Int):=by rw[←hi];congr 1;omega
 have hil:i<Ls.length:=by omega
 have hmem:=lnN_mem hil
 have HHP:=hid (show hitP Bd V Ls line x=normP Bd V Ls (i:Int) (bestTo (lnN Ls i).x x (lnN Ls i).x.length:Nat) by
  unfold hitP;dsimp only;rw[hi',Int.toNat_natCast])
 obtain⟨U,_,hn⟩:=h.n;obtain⟨vO,vX,_,_,_,a4,_,a6,_⟩:=hn i _ (lnN_get hil);obtain⟨gL,cL,hvL⟩:=owns_shape hK0 h.l;subst hvL;have hxl:=T.xl _ hmem;have hlo1:=hlo _ hmem;obtain⟨gX,cX,hvX⟩:=owns_shape (by omega) a6;subst hvX;have HRX:=hid (show rowAt w gX (lnN Ls i).x.length (lnN Ls i).x from fun j hj=>by rw[a6.cellAt j (by omega),ints64_at hj]);have hxb:=T.xb _ hmem;have H106:=hid (fun Y:World=>nearL_any (some ⟨gL,0,none⟩) Ls.length cL line Y hK0 (by omega));rw[hi']at H106;have H109:=hid (fun(Y:World) (hf:Fr [] w Y)=>gapNear_any (lnN Ls i).x x (nth (lnN Ls i).x ((lnN Ls i).x.length - 1)) gX (lnN Ls i).x.length cX Y rfl (by omega) (by omega) (HRX.out.fr hf List.not_mem_nil) (fun k hk=>⟨(hxb k hk).1,(hxb k hk).2.1⟩) rfl (hxb _ (by omega)).2.2);have H61:=hid (fun(Y:World) (hf:Fr [] w Y)=>normP_any B P Bd V X r Ls v0 v1 v2 (.slice (some ⟨gL,0,none⟩) Ls.length cL) hs (i:Int) (bestTo (lnN Ls i).x x (lnN Ls i).x.length:Nat) Y (h.fr hf (fun k hk=>absurd hk List.not_mem_nil)) T hbd hv4 hK0 hK hlo);rw[←HHP.out]at H61;obtain⟨a,b,hab⟩:∃a b,hitP Bd V Ls line x=(a,b):=⟨_,_,rfl⟩;rw[hab]at H61 ⊢;have c3:w.cell? ⟨gL,i * 4+3,none⟩=some (.slice (some ⟨gX,0,none⟩) (lnN Ls i).x.length cX):=by rw[h.l.cellAt _ (by omega)];exact a4
 have p3:=obj_cell h.o (i:=3) (v:=.slice (some ⟨gL,0,none⟩) Ls.length cL) rfl;obtain⟨w2,hw2⟩:∃w2,w2=w.alloc (.cells #[.int .i64 0,.bool false] 35):=⟨_,rfl⟩;have HF2:=hid (show Fr [] w w2 by rw[hw2];exact(Fr.refl [] w).alloc _);have HO2:=hid (show w2.heap[w.heap.size]?=some (.cells #[.int .i64 0,.bool false] 35 (0,0)) by rw[hw2];exact obj_new w _);generalize bestTo (lnN Ls i).x x (lnN Ls i).x.length=bx at *;generalize (lnN Ls i).x.length=lx at *;have hiI:(i:Int)<(Ls.length:Int):=by omega
 generalize Ls.length=K at *;have hPl:P<w.heap.size:=World.block_lt_of_cell? _ _ p3;have hgl:gL<w.heap.size:=World.block_lt_of_cell? _ _ c3;clear h T hbd hn a4 a6 hi hi' hab hlo hxb hxl hmem HRX HHP;go_enter Tryz.func88,Tryz.ntmps88;have HW2:=hid hw2;clear hw2
 go_wp2_with (first
  | (go_at_call 147;refine(H106.out _).mono ?_;rintro e w' ⟨rfl,rfl⟩)
  | (go_at_call 159;rw[←HW2.out];refine(H109.out _ HF2.out).mono ?_;rintro e w3 ⟨rfl,hf3⟩;have HF3:=hid hf3;clear hf3)
  | (go_at_call 83;refine(H61.out _ (HF2.out.trans HF3.out)).mono ?_;rintro e w4 ⟨rfl,hf4⟩;have HF4:=hid (HF3.out.trans hf4);have HO4:=hid (obj_fr HO2.out (HF3.out.trans hf4) List.not_mem_nil);have z0:=obj_cell HO4.out (i:=0) (v:=.int .i64 0) rfl;have z1:=obj_cell HO4.out (i:=1) (v:=.bool false) rfl;have f0:=obj_froz HO4.out 0;have f1:=obj_froz HO4.out 1;clear hf4))
 have HEND:=hid (show((w4.setCell ⟨w.heap.size,0,none⟩ (.int .i64 a)).setCell ⟨w.heap.size,1,none⟩ (.bool b)).heap[w.heap.size]?=some (.cells #[.int .i64 a,.bool b] 35 (0,0))from obj_set (obj_set HO4.out 0 _) 1 _);refine bodyPost_ret (results_cell_row (t:=35) (fr:=(0,0)) rfl _ _ w.heap.size _ _ rfl HEND.out Tryz.underlying35 rfl (by kernel_rfl)) rfl ?_;exact⟨rfl,(HF2.out.trans HF4.out).behind ((fr_set1 _ _ _ _).set (List.mem_singleton.2 rfl) _) (fun k hk=>by rw[List.mem_singleton.1 hk];exact Nat.le_refl _)⟩
set_option maxRecDepth 10000 in
theorem hitC_any (Q P:Nat)(line x a:Int)(b:Bool)(w:World)(hq:w.cell? ⟨Q,0,none⟩=some (.pointer (some ⟨P,0,none⟩)))(h:∀Y,Fr [] w Y→Calls Tryz.prog 88 #[.pointer (some ⟨P,0,none⟩),.int .i64 line,.int .i64 x] Y fun e w'=>e=.returned (.agg #[.int .i64 a,.bool b])∧Fr [] Y w') :
 Calls Tryz.prog 40 #[.pointer (some ⟨Q,0,none⟩),.int .i64 line,.int .i64 x] w fun e w'=>e=.returned (.agg #[.int .i64 a,.bool b])∧Fr [] w w':=by
 have HF2:=hid (show Fr [] w (w.alloc (.cells #[.int .i64 0,.bool false] 35))from(Fr.refl [] w).alloc _);have HO2:=hid (obj_new w (.cells #[.int .i64 0,.bool false] 35));have H63:=hid (h _ HF2.out);have hQl:Q<w.heap.size:=World.block_lt_of_cell? _ _ hq;clear h;go_enter Tryz.func40,Tryz.ntmps40
 go_wp2_with (first
  | (go_at_call 88;refine H63.out.mono ?_;rintro e w4 ⟨rfl,hf4⟩;have HF4:=hid hf4;have HO4:=hid (obj_fr HO2.out hf4 List.not_mem_nil);have z0:=obj_cell HO4.out (i:=0) (v:=.int .i64 0) rfl;have z1:=obj_cell HO4.out (i:=1) (v:=.bool false) rfl;have f0:=obj_froz HO4.out 0;have f1:=obj_froz HO4.out 1;clear hf4))
 have HEND:=hid (show((w4.setCell ⟨w.heap.size,0,none⟩ (.int .i64 a)).setCell ⟨w.heap.size,1,none⟩ (.bool b)).heap[w.heap.size]?=some (.cells #[.int .i64 a,.bool b] 35 (0,0))from obj_set (obj_set HO4.out 0 _) 1 _);refine bodyPost_ret (results_cell_row (t:=35) (fr:=(0,0)) rfl _ _ w.heap.size _ _ rfl HEND.out Tryz.underlying35 rfl (by kernel_rfl)) rfl ?_;exact⟨rfl,(HF2.out.trans HF4.out).behind ((fr_set1 _ _ _ _).set (List.mem_singleton.2 rfl) _) (fun k hk=>by rw[List.mem_singleton.1 hk];exact Nat.le_refl _)⟩
end Go.Proofs.YtnakejhohdbfdabGreatDoor
