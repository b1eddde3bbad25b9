import Derived.Test.YtnakejhohdbfdaaGreatDoorXPwK
namespace Go.Proofs.YtnakejhohdbfdaaGreatDoor
open Go.RowKit Lev Lay Bnd
theorem near_nat {x:Int}{m:Nat}:∃k:Nat,near x (m:Int)=(k:Int)∧k≤m:=by
 have h:=near_in (x:=x) (hi:=(m:Int)) (by omega);exact⟨(near x m).toNat,by omega,by omega⟩
theorem lnN_get {Ls:List Ln}{i:Nat}(h:i<Ls.length):Ls[i]?=some (lnN Ls i):=by rw[lnN,List.getElem?_eq_getElem h];rfl
set_option maxRecDepth 10000 in
set_option maxHeartbeats 4000000 in
theorem normP_any (B P:Nat)(Bd V X:List Int)(r:Int)(Ls:List Ln)(v0 v1 v2 vL:Value)(hs:List Value)(line gap:Int)(w:World)(h:LP w B P Bd V X r Ls v0 v1 v2 vL hs)(T:Tame Bd V Ls)(hbd:Bd.length=V.length+1)(hv4:V.length≤400)(hK0:0<Ls.length)(hK:Ls.length≤400)(hlo:∀l∈Ls,l.o.length≤1000) :
 Calls Tryz.prog 61 #[.pointer (some ⟨P,0,none⟩),.agg #[.int .i64 line,.int .i64 gap]] w fun e w'=>e=.returned (.agg #[.int .i64 (normP Bd V Ls line gap).1,.bool (normP Bd V Ls line gap).2])∧Fr [] w w':=by
 obtain⟨i,hi,hiK⟩:=near_nat (x:=line) (m:=Ls.length - 1);have hi':near line ((Ls.length:Int) - 1)=(i:Int):=by rw[←hi];congr 1;omega
 have hil:i<Ls.length:=by omega
 obtain⟨k,hk,hkl⟩:=near_nat (x:=gap) (m:=(lnN Ls i).o.length)
 have HNP:=hid (show normP Bd V Ls line gap=if(lnN Ls i).o.length=0 then(0,false)else if k=0 then sideP Bd V (nix (lnN Ls i).o 0) false else sideP Bd V (nix (lnN Ls i).o (k - 1)) true by
  unfold normP;dsimp only;rw[hi',Int.toNat_natCast,hk,Int.toNat_natCast])
 obtain⟨U,_,hn⟩:=h.n;obtain⟨vO,vX,_,_,a3,_,a5,_⟩:=hn i _ (lnN_get hil);obtain⟨gL,cL,hvL⟩:=owns_shape hK0 h.l;subst hvL;obtain⟨aO,cO,hvO⟩:=owns_slice a5;subst hvO;have hob:=T.ob _ (lnN_mem hil);have hlo1:=hlo _ (lnN_mem hil);have H106:=hid (fun Y:World=>nearL_any (some ⟨gL,0,none⟩) Ls.length cL line Y hK0 (by omega));have H107:=hid (fun Y:World=>nearP_any gap (((lnN Ls i).o.length:Nat):Int) Y (by omega));rw[hi']at H106;rw[hk]at H107;have HVB:=hid T.vb;have HVO:=hid a5;have HLP:=hid h;have HOB:=hid hob;have c3:w.cell? ⟨gL,i * 4+2,none⟩=some (.slice aO (lnN Ls i).o.length cO):=by rw[h.l.cellAt _ (by omega)];exact a3
 have p3:=obj_cell h.o (i:=3) (v:=.slice (some ⟨gL,0,none⟩) Ls.length cL) rfl;have hPl:=obj_lt h.o;have hgl:=World.block_lt_of_cell? _ _ c3;dsimp only at hgl;obtain⟨x,y,hxy⟩:∃x y,normP Bd V Ls line gap=(x,y):=⟨_,_,rfl⟩;rw[hxy]at HNP ⊢;obtain⟨o,ho⟩:∃o,o=(lnN Ls i).o:=⟨_,rfl⟩;rw[←ho]at HNP HVO H107 HOB c3 hkl hlo1;obtain⟨lo,hlo'⟩:∃lo,lo=o.length:=⟨_,rfl⟩;have HLO:=hid hlo';rw[←hlo']at HNP HVO H107 c3 hkl hlo1;obtain⟨K,hK'⟩:∃K,K=Ls.length:=⟨_,rfl⟩;rw[←hK']at H106 p3 hK0 hK hil;obtain⟨w2,hw2⟩:∃w2,w2=(w.alloc (.cells #[.int .i64 line,.int .i64 gap] 58)).alloc (.cells #[.int .i64 0,.bool false] 55):=⟨_,rfl⟩;have HF2:=hid (show Fr [] w w2 by rw[hw2];exact((Fr.refl [] w).alloc _).alloc _);have HO1:=hid (show w2.heap[w.heap.size]?=some (.cells #[.int .i64 line,.int .i64 gap] 58 (0,0)) by rw[hw2];exact obj_fr (obj_new w _) ((Fr.refl [] _).alloc _) List.not_mem_nil)
 have HO2:=hid (show w2.heap[w.heap.size+1]?=some (.cells #[.int .i64 0,.bool false] 55 (0,0)) by
  have h:=obj_new (w.alloc (.cells #[.int .i64 line,.int .i64 gap] 58)) (.cells #[.int .i64 0,.bool false] 55)
  rw[←hw2]at h;simpa using h)
 have HP2:=hid (HF2.out.cell p3 List.not_mem_nil);have HC2:=hid (HF2.out.cell c3 List.not_mem_nil);have hiI:(i:Int)<(K:Int):=by omega
 have HBD:=hid hbd;clear h T hbd hn a3 a5 hi hi' hk hxy ho hlo' hK' hob hlo c3 p3;go_enter Tryz.func61,Tryz.ntmps61;go_wp2_with fail;rw[←hw2];clear hw2;have b0:=obj_cell HO1.out (i:=0) (v:=.int .i64 line) rfl;have b1:=obj_cell HO1.out (i:=1) (v:=.int .i64 gap) rfl;have p3:=HP2.out;have c3:=HC2.out;go_quiet (first | (go_at_call 106;exact Calls.quiet_of_same (H106.out _)));have z0:=obj_cell HO2.out (i:=0) (v:=.int .i64 0) rfl;have z1:=obj_cell HO2.out (i:=1) (v:=.bool false) rfl;have f0:=obj_froz HO2.out 0;have f1:=obj_froz HO2.out 1;have HEND:=hid (fun(Y:World) (hY:Y.heap[w.heap.size+1]?=some (.cells #[.int .i64 0,.bool false] 55 (0,0))) (x:Int) (y:Bool)=>(show((Y.setCell ⟨w.heap.size+1,0,none⟩ (.int .i64 x)).setCell ⟨w.heap.size+1,1,none⟩ (.bool y)).heap[w.heap.size+1]?=some (.cells #[.int .i64 x,.bool y] 55 (0,0))from obj_set (obj_set hY 0 _) 1 _));have HFE:=hid (fun(Y:World) (hY:Fr [] w Y) (x:Int) (y:Bool)=>(show Fr [] w ((Y.setCell ⟨w.heap.size+1,0,none⟩ (.int .i64 x)).setCell ⟨w.heap.size+1,1,none⟩ (.bool y))from hY.behind ((fr_set1 _ _ _ _).set (List.mem_singleton.2 rfl) _) (fun k hk=>by rw[List.mem_singleton.1 hk];omega)));by_cases hl0:lo=0
 ·subst hl0
  have HXY:=hid (show(x,y)=((0:Int),false) by rw[HNP.out,if_pos rfl]);obtain⟨rfl,rfl⟩:=Prod.mk.inj HXY.out;clear HNP HXY;go_wp2_with (first | (go_at_call 107;refine(H107.out _).mono ?_;rintro e w' ⟨rfl,rfl⟩));refine bodyPost_ret (results_cell_row (t:=55) (fr:=(0,0)) rfl _ _ (w.heap.size+1) _ _ rfl (HEND.out _ ?h1 _ _) Tryz.underlying55 rfl (by kernel_rfl)) rfl ?_
  case h1=>exact HO2.out
  exact⟨rfl,HFE.out (w2.drewN nq) (HF2.out.trans (fr_drewN _ _)) _ _⟩
 ·have hl0':((lo:Nat):Int)≠0:=by omega
  have hl0b:(((lo:Nat):Int) == 0)=false:=by simp;omega
  obtain⟨gO,cO',hvO⟩:=owns_shape (by omega) HVO.out;cases hvO;have hvp:0<V.length:=by
   have:=HOB.out (nix o 0) (nix_mem (by rw[←HLO.out];omega));omega
  obtain⟨gB,cB,rfl,_,rB⟩:=HLP.out.b.row (by rw[HBD.out];omega);obtain⟨gV,cV,rfl,_,rV⟩:=HLP.out.v.row hvp;have HRB:=hid (rB.fr HF2.out List.not_mem_nil);have HRV:=hid (rV.fr HF2.out List.not_mem_nil);obtain⟨aX,cX,hvX,_⟩:=id HLP.out.x;subst hvX;have HPO:=hid (obj_fr HLP.out.o HF2.out List.not_mem_nil);have q0:=obj_cell HPO.out (i:=0) (v:=.slice (some ⟨gB,0,none⟩) Bd.length cB) rfl;have q1:=obj_cell HPO.out (i:=1) (v:=.slice (some ⟨gV,0,none⟩) V.length cV) rfl;have q2:=obj_cell HPO.out (i:=2) (v:=.slice aX X.length cX) rfl;have HSD:=hid (fun(c:Nat) (right:Bool) (Y:World) (hf:Fr [] w2 Y) (hc:c<V.length)=>side_any Bd V gB cB Bd.length gV V.length cV c (.slice aX X.length cX) right Y hc HBD.out (HRB.out.fr hf List.not_mem_nil) (HRV.out.fr hf List.not_mem_nil) (HVB.out c).1 (by omega));have HVO2:=hid (owns_fr0 HVO.out HF2.out);clear rB rV;by_cases hk0:k=0
  ·subst hk0
   have HXY:=hid (show(x,y)=sideP Bd V (nix o 0) false by rw[HNP.out,if_neg hl0,if_pos rfl]);have d0:w2.cell? ⟨gO,0,none⟩=some (.int .i64 (nix o 0:Nat)):=by rw[HVO2.out.cellAt 0 (by omega)];exact intsN_at (by rw[←HLO.out];omega)
   have HC:=hid (HOB.out (nix o 0) (nix_mem (by rw[←HLO.out];omega)));have hlp:(0:Int)<(lo:Int):=by omega
   have H108:=hid (fun(Y:World) (hf:Fr [] w2 Y)=>HSD.out (nix o 0) false Y hf HC.out);rw[←HXY.out]at H108;dsimp only at H108;generalize nix o 0=c0 at *;clear HNP HXY;go_wp2_with (first | (go_at_call 107;refine(H107.out _).mono ?_;rintro e w' ⟨rfl,rfl⟩));go_region_with (first | (go_at_call 108;refine(H108.out _ ?_).mono ?_;exact frz _ _ _ rfl rfl rfl rfl;rintro e w4 ⟨rfl,hf4⟩;have hf4':Fr [] w2 w4:=⟨hf4.os,hf4.tape,hf4.output,hf4.size,hf4.block⟩;have HF4:=hid hf4';have HO24:=hid (obj_fr HO2.out hf4' List.not_mem_nil);have y0:=obj_cell HO24.out (i:=0) (v:=.int .i64 0) rfl;have y1:=obj_cell HO24.out (i:=1) (v:=.bool false) rfl;have g0:=obj_froz HO24.out 0;have g1:=obj_froz HO24.out 1;clear hf4 hf4'))
   all_goals (
    go_wp2_with fail
    refine bodyPost_ret (results_cell_row (t:=55) (fr:=(0,0)) rfl _ _ (w.heap.size+1) _ _ rfl (HEND.out _ ?h1 _ _) Tryz.underlying55 rfl (by kernel_rfl)) rfl ?_
    case h1=>exact HO24.out
    exact⟨rfl,HFE.out w4 (HF2.out.trans HF4.out) _ _⟩)
  ·have hk0':((k:Nat):Int)≠0:=by omega
   have hk0b:(((k:Nat):Int) == 0)=false:=by simp;omega
   have HXY:=hid (show(x,y)=sideP Bd V (nix o (k - 1)) true by rw[HNP.out,if_neg hl0,if_neg hk0]);have hkl':k - 1<lo:=by omega
   have d0:w2.cell? ⟨gO,k - 1,none⟩=some (.int .i64 (nix o (k - 1):Nat)):=by rw[HVO2.out.cellAt (k - 1) (by omega)];exact intsN_at (by rw[←HLO.out];omega)
   have HC:=hid (HOB.out (nix o (k - 1)) (nix_mem (by rw[←HLO.out];omega)));have H108:=hid (fun(Y:World) (hf:Fr [] w2 Y)=>HSD.out (nix o (k - 1)) true Y hf HC.out);rw[←HXY.out]at H108;dsimp only at H108;obtain⟨k1,hk1⟩:∃k1,k1=k - 1:=⟨_,rfl⟩;rw[←hk1]at d0 H108 HC HXY hkl';have hw1:IntKind.i64.wrap ((k:Int) - 1)=(k1:Int):=by rw[IntKind.wrap_i64];omega
   have hk1I:(k1:Int)<(lo:Int):=by omega
   generalize nix o k1=c0 at *;clear HNP HXY hk1;go_wp2_with (first | (go_at_call 107;refine(H107.out _).mono ?_;rintro e w' ⟨rfl,rfl⟩));go_region_with (first | (go_at_call 108;refine(H108.out _ ?_).mono ?_;exact frz _ _ _ rfl rfl rfl rfl;rintro e w4 ⟨rfl,hf4⟩;have hf4':Fr [] w2 w4:=⟨hf4.os,hf4.tape,hf4.output,hf4.size,hf4.block⟩;have HF4:=hid hf4';have HO24:=hid (obj_fr HO2.out hf4' List.not_mem_nil);have y0:=obj_cell HO24.out (i:=0) (v:=.int .i64 0) rfl;have y1:=obj_cell HO24.out (i:=1) (v:=.bool false) rfl;have g0:=obj_froz HO24.out 0;have g1:=obj_froz HO24.out 1;clear hf4 hf4'))
   all_goals (
    go_wp2_with fail
    refine bodyPost_ret (results_cell_row (t:=55) (fr:=(0,0)) rfl _ _ (w.heap.size+1) _ _ rfl (HEND.out _ ?h1 _ _) Tryz.underlying55 rfl (by kernel_rfl)) rfl ?_
    case h1=>exact HO24.out
    exact⟨rfl,HFE.out w4 (HF2.out.trans HF4.out) _ _⟩)
end Go.Proofs.YtnakejhohdbfdaaGreatDoor
