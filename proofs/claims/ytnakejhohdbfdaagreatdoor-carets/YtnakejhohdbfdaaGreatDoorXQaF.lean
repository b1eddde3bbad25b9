import Derived.Test.YtnakejhohdbfdaaGreatDoorXQaD
namespace Go.Proofs.YtnakejhohdbfdaaGreatDoor
open Go.RowKit Lev Lay Bnd
theorem sideP_even (Bd V:List Int)(c:Nat)(right:Bool):sideP Bd V c right=if(nth V c % 2 == 1)=right then(nth Bd c,false)else(nth Bd (c+1),true):=by
 unfold sideP;by_cases h:right=(nth V c % 2 == 1)
 ·rw[if_pos h,if_pos h.symm]
 ·rw[if_neg h,if_neg (fun e=>h e.symm)]
set_option maxRecDepth 10000 in
set_option maxHeartbeats 4000000 in
theorem normD_any (WB:World)(U lb:Nat)(s:ByteArray)(bs:Int)(vC vM:Value)(Bd V X:List Int)(Ls:List Ln)(hm:List Value)(line gap:Int)(w:World)(h:LD WB w U lb s bs vC vM (clP Bd V X V.length) Ls hm)(T:Tame Bd V Ls)(hv4:V.length≤400)(hK0:0<Ls.length)(hK:Ls.length≤400)(hlo:∀l∈Ls,l.o.length≤1000) :
 Calls Tryz.prog 24 #[.pointer (some ⟨lb,0,none⟩),.agg #[.int .i64 line,.int .i64 gap]] w fun e w'=>e=.returned (.agg #[.int .i64 (normP Bd V Ls line gap).1,.bool (normP Bd V Ls line gap).2])∧Fr [] w w':=by
 obtain⟨i,hi,hiK⟩:=near_nat (x:=line) (m:=Ls.length - 1);have hi':near line ((Ls.length:Int) - 1)=(i:Int):=by rw[←hi];congr 1;omega
 have hil:i<Ls.length:=by omega
 obtain⟨k,hk,hkl⟩:=near_nat (x:=gap) (m:=(lnN Ls i).o.length)
 have HNP:=hid (show normP Bd V Ls line gap=if(lnN Ls i).o.length=0 then(0,false)else if k=0 then sideP Bd V (nix (lnN Ls i).o 0) false else sideP Bd V (nix (lnN Ls i).o (k - 1)) true by
  unfold normP;dsimp only;rw[hi',Int.toNat_natCast,hk,Int.toNat_natCast])
 obtain⟨vO,vX,_,_,a3,_,a5,_⟩:=h.inn i _ (lnN_get hil);obtain⟨gL,cL,hvL⟩:=owns_shape hK0 h.ownL;subst hvL;obtain⟨aO,cO,hvO⟩:=owns_slice a5;subst hvO;have hob:=T.ob _ (lnN_mem hil);have hlo1:=hlo _ (lnN_mem hil);have H62:=hid (fun(x hi:Int) (Y:World)=>bound_any x hi Y);have HE1:=hid hi';have HE2:=hid hk;have HVB:=hid T.vb;have HVO:=hid a5;have HOC:=hid h.ownC;rw[clP_len]at HOC;have HOB:=hid hob;have c3:w.cell? ⟨gL,i * 4+2,none⟩=some (.slice aO (lnN Ls i).o.length cO):=by rw[h.ownL.cellAt _ (by omega)];exact a3
 obtain⟨aC,cC,hvC⟩:=owns_slice HOC.out;subst hvC;have HLO:=hid h.obj;have p3:=obj_cell h.obj (i:=3) (v:=.slice (some ⟨gL,0,none⟩) Ls.length cL) rfl;have hPl:=obj_lt h.obj;have hgl:=World.block_lt_of_cell? _ _ c3;dsimp only at hgl;obtain⟨x,y,hxy⟩:∃x y,normP Bd V Ls line gap=(x,y):=⟨_,_,rfl⟩;rw[hxy]at HNP ⊢;obtain⟨o,ho⟩:∃o,o=(lnN Ls i).o:=⟨_,rfl⟩;rw[←ho]at HNP HVO HOB c3 hkl hlo1 HE2;obtain⟨lo,hlo'⟩:∃lo,lo=o.length:=⟨_,rfl⟩;have HLL:=hid hlo';rw[←hlo']at HNP HVO c3 hkl hlo1 HE2;obtain⟨K,hK'⟩:∃K,K=Ls.length:=⟨_,rfl⟩;rw[←hK']at p3 hK0 hK hil HE1;have HKK:=hid hK';obtain⟨w2,hw2⟩:∃w2,w2=(w.alloc (.cells #[.int .i64 line,.int .i64 gap] 58)).alloc (.cells #[.int .i64 0,.bool false] 55):=⟨_,rfl⟩;have HF2:=hid (show Fr [] w w2 by rw[hw2];exact((Fr.refl [] w).alloc _).alloc _);have HO1:=hid (show w2.heap[w.heap.size]?=some (.cells #[.int .i64 line,.int .i64 gap] 58 (0,0)) by rw[hw2];exact obj_fr (obj_new w _) ((Fr.refl [] _).alloc _) List.not_mem_nil)
 have HO2:=hid (show w2.heap[w.heap.size+1]?=some (.cells #[.int .i64 0,.bool false] 55 (0,0)) by
  have h:=obj_new (w.alloc (.cells #[.int .i64 line,.int .i64 gap] 58)) (.cells #[.int .i64 0,.bool false] 55)
  rw[←hw2]at h;simpa using h)
 have HP2:=hid (HF2.out.cell p3 List.not_mem_nil);have HC2:=hid (HF2.out.cell c3 List.not_mem_nil);have hiI:(i:Int)<(K:Int):=by omega
 have hwK:IntKind.i64.wrap ((K:Int) - 1)=(K:Int) - 1:=by rw[IntKind.wrap_i64];omega
 clear h T a3 a5 hi hi' hk hxy ho hlo' hK' hob hlo c3 p3;go_enter Tryz.func24,Tryz.ntmps24;go_wp2_with fail;rw[←hw2];clear hw2;have b0:=obj_cell HO1.out (i:=0) (v:=.int .i64 line) rfl;have b1:=obj_cell HO1.out (i:=1) (v:=.int .i64 gap) rfl;have p3:=HP2.out;have c3:=HC2.out;have HB1:=hid (fun Y:World=>(by have h:=H62.out line ((K:Int) - 1) Y;rw[HE1.out]at h;exact h:Calls Tryz.prog 62 #[.int .i64 line,.int .i64 ((K:Int) - 1)] Y fun e w'=>e=.returned (.int .i64 (i:Int))∧w'=Y));have HB2:=hid (fun Y:World=>(by have h:=H62.out gap (lo:Int) Y;rw[HE2.out]at h;exact h:Calls Tryz.prog 62 #[.int .i64 gap,.int .i64 (lo:Int)] Y fun e w'=>e=.returned (.int .i64 (k:Int))∧w'=Y));have z0:=obj_cell HO2.out (i:=0) (v:=.int .i64 0) rfl;have z1:=obj_cell HO2.out (i:=1) (v:=.bool false) rfl;have f0:=obj_froz HO2.out 0;have f1:=obj_froz HO2.out 1;have HEND:=hid (fun(Y:World) (hY:Y.heap[w.heap.size+1]?=some (.cells #[.int .i64 0,.bool false] 55 (0,0))) (x:Int) (y:Bool)=>(show((Y.setCell ⟨w.heap.size+1,0,none⟩ (.int .i64 x)).setCell ⟨w.heap.size+1,1,none⟩ (.bool y)).heap[w.heap.size+1]?=some (.cells #[.int .i64 x,.bool y] 55 (0,0))from obj_set (obj_set hY 0 _) 1 _));have HFE:=hid (fun(Y:World) (hY:Fr [] w Y) (x:Int) (y:Bool)=>(show Fr [] w ((Y.setCell ⟨w.heap.size+1,0,none⟩ (.int .i64 x)).setCell ⟨w.heap.size+1,1,none⟩ (.bool y))from hY.behind ((fr_set1 _ _ _ _).set (List.mem_singleton.2 rfl) _) (fun k hk=>by rw[List.mem_singleton.1 hk];omega)));go_quiet (first | (go_at_call 62;exact Calls.quiet_of_same (HB1.out _)));obtain⟨wq,hwq⟩:∃wq,wq=w2.drewN nq:=⟨_,rfl⟩;rw[←hwq];have HFq:=hid (show Fr [] w wq by rw[hwq];exact HF2.out.trans (fr_drewN _ _));have HOq:=hid (show wq.heap[w.heap.size+1]?=some (.cells #[.int .i64 0,.bool false] 55 (0,0)) by rw[hwq];exact HO2.out);have HOq1:=hid (show wq.heap[w.heap.size]?=some (.cells #[.int .i64 line,.int .i64 gap] 58 (0,0)) by rw[hwq];exact HO1.out);have HPq:=hid (show wq.cell? ⟨lb,3,none⟩=some (.slice (some ⟨gL,0,none⟩) K cL) by rw[hwq];exact HP2.out);have HCq:=hid (show wq.cell? ⟨gL,i * 4+2,none⟩=some (.slice aO lo cO) by rw[hwq];exact HC2.out);clear hwq b0 b1 p3 c3 z0 z1 f0 f1;have b0:=obj_cell HOq1.out (i:=0) (v:=.int .i64 line) rfl;have b1:=obj_cell HOq1.out (i:=1) (v:=.int .i64 gap) rfl;have p3:=HPq.out;have c3:=HCq.out;have z0:=obj_cell HOq.out (i:=0) (v:=.int .i64 0) rfl;have z1:=obj_cell HOq.out (i:=1) (v:=.bool false) rfl;have f0:=obj_froz HOq.out 0;have f1:=obj_froz HOq.out 1;by_cases hl0:lo=0
 ·subst hl0
  have HXY:=hid (show(x,y)=((0:Int),false) by rw[HNP.out,if_pos rfl]);obtain⟨rfl,rfl⟩:=Prod.mk.inj HXY.out;clear HNP HXY;go_wp2_with (first | (go_at_call 62;refine(HB2.out _).mono ?_;rintro e w' ⟨rfl,hw'⟩;obtain rfl:wq=w':=hw'.symm));refine bodyPost_ret (results_cell_row (t:=55) (fr:=(0,0)) rfl _ _ (w.heap.size+1) _ _ rfl (HEND.out _ ?h1 _ _) Tryz.underlying55 rfl (by kernel_rfl)) rfl ?_
  case h1=>exact HOq.out
  exact⟨rfl,HFE.out wq HFq.out _ _⟩
 ·have hl0':((lo:Nat):Int)≠0:=by omega
  have hl0b:(((lo:Nat):Int) == 0)=false:=by simp;omega
  obtain⟨gO,cO',hvO⟩:=owns_shape (by omega) HVO.out;cases hvO;have hvp:0<V.length:=by
   have:=HOB.out (nix o 0) (nix_mem (by rw[←HLL.out];omega));omega
  obtain⟨gC,cC',hvC⟩:=owns_shape hvp HOC.out;cases hvC;have HVO2:=hid (owns_fr0 HVO.out HFq.out);have HOC2:=hid (owns_fr0 HOC.out HFq.out);have HL2:=hid (obj_fr HLO.out HFq.out List.not_mem_nil);have q2:=obj_cell HL2.out (i:=2) (v:=.slice (some ⟨gC,0,none⟩) V.length cC) rfl;have HSE:=hid (sideP_even Bd V);have HENA:=hid (fun(x:Int) (y:Bool) (ob:Obj)=>obj_fr (HEND.out wq HOq.out x y) (((Fr.refl [] _).alloc ob).drew) List.not_mem_nil);have HFA:=hid (fun(x:Int) (y:Bool) (ob:Obj)=>((HFE.out wq HFq.out x y).alloc ob).drew);by_cases hk0:k=0
  ·subst hk0
   obtain⟨c0,hc0⟩:∃c0,c0=nix o 0:=⟨_,rfl⟩;have HXY:=hid (show(x,y)=if(nth V c0 % 2 == 1)=false then(nth Bd c0,false)else(nth Bd (c0+1),true) by rw[HNP.out,if_neg hl0,if_pos rfl,←hc0,HSE.out]);have d0:wq.cell? ⟨gO,0,none⟩=some (.int .i64 (c0:Nat)):=by rw[hc0,HVO2.out.cellAt 0 (by omega)];exact intsN_at (by rw[←HLL.out];omega)
   have hcV:c0<V.length:=by rw[hc0];exact HOB.out (nix o 0) (nix_mem (by rw[←HLL.out];omega))
   obtain⟨e0,e1,e2,e3⟩:=clCells_at _ c0 _ (clP_at Bd V X hcV);have y0:wq.cell? ⟨gC,c0 * 4,none⟩=some (.int .i64 (nth Bd c0)):=by rw[HOC2.out.cellAt _ (by omega)];exact e0
   have y1:wq.cell? ⟨gC,c0 * 4+1,none⟩=some (.int .i64 (nth Bd (c0+1))):=by rw[HOC2.out.cellAt _ (by omega)];exact e1
   have y2:wq.cell? ⟨gC,c0 * 4+2,none⟩=some (.int .i64 (nth V c0)):=by rw[HOC2.out.cellAt _ (by omega)];exact e2
   have y3:wq.cell? ⟨gC,c0 * 4+3,none⟩=some (.int .i64 (nth X c0)):=by rw[HOC2.out.cellAt _ (by omega)];exact e3
   have hlv:=(HVB.out c0).1;have hlp:(0:Int)<(lo:Int):=by omega
   have hcI:(c0:Int)<(V.length:Int):=by omega
   generalize nth Bd c0=x0 at *;generalize nth Bd (c0+1)=x1 at *;generalize nth V c0=lv at *;generalize nth X c0=x3 at *;clear e0 e1 e2 e3 hc0 HNP;have hgC:gC<wq.heap.size:=World.block_lt_of_cell? _ _ y0;have hgO:gO<wq.heap.size:=World.block_lt_of_cell? _ _ d0;have hlb2:lb<wq.heap.size:=World.block_lt_of_cell? _ _ q2;have hrb:w.heap.size+1<wq.heap.size:=World.block_lt_of_cell? _ _ z0;have hlm:lv % 2=0∨lv % 2=1:=by omega
   have hlpN:0<lo:=by omega
   have hn1:gO≠wq.heap.size:=by omega
   have hn2:gC≠wq.heap.size:=by omega
   have hn3:lb≠wq.heap.size:=by omega
   go_wp2_with (first | (go_at_call 62;refine(HB2.out _).mono ?_;rintro e w' ⟨rfl,hw'⟩;obtain rfl:wq=w':=hw'.symm));go_region
   rcases hlm with hlm | hlm
   ·have HXY2:=hid (show x=x0∧y=false by have e:=HXY.out;rw[hlm]at e;exact Prod.mk.inj e)
    obtain⟨rfl,rfl⟩:=HXY2.out;clear HXY HXY2;go_wp2_with fail;refine bodyPost_ret (results_cell_row (t:=55) (fr:=(0,0)) rfl _ _ (w.heap.size+1) _ _ rfl (HENA.out _ _ _) Tryz.underlying55 rfl (by kernel_rfl)) rfl ?_;exact⟨rfl,HFA.out _ _ _⟩
   ·have HXY2:=hid (show x=x1∧y=true by have e:=HXY.out;rw[hlm]at e;exact Prod.mk.inj e)
    obtain⟨rfl,rfl⟩:=HXY2.out;clear HXY HXY2;go_wp2_with fail;refine bodyPost_ret (results_cell_row (t:=55) (fr:=(0,0)) rfl _ _ (w.heap.size+1) _ _ rfl (HENA.out _ _ _) Tryz.underlying55 rfl (by kernel_rfl)) rfl ?_;exact⟨rfl,HFA.out _ _ _⟩
  ·have hk0':((k:Nat):Int)≠0:=by omega
   have hk0b:(((k:Nat):Int) == 0)=false:=by simp;omega
   obtain⟨k1,hk1⟩:∃k1,k1=k - 1:=⟨_,rfl⟩;have hw1:IntKind.i64.wrap ((k:Int) - 1)=(k1:Int):=by rw[IntKind.wrap_i64];omega
   have hk1I:(k1:Int)<(lo:Int):=by omega
   have hk1N:k1<lo:=by omega
   obtain⟨c0,hc0⟩:∃c0,c0=nix o k1:=⟨_,rfl⟩;have HXY:=hid (show(x,y)=if(nth V c0 % 2 == 1)=true then(nth Bd c0,false)else(nth Bd (c0+1),true) by rw[HNP.out,if_neg hl0,if_neg hk0,←hk1,←hc0,HSE.out]);have d0:wq.cell? ⟨gO,k1,none⟩=some (.int .i64 (c0:Nat)):=by rw[hc0,HVO2.out.cellAt k1 (by omega)];exact intsN_at (by rw[←HLL.out];omega)
   have hcV:c0<V.length:=by rw[hc0];exact HOB.out (nix o k1) (nix_mem (by rw[←HLL.out];omega))
   obtain⟨e0,e1,e2,e3⟩:=clCells_at _ c0 _ (clP_at Bd V X hcV);have y0:wq.cell? ⟨gC,c0 * 4,none⟩=some (.int .i64 (nth Bd c0)):=by rw[HOC2.out.cellAt _ (by omega)];exact e0
   have y1:wq.cell? ⟨gC,c0 * 4+1,none⟩=some (.int .i64 (nth Bd (c0+1))):=by rw[HOC2.out.cellAt _ (by omega)];exact e1
   have y2:wq.cell? ⟨gC,c0 * 4+2,none⟩=some (.int .i64 (nth V c0)):=by rw[HOC2.out.cellAt _ (by omega)];exact e2
   have y3:wq.cell? ⟨gC,c0 * 4+3,none⟩=some (.int .i64 (nth X c0)):=by rw[HOC2.out.cellAt _ (by omega)];exact e3
   have hlv:=(HVB.out c0).1;have hlp:(0:Int)<(lo:Int):=by omega
   have hcI:(c0:Int)<(V.length:Int):=by omega
   generalize nth Bd c0=x0 at *;generalize nth Bd (c0+1)=x1 at *;generalize nth V c0=lv at *;generalize nth X c0=x3 at *;clear e0 e1 e2 e3 hc0 HNP hk1;have hgC:gC<wq.heap.size:=World.block_lt_of_cell? _ _ y0;have hgO:gO<wq.heap.size:=World.block_lt_of_cell? _ _ d0;have hlb2:lb<wq.heap.size:=World.block_lt_of_cell? _ _ q2;have hrb:w.heap.size+1<wq.heap.size:=World.block_lt_of_cell? _ _ z0;have hlm:lv % 2=0∨lv % 2=1:=by omega
   have hlpN:0<lo:=by omega
   have hn1:gO≠wq.heap.size:=by omega
   have hn2:gC≠wq.heap.size:=by omega
   have hn3:lb≠wq.heap.size:=by omega
   go_wp2_with (first | (go_at_call 62;refine(HB2.out _).mono ?_;rintro e w' ⟨rfl,hw'⟩;obtain rfl:wq=w':=hw'.symm));go_region
   rcases hlm with hlm | hlm
   ·have HXY2:=hid (show x=x1∧y=true by have e:=HXY.out;rw[hlm]at e;exact Prod.mk.inj e)
    obtain⟨rfl,rfl⟩:=HXY2.out;clear HXY HXY2;go_wp2_with fail;refine bodyPost_ret (results_cell_row (t:=55) (fr:=(0,0)) rfl _ _ (w.heap.size+1) _ _ rfl (HENA.out _ _ _) Tryz.underlying55 rfl (by kernel_rfl)) rfl ?_;exact⟨rfl,HFA.out _ _ _⟩
   ·have HXY2:=hid (show x=x0∧y=false by have e:=HXY.out;rw[hlm]at e;exact Prod.mk.inj e)
    obtain⟨rfl,rfl⟩:=HXY2.out;clear HXY HXY2;go_wp2_with fail;refine bodyPost_ret (results_cell_row (t:=55) (fr:=(0,0)) rfl _ _ (w.heap.size+1) _ _ rfl (HENA.out _ _ _) Tryz.underlying55 rfl (by kernel_rfl)) rfl ?_;exact⟨rfl,HFA.out _ _ _⟩
end Go.Proofs.YtnakejhohdbfdaaGreatDoor
