import Derived.Test.YtnakejhohdbfdabGreatDoorKQcA
import Derived.Test.YtnakejhohdbfdabGreatDoorKQaC
import Derived.Laws.StructEq
namespace Go.Proofs.YtnakejhohdbfdabGreatDoor
open Go.RowKit Lev Lay Bnd
set_option maxRecDepth 10000 in
theorem placeC_any (Q P:Nat)(off a:Int)(back b:Bool)(w:World)(hq:w.cell? ⟨Q,0,none⟩=some (.pointer (some ⟨P,0,none⟩)))(h:∀Y,Fr [] w Y→Calls Tryz.prog 87 #[.pointer (some ⟨P,0,none⟩),.agg #[.int .i64 off,.bool back]] Y fun e w'=>e=.returned (.agg #[.int .i64 a,.bool b])∧Fr [] Y w') :
 Calls Tryz.prog 39 #[.pointer (some ⟨Q,0,none⟩),.agg #[.int .i64 off,.bool back]] w fun e w'=>e=.returned (.agg #[.int .i64 a,.bool b])∧Fr [] w w':=by
 obtain⟨w2,hw2⟩:∃w2,w2=(w.alloc (.cells #[.int .i64 off,.bool back] 35)).alloc (.cells #[.int .i64 0,.bool false] 35):=⟨_,rfl⟩;have HF2:=hid (show Fr [] w w2 by rw[hw2];exact((Fr.refl _ _).alloc _).alloc _);have HQ2:=hid (HF2.out.cell hq List.not_mem_nil);have HO2:=hid (show w2.heap[w.heap.size]?=some (.cells #[.int .i64 off,.bool back] 35 (0,0)) by rw[hw2];exact obj_fr (obj_new w _) ((Fr.refl [] _).alloc _) List.not_mem_nil)
 have HR2:=hid (show w2.heap[w.heap.size+1]?=some (.cells #[.int .i64 0,.bool false] 35 (0,0)) by
  have hs:(w.alloc (.cells #[.int .i64 off,.bool back] 35)).heap.size=w.heap.size+1:=by simp
  have h0:=obj_new (w.alloc (.cells #[.int .i64 off,.bool back] 35)) (.cells #[.int .i64 0,.bool false] 35)
  rw[hs]at h0
  rw[hw2];exact h0)
 have H57:=hid h;have hQl:Q<w.heap.size:=World.block_lt_of_cell? _ _ hq;clear h;go_enter Tryz.func39,Tryz.ntmps39;have HW2:=hid hw2;clear hw2;go_wp2_with fail;rw[←HW2.out];have q0:=HQ2.out;have c0:=obj_cell HO2.out (i:=0) (v:=.int .i64 off) rfl;have c1:=obj_cell HO2.out (i:=1) (v:=.bool back) rfl
 go_region_with (first
  | (go_at_call 87;refine(H57.out _ ?fa).mono ?_;(case fa=>exact⟨HF2.out.os,HF2.out.tape,HF2.out.output,HF2.out.size,HF2.out.block⟩);rintro e w4 ⟨rfl,hf4⟩;have HF4:=hid (show Fr [] w2 w4 from⟨hf4.os,hf4.tape,hf4.output,hf4.size,hf4.block⟩);have HR4:=hid (obj_fr HR2.out HF4.out List.not_mem_nil);have r0:=obj_cell HR4.out (i:=0) (v:=.int .i64 0) rfl;have r1:=obj_cell HR4.out (i:=1) (v:=.bool false) rfl;have g0:=obj_froz HR4.out 0;have g1:=obj_froz HR4.out 1;clear hf4))
 all_goals (
  go_wp2
  refine bodyPost_ret (results_cell_row (t:=35) (fr:=(0,0)) rfl _ _ (w.heap.size+1) _ _ rfl (obj_set (obj_set HR4.out 0 _) 1 _) Tryz.underlying35 rfl (by kernel_rfl)) rfl ?_
  exact⟨rfl,Fr.set_new (Fr.set_new (HF2.out.trans HF4.out) (by omega)) (by omega)⟩)
set_option maxRecDepth 10000 in
theorem normC_any (Q P:Nat)(line gap a:Int)(b:Bool)(w:World)(hq:w.cell? ⟨Q,0,none⟩=some (.pointer (some ⟨P,0,none⟩)))(h:∀Y,Fr [] w Y→Calls Tryz.prog 83 #[.pointer (some ⟨P,0,none⟩),.agg #[.int .i64 line,.int .i64 gap]] Y fun e w'=>e=.returned (.agg #[.int .i64 a,.bool b])∧Fr [] Y w') :
 Calls Tryz.prog 35 #[.pointer (some ⟨Q,0,none⟩),.agg #[.int .i64 line,.int .i64 gap]] w fun e w'=>e=.returned (.agg #[.int .i64 a,.bool b])∧Fr [] w w':=by
 obtain⟨w2,hw2⟩:∃w2,w2=(w.alloc (.cells #[.int .i64 line,.int .i64 gap] 37)).alloc (.cells #[.int .i64 0,.bool false] 35):=⟨_,rfl⟩;have HF2:=hid (show Fr [] w w2 by rw[hw2];exact((Fr.refl _ _).alloc _).alloc _);have HQ2:=hid (HF2.out.cell hq List.not_mem_nil);have HO2:=hid (show w2.heap[w.heap.size]?=some (.cells #[.int .i64 line,.int .i64 gap] 37 (0,0)) by rw[hw2];exact obj_fr (obj_new w _) ((Fr.refl [] _).alloc _) List.not_mem_nil)
 have HR2:=hid (show w2.heap[w.heap.size+1]?=some (.cells #[.int .i64 0,.bool false] 35 (0,0)) by
  have hs:(w.alloc (.cells #[.int .i64 line,.int .i64 gap] 37)).heap.size=w.heap.size+1:=by simp
  have h0:=obj_new (w.alloc (.cells #[.int .i64 line,.int .i64 gap] 37)) (.cells #[.int .i64 0,.bool false] 35)
  rw[hs]at h0
  rw[hw2];exact h0)
 have H61:=hid h;have hQl:Q<w.heap.size:=World.block_lt_of_cell? _ _ hq;clear h;go_enter Tryz.func35,Tryz.ntmps35;have HW2:=hid hw2;clear hw2;go_wp2_with fail;rw[←HW2.out];have q0:=HQ2.out;have c0:=obj_cell HO2.out (i:=0) (v:=.int .i64 line) rfl;have c1:=obj_cell HO2.out (i:=1) (v:=.int .i64 gap) rfl
 go_region_with (first
  | (go_at_call 83;refine(H61.out _ ?fa).mono ?_;(case fa=>exact⟨HF2.out.os,HF2.out.tape,HF2.out.output,HF2.out.size,HF2.out.block⟩);rintro e w4 ⟨rfl,hf4⟩;have HF4:=hid (show Fr [] w2 w4 from⟨hf4.os,hf4.tape,hf4.output,hf4.size,hf4.block⟩);have HR4:=hid (obj_fr HR2.out HF4.out List.not_mem_nil);have r0:=obj_cell HR4.out (i:=0) (v:=.int .i64 0) rfl;have r1:=obj_cell HR4.out (i:=1) (v:=.bool false) rfl;have g0:=obj_froz HR4.out 0;have g1:=obj_froz HR4.out 1;clear hf4))
 all_goals (
  go_wp2
  refine bodyPost_ret (results_cell_row (t:=35) (fr:=(0,0)) rfl _ _ (w.heap.size+1) _ _ rfl (obj_set (obj_set HR4.out 0 _) 1 _) Tryz.underlying35 rfl (by kernel_rfl)) rfl ?_
  exact⟨rfl,Fr.set_new (Fr.set_new (HF2.out.trans HF4.out) (by omega)) (by omega)⟩)
set_option maxRecDepth 10000 in
theorem gapC_any (Q P:Nat)(off a b:Int)(back:Bool)(w:World)(hq:w.cell? ⟨Q,0,none⟩=some (.pointer (some ⟨P,0,none⟩)))(h:∀Y,Fr [] w Y→Calls Tryz.prog 84 #[.pointer (some ⟨P,0,none⟩),.agg #[.int .i64 off,.bool back]] Y fun e w'=>e=.returned (.agg #[.int .i64 a,.int .i64 b])∧Fr [] Y w') :
 Calls Tryz.prog 36 #[.pointer (some ⟨Q,0,none⟩),.agg #[.int .i64 off,.bool back]] w fun e w'=>e=.returned (.agg #[.int .i64 a,.int .i64 b])∧Fr [] w w':=by
 obtain⟨w2,hw2⟩:∃w2,w2=(w.alloc (.cells #[.int .i64 off,.bool back] 35)).alloc (.cells #[.int .i64 0,.int .i64 0] 37):=⟨_,rfl⟩;have HF2:=hid (show Fr [] w w2 by rw[hw2];exact((Fr.refl _ _).alloc _).alloc _);have HQ2:=hid (HF2.out.cell hq List.not_mem_nil);have HO2:=hid (show w2.heap[w.heap.size]?=some (.cells #[.int .i64 off,.bool back] 35 (0,0)) by rw[hw2];exact obj_fr (obj_new w _) ((Fr.refl [] _).alloc _) List.not_mem_nil)
 have HR2:=hid (show w2.heap[w.heap.size+1]?=some (.cells #[.int .i64 0,.int .i64 0] 37 (0,0)) by
  have hs:(w.alloc (.cells #[.int .i64 off,.bool back] 35)).heap.size=w.heap.size+1:=by simp
  have h0:=obj_new (w.alloc (.cells #[.int .i64 off,.bool back] 35)) (.cells #[.int .i64 0,.int .i64 0] 37)
  rw[hs]at h0
  rw[hw2];exact h0)
 have H59:=hid h;have hQl:Q<w.heap.size:=World.block_lt_of_cell? _ _ hq;clear h;go_enter Tryz.func36,Tryz.ntmps36;have HW2:=hid hw2;clear hw2;go_wp2_with fail;rw[←HW2.out];have q0:=HQ2.out;have c0:=obj_cell HO2.out (i:=0) (v:=.int .i64 off) rfl;have c1:=obj_cell HO2.out (i:=1) (v:=.bool back) rfl
 go_region_with (first
  | (go_at_call 84;refine(H59.out _ ?fa).mono ?_;(case fa=>exact⟨HF2.out.os,HF2.out.tape,HF2.out.output,HF2.out.size,HF2.out.block⟩);rintro e w4 ⟨rfl,hf4⟩;have HF4:=hid (show Fr [] w2 w4 from⟨hf4.os,hf4.tape,hf4.output,hf4.size,hf4.block⟩);have HR4:=hid (obj_fr HR2.out HF4.out List.not_mem_nil);have r0:=obj_cell HR4.out (i:=0) (v:=.int .i64 0) rfl;have r1:=obj_cell HR4.out (i:=1) (v:=.int .i64 0) rfl;have g0:=obj_froz HR4.out 0;have g1:=obj_froz HR4.out 1;clear hf4))
 all_goals (
  go_wp2
  refine bodyPost_ret (results_cell_row (t:=37) (fr:=(0,0)) rfl _ _ (w.heap.size+1) _ _ rfl (obj_set (obj_set HR4.out 0 _) 1 _) Tryz.underlying37 rfl (by kernel_rfl)) rfl ?_
  exact⟨rfl,Fr.set_new (Fr.set_new (HF2.out.trans HF4.out) (by omega)) (by omega)⟩)
set_option maxRecDepth 10000 in
theorem xC_any (Q P:Nat)(off a:Int)(back:Bool)(w:World)(hq:w.cell? ⟨Q,0,none⟩=some (.pointer (some ⟨P,0,none⟩)))(h:∀Y,Fr [] w Y→Calls Tryz.prog 89 #[.pointer (some ⟨P,0,none⟩),.agg #[.int .i64 off,.bool back]] Y fun e w'=>e=.returned (.int .i64 a)∧Fr [] Y w') :
 Calls Tryz.prog 41 #[.pointer (some ⟨Q,0,none⟩),.agg #[.int .i64 off,.bool back]] w fun e w'=>e=.returned (.int .i64 a)∧Fr [] w w':=by
 obtain⟨w2,hw2⟩:∃w2,w2=w.alloc (.cells #[.int .i64 off,.bool back] 35):=⟨_,rfl⟩;have HF2:=hid (show Fr [] w w2 by rw[hw2];(repeat(first | refine Fr.set_new ?_ (by omega) | refine Fr.drewN ?_ _ | refine Fr.drew ?_ | with_reducible exact Fr.refl _ _ | refine Fr.alloc ?_ _)));have HQ2:=hid (HF2.out.cell hq List.not_mem_nil);have HO2:=hid (show w2.heap[w.heap.size]?=some (.cells #[.int .i64 off,.bool back] 35 (0,0)) by rw[hw2];exact obj_new w _);have H60:=hid h;have hQl:Q<w.heap.size:=World.block_lt_of_cell? _ _ hq;clear h;go_enter Tryz.func41,Tryz.ntmps41;have HW2:=hid hw2;clear hw2;go_wp2_with fail;rw[←HW2.out];have q0:=HQ2.out;have c0:=obj_cell HO2.out (i:=0) (v:=.int .i64 off) rfl;have c1:=obj_cell HO2.out (i:=1) (v:=.bool back) rfl
 go_region_with (first
  | (go_at_call 89;refine(H60.out _ ?fa).mono ?_;(case fa=>exact⟨HF2.out.os,HF2.out.tape,HF2.out.output,HF2.out.size,HF2.out.block⟩);rintro e w4 ⟨rfl,hf4⟩;have HF4:=hid (show Fr [] w2 w4 from⟨hf4.os,hf4.tape,hf4.output,hf4.size,hf4.block⟩);clear hf4))
 all_goals (
  go_wp2
  go_ret
  exact⟨rfl,HF2.out.trans HF4.out⟩)
set_option maxRecDepth 10000 in
set_option maxHeartbeats 4000000 in
theorem xP_any (B P:Nat)(Bd V X:List Int)(r:Int)(Ls:List Ln)(v0 v1 v2 vL:Value)(hs:List Value)(off:Int)(back:Bool)(i k:Nat)(w:World)(h:LP w B P Bd V X r Ls v0 v1 v2 vL hs)(hi:i<Ls.length)(hk:k<(lnN Ls i).x.length)(hK:Ls.length≤400)(hx:(lnN Ls i).x.length≤1001)(hg:∀Y,Fr [] w Y→Calls Tryz.prog 84 #[.pointer (some ⟨P,0,none⟩),.agg #[.int .i64 off,.bool back]] Y fun e w'=>e=.returned (.agg #[.int .i64 (i:Nat),.int .i64 (k:Nat)])∧Fr [] Y w') :
 Calls Tryz.prog 89 #[.pointer (some ⟨P,0,none⟩),.agg #[.int .i64 off,.bool back]] w fun e w'=>e=.returned (.int .i64 (nth (lnN Ls i).x k))∧Fr [] w w':=by
 obtain⟨U,_,hn⟩:=h.n;obtain⟨vO,vX,_,_,_,a4,_,a6,_⟩:=hn i _ (lnN_get hi);obtain⟨gL,cL,hvL⟩:=owns_shape (by omega) h.l;subst hvL;obtain⟨gX,cX,hvX⟩:=owns_shape (by omega) a6;subst hvX;have c3:w.cell? ⟨gL,i * 4+3,none⟩=some (.slice (some ⟨gX,0,none⟩) (lnN Ls i).x.length cX):=by rw[h.l.cellAt _ (by omega)];exact a4
 have c4:w.cell? ⟨gX,k,none⟩=some (.int .i64 (nth (lnN Ls i).x k)):=by rw[a6.cellAt k (by omega),ints64_at hk]
 have p3:=obj_cell h.o (i:=3) (v:=.slice (some ⟨gL,0,none⟩) Ls.length cL) rfl;have hPl:P<w.heap.size:=World.block_lt_of_cell? _ _ p3;obtain⟨w2,hw2⟩:∃w2,w2=w.alloc (.cells #[.int .i64 off,.bool back] 35):=⟨_,rfl⟩;have HF2:=hid (show Fr [] w w2 by rw[hw2];(repeat(first | refine Fr.set_new ?_ (by omega) | refine Fr.drewN ?_ _ | refine Fr.drew ?_ | with_reducible exact Fr.refl _ _ | refine Fr.alloc ?_ _)));have HO2:=hid (show w2.heap[w.heap.size]?=some (.cells #[.int .i64 off,.bool back] 35 (0,0)) by rw[hw2];exact obj_new w _);have H59:=hid hg;have hiI:(i:Int)<(Ls.length:Int):=by omega
 have hkI:(k:Int)<((lnN Ls i).x.length:Int):=by omega
 generalize nth (lnN Ls i).x k=y at *;generalize (lnN Ls i).x.length=lx at *;generalize Ls.length=K at *;have HC:=hid (And.intro p3 (And.intro c3 c4));clear h hn a4 a6 hg;go_enter Tryz.func89,Tryz.ntmps89;have HW2:=hid hw2;clear hw2;go_wp2_with fail;rw[←HW2.out];refine(H59.out _ HF2.out).mono ?_;rintro e w4 ⟨rfl,hf4⟩;have HF4:=hid (HF2.out.trans hf4);have d1:=HF4.out.cell p3 List.not_mem_nil;have d2:=HF4.out.cell c3 List.not_mem_nil;have d3:=HF4.out.cell c4 List.not_mem_nil;clear hf4 p3 c3 c4;have e1:=World.block_lt_of_cell? _ _ d1;have e2:=World.block_lt_of_cell? _ _ d2;have e3:=World.block_lt_of_cell? _ _ d3;dsimp only at e1 e2 e3;go_wp2_with fail;go_quiet (fail);go_wp2;go_ret;exact⟨rfl,by repeat(first | exact HF4.out | refine Fr.drewN ?_ _ | refine Fr.alloc ?_ _)⟩
structure Holds (Ls:List Ln)(x:Int)(i:Nat):Prop where
 lt:i<Ls.length
 yes:x<(lnN Ls i).t
 no:∀j,j<i→¬x<(lnN Ls j).t
set_option maxRecDepth 10000 in
theorem holds_one (f t x:Int)(vO vX:Value)(b:Nat)(w:World)(hb:w.cell? ⟨b,0,none⟩=some (.int .i64 x)) :
 Calls Tryz.prog 247 #[.agg #[.int .i64 f,.int .i64 t,vO,vX],.pointer (some ⟨b,0,none⟩)] w fun e w'=>e=.returned (.bool (decide (x<t)))∧Fr [] w w':=by
 have hbl:=World.block_lt_of_cell? _ _ hb;dsimp only at hbl;go_enter Tryz.func247,Tryz.ntmps247;go_wp2;go_ret;exact⟨rfl,by(repeat(first | refine Fr.set_new ?_ (by omega) | refine Fr.drewN ?_ _ | refine Fr.drew ?_ | with_reducible exact Fr.refl _ _ | refine Fr.alloc ?_ _))⟩
set_option maxRecDepth 10000 in
set_option maxHeartbeats 4000000 in
theorem holds_func (Ls:List Ln)(x:Int)(i b B U gL cL K:Nat)(hs:List Value)(w:World)(hi:Holds Ls x i)(hK:K=Ls.length)(hK4:K≤400)(hl:w.ownsRow B 72 4 (.slice (some ⟨gL,0,none⟩) K cL) K hs)(hn:lnsAt w B U hs Ls)(hb:w.cell? ⟨b,0,none⟩=some (.int .i64 x)) :
 Calls Tryz.prog 246 #[.slice (some ⟨gL,0,none⟩) K cL,.func (.func 247) #[] #[.pointer (some ⟨b,0,none⟩)]] w fun e w'=>e=.returned (.int .i64 (i:Nat))∧Fr [] w w':=by
 have HH:=hid hi
 have HL:=hid (fun j (hj:j<K)=>show ∃f vO vX,w.cell? ⟨gL,j * 4,none⟩=some (.int .i64 f)∧w.cell? ⟨gL,j * 4+1,none⟩=some (.int .i64 (lnN Ls j).t)∧w.cell? ⟨gL,j * 4+2,none⟩=some vO∧w.cell? ⟨gL,j * 4+3,none⟩=some vX by
  obtain⟨vO,vX,a1,a2,a3,a4,_⟩:=hn j _ (lnN_get (by omega))
  exact⟨_,vO,vX,by rw[hl.cellAt _ (by omega)];exact a1,by rw[hl.cellAt _ (by omega)];exact a2,by rw[hl.cellAt _ (by omega)];exact a3,by rw[hl.cellAt _ (by omega)];exact a4⟩)
 have HB:=hid hb;have hiK:i<K:=by have:=hi.lt;omega
 clear hi hl hn hb hK;go_enter Tryz.func246,Tryz.ntmps246;go_wp2_with fail;go_loopw [8] (fun vk wr=>∃k:Nat,vk=.int .i64 k∧k≤i∧Hid (Fr [] w wr)) (fun vk _=>K - (intOf vk).toNat)
 case atStart=>exact⟨0,rfl,Nat.zero_le _,hid (Fr.refl [] w)⟩
 case round =>
  obtain⟨k,rfl,hk,HF⟩:=hrel;obtain⟨f,vO,vX,a1,a2,a3,a4⟩:=HL.out k (by omega);have c1:=HF.out.cell a1 List.not_mem_nil;have c2:=HF.out.cell a2 List.not_mem_nil;have c3:=HF.out.cell a3 List.not_mem_nil;have c4:=HF.out.cell a4 List.not_mem_nil;have HY:=hid (HH.out.yes);have HN:=hid (HH.out.no k);have hkI:(k:Int)<(K:Int):=by omega
  have H172:=hid (fun(Y:World) (hf:Fr [] w Y)=>holds_one f (lnN Ls k).t x vO vX b Y (hf.cell HB.out List.not_mem_nil));by_cases hki:k=i
  ·subst hki
   have hx:decide (x<(lnN Ls k).t)=true:=by simpa using HY.out
   rw[hx]at H172;clear hx a1 a2 a3 a4;generalize (lnN Ls k).t=t at *;go_wp2_with (first | (go_at_call 247;refine(H172.out _ HF.out).mono ?_;rintro e w4 ⟨rfl,hf4⟩;have HF4:=hid (HF.out.trans hf4);clear hf4));go_ret;exact⟨rfl,HF4.out⟩
  ·have hx:decide (x<(lnN Ls k).t)=false:=by simpa using HN.out (by omega)
   rw[hx]at H172;clear hx a1 a2 a3 a4;generalize (lnN Ls k).t=t at *;go_wp2_with (first | (go_at_call 247;refine(H172.out _ HF.out).mono ?_;rintro e w4 ⟨rfl,hf4⟩;have HF4:=hid (HF.out.trans hf4);clear hf4));go_roundw
   case rel=>exact⟨k+1,by go_num,by omega,HF4⟩
   case measure=>simp[intOf];omega
set_option maxRecDepth 10000 in
theorem holds_any (Ls:List Ln)(x:Int)(i B U gL cL K:Nat)(hs:List Value)(w:World)(hi:Holds Ls x i)(hK:K=Ls.length)(hK4:K≤400)(hl:w.ownsRow B 72 4 (.slice (some ⟨gL,0,none⟩) K cL) K hs)(hn:lnsAt w B U hs Ls) :
 Calls Tryz.prog 151 #[.slice (some ⟨gL,0,none⟩) K cL,.int .i64 x] w fun e w'=>e=.returned (.int .i64 (i:Nat))∧Fr [] w w':=by
 have HF2:=hid (show Fr [] w (w.alloc (.cells #[.int .i64 x] 3)) by(repeat(first | refine Fr.set_new ?_ (by omega) | refine Fr.drewN ?_ _ | refine Fr.drew ?_ | with_reducible exact Fr.refl _ _ | refine Fr.alloc ?_ _)));have H171:=hid (holds_func Ls x i w.heap.size B U gL cL K hs (w.alloc (.cells #[.int .i64 x] 3)) hi hK hK4 (owns_fr0 hl HF2.out) (hn.fr (fun _ _ _ _ _ _ h=>owns_fr0 h HF2.out)) (obj_cell (obj_new w (.cells #[.int .i64 x] 3)) (i:=0) rfl));clear hi hK hl hn;go_enter Tryz.func151,Tryz.ntmps151;go_wp2_with (first | (go_at_call 246;refine H171.out.mono ?_;rintro e w4 ⟨rfl,hf4⟩;have HF4:=hid (HF2.out.trans hf4);clear hf4));go_ret;exact⟨rfl,HF4.out⟩
structure Stands (O:List Nat)(c k:Nat):Prop where
 lt:k<O.length
 yes:nix O k=c
 no:∀j,j<k→nix O j≠c
theorem nat_getD (O:List Nat)(j:Nat):(O.map fun x:Nat=>(x:Int)).getD j 0=(nix O j:Nat):=by
 simp only[List.getD,List.getElem?_map,nix];cases O[j]? <;> simp
theorem index_any (O:List Nat)(c k go n cap:Nat)(w:World)(hn:n=O.length)(hk:Stands O c k)(hb:n≤1000)(hO:rowN w go n O) :
 Calls Tryz.prog 152 #[.slice (some ⟨go,0,none⟩) n cap,.int .i64 (c:Nat)] w fun e w'=>e=.returned (.int .i64 (k:Nat))∧w'=w:=by
 subst hn
 have h:=Tryz.slices_Index_int go 0 O.length cap (O.map fun x:Nat=>(x:Int)) (c:Nat) w (by simp) (by omega) (fun j hj=>by
  rw[nat_getD,Nat.zero_add];exact hO j (by simpa using hj))
 have e:Lib.idxOf ((O.map fun x:Nat=>(x:Int)).take O.length) (c:Nat)=(k:Nat):=by
  rw[List.take_of_length_le (by simp)]
  have:=Lib.idxFrom_hit (c:Nat) (O.map fun x:Nat=>(x:Int)) k 0 (by simpa using hk.lt) (by rw[nat_getD,hk.yes]) (fun j hj=>by
   rw[nat_getD];intro h;exact hk.no j hj (by omega))
  simpa[Lib.idxOf] using this
 rw[e]at h;exact h
theorem rises_lt {l:List Int}{z:Int}(h:Rises l z){i j:Nat}(hij:i<j)(hj:j<l.length):nth l i<nth l j:=by
 have:=List.pairwise_iff_getElem.1 h.sorted i j (by omega) hj hij;rw[nth,nth,List.getElem?_eq_getElem (show i<l.length by omega),List.getElem?_eq_getElem hj];exact this
theorem rises_inj {l:List Int}{z:Int}(h:Rises l z){i j:Nat}(hi:i<l.length)(hj:j<l.length)(e:nth l i=nth l j):i=j:=by
 rcases Nat.lt_trichotomy i j with h1 | h1 | h1
 ·have:=rises_lt h h1 hj;omega
 ·exact h1
 ·have:=rises_lt h h1 hi;omega
theorem rises_first {l:List Int}{z:Int}(h:Rises l z):nth l 0=0:=by rw[nth,h.head];rfl
theorem rises_last {l:List Int}{z:Int}(h:Rises l z):nth l (l.length - 1)=z:=by rw[nth,h.last];rfl
theorem best_mem {l:List Int}{z:Int}(h:Rises l z)(x:Int):∀k,k≤l.length→∃j,j<l.length∧nth l j=best l x k
 | 0,_=>⟨0,h.len,rises_first h⟩
 | k+1,hk=>by
   rw[best];split
   ·exact⟨k,hk,nth_getD l k⟩
   ·exact best_mem h x k (by omega)
theorem cidx_of {l:List Int}{z:Int}(h:Rises l z){j:Nat}(hj:j<l.length):cidx l (nth l j)=j:=by
 have hm:l.contains (nth l j)=true:=by
  rw[List.contains_iff_mem,nth,List.getElem?_eq_getElem hj];exact List.getElem_mem _
 obtain⟨h1,h2⟩:=cidx_at h hm;rw[←nth_getD]at h2;exact rises_inj h h1 hj h2
theorem place_spec {Bd:List Int}{z:Int}(h:Rises Bd z)(h1:1<Bd.length)(off:Int)(back:Bool) :
 ∃c,c+1<Bd.length∧cidx Bd (placeL Bd z off back).1=(if(placeL Bd z off back).2=true then c+1 else c)∧nth Bd (if(placeL Bd z off back).2=true then c+1 else c)=(placeL Bd z off back).1:=by
 obtain⟨j,hj,e⟩:=best_mem h (min (max off 0) z) Bd.length (Nat.le_refl _);have hp:placeL Bd z off back=(nth Bd j,if nth Bd j=0 then false else if nth Bd j=z then true else back):=by rw[e];rfl
 have hci:=cidx_of h hj;rw[hp];dsimp only;rw[hci];by_cases h0:nth Bd j=0
 ·obtain rfl:j=0:=rises_inj h hj (by omega) (by rw[h0,rises_first h])
  rw[if_pos h0];exact⟨0,h1,rfl,rfl⟩
 ·rw[if_neg h0]
  have hj0:j≠0:=fun hz=>h0 (by rw[hz];exact rises_first h)
  by_cases h2:nth Bd j=z
  ·rw[if_pos h2]
   exact⟨j - 1,by omega,by simp;omega,by simp;rw[show j - 1+1=j by omega]⟩
  ·rw[if_neg h2]
   have hjl:j≠Bd.length - 1:=fun hz=>h2 (by rw[hz];exact rises_last h)
   cases back
   ·exact⟨j,by omega,rfl,rfl⟩
   ·exact⟨j - 1,by omega,by simp;omega,by simp;rw[show j - 1+1=j by omega]⟩
structure Fine (Bd V:List Int)(z:Int)(Ls:List Ln):Prop where
 rs:Rises Bd z
 bd:Bd.length=V.length+1
 on:∀i,i<Ls.length→∀c∈(lnN Ls i).o,c<V.length∧Holds Ls (nth Bd c) i
 has:∀c,c<V.length→∃i,i<Ls.length∧c∈(lnN Ls i).o
 nd:∀i,i<Ls.length→(lnN Ls i).o.Nodup
 ne:0<V.length→∀i,i<Ls.length→0<(lnN Ls i).o.length
theorem nix_eq {O:List Nat}{j:Nat}(h:j<O.length):nix O j=O[j]:=by rw[nix,List.getElem?_eq_getElem h];rfl
theorem stands_of {O:List Nat}{c:Nat}(h:c∈O):∃k,Stands O c k:=by
 refine⟨O.idxOf c,List.idxOf_lt_length_iff.2 h,?_,fun j hj e=>?_⟩
 ·rw[nix_eq (List.idxOf_lt_length_iff.2 h)];exact List.getElem_idxOf _
 ·have hl:j<O.length:=Nat.lt_trans hj (List.idxOf_lt_length_iff.2 h)
  rw[nix_eq hl]at e;have:=List.not_of_lt_findIdx (p:=(· == c)) (xs:=O) hj;simp[e]at this
theorem Fine.gap {Bd V:List Int}{z:Int}{Ls:List Ln}(F:Fine Bd V z Ls)(h0:0<V.length)(off:Int)(back:Bool) :
 ∃c i k,c<V.length∧cidx Bd (placeL Bd z off back).1=(if(placeL Bd z off back).2=true then c+1 else c)∧nth Bd (if(placeL Bd z off back).2=true then c+1 else c)=(placeL Bd z off back).1∧Holds Ls (nth Bd c) i∧Stands (lnN Ls i).o c k:=by
 have hb:=F.bd;obtain⟨c,hc,e1,e2⟩:=place_spec F.rs (by omega) off back;obtain⟨i,hi,hm⟩:=F.has c (by omega);obtain⟨k,hk⟩:=stands_of hm;exact⟨c,i,k,by omega,e1,e2,(F.on i hi c hm).2,hk⟩
def gapL (Bd V:List Int)(z:Int)(Ls:List Ln)(off:Int)(back:Bool):Nat × Nat :=
 if V.length=0 then(0,0)else
 let p:=placeL Bd z off back
 let c:=if p.2=true then cidx Bd p.1 - 1 else cidx Bd p.1
 let i:=Ls.findIdx (fun l=>decide (nth Bd c<l.t))
 let k:=(lnN Ls i).o.idxOf c
 (i,if p.2=(nth V c % 2 == 1)then k else k+1)
theorem holds_idx {Ls:List Ln}{x:Int}{i:Nat}(h:Holds Ls x i):Ls.findIdx (fun l=>decide (x<l.t))=i:=by
 have hl:∀j (hj:j<Ls.length),lnN Ls j=Ls[j]:=fun j hj=>by rw[lnN,List.getElem?_eq_getElem hj];rfl
 refine(List.findIdx_eq h.lt).2 ⟨?_,fun j hj=>?_⟩
 ·have:=h.yes
  rw[hl i h.lt]at this;exact decide_eq_true this
 ·have:=h.no j hj
  rw[hl j (Nat.lt_trans hj h.lt)]at this;exact decide_eq_false this
theorem stands_idx {O:List Nat}{c k:Nat}(h:Stands O c k):O.idxOf c=k:=by
 refine(List.findIdx_eq h.lt).2 ⟨?_,fun j hj=>?_⟩
 ·have:=h.yes
  rw[nix_eq h.lt]at this;simp[this]
 ·have:=h.no j hj
  rw[nix_eq (Nat.lt_trans hj h.lt)]at this;simpa using this
theorem gapL_eq {Bd V:List Int}{z:Int}{Ls:List Ln}{off:Int}{back:Bool}{c i k:Nat}(h0:0<V.length)(hc:cidx Bd (placeL Bd z off back).1=(if(placeL Bd z off back).2=true then c+1 else c))(hi:Holds Ls (nth Bd c) i)(hk:Stands (lnN Ls i).o c k) :
 gapL Bd V z Ls off back=(i,if(placeL Bd z off back).2=(nth V c % 2 == 1)then k else k+1):=by
 have hcc:(if(placeL Bd z off back).2=true then cidx Bd (placeL Bd z off back).1 - 1 else cidx Bd (placeL Bd z off back).1)=c:=by
  rw[hc];by_cases hb:(placeL Bd z off back).2=true
  ·rw[if_pos hb,if_pos hb];omega
  ·rw[if_neg hb,if_neg hb]
 unfold gapL;rw[if_neg (by omega)];dsimp only;rw[hcc,holds_idx hi,stands_idx hk]
theorem place_bd {Bd:List Int}{z:Int}(h:Rises Bd z){j:Nat}(hj:j<Bd.length)(b:Bool):placeL Bd z (nth Bd j) b=(nth Bd j,if j=0 then false else if j=Bd.length - 1 then true else b):=by
 have h0:0≤nth Bd j:=by
  have h1:=rises_first h
  rcases Nat.eq_zero_or_pos j with e | e
  ·rw[e,h1];exact Int.le_refl 0
  ·have:=rises_lt h e hj;omega
 have hz:nth Bd j≤z:=by
  have h1:=rises_last h
  rcases Nat.lt_or_eq_of_le (show j≤Bd.length - 1 by omega)with e | e
  ·have:=rises_lt h e (by omega);omega
  ·rw[e,h1];exact Int.le_refl z
 have hb:best Bd (min (max (nth Bd j) 0) z) Bd.length=nth Bd j:=by
  rw[show min (max (nth Bd j) 0) z=nth Bd j by omega];exact best_found h.sorted hj (nth_getD Bd j).symm
 have e1:(nth Bd j=0) ↔ j=0:=⟨fun e=>rises_inj h hj h.len (by rw[e,rises_first h]),fun e=>by rw[e,rises_first h]⟩;have e2:(nth Bd j=z) ↔ j=Bd.length - 1:=⟨fun e=>rises_inj h hj (by have:=h.len;omega) (by rw[e,rises_last h]),fun e=>by rw[e,rises_last h]⟩;unfold placeL;dsimp only;rw[hb];simp only[e1,e2]
theorem near_self {k n:Nat}(h:k≤n):(near (k:Int) (n:Int)).toNat=k:=by unfold near;split <;> (try split) <;> omega
theorem near_line {i K:Nat}(h:i<K):(near (i:Int) ((K:Int) - 1)).toNat=i:=by unfold near;split <;> (try split) <;> omega
theorem nix_mem' {O:List Nat}{j:Nat}(h:j<O.length):nix O j∈O:=by rw[nix_eq h];exact List.getElem_mem _
theorem stands_nd {O:List Nat}(hn:O.Nodup){k:Nat}(h:k<O.length):Stands O (nix O k) k:=by
 refine⟨h,rfl,fun j hj e=>?_⟩;rw[nix_eq h,nix_eq (Nat.lt_trans hj h)]at e;exact List.pairwise_iff_getElem.1 hn j k (Nat.lt_trans hj h) h hj e
theorem gap_norm {Bd V:List Int}{z:Int}{Ls:List Ln}(F:Fine Bd V z Ls)(h0:0<V.length){i k:Nat}(hi:i<Ls.length)(hk:k≤(lnN Ls i).o.length) :
 placeL Bd z (normP Bd V Ls i k).1 (normP Bd V Ls i k).2=normP Bd V Ls i k∧gapL Bd V z Ls (normP Bd V Ls i k).1 (normP Bd V Ls i k).2=(i,k):=by
 have hne:=F.ne h0 i hi;have hbd:=F.bd;obtain⟨c,j,rt,hj,hc,hjk,hnp⟩:∃c j rt,j<(lnN Ls i).o.length∧c=nix (lnN Ls i).o j∧k=(if rt=true then j+1 else j)∧normP Bd V Ls i k=sideP Bd V c rt:=by
  unfold normP;dsimp only;rw[near_line hi,near_self hk,if_neg (by omega)];by_cases hk0:k=0
  ·rw[if_pos hk0]
   exact⟨_,0,false,hne,rfl,by simp[hk0],rfl⟩
  ·rw[if_neg hk0]
   exact⟨_,k - 1,true,by omega,rfl,by simp;omega,rfl⟩
 have hm:c∈(lnN Ls i).o:=by rw[hc];exact nix_mem' hj
 obtain⟨hcv,hH⟩:=F.on i hi c hm;have hS:Stands (lnN Ls i).o c j:=by rw[hc];exact stands_nd (F.nd i hi) hj
 rw[hnp];have hp:placeL Bd z (sideP Bd V c rt).1 (sideP Bd V c rt).2=sideP Bd V c rt∧cidx Bd (sideP Bd V c rt).1=(if(sideP Bd V c rt).2=true then c+1 else c):=by
  unfold sideP;by_cases hr:rt=(nth V c % 2 == 1)
  ·rw[if_pos hr]
   dsimp only;rw[place_bd F.rs (by omega),cidx_of F.rs (by omega)];refine⟨?_,by simp⟩;rw[if_neg (show ¬c=Bd.length - 1 by omega)];simp
  ·rw[if_neg hr]
   dsimp only;rw[place_bd F.rs (by omega),cidx_of F.rs (by omega)];refine⟨?_,by simp⟩;rw[if_neg (show ¬c+1=0 by omega)];simp
 refine⟨hp.1,?_⟩;rw[gapL_eq h0 (c:=c) (i:=i) (k:=j) (by rw[hp.1];exact hp.2) hH hS,hp.1,hjk];have e:(sideP Bd V c rt).2=if rt=(nth V c % 2 == 1)then false else true:=by unfold sideP;split <;> rfl
 rw[e];cases rt <;> cases (nth V c % 2 == 1) <;> rfl
theorem place_place {Bd:List Int}{z:Int}(h:Rises Bd z)(off:Int)(back:Bool):placeL Bd z (placeL Bd z off back).1 (placeL Bd z off back).2=placeL Bd z off back:=by
 obtain⟨j,hj,e⟩:=best_mem h (min (max off 0) z) Bd.length (Nat.le_refl _);have hp:placeL Bd z off back=(nth Bd j,if nth Bd j=0 then false else if nth Bd j=z then true else back):=by rw[e];rfl
 rw[hp];dsimp only;rw[place_bd h hj];have e1:(nth Bd j=0) ↔ j=0:=⟨fun e=>rises_inj h hj h.len (by rw[e,rises_first h]),fun e=>by rw[e,rises_first h]⟩;have e2:(nth Bd j=z) ↔ j=Bd.length - 1:=⟨fun e=>rises_inj h hj (by have:=h.len;omega) (by rw[e,rises_last h]),fun e=>by rw[e,rises_last h]⟩;simp only[e1,e2];by_cases h1:j=0
 ·simp[h1]
 ·by_cases h2:j=Bd.length - 1
  ·simp[h2]
  ·simp[h1,h2]
theorem gap_place {Bd V:List Int}{z:Int}{Ls:List Ln}(h:Rises Bd z)(off:Int)(back:Bool):gapL Bd V z Ls (placeL Bd z off back).1 (placeL Bd z off back).2=gapL Bd V z Ls off back:=by
 unfold gapL;rw[place_place h]
theorem lns_at {s:ByteArray}{n:Nat}{bs:Int}{W Br:List Int}{k j:Nat}(hj:j<k):lnN (lns s n bs W Br k) j=lnOf (Dec.pos s) (nix (bix s n)) (evOf s n bs Br) W (eiOf s n Br j) (eiOf s n Br (j+1)):=by
 rw[lnN,lns,List.getElem?_map,List.getElem?_range hj];rfl
theorem lnOf_mem {P ri:Nat→Nat}{Ev:Nat→Int}{W:List Int}{a b c:Nat}:c∈(lnOf P ri Ev W a b).o ↔ a≤c∧c<b:=by
 show c∈(ordD _ (b - a)).map _ ↔ _;rw[List.mem_map];constructor
 ·rintro ⟨t,ht,rfl⟩
  have:=ordD_lt _ _ t ht;omega
 ·intro h
  exact⟨c - a,(ordD_perm _ _).mem_iff.2 (List.mem_range.2 (by omega)),by omega⟩
theorem lnOf_nodup {P ri:Nat→Nat}{Ev:Nat→Int}{W:List Int}{a b:Nat}:(lnOf P ri Ev W a b).o.Nodup:=by
 show((ordD _ (b - a)).map _).Nodup;have h1:(ordD (fun t=>Ev (ri (a+t))) (b - a)).Nodup:=(ordD_perm _ _).nodup_iff.2 List.nodup_range;unfold List.Nodup at *;rw[List.pairwise_map];exact h1.imp (fun hne he=>hne (by omega))
theorem fine_pos {s:ByteArray}{n:Nat}(hend:Dec.Ends s n)(hn:0<n){bs:Int}{W Br:List Int}(E:Edges s n Br):Fine (bnd s n) (lvE s n bs Br) (s.size:Nat) (lns s n bs W Br (Br.length+1)):=by
 have hr:=rises_bnd hend;have hvl:(lvE s n bs Br).length=cn s n:=by rw[lvE,lvs_len,←cn_begs hn]
 have hbl:(bnd s n).length=cn s n+1:=by have:=(bix_len s n).2.1;rw[bnd_length hend];unfold cn;omega
 have hle:∀j,j≤Br.length+1→eiOf s n Br j≤cn s n:=E.le;have ht:∀j,j<Br.length+1→(lnN (lns s n bs W Br (Br.length+1)) j).t=nth (bnd s n) (eiOf s n Br (j+1)):=fun j hj=>by
  have:=hle (j+1) (by omega);rw[lns_at hj,bnd_nth hend (by rw[←bnd_length hend,hbl];omega)];rfl
 have hmo:∀i j,i<j→j≤Br.length+1→eiOf s n Br i<eiOf s n Br j:=E.mono;refine⟨hr,by omega,fun i hi c hc=>?_,fun c hc=>?_,fun i hi=>?_,fun _ i hi=>?_⟩
 ·rw[lns_len]at hi
  rw[lns_at hi,lnOf_mem]at hc;have h1:=hle (i+1) (by omega);refine⟨by omega,by rw[lns_len];exact hi,by rw[ht i hi];exact rises_lt hr hc.2 (by omega),fun j hj=>?_⟩;rw[ht j (by omega)];have h2:eiOf s n Br (j+1)≤eiOf s n Br i:=by
   rcases Nat.lt_or_eq_of_le (show j+1≤i from hj)with h | h
   ·exact Nat.le_of_lt (hmo _ _ h (by omega))
   ·rw[h];exact Nat.le_refl _
  rcases Nat.lt_or_eq_of_le (Nat.le_trans h2 hc.1)with h3 | h3
  ·have:=rises_lt hr h3 (by omega);omega
  ·rw[h3];omega
 ·rw[hvl]at hc
  have key:∀k,k≤Br.length+1→c<eiOf s n Br k→∃i,i<Br.length+1∧eiOf s n Br i≤c∧c<eiOf s n Br (i+1):=by
   intro k
   induction k with
   | zero=>intro _ h;rw[show eiOf s n Br 0=0 from E.e0]at h;omega
   | succ k ih =>
     intro hk h
     rcases Nat.lt_or_ge c (eiOf s n Br k)with h1 | h1
     ·exact ih (by omega) h1
     ·exact⟨k,by omega,h1,h⟩
  obtain⟨i,hi,h1,h2⟩:=key (Br.length+1) (Nat.le_refl _) (by rw[show eiOf s n Br (Br.length+1)=cn s n from E.eN];exact hc);exact⟨i,by rw[lns_len];exact hi,by rw[lns_at hi,lnOf_mem];exact⟨h1,h2⟩⟩
 ·rw[lns_len]at hi
  rw[lns_at hi];exact lnOf_nodup
 ·rw[lns_len]at hi
  rw[lns_at hi];exact List.length_pos_of_mem (lnOf_mem.2 ⟨Nat.le_refl _,hmo i (i+1) (by omega) (by omega)⟩)
theorem fine_nil:Fine [0] [] 0 [ln0]:=by
 refine⟨⟨by simp,rfl,rfl⟩,rfl,fun i hi c hc=>?_,fun c hc=>absurd hc (Nat.not_lt_zero _),fun i hi=>?_,fun h=>absurd h (Nat.lt_irrefl 0)⟩
 ·obtain rfl:i=0:=by simpa using hi
  exact absurd hc List.not_mem_nil
 ·obtain rfl:i=0:=by simpa using hi
  exact List.nodup_nil
end Go.Proofs.YtnakejhohdbfdabGreatDoor
