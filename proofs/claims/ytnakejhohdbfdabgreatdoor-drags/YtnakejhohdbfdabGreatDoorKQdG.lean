import Derived.Test.YtnakejhohdbfdabGreatDoorKQdB
import Derived.Deep.RegionHeld
import Derived.Laws.ResultCell
namespace Go.Proofs.YtnakejhohdbfdabGreatDoor
open Go.RowKit Lev Lay Bnd
set_option maxRecDepth 10000 in
set_option maxHeartbeats 4000000 in
theorem targ2_any (P gB cB nB:Nat)(off goal y ra:Int)(back rb:Bool)(c:Nat)(v1 v2 vL:Value)(r:Int)(w:World)(ho:w.heap[P]?=some (.cells #[.slice (some ⟨gB,0,none⟩) nB cB,v1,v2,vL,.int .i64 r] 210 (0,0)))(hc:c≤1000)
 (ha:∀Y,Fr [] w Y→Calls Tryz.prog 150 #[.agg #[.slice (some ⟨gB,0,none⟩) nB cB,v1,v2],.int .i64 off] Y fun e w'=>e=.returned (.int .i64 (c:Nat))∧Fr [] Y w')
 (hb:∀Y,Fr [] w Y→Calls Tryz.prog 250 #[.agg #[.slice (some ⟨gB,0,none⟩) nB cB,v1,v2],.int .i64 ((c:Int)+1)] Y fun e w'=>e=.returned (.int .i64 y)∧Fr [] Y w')
 (hp:∀Y,Fr [] w Y→Calls Tryz.prog 87 #[.pointer (some ⟨P,0,none⟩),.agg #[.int .i64 y,.bool true]] Y fun e w'=>e=.returned (.agg #[.int .i64 ra,.bool rb])∧Fr [] Y w') :
 Calls Tryz.prog 154 #[.pointer (some ⟨P,0,none⟩),.int .i64 2,.agg #[.int .i64 off,.bool back],.int .i64 goal] w fun e w'=>e=.returned (.agg #[.int .i64 ra,.bool rb])∧Fr [] w w':=by
 obtain⟨w2,hw2⟩:∃w2,w2=(w.alloc (.cells #[.int .i64 off,.bool back] 35)).alloc (.cells #[.int .i64 0,.bool false] 35):=⟨_,rfl⟩;have HF2:=hid (show Fr [] w w2 by rw[hw2];exact((Fr.refl _ _).alloc _).alloc _);have HO2:=hid (show w2.heap[w.heap.size]?=some (.cells #[.int .i64 off,.bool back] 35 (0,0)) by rw[hw2];exact obj_fr (obj_new w _) ((Fr.refl [] _).alloc _) List.not_mem_nil)
 have HR2:=hid (show w2.heap[w.heap.size+1]?=some (.cells #[.int .i64 0,.bool false] 35 (0,0)) by
  have hs:(w.alloc (.cells #[.int .i64 off,.bool back] 35)).heap.size=w.heap.size+1:=by simp
  have h0:=obj_new (w.alloc (.cells #[.int .i64 off,.bool back] 35)) (.cells #[.int .i64 0,.bool false] 35)
  rw[hs]at h0
  rw[hw2];exact h0)
 have HPO:=hid ho;have hPl:=obj_lt ho;have HA:=hid ha;have HB:=hid hb;have HP:=hid hp;have hwc:IntKind.i64.wrap ((c:Int)+1)=(c:Int)+1:=by rw[IntKind.wrap_i64];omega
 clear ho ha hb hp;go_enter Tryz.func154,Tryz.ntmps154;have HW2:=hid hw2;clear hw2;go_wp2_with fail;rw[←HW2.out];have HPO2:=hid (obj_fr HPO.out HF2.out List.not_mem_nil);have p0:=obj_cell HPO2.out (i:=0) (v:=.slice (some ⟨gB,0,none⟩) nB cB) rfl;have p1:=obj_cell HPO2.out (i:=1) (v:=v1) rfl;have p2:=obj_cell HPO2.out (i:=2) (v:=v2) rfl;have s0:=obj_cell HO2.out (i:=0) (v:=.int .i64 off) rfl;have HS0:=hid (And.intro p0 (And.intro p1 (And.intro p2 s0)));obtain⟨wa,HFA,HSA,HPA⟩:∃wa,Hid (Fr [] wa w2)∧Hid (wa.heap.size=w.heap.size+1)∧Hid (wa.cell? ⟨P,0,none⟩=some (.slice (some ⟨gB,0,none⟩) nB cB)∧wa.cell? ⟨P,1,none⟩=some v1∧wa.cell? ⟨P,2,none⟩=some v2∧wa.cell? ⟨w.heap.size,0,none⟩=some (.int .i64 off)) :=
  ⟨w.alloc (.cells #[.int .i64 off,.bool back] 35),hid (by rw[HW2.out];exact(Fr.refl [] _).alloc _),hid (by simp),hid ⟨((Fr.refl [] w).alloc _).cell (obj_cell HPO.out (i:=0) rfl) List.not_mem_nil,((Fr.refl [] w).alloc _).cell (obj_cell HPO.out (i:=1) rfl) List.not_mem_nil,((Fr.refl [] w).alloc _).cell (obj_cell HPO.out (i:=2) rfl) List.not_mem_nil,obj_cell (obj_new w _) (i:=0) rfl⟩⟩
 go_region_held (fun wz=>wz.cell? ⟨P,0,none⟩=some (.slice (some ⟨gB,0,none⟩) nB cB)∧wz.cell? ⟨P,1,none⟩=some v1∧wz.cell? ⟨P,2,none⟩=some v2∧wz.cell? ⟨w.heap.size,0,none⟩=some (.int .i64 off))
  (first | exact HS1 | exact HS0.out | exact⟨HKK.out.cell HPA.out.1 List.not_mem_nil,HKK.out.cell HPA.out.2.1 List.not_mem_nil,HKK.out.cell HPA.out.2.2.1 List.not_mem_nil,HKK.out.cell HPA.out.2.2.2 List.not_mem_nil⟩ | go_keep)
  (first
    | (go_at_call 150;refine(HA.out _ ?fa).mono ?_;(case fa=>exact HF2.out.trans (frz _ _ _ rfl rfl rfl rfl));rintro e w3 ⟨rfl,hf3⟩;have HG3:=hid (show Fr [] w2 w3 from⟨hf3.os,hf3.tape,hf3.output,hf3.size,hf3.block⟩);have HF3:=hid (HF2.out.trans HG3.out);have HS1:=And.intro (HG3.out.cell p0 List.not_mem_nil) (And.intro (HG3.out.cell p1 List.not_mem_nil) (And.intro (HG3.out.cell p2 List.not_mem_nil) (HG3.out.cell s0 List.not_mem_nil)));clear hf3)
    | (go_at_call 250;refine(HB.out _ ?fb).mono ?_;(case fb=>exact HF3.out.trans (frz _ _ _ rfl rfl rfl rfl));rintro e w4 ⟨rfl,hf4⟩;have HG4:=hid (show Fr [] w2 w4 from HG3.out.trans ⟨hf4.os,hf4.tape,hf4.output,hf4.size,hf4.block⟩);have HF4:=hid (HF2.out.trans HG4.out);have HS1:=And.intro (HG4.out.cell p0 List.not_mem_nil) (And.intro (HG4.out.cell p1 List.not_mem_nil) (And.intro (HG4.out.cell p2 List.not_mem_nil) (HG4.out.cell s0 List.not_mem_nil)));clear hf4)
    | (go_at_call 87;refine(HP.out _ ?fc).mono ?_;(case fc=>exact HF4.out.trans (frz _ _ _ rfl rfl rfl rfl));rintro e w6 ⟨rfl,hf6⟩;have HG6:=hid (show Fr [] w2 w6 from HG4.out.trans ⟨hf6.os,hf6.tape,hf6.output,hf6.size,hf6.block⟩);have HS1:=And.intro (HG6.out.cell p0 List.not_mem_nil) (And.intro (HG6.out.cell p1 List.not_mem_nil) (And.intro (HG6.out.cell p2 List.not_mem_nil) (HG6.out.cell s0 List.not_mem_nil)));clear hf6;have HRe:=hid (obj_fr HR2.out HG6.out List.not_mem_nil);have r0:=obj_cell HRe.out (i:=0) (v:=.int .i64 0) rfl;have r1:=obj_cell HRe.out (i:=1) (v:=.bool false) rfl;have k0:=obj_froz HRe.out 0;have k1:=obj_froz HRe.out 1;have HKK:=hid (Fr.set_new (b:=w.heap.size+1) (i:=1) (v:=.bool rb) (Fr.set_new (b:=w.heap.size+1) (i:=0) (v:=.int .i64 ra) (HFA.out.trans HG6.out) (Nat.le_of_eq HSA.out)) (Nat.le_of_eq HSA.out))))
 all_goals (
  go_wp2
  refine bodyPost_ret (results_cell_row (t:=35) (fr:=(0,0)) rfl _ _ (w.heap.size+1) _ _ rfl (obj_set (obj_set HRe.out 0 _) 1 _) Tryz.underlying35 rfl (by kernel_rfl)) rfl ?_
  exact⟨rfl,Fr.set_new (Fr.set_new (HF2.out.trans HG6.out) (by omega)) (by omega)⟩)
set_option maxRecDepth 10000 in
set_option maxHeartbeats 4000000 in
theorem targ3_any (P gB cB nB:Nat)(off goal y ra:Int)(back rb:Bool)(c:Nat)(v1 v2 vL:Value)(r:Int)(w:World)(ho:w.heap[P]?=some (.cells #[.slice (some ⟨gB,0,none⟩) nB cB,v1,v2,vL,.int .i64 r] 210 (0,0)))(hc:c≤1000)
 (ha:∀Y,Fr [] w Y→Calls Tryz.prog 150 #[.agg #[.slice (some ⟨gB,0,none⟩) nB cB,v1,v2],.int .i64 off] Y fun e w'=>e=.returned (.int .i64 (c:Nat))∧Fr [] Y w')
 (hb:∀Y,Fr [] w Y→Calls Tryz.prog 250 #[.agg #[.slice (some ⟨gB,0,none⟩) nB cB,v1,v2],.int .i64 ((c:Int) - 1)] Y fun e w'=>e=.returned (.int .i64 y)∧Fr [] Y w')
 (hp:∀Y,Fr [] w Y→Calls Tryz.prog 87 #[.pointer (some ⟨P,0,none⟩),.agg #[.int .i64 y,.bool false]] Y fun e w'=>e=.returned (.agg #[.int .i64 ra,.bool rb])∧Fr [] Y w') :
 Calls Tryz.prog 154 #[.pointer (some ⟨P,0,none⟩),.int .i64 3,.agg #[.int .i64 off,.bool back],.int .i64 goal] w fun e w'=>e=.returned (.agg #[.int .i64 ra,.bool rb])∧Fr [] w w':=by
 obtain⟨w2,hw2⟩:∃w2,w2=(w.alloc (.cells #[.int .i64 off,.bool back] 35)).alloc (.cells #[.int .i64 0,.bool false] 35):=⟨_,rfl⟩;have HF2:=hid (show Fr [] w w2 by rw[hw2];exact((Fr.refl _ _).alloc _).alloc _);have HO2:=hid (show w2.heap[w.heap.size]?=some (.cells #[.int .i64 off,.bool back] 35 (0,0)) by rw[hw2];exact obj_fr (obj_new w _) ((Fr.refl [] _).alloc _) List.not_mem_nil)
 have HR2:=hid (show w2.heap[w.heap.size+1]?=some (.cells #[.int .i64 0,.bool false] 35 (0,0)) by
  have hs:(w.alloc (.cells #[.int .i64 off,.bool back] 35)).heap.size=w.heap.size+1:=by simp
  have h0:=obj_new (w.alloc (.cells #[.int .i64 off,.bool back] 35)) (.cells #[.int .i64 0,.bool false] 35)
  rw[hs]at h0
  rw[hw2];exact h0)
 have HPO:=hid ho;have hPl:=obj_lt ho;have HA:=hid ha;have HB:=hid hb;have HP:=hid hp;have hwc:IntKind.i64.wrap ((c:Int) - 1)=(c:Int) - 1:=by rw[IntKind.wrap_i64];omega
 clear ho ha hb hp;go_enter Tryz.func154,Tryz.ntmps154;have HW2:=hid hw2;clear hw2;go_wp2_with fail;rw[←HW2.out];have HPO2:=hid (obj_fr HPO.out HF2.out List.not_mem_nil);have p0:=obj_cell HPO2.out (i:=0) (v:=.slice (some ⟨gB,0,none⟩) nB cB) rfl;have p1:=obj_cell HPO2.out (i:=1) (v:=v1) rfl;have p2:=obj_cell HPO2.out (i:=2) (v:=v2) rfl;have s0:=obj_cell HO2.out (i:=0) (v:=.int .i64 off) rfl;have HS0:=hid (And.intro p0 (And.intro p1 (And.intro p2 s0)));obtain⟨wa,HFA,HSA,HPA⟩:∃wa,Hid (Fr [] wa w2)∧Hid (wa.heap.size=w.heap.size+1)∧Hid (wa.cell? ⟨P,0,none⟩=some (.slice (some ⟨gB,0,none⟩) nB cB)∧wa.cell? ⟨P,1,none⟩=some v1∧wa.cell? ⟨P,2,none⟩=some v2∧wa.cell? ⟨w.heap.size,0,none⟩=some (.int .i64 off)) :=
  ⟨w.alloc (.cells #[.int .i64 off,.bool back] 35),hid (by rw[HW2.out];exact(Fr.refl [] _).alloc _),hid (by simp),hid ⟨((Fr.refl [] w).alloc _).cell (obj_cell HPO.out (i:=0) rfl) List.not_mem_nil,((Fr.refl [] w).alloc _).cell (obj_cell HPO.out (i:=1) rfl) List.not_mem_nil,((Fr.refl [] w).alloc _).cell (obj_cell HPO.out (i:=2) rfl) List.not_mem_nil,obj_cell (obj_new w _) (i:=0) rfl⟩⟩
 go_region_held (fun wz=>wz.cell? ⟨P,0,none⟩=some (.slice (some ⟨gB,0,none⟩) nB cB)∧wz.cell? ⟨P,1,none⟩=some v1∧wz.cell? ⟨P,2,none⟩=some v2∧wz.cell? ⟨w.heap.size,0,none⟩=some (.int .i64 off))
  (first | exact HS1 | exact HS0.out | exact⟨HKK.out.cell HPA.out.1 List.not_mem_nil,HKK.out.cell HPA.out.2.1 List.not_mem_nil,HKK.out.cell HPA.out.2.2.1 List.not_mem_nil,HKK.out.cell HPA.out.2.2.2 List.not_mem_nil⟩ | go_keep)
  (first
    | (go_at_call 150;refine(HA.out _ ?fa).mono ?_;(case fa=>exact HF2.out.trans (frz _ _ _ rfl rfl rfl rfl));rintro e w3 ⟨rfl,hf3⟩;have HG3:=hid (show Fr [] w2 w3 from⟨hf3.os,hf3.tape,hf3.output,hf3.size,hf3.block⟩);have HF3:=hid (HF2.out.trans HG3.out);have HS1:=And.intro (HG3.out.cell p0 List.not_mem_nil) (And.intro (HG3.out.cell p1 List.not_mem_nil) (And.intro (HG3.out.cell p2 List.not_mem_nil) (HG3.out.cell s0 List.not_mem_nil)));clear hf3)
    | (go_at_call 250;refine(HB.out _ ?fb).mono ?_;(case fb=>exact HF3.out.trans (frz _ _ _ rfl rfl rfl rfl));rintro e w4 ⟨rfl,hf4⟩;have HG4:=hid (show Fr [] w2 w4 from HG3.out.trans ⟨hf4.os,hf4.tape,hf4.output,hf4.size,hf4.block⟩);have HF4:=hid (HF2.out.trans HG4.out);have HS1:=And.intro (HG4.out.cell p0 List.not_mem_nil) (And.intro (HG4.out.cell p1 List.not_mem_nil) (And.intro (HG4.out.cell p2 List.not_mem_nil) (HG4.out.cell s0 List.not_mem_nil)));clear hf4)
    | (go_at_call 87;refine(HP.out _ ?fc).mono ?_;(case fc=>exact HF4.out.trans (frz _ _ _ rfl rfl rfl rfl));rintro e w6 ⟨rfl,hf6⟩;have HG6:=hid (show Fr [] w2 w6 from HG4.out.trans ⟨hf6.os,hf6.tape,hf6.output,hf6.size,hf6.block⟩);have HS1:=And.intro (HG6.out.cell p0 List.not_mem_nil) (And.intro (HG6.out.cell p1 List.not_mem_nil) (And.intro (HG6.out.cell p2 List.not_mem_nil) (HG6.out.cell s0 List.not_mem_nil)));clear hf6;have HRe:=hid (obj_fr HR2.out HG6.out List.not_mem_nil);have r0:=obj_cell HRe.out (i:=0) (v:=.int .i64 0) rfl;have r1:=obj_cell HRe.out (i:=1) (v:=.bool false) rfl;have k0:=obj_froz HRe.out 0;have k1:=obj_froz HRe.out 1;have HKK:=hid (Fr.set_new (b:=w.heap.size+1) (i:=1) (v:=.bool rb) (Fr.set_new (b:=w.heap.size+1) (i:=0) (v:=.int .i64 ra) (HFA.out.trans HG6.out) (Nat.le_of_eq HSA.out)) (Nat.le_of_eq HSA.out))))
 all_goals (
  go_wp2
  refine bodyPost_ret (results_cell_row (t:=35) (fr:=(0,0)) rfl _ _ (w.heap.size+1) _ _ rfl (obj_set (obj_set HRe.out 0 _) 1 _) Tryz.underlying35 rfl (by kernel_rfl)) rfl ?_
  exact⟨rfl,Fr.set_new (Fr.set_new (HF2.out.trans HG6.out) (by omega)) (by omega)⟩)
theorem results_row_tmp {P:Program}{fn:Func}{p u:Tmp}{ty:TypeId}(h:fn.results=#[.cell p ty,.tmp u])(tmps:Array Value)(w:World)(g:Nat)(t:TypeId)(cs:Array Value)(fr:Nat × Nat)(d:TypeDesc)
 (hp:tmps.getD p undef=.pointer (some ⟨g,0,none⟩)) (hg:w.heap[g]?=some (.cells cs t fr))
 (hu:P.underlying ty=some d) (hd:(match d with | .struct _ | .array _ _=>true | _=>false)=true) (hi:(P.info? ty).map (·.size)=some cs.size) :
 (results fn tmps).run P w=.ok (.tuple #[.agg cs,tmps.getD u undef]) w:=by
 rw[results_cell_tmp h,hp];simp[asAddr,run_loadVar_row w g t ty cs fr d hg hu hd hi,Result.andThen]
set_option maxRecDepth 10000 in
theorem move65_any (P:Nat)(d off goal fo ta:Int)(back fb tb m:Bool)(w:World)(hm:m=!(decide (ta=fo∧tb=fb)))
 (hp:∀Y,Fr [] w Y→Calls Tryz.prog 87 #[.pointer (some ⟨P,0,none⟩),.agg #[.int .i64 off,.bool back]] Y fun e w'=>e=.returned (.agg #[.int .i64 fo,.bool fb])∧Fr [] Y w')
 (ht:∀Y,Fr [] w Y→Calls Tryz.prog 154 #[.pointer (some ⟨P,0,none⟩),.int .i64 d,.agg #[.int .i64 fo,.bool fb],.int .i64 goal] Y fun e w'=>e=.returned (.agg #[.int .i64 ta,.bool tb])∧Fr [] Y w') :
 Calls Tryz.prog 85 #[.pointer (some ⟨P,0,none⟩),.int .i64 d,.agg #[.int .i64 off,.bool back],.int .i64 goal] w fun e w'=>e=.returned (.tuple #[.agg #[.int .i64 ta,.bool tb],.bool m])∧Fr [] w w':=by
 have H57:=hid hp;have H110:=hid ht;have HM:=hid hm;obtain⟨w2,hw2⟩:∃w2,w2=(w.alloc (.cells #[.int .i64 off,.bool back] 35)).alloc (.cells #[.int .i64 0,.bool false] 35):=⟨_,rfl⟩;have HF2:=hid (show Fr [] w w2 by rw[hw2];exact((Fr.refl _ _).alloc _).alloc _)
 have HR2:=hid (show w2.heap[w.heap.size+1]?=some (.cells #[.int .i64 0,.bool false] 35 (0,0)) by
  have hs:(w.alloc (.cells #[.int .i64 off,.bool back] 35)).heap.size=w.heap.size+1:=by simp
  have h0:=obj_new (w.alloc (.cells #[.int .i64 off,.bool back] 35)) (.cells #[.int .i64 0,.bool false] 35)
  rw[hs]at h0
  rw[hw2];exact h0)
 have hs2:w2.heap.size=w.heap.size+2:=by rw[hw2];simp
 clear hp ht hm;go_enter Tryz.func85,Tryz.ntmps85;have HW2:=hid hw2;clear hw2;go_wp2_with fail;rw[←HW2.out];refine(H57.out _ HF2.out).mono ?_;rintro e w3 ⟨rfl,hf3⟩;obtain⟨w4,hw4⟩:∃w4,w4=w3.alloc (.cells #[.int .i64 fo,.bool fb] 35):=⟨_,rfl⟩;have HG4:=hid (show Fr [] w2 w4 by rw[hw4];exact hf3.alloc _);have HF4:=hid (HF2.out.trans HG4.out);have HO4:=hid (show w4.heap[w3.heap.size]?=some (.cells #[.int .i64 fo,.bool fb] 35 (0,0)) by rw[hw4];exact obj_new w3 _);have hz3:=hf3.size;have hq3:¬w3.heap.size=w.heap.size+1:=by omega
 have hq3':¬w.heap.size+1=w3.heap.size:=by omega
 have hz4:w3.heap.size≤w4.heap.size:=by rw[hw4];simp
 have HW4:=hid hw4;clear hf3 hw4;go_wp2_with fail;rw[←HW4.out];refine(H110.out _ HF4.out).mono ?_;rintro e w5 ⟨rfl,hf5⟩;obtain⟨w6,hw6⟩:∃w6,w6=w5.alloc (.cells #[.int .i64 ta,.bool tb] 35):=⟨_,rfl⟩;have HG6:=hid (show Fr [] w4 w6 by rw[hw6];exact hf5.alloc _);have HO6:=hid (show w6.heap[w5.heap.size]?=some (.cells #[.int .i64 ta,.bool tb] 35 (0,0)) by rw[hw6];exact obj_new w5 _);have hz5:=hf5.size;have hq5:¬w5.heap.size=w.heap.size+1:=by omega
 have hq5':¬w.heap.size+1=w5.heap.size:=by omega
 clear hs2 hz3 hz4 hz5;have HW6:=hid hw6;clear hf5 hw6;go_wp2_with fail;rw[←HW6.out];have f0:=obj_cell (obj_fr HO4.out HG6.out List.not_mem_nil) (i:=0) (v:=.int .i64 fo) rfl;have f1:=obj_cell (obj_fr HO4.out HG6.out List.not_mem_nil) (i:=1) (v:=.bool fb) rfl;have t0:=obj_cell HO6.out (i:=0) (v:=.int .i64 ta) rfl;have t1:=obj_cell HO6.out (i:=1) (v:=.bool tb) rfl;have HRe:=hid (obj_fr HR2.out (HG4.out.trans HG6.out) List.not_mem_nil);have r0:=obj_cell HRe.out (i:=0) (v:=.int .i64 0) rfl;have r1:=obj_cell HRe.out (i:=1) (v:=.bool false) rfl;have k0:=obj_froz HRe.out 0;have k1:=obj_froz HRe.out 1;have HFz:=hid (HF4.out.trans HG6.out);by_cases ho:ta=fo
 ·by_cases hb:tb=fb
  ·obtain rfl:m=false:=by rw[HM.out];simp[ho,hb]
   subst ho;subst hb;go_region
   all_goals (
    go_wp2
    refine bodyPost_ret (results_row_tmp (t:=35) (fr:=(0,0)) rfl _ _ (w.heap.size+1) _ _ rfl (obj_set (obj_set HRe.out 0 _) 1 _) Tryz.underlying35 rfl (by kernel_rfl)) rfl ?_
    exact⟨rfl,(Fr.set_new (b:=w.heap.size+1) (i:=1) (v:=.bool tb) (Fr.set_new (b:=w.heap.size+1) (i:=0) (v:=.int .i64 ta) HFz.out (by omega)) (by omega)).trans (frz _ _ _ rfl rfl rfl rfl)⟩)
  ·obtain rfl:m=true:=by rw[HM.out];simp[hb]
   subst ho;go_region
   all_goals (
    go_wp2
    refine bodyPost_ret (results_row_tmp (t:=35) (fr:=(0,0)) rfl _ _ (w.heap.size+1) _ _ rfl (obj_set (obj_set HRe.out 0 _) 1 _) Tryz.underlying35 rfl (by kernel_rfl)) rfl ?_
    exact⟨rfl,(Fr.set_new (b:=w.heap.size+1) (i:=1) (v:=.bool tb) (Fr.set_new (b:=w.heap.size+1) (i:=0) (v:=.int .i64 ta) HFz.out (by omega)) (by omega)).trans (frz _ _ _ rfl rfl rfl rfl)⟩)
 ·obtain rfl:m=true:=by rw[HM.out];simp[ho]
  go_region
  all_goals (
   go_wp2
   refine bodyPost_ret (results_row_tmp (t:=35) (fr:=(0,0)) rfl _ _ (w.heap.size+1) _ _ rfl (obj_set (obj_set HRe.out 0 _) 1 _) Tryz.underlying35 rfl (by kernel_rfl)) rfl ?_
   exact⟨rfl,(Fr.set_new (b:=w.heap.size+1) (i:=1) (v:=.bool tb) (Fr.set_new (b:=w.heap.size+1) (i:=0) (v:=.int .i64 ta) HFz.out (by omega)) (by omega)).trans (frz _ _ _ rfl rfl rfl rfl)⟩)
set_option maxRecDepth 10000 in
theorem moveC_any (Q P:Nat)(d off goal ta:Int)(back tb m:Bool)(w:World)(hq:w.cell? ⟨Q,0,none⟩=some (.pointer (some ⟨P,0,none⟩)))
 (h:∀Y,Fr [] w Y→Calls Tryz.prog 85 #[.pointer (some ⟨P,0,none⟩),.int .i64 d,.agg #[.int .i64 off,.bool back],.int .i64 goal] Y fun e w'=>e=.returned (.tuple #[.agg #[.int .i64 ta,.bool tb],.bool m])∧Fr [] Y w') :
 Calls Tryz.prog 37 #[.pointer (some ⟨Q,0,none⟩),.int .i64 d,.agg #[.int .i64 off,.bool back],.int .i64 goal] w fun e w'=>e=.returned (.tuple #[.agg #[.int .i64 ta,.bool tb],.bool m])∧Fr [] w w':=by
 obtain⟨w2,hw2⟩:∃w2,w2=(w.alloc (.cells #[.int .i64 off,.bool back] 35)).alloc (.cells #[.int .i64 0,.bool false] 35):=⟨_,rfl⟩;have HF2:=hid (show Fr [] w w2 by rw[hw2];exact((Fr.refl _ _).alloc _).alloc _);have HQ2:=hid (HF2.out.cell hq List.not_mem_nil);have HO2:=hid (show w2.heap[w.heap.size]?=some (.cells #[.int .i64 off,.bool back] 35 (0,0)) by rw[hw2];exact obj_fr (obj_new w _) ((Fr.refl [] _).alloc _) List.not_mem_nil)
 have HR2:=hid (show w2.heap[w.heap.size+1]?=some (.cells #[.int .i64 0,.bool false] 35 (0,0)) by
  have hs:(w.alloc (.cells #[.int .i64 off,.bool back] 35)).heap.size=w.heap.size+1:=by simp
  have h0:=obj_new (w.alloc (.cells #[.int .i64 off,.bool back] 35)) (.cells #[.int .i64 0,.bool false] 35)
  rw[hs]at h0
  rw[hw2];exact h0)
 have H65:=hid h;have hQl:Q<w.heap.size:=World.block_lt_of_cell? _ _ hq;clear h;go_enter Tryz.func37,Tryz.ntmps37;have HW2:=hid hw2;clear hw2;go_wp2_with fail;rw[←HW2.out];have q0:=HQ2.out;have c0:=obj_cell HO2.out (i:=0) (v:=.int .i64 off) rfl;have c1:=obj_cell HO2.out (i:=1) (v:=.bool back) rfl
 go_region_with (first
  | (go_at_call 85;refine(H65.out _ ?fa).mono ?_;(case fa=>exact⟨HF2.out.os,HF2.out.tape,HF2.out.output,HF2.out.size,HF2.out.block⟩);rintro e w4 ⟨rfl,hf4⟩;have HF4:=hid (show Fr [] w2 w4 from⟨hf4.os,hf4.tape,hf4.output,hf4.size,hf4.block⟩);have HR4:=hid (obj_fr HR2.out HF4.out List.not_mem_nil);have r0:=obj_cell HR4.out (i:=0) (v:=.int .i64 0) rfl;have r1:=obj_cell HR4.out (i:=1) (v:=.bool false) rfl;have g0:=obj_froz HR4.out 0;have g1:=obj_froz HR4.out 1;clear hf4))
 all_goals (
  go_wp2
  refine bodyPost_ret (results_row_tmp (t:=35) (fr:=(0,0)) rfl _ _ (w.heap.size+1) _ _ rfl (obj_set (obj_set HR4.out 0 _) 1 _) Tryz.underlying35 rfl (by kernel_rfl)) rfl ?_
  exact⟨rfl,Fr.set_new (Fr.set_new (HF2.out.trans HF4.out) (by omega)) (by omega)⟩)
theorem place_at {Bd:List Int}{z:Int}(h:Rises Bd z)(off:Int)(back:Bool):∃c,c<Bd.length∧(placeL Bd z off back).1=nth Bd c∧placeL Bd z off back=(nth Bd c,if c=0 then false else if c=Bd.length - 1 then true else back):=by
 obtain⟨j,hj,e⟩:=best_mem h (min (max off 0) z) Bd.length (Nat.le_refl _);have hp:placeL Bd z off back=placeL Bd z (nth Bd j) back:=by
  rw[place_bd h hj,←place_bd h hj];have h1:placeL Bd z off back=(nth Bd j,if nth Bd j=0 then false else if nth Bd j=z then true else back):=by rw[e];rfl
  have hx:=place_bd h hj back;rw[h1,hx]
  congr 1
  by_cases h0:j=0
  ·rw[if_pos h0,if_pos (by rw[h0];exact rises_first h)]
  ·rw[if_neg h0,if_neg (fun hz=>h0 (rises_inj h hj (by omega) (by rw[hz,rises_first h])))]
   by_cases h2:j=Bd.length - 1
   ·rw[if_pos h2,if_pos (by rw[h2];exact rises_last h)]
   ·rw[if_neg h2,if_neg (fun hz=>h2 (rises_inj h hj (by omega) (by rw[hz,rises_last h])))]
 refine⟨j,hj,?_,?_⟩
 ·rw[hp,place_bd h hj]
 ·rw[hp,place_bd h hj]
end Go.Proofs.YtnakejhohdbfdabGreatDoor
