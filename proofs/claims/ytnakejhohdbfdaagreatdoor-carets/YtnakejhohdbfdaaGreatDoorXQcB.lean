import Derived.Test.YtnakejhohdbfdaaGreatDoorXQcA
namespace Go.Proofs.YtnakejhohdbfdaaGreatDoor
open Go.RowKit Lev Lay Bnd
theorem ret18 {b:Nat}{W:World}{x0 x1 y0 y1:Value}{Q:Ending→World→Prop}{tm:Array Value}(htm:tm.getD 4 undef=.pointer (some ⟨b,0,none⟩))(h:W.heap[b]?=some (.cells #[x0,x1] 55 (0,0)))(hq:Q (.returned (.agg #[y0,y1])) ((W.setCell ⟨b,0,none⟩ y0).setCell ⟨b,1,none⟩ y1)):bodyPost Tryz.prog Tryz.f18 Q .ret { tmps:=tm,defers:=[] } ((W.setCell ⟨b,0,none⟩ y0).setCell ⟨b,1,none⟩ y1) :=
 bodyPost_ret (results_cell_row (t:=55) (fr:=(0,0)) rfl _ _ b _ _ htm (obj_set (obj_set h 0 y0) 1 y1) Tryz.underlying55 rfl (by kernel_rfl)) rfl hq
set_option maxRecDepth 10000 in
set_option maxHeartbeats 4000000 in
theorem placeD_any (WB:World)(U lb:Nat)(s:ByteArray)(bs:Int)(vC vM:Value)(Cs:List (Int × Int × Int × Int))(Ls:List Ln)(hm:List Value)(n:Nat)(off:Int)(back:Bool)(w:World)(h:LD WB w U lb s bs vC vM Cs Ls hm)(hs:s.size≤1000000)(hT:Floor w)(hend:Dec.Ends s n) :
 Calls Tryz.prog 18 #[.pointer (some ⟨lb,0,none⟩),.agg #[.int .i64 off,.bool back]] w fun e w'=>e=.returned (.agg #[.int .i64 (placeL (bnd s n) (s.size:Nat) off back).1,.bool (placeL (bnd s n) (s.size:Nat) off back).2])∧Fr [] w w':=by
 have hr:=rises_bnd hend;obtain⟨k,hk⟩:=cut_exists (min (max off 0) ((s.size:Nat):Int)) (bnd s n) hr.sorted;have p0:=obj_cell h.obj (i:=0) (v:=.string s) rfl;have hPl:lb<w.heap.size:=World.block_lt_of_cell? _ _ p0;obtain⟨w2,hw2⟩:∃w2,w2=(w.alloc (.cells #[.int .i64 off,.bool back] 55)).alloc (.cells #[.int .i64 0,.bool false] 55):=⟨_,rfl⟩;have HF2:=hid (show Fr [] w w2 by rw[hw2];(repeat(first | refine Fr.set_new ?_ (by omega) | refine Fr.drewN ?_ _ | refine Fr.drew ?_ | with_reducible exact Fr.refl _ _ | refine Fr.alloc ?_ _)));have HO2:=hid (show w2.heap[w.heap.size]?=some (.cells #[.int .i64 off,.bool back] 55 (0,0)) by rw[hw2];exact obj_fr (obj_new w _) ((Fr.refl [] _).alloc _) List.not_mem_nil)
 have HR2:=hid (show w2.heap[w.heap.size+1]?=some (.cells #[.int .i64 0,.bool false] 55 (0,0)) by
  have hs:(w.alloc (.cells #[.int .i64 off,.bool back] 55)).heap.size=w.heap.size+1:=by simp
  have h0:=obj_new (w.alloc (.cells #[.int .i64 off,.bool back] 55)) (.cells #[.int .i64 0,.bool false] 55)
  rw[hs]at h0
  rw[hw2];exact h0)
 have H58:Hid (∀Y:World,Fr [] w2 Y→Calls Tryz.prog 58 #[.string s,.int .i64 off,.bool false] Y fun e w'=>e=.returned (.int .i64 (best (bnd s n) (min (max off 0) ((s.size:Nat):Int)) (bnd s n).length))∧Fr [] Y w'):=by
  intro Y hf;rw[snap_down hr hk (by omega)];exact(Cls.ref19_any s off false Y hs (hT.fr (HF2.out.trans hf)).u n k hend hk).mono fun e w' h=>⟨h.1,Fr.of_below h.2⟩
 have HP0:=hid (HF2.out.cell p0 List.not_mem_nil);have HPL:=hid (show placeL (bnd s n) (s.size:Nat) off back=(best (bnd s n) (min (max off 0) ((s.size:Nat):Int)) (bnd s n).length,if best (bnd s n) (min (max off 0) ((s.size:Nat):Int)) (bnd s n).length=0 then false else if best (bnd s n) (min (max off 0) ((s.size:Nat):Int)) (bnd s n).length=((s.size:Nat):Int)then true else back)from rfl);rw[HPL.out];dsimp only;generalize best (bnd s n) (min (max off 0) ((s.size:Nat):Int)) (bnd s n).length=o at *;obtain⟨bk,hbk⟩:∃bk,bk=(if o=0 then false else if o=((s.size:Nat):Int)then true else back):=⟨_,rfl⟩;rw[←hbk];have HBK:=hid hbk;have c0:=obj_cell HO2.out (i:=0) (v:=.int .i64 off) rfl;have q0:=HP0.out;clear h hr hk HPL hT hend hbk;go_enter Tryz.func18,Tryz.ntmps18;have HW2:=hid hw2;clear hw2;go_wp2_with fail;rw[←HW2.out]
 go_region_with (first
  | (go_at_call 58;refine(H58.out _ ?fa).mono ?_;(case fa=>(repeat(first | refine Fr.set_new ?_ (by omega) | refine Fr.drewN ?_ _ | refine Fr.drew ?_ | with_reducible exact Fr.refl _ _ | refine Fr.alloc ?_ _)));rintro e w4 ⟨rfl,hf4⟩;have HF4:=hid (show Fr [] w2 w4 from⟨hf4.os,hf4.tape,hf4.output,hf4.size,hf4.block⟩);have HO4:=hid (obj_fr HO2.out HF4.out List.not_mem_nil);have z0:=obj_cell HO4.out (i:=0) (v:=.int .i64 off) rfl;have f0:=obj_froz HO4.out 0;have z1:=obj_cell HO4.out (i:=1) (v:=.bool back) rfl;have f1:=obj_froz HO4.out 1;have HR4:=hid (obj_fr HR2.out HF4.out List.not_mem_nil);have r0:=obj_cell HR4.out (i:=0) (v:=.int .i64 0) rfl;have r1:=obj_cell HR4.out (i:=1) (v:=.bool false) rfl;have g0:=obj_froz HR4.out 0;have g1:=obj_froz HR4.out 1;have q4:=HF4.out.cell q0 List.not_mem_nil;clear hf4))
 all_goals (
  have hnP:lb≠w.heap.size:=by omega
  by_cases ho0:o=0
  ·subst ho0
   have hb:=HBK.out
   rw[if_pos rfl]at hb
   subst hb
   go_wp2
   refine ret18 rfl (obj_fr HR4.out (show Fr [w.heap.size] w4 _ by(repeat(first | refine Fr.set ?_ (List.mem_singleton.2 rfl) _ | refine Fr.drewN ?_ _ | refine Fr.drew ?_ | with_reducible exact Fr.refl _ _ | refine Fr.alloc ?_ _))) (by simp)) ⟨rfl,?_⟩
   repeat(refine Fr.set_new ?_ (by omega))
   exact HF2.out.trans HF4.out
  ·have ho0':(o == 0)=false:=by simpa using ho0
   by_cases ho1:o=((s.size:Nat):Int)
   ·have hb:=HBK.out
    rw[if_neg ho0,if_pos ho1]at hb
    subst ho1
    subst hb
    go_wp2_with fail
    go_quiet (fail)
    go_wp2
    refine ret18 rfl (obj_fr HR4.out (show Fr [w.heap.size] w4 _ by(repeat(first | refine Fr.set ?_ (List.mem_singleton.2 rfl) _ | refine Fr.drewN ?_ _ | refine Fr.drew ?_ | with_reducible exact Fr.refl _ _ | refine Fr.alloc ?_ _))) (by simp)) ⟨rfl,?_⟩
    repeat(first | refine Fr.set_new ?_ (by omega) | refine Fr.drewN ?_ _)
    exact HF2.out.trans HF4.out
   ·have hb:=HBK.out
    rw[if_neg ho0,if_neg ho1]at hb
    subst back
    have ho1':(o == ((s.size:Nat):Int))=false:=by simpa using ho1
    go_wp2_with fail
    go_quiet (fail)
    go_wp2
    refine ret18 rfl (obj_fr HR4.out (show Fr [w.heap.size] w4 _ by(repeat(first | refine Fr.set ?_ (List.mem_singleton.2 rfl) _ | refine Fr.drewN ?_ _ | refine Fr.drew ?_ | with_reducible exact Fr.refl _ _ | refine Fr.alloc ?_ _))) (by simp)) ⟨rfl,?_⟩
    repeat(first | refine Fr.set_new ?_ (by omega) | refine Fr.drewN ?_ _)
    exact HF2.out.trans HF4.out)
set_option maxRecDepth 10000 in
theorem placeC_any (Q P:Nat)(off a:Int)(back b:Bool)(w:World)(hq:w.cell? ⟨Q,0,none⟩=some (.pointer (some ⟨P,0,none⟩)))(h:∀Y,Fr [] w Y→Calls Tryz.prog 57 #[.pointer (some ⟨P,0,none⟩),.agg #[.int .i64 off,.bool back]] Y fun e w'=>e=.returned (.agg #[.int .i64 a,.bool b])∧Fr [] Y w') :
 Calls Tryz.prog 17 #[.pointer (some ⟨Q,0,none⟩),.agg #[.int .i64 off,.bool back]] w fun e w'=>e=.returned (.agg #[.int .i64 a,.bool b])∧Fr [] w w':=by
 obtain⟨w2,hw2⟩:∃w2,w2=(w.alloc (.cells #[.int .i64 off,.bool back] 55)).alloc (.cells #[.int .i64 0,.bool false] 55):=⟨_,rfl⟩;have HF2:=hid (show Fr [] w w2 by rw[hw2];(repeat(first | refine Fr.set_new ?_ (by omega) | refine Fr.drewN ?_ _ | refine Fr.drew ?_ | with_reducible exact Fr.refl _ _ | refine Fr.alloc ?_ _)));have HQ2:=hid (HF2.out.cell hq List.not_mem_nil);have HO2:=hid (show w2.heap[w.heap.size]?=some (.cells #[.int .i64 off,.bool back] 55 (0,0)) by rw[hw2];exact obj_fr (obj_new w _) ((Fr.refl [] _).alloc _) List.not_mem_nil)
 have HR2:=hid (show w2.heap[w.heap.size+1]?=some (.cells #[.int .i64 0,.bool false] 55 (0,0)) by
  have hs:(w.alloc (.cells #[.int .i64 off,.bool back] 55)).heap.size=w.heap.size+1:=by simp
  have h0:=obj_new (w.alloc (.cells #[.int .i64 off,.bool back] 55)) (.cells #[.int .i64 0,.bool false] 55)
  rw[hs]at h0
  rw[hw2];exact h0)
 have H57:=hid h;have hQl:Q<w.heap.size:=World.block_lt_of_cell? _ _ hq;clear h;go_enter Tryz.func17,Tryz.ntmps17;have HW2:=hid hw2;clear hw2;go_wp2_with fail;rw[←HW2.out];have q0:=HQ2.out;have c0:=obj_cell HO2.out (i:=0) (v:=.int .i64 off) rfl;have c1:=obj_cell HO2.out (i:=1) (v:=.bool back) rfl
 go_region_with (first
  | (go_at_call 57;refine(H57.out _ ?fa).mono ?_;(case fa=>exact⟨HF2.out.os,HF2.out.tape,HF2.out.output,HF2.out.size,HF2.out.block⟩);rintro e w4 ⟨rfl,hf4⟩;have HF4:=hid (show Fr [] w2 w4 from⟨hf4.os,hf4.tape,hf4.output,hf4.size,hf4.block⟩);have HR4:=hid (obj_fr HR2.out HF4.out List.not_mem_nil);have r0:=obj_cell HR4.out (i:=0) (v:=.int .i64 0) rfl;have r1:=obj_cell HR4.out (i:=1) (v:=.bool false) rfl;have g0:=obj_froz HR4.out 0;have g1:=obj_froz HR4.out 1;clear hf4))
 all_goals (
  go_wp2
  refine bodyPost_ret (results_cell_row (t:=55) (fr:=(0,0)) rfl _ _ (w.heap.size+1) _ _ rfl (obj_set (obj_set HR4.out 0 _) 1 _) Tryz.underlying55 rfl (by kernel_rfl)) rfl ?_
  exact⟨rfl,Fr.set_new (Fr.set_new (HF2.out.trans HF4.out) (by omega)) (by omega)⟩)
set_option maxRecDepth 10000 in
theorem normC_any (Q P:Nat)(line gap a:Int)(b:Bool)(w:World)(hq:w.cell? ⟨Q,0,none⟩=some (.pointer (some ⟨P,0,none⟩)))(h:∀Y,Fr [] w Y→Calls Tryz.prog 61 #[.pointer (some ⟨P,0,none⟩),.agg #[.int .i64 line,.int .i64 gap]] Y fun e w'=>e=.returned (.agg #[.int .i64 a,.bool b])∧Fr [] Y w') :
 Calls Tryz.prog 23 #[.pointer (some ⟨Q,0,none⟩),.agg #[.int .i64 line,.int .i64 gap]] w fun e w'=>e=.returned (.agg #[.int .i64 a,.bool b])∧Fr [] w w':=by
 obtain⟨w2,hw2⟩:∃w2,w2=(w.alloc (.cells #[.int .i64 line,.int .i64 gap] 58)).alloc (.cells #[.int .i64 0,.bool false] 55):=⟨_,rfl⟩;have HF2:=hid (show Fr [] w w2 by rw[hw2];(repeat(first | refine Fr.set_new ?_ (by omega) | refine Fr.drewN ?_ _ | refine Fr.drew ?_ | with_reducible exact Fr.refl _ _ | refine Fr.alloc ?_ _)));have HQ2:=hid (HF2.out.cell hq List.not_mem_nil);have HO2:=hid (show w2.heap[w.heap.size]?=some (.cells #[.int .i64 line,.int .i64 gap] 58 (0,0)) by rw[hw2];exact obj_fr (obj_new w _) ((Fr.refl [] _).alloc _) List.not_mem_nil)
 have HR2:=hid (show w2.heap[w.heap.size+1]?=some (.cells #[.int .i64 0,.bool false] 55 (0,0)) by
  have hs:(w.alloc (.cells #[.int .i64 line,.int .i64 gap] 58)).heap.size=w.heap.size+1:=by simp
  have h0:=obj_new (w.alloc (.cells #[.int .i64 line,.int .i64 gap] 58)) (.cells #[.int .i64 0,.bool false] 55)
  rw[hs]at h0
  rw[hw2];exact h0)
 have H61:=hid h;have hQl:Q<w.heap.size:=World.block_lt_of_cell? _ _ hq;clear h;go_enter Tryz.func23,Tryz.ntmps23;have HW2:=hid hw2;clear hw2;go_wp2_with fail;rw[←HW2.out];have q0:=HQ2.out;have c0:=obj_cell HO2.out (i:=0) (v:=.int .i64 line) rfl;have c1:=obj_cell HO2.out (i:=1) (v:=.int .i64 gap) rfl
 go_region_with (first
  | (go_at_call 61;refine(H61.out _ ?fa).mono ?_;(case fa=>exact⟨HF2.out.os,HF2.out.tape,HF2.out.output,HF2.out.size,HF2.out.block⟩);rintro e w4 ⟨rfl,hf4⟩;have HF4:=hid (show Fr [] w2 w4 from⟨hf4.os,hf4.tape,hf4.output,hf4.size,hf4.block⟩);have HR4:=hid (obj_fr HR2.out HF4.out List.not_mem_nil);have r0:=obj_cell HR4.out (i:=0) (v:=.int .i64 0) rfl;have r1:=obj_cell HR4.out (i:=1) (v:=.bool false) rfl;have g0:=obj_froz HR4.out 0;have g1:=obj_froz HR4.out 1;clear hf4))
 all_goals (
  go_wp2
  refine bodyPost_ret (results_cell_row (t:=55) (fr:=(0,0)) rfl _ _ (w.heap.size+1) _ _ rfl (obj_set (obj_set HR4.out 0 _) 1 _) Tryz.underlying55 rfl (by kernel_rfl)) rfl ?_
  exact⟨rfl,Fr.set_new (Fr.set_new (HF2.out.trans HF4.out) (by omega)) (by omega)⟩)
set_option maxRecDepth 10000 in
theorem gapC_any (Q P:Nat)(off a b:Int)(back:Bool)(w:World)(hq:w.cell? ⟨Q,0,none⟩=some (.pointer (some ⟨P,0,none⟩)))(h:∀Y,Fr [] w Y→Calls Tryz.prog 59 #[.pointer (some ⟨P,0,none⟩),.agg #[.int .i64 off,.bool back]] Y fun e w'=>e=.returned (.agg #[.int .i64 a,.int .i64 b])∧Fr [] Y w') :
 Calls Tryz.prog 19 #[.pointer (some ⟨Q,0,none⟩),.agg #[.int .i64 off,.bool back]] w fun e w'=>e=.returned (.agg #[.int .i64 a,.int .i64 b])∧Fr [] w w':=by
 obtain⟨w2,hw2⟩:∃w2,w2=(w.alloc (.cells #[.int .i64 off,.bool back] 55)).alloc (.cells #[.int .i64 0,.int .i64 0] 58):=⟨_,rfl⟩;have HF2:=hid (show Fr [] w w2 by rw[hw2];(repeat(first | refine Fr.set_new ?_ (by omega) | refine Fr.drewN ?_ _ | refine Fr.drew ?_ | with_reducible exact Fr.refl _ _ | refine Fr.alloc ?_ _)));have HQ2:=hid (HF2.out.cell hq List.not_mem_nil);have HO2:=hid (show w2.heap[w.heap.size]?=some (.cells #[.int .i64 off,.bool back] 55 (0,0)) by rw[hw2];exact obj_fr (obj_new w _) ((Fr.refl [] _).alloc _) List.not_mem_nil)
 have HR2:=hid (show w2.heap[w.heap.size+1]?=some (.cells #[.int .i64 0,.int .i64 0] 58 (0,0)) by
  have hs:(w.alloc (.cells #[.int .i64 off,.bool back] 55)).heap.size=w.heap.size+1:=by simp
  have h0:=obj_new (w.alloc (.cells #[.int .i64 off,.bool back] 55)) (.cells #[.int .i64 0,.int .i64 0] 58)
  rw[hs]at h0
  rw[hw2];exact h0)
 have H59:=hid h;have hQl:Q<w.heap.size:=World.block_lt_of_cell? _ _ hq;clear h;go_enter Tryz.func19,Tryz.ntmps19;have HW2:=hid hw2;clear hw2;go_wp2_with fail;rw[←HW2.out];have q0:=HQ2.out;have c0:=obj_cell HO2.out (i:=0) (v:=.int .i64 off) rfl;have c1:=obj_cell HO2.out (i:=1) (v:=.bool back) rfl
 go_region_with (first
  | (go_at_call 59;refine(H59.out _ ?fa).mono ?_;(case fa=>exact⟨HF2.out.os,HF2.out.tape,HF2.out.output,HF2.out.size,HF2.out.block⟩);rintro e w4 ⟨rfl,hf4⟩;have HF4:=hid (show Fr [] w2 w4 from⟨hf4.os,hf4.tape,hf4.output,hf4.size,hf4.block⟩);have HR4:=hid (obj_fr HR2.out HF4.out List.not_mem_nil);have r0:=obj_cell HR4.out (i:=0) (v:=.int .i64 0) rfl;have r1:=obj_cell HR4.out (i:=1) (v:=.int .i64 0) rfl;have g0:=obj_froz HR4.out 0;have g1:=obj_froz HR4.out 1;clear hf4))
 all_goals (
  go_wp2
  refine bodyPost_ret (results_cell_row (t:=58) (fr:=(0,0)) rfl _ _ (w.heap.size+1) _ _ rfl (obj_set (obj_set HR4.out 0 _) 1 _) Tryz.underlying58 rfl (by kernel_rfl)) rfl ?_
  exact⟨rfl,Fr.set_new (Fr.set_new (HF2.out.trans HF4.out) (by omega)) (by omega)⟩)
set_option maxRecDepth 10000 in
theorem xC_any (Q P:Nat)(off a:Int)(back:Bool)(w:World)(hq:w.cell? ⟨Q,0,none⟩=some (.pointer (some ⟨P,0,none⟩)))(h:∀Y,Fr [] w Y→Calls Tryz.prog 60 #[.pointer (some ⟨P,0,none⟩),.agg #[.int .i64 off,.bool back]] Y fun e w'=>e=.returned (.int .i64 a)∧Fr [] Y w') :
 Calls Tryz.prog 21 #[.pointer (some ⟨Q,0,none⟩),.agg #[.int .i64 off,.bool back]] w fun e w'=>e=.returned (.int .i64 a)∧Fr [] w w':=by
 obtain⟨w2,hw2⟩:∃w2,w2=w.alloc (.cells #[.int .i64 off,.bool back] 55):=⟨_,rfl⟩;have HF2:=hid (show Fr [] w w2 by rw[hw2];(repeat(first | refine Fr.set_new ?_ (by omega) | refine Fr.drewN ?_ _ | refine Fr.drew ?_ | with_reducible exact Fr.refl _ _ | refine Fr.alloc ?_ _)));have HQ2:=hid (HF2.out.cell hq List.not_mem_nil);have HO2:=hid (show w2.heap[w.heap.size]?=some (.cells #[.int .i64 off,.bool back] 55 (0,0)) by rw[hw2];exact obj_new w _);have H60:=hid h;have hQl:Q<w.heap.size:=World.block_lt_of_cell? _ _ hq;clear h;go_enter Tryz.func21,Tryz.ntmps21;have HW2:=hid hw2;clear hw2;go_wp2_with fail;rw[←HW2.out];have q0:=HQ2.out;have c0:=obj_cell HO2.out (i:=0) (v:=.int .i64 off) rfl;have c1:=obj_cell HO2.out (i:=1) (v:=.bool back) rfl
 go_region_with (first
  | (go_at_call 60;refine(H60.out _ ?fa).mono ?_;(case fa=>exact⟨HF2.out.os,HF2.out.tape,HF2.out.output,HF2.out.size,HF2.out.block⟩);rintro e w4 ⟨rfl,hf4⟩;have HF4:=hid (show Fr [] w2 w4 from⟨hf4.os,hf4.tape,hf4.output,hf4.size,hf4.block⟩);clear hf4))
 all_goals (
  go_wp2
  go_ret
  exact⟨rfl,HF2.out.trans HF4.out⟩)
set_option maxRecDepth 10000 in
set_option maxHeartbeats 4000000 in
theorem xP_any (B P:Nat)(Bd V X:List Int)(r:Int)(Ls:List Ln)(v0 v1 v2 vL:Value)(hs:List Value)(off:Int)(back:Bool)(i k:Nat)(w:World)(h:LP w B P Bd V X r Ls v0 v1 v2 vL hs)(hi:i<Ls.length)(hk:k<(lnN Ls i).x.length)(hK:Ls.length≤400)(hx:(lnN Ls i).x.length≤1001)(hg:∀Y,Fr [] w Y→Calls Tryz.prog 59 #[.pointer (some ⟨P,0,none⟩),.agg #[.int .i64 off,.bool back]] Y fun e w'=>e=.returned (.agg #[.int .i64 (i:Nat),.int .i64 (k:Nat)])∧Fr [] Y w') :
 Calls Tryz.prog 60 #[.pointer (some ⟨P,0,none⟩),.agg #[.int .i64 off,.bool back]] w fun e w'=>e=.returned (.int .i64 (nth (lnN Ls i).x k))∧Fr [] w w':=by
 obtain⟨U,_,hn⟩:=h.n;obtain⟨vO,vX,_,_,_,a4,_,a6,_⟩:=hn i _ (lnN_get hi);obtain⟨gL,cL,hvL⟩:=owns_shape (by omega) h.l;subst hvL;obtain⟨gX,cX,hvX⟩:=owns_shape (by omega) a6;subst hvX;have c3:w.cell? ⟨gL,i * 4+3,none⟩=some (.slice (some ⟨gX,0,none⟩) (lnN Ls i).x.length cX):=by rw[h.l.cellAt _ (by omega)];exact a4
 have c4:w.cell? ⟨gX,k,none⟩=some (.int .i64 (nth (lnN Ls i).x k)):=by rw[a6.cellAt k (by omega),ints64_at hk]
 have p3:=obj_cell h.o (i:=3) (v:=.slice (some ⟨gL,0,none⟩) Ls.length cL) rfl;have hPl:P<w.heap.size:=World.block_lt_of_cell? _ _ p3;obtain⟨w2,hw2⟩:∃w2,w2=w.alloc (.cells #[.int .i64 off,.bool back] 55):=⟨_,rfl⟩;have HF2:=hid (show Fr [] w w2 by rw[hw2];(repeat(first | refine Fr.set_new ?_ (by omega) | refine Fr.drewN ?_ _ | refine Fr.drew ?_ | with_reducible exact Fr.refl _ _ | refine Fr.alloc ?_ _)));have HO2:=hid (show w2.heap[w.heap.size]?=some (.cells #[.int .i64 off,.bool back] 55 (0,0)) by rw[hw2];exact obj_new w _);have H59:=hid hg;have hiI:(i:Int)<(Ls.length:Int):=by omega
 have hkI:(k:Int)<((lnN Ls i).x.length:Int):=by omega
 generalize nth (lnN Ls i).x k=y at *;generalize (lnN Ls i).x.length=lx at *;generalize Ls.length=K at *;have HC:=hid (And.intro p3 (And.intro c3 c4));clear h hn a4 a6 hg;go_enter Tryz.func60,Tryz.ntmps60;have HW2:=hid hw2;clear hw2;go_wp2_with fail;rw[←HW2.out];refine(H59.out _ HF2.out).mono ?_;rintro e w4 ⟨rfl,hf4⟩;have HF4:=hid (HF2.out.trans hf4);have d1:=HF4.out.cell p3 List.not_mem_nil;have d2:=HF4.out.cell c3 List.not_mem_nil;have d3:=HF4.out.cell c4 List.not_mem_nil;clear hf4 p3 c3 c4;have e1:=World.block_lt_of_cell? _ _ d1;have e2:=World.block_lt_of_cell? _ _ d2;have e3:=World.block_lt_of_cell? _ _ d3;dsimp only at e1 e2 e3;go_wp2_with fail;go_quiet (fail);go_wp2;go_ret;exact⟨rfl,by repeat(first | exact HF4.out | refine Fr.drewN ?_ _ | refine Fr.alloc ?_ _)⟩
set_option maxRecDepth 10000 in
set_option maxHeartbeats 4000000 in
theorem xD_any (WB:World)(U P:Nat)(s:ByteArray)(bs:Int)(vC vL:Value)(Cs:List (Int × Int × Int × Int))(Ls:List Ln)(hm:List Value)(off:Int)(back:Bool)(i k:Nat)(w:World)(h:LD WB w U P s bs vC vL Cs Ls hm)(hi:i<Ls.length)(hk:k<(lnN Ls i).x.length)(hK:Ls.length≤400)(hx:(lnN Ls i).x.length≤1001)(hg:∀Y,Fr [] w Y→Calls Tryz.prog 20 #[.pointer (some ⟨P,0,none⟩),.agg #[.int .i64 off,.bool back]] Y fun e w'=>e=.returned (.agg #[.int .i64 (i:Nat),.int .i64 (k:Nat)])∧Fr [] Y w') :
 Calls Tryz.prog 22 #[.pointer (some ⟨P,0,none⟩),.agg #[.int .i64 off,.bool back]] w fun e w'=>e=.returned (.int .i64 (nth (lnN Ls i).x k))∧Fr [] w w':=by
 obtain⟨vO,vX,_,_,_,a4,_,a6,_⟩:=h.inn i _ (lnN_get hi);obtain⟨gL,cL,hvL⟩:=owns_shape (by omega) h.ownL;subst hvL;obtain⟨gX,cX,hvX⟩:=owns_shape (by omega) a6;subst hvX;have c3:w.cell? ⟨gL,i * 4+3,none⟩=some (.slice (some ⟨gX,0,none⟩) (lnN Ls i).x.length cX):=by rw[h.ownL.cellAt _ (by omega)];exact a4
 have c4:w.cell? ⟨gX,k,none⟩=some (.int .i64 (nth (lnN Ls i).x k)):=by rw[a6.cellAt k (by omega),ints64_at hk]
 have p3:=obj_cell h.obj (i:=3) (v:=.slice (some ⟨gL,0,none⟩) Ls.length cL) rfl;have hPl:P<w.heap.size:=World.block_lt_of_cell? _ _ p3;obtain⟨w2,hw2⟩:∃w2,w2=w.alloc (.cells #[.int .i64 off,.bool back] 55):=⟨_,rfl⟩;have HF2:=hid (show Fr [] w w2 by rw[hw2];(repeat(first | refine Fr.set_new ?_ (by omega) | refine Fr.drewN ?_ _ | refine Fr.drew ?_ | with_reducible exact Fr.refl _ _ | refine Fr.alloc ?_ _)));have HO2:=hid (show w2.heap[w.heap.size]?=some (.cells #[.int .i64 off,.bool back] 55 (0,0)) by rw[hw2];exact obj_new w _);have H20:=hid hg;have hiI:(i:Int)<(Ls.length:Int):=by omega
 have hkI:(k:Int)<((lnN Ls i).x.length:Int):=by omega
 generalize nth (lnN Ls i).x k=y at *;generalize (lnN Ls i).x.length=lx at *;generalize Ls.length=K at *;have HC:=hid (And.intro p3 (And.intro c3 c4));clear h a4 a6 hg;go_enter Tryz.func22,Tryz.ntmps22;have HW2:=hid hw2;clear hw2;go_wp2_with fail;rw[←HW2.out];refine(H20.out _ HF2.out).mono ?_;rintro e w4 ⟨rfl,hf4⟩;have HF4:=hid (HF2.out.trans hf4);have d1:=HF4.out.cell p3 List.not_mem_nil;have d2:=HF4.out.cell c3 List.not_mem_nil;have d3:=HF4.out.cell c4 List.not_mem_nil;clear hf4 p3 c3 c4;have e1:=World.block_lt_of_cell? _ _ d1;have e2:=World.block_lt_of_cell? _ _ d2;have e3:=World.block_lt_of_cell? _ _ d3;dsimp only at e1 e2 e3;go_wp2_with fail;go_quiet (fail);go_wp2;go_ret;exact⟨rfl,by repeat(first | exact HF4.out | refine Fr.drewN ?_ _ | refine Fr.alloc ?_ _)⟩
structure Holds (Ls:List Ln)(x:Int)(i:Nat):Prop where
 lt:i<Ls.length
 yes:x<(lnN Ls i).t
 no:∀j,j<i→¬x<(lnN Ls j).t
set_option maxRecDepth 10000 in
theorem holds_one (f t x:Int)(vO vX:Value)(b:Nat)(w:World)(hb:w.cell? ⟨b,0,none⟩=some (.int .i64 x)) :
 Calls Tryz.prog 168 #[.agg #[.int .i64 f,.int .i64 t,vO,vX],.pointer (some ⟨b,0,none⟩)] w fun e w'=>e=.returned (.bool (decide (x<t)))∧Fr [] w w':=by
 have hbl:=World.block_lt_of_cell? _ _ hb;dsimp only at hbl;go_enter Tryz.func168,Tryz.ntmps168;go_wp2;go_ret;exact⟨rfl,by(repeat(first | refine Fr.set_new ?_ (by omega) | refine Fr.drewN ?_ _ | refine Fr.drew ?_ | with_reducible exact Fr.refl _ _ | refine Fr.alloc ?_ _))⟩
set_option maxRecDepth 10000 in
set_option maxHeartbeats 4000000 in
theorem holds_func (Ls:List Ln)(x:Int)(i b B U gL cL K:Nat)(hs:List Value)(w:World)(hi:Holds Ls x i)(hK:K=Ls.length)(hK4:K≤400)(hl:w.ownsRow B 51 4 (.slice (some ⟨gL,0,none⟩) K cL) K hs)(hn:lnsAt w B U hs Ls)(hb:w.cell? ⟨b,0,none⟩=some (.int .i64 x)) :
 Calls Tryz.prog 167 #[.slice (some ⟨gL,0,none⟩) K cL,.func (.func 168) #[] #[.pointer (some ⟨b,0,none⟩)]] w fun e w'=>e=.returned (.int .i64 (i:Nat))∧Fr [] w w':=by
 have HH:=hid hi
 have HL:=hid (fun j (hj:j<K)=>show ∃f vO vX,w.cell? ⟨gL,j * 4,none⟩=some (.int .i64 f)∧w.cell? ⟨gL,j * 4+1,none⟩=some (.int .i64 (lnN Ls j).t)∧w.cell? ⟨gL,j * 4+2,none⟩=some vO∧w.cell? ⟨gL,j * 4+3,none⟩=some vX by
  obtain⟨vO,vX,a1,a2,a3,a4,_⟩:=hn j _ (lnN_get (by omega))
  exact⟨_,vO,vX,by rw[hl.cellAt _ (by omega)];exact a1,by rw[hl.cellAt _ (by omega)];exact a2,by rw[hl.cellAt _ (by omega)];exact a3,by rw[hl.cellAt _ (by omega)];exact a4⟩)
 have HB:=hid hb;have hiK:i<K:=by have:=hi.lt;omega
 clear hi hl hn hb hK;go_enter Tryz.func167,Tryz.ntmps167;go_wp2_with fail;go_loopw [8] (fun vk wr=>∃k:Nat,vk=.int .i64 k∧k≤i∧Hid (Fr [] w wr)) (fun vk _=>K - (intOf vk).toNat)
 case atStart=>exact⟨0,rfl,Nat.zero_le _,hid (Fr.refl [] w)⟩
 case round =>
  obtain⟨k,rfl,hk,HF⟩:=hrel;obtain⟨f,vO,vX,a1,a2,a3,a4⟩:=HL.out k (by omega);have c1:=HF.out.cell a1 List.not_mem_nil;have c2:=HF.out.cell a2 List.not_mem_nil;have c3:=HF.out.cell a3 List.not_mem_nil;have c4:=HF.out.cell a4 List.not_mem_nil;have HY:=hid (HH.out.yes);have HN:=hid (HH.out.no k);have hkI:(k:Int)<(K:Int):=by omega
  have H172:=hid (fun(Y:World) (hf:Fr [] w Y)=>holds_one f (lnN Ls k).t x vO vX b Y (hf.cell HB.out List.not_mem_nil));by_cases hki:k=i
  ·subst hki
   have hx:decide (x<(lnN Ls k).t)=true:=by simpa using HY.out
   rw[hx]at H172;clear hx a1 a2 a3 a4;generalize (lnN Ls k).t=t at *;go_wp2_with (first | (go_at_call 168;refine(H172.out _ HF.out).mono ?_;rintro e w4 ⟨rfl,hf4⟩;have HF4:=hid (HF.out.trans hf4);clear hf4));go_ret;exact⟨rfl,HF4.out⟩
  ·have hx:decide (x<(lnN Ls k).t)=false:=by simpa using HN.out (by omega)
   rw[hx]at H172;clear hx a1 a2 a3 a4;generalize (lnN Ls k).t=t at *;go_wp2_with (first | (go_at_call 168;refine(H172.out _ HF.out).mono ?_;rintro e w4 ⟨rfl,hf4⟩;have HF4:=hid (HF.out.trans hf4);clear hf4));go_roundw
   case rel=>exact⟨k+1,by go_num,by omega,HF4⟩
   case measure=>simp[intOf];omega
set_option maxRecDepth 10000 in
theorem holds_any (Ls:List Ln)(x:Int)(i B U gL cL K:Nat)(hs:List Value)(w:World)(hi:Holds Ls x i)(hK:K=Ls.length)(hK4:K≤400)(hl:w.ownsRow B 51 4 (.slice (some ⟨gL,0,none⟩) K cL) K hs)(hn:lnsAt w B U hs Ls) :
 Calls Tryz.prog 103 #[.slice (some ⟨gL,0,none⟩) K cL,.int .i64 x] w fun e w'=>e=.returned (.int .i64 (i:Nat))∧Fr [] w w':=by
 have HF2:=hid (show Fr [] w (w.alloc (.cells #[.int .i64 x] 3)) by(repeat(first | refine Fr.set_new ?_ (by omega) | refine Fr.drewN ?_ _ | refine Fr.drew ?_ | with_reducible exact Fr.refl _ _ | refine Fr.alloc ?_ _)));have H171:=hid (holds_func Ls x i w.heap.size B U gL cL K hs (w.alloc (.cells #[.int .i64 x] 3)) hi hK hK4 (owns_fr0 hl HF2.out) (hn.fr (fun _ _ _ _ _ _ h=>owns_fr0 h HF2.out)) (obj_cell (obj_new w (.cells #[.int .i64 x] 3)) (i:=0) rfl));clear hi hK hl hn;go_enter Tryz.func103,Tryz.ntmps103;go_wp2_with (first | (go_at_call 167;refine H171.out.mono ?_;rintro e w4 ⟨rfl,hf4⟩;have HF4:=hid (HF2.out.trans hf4);clear hf4));go_ret;exact⟨rfl,HF4.out⟩
structure Stands (O:List Nat)(c k:Nat):Prop where
 lt:k<O.length
 yes:nix O k=c
 no:∀j,j<k→nix O j≠c
theorem nat_getD (O:List Nat)(j:Nat):(O.map fun x:Nat=>(x:Int)).getD j 0=(nix O j:Nat):=by
 simp only[List.getD,List.getElem?_map,nix];cases O[j]? <;> simp
theorem index_any (O:List Nat)(c k go n cap:Nat)(w:World)(hn:n=O.length)(hk:Stands O c k)(hb:n≤1000)(hO:rowN w go n O) :
 Calls Tryz.prog 104 #[.slice (some ⟨go,0,none⟩) n cap,.int .i64 (c:Nat)] w fun e w'=>e=.returned (.int .i64 (k:Nat))∧w'=w:=by
 subst hn
 have h:=Tryz.slices_Index_int go 0 O.length cap (O.map fun x:Nat=>(x:Int)) (c:Nat) w (by simp) (by omega) (fun j hj=>by
  rw[nat_getD,Nat.zero_add];exact hO j (by simpa using hj))
 have e:Lib.idxOf ((O.map fun x:Nat=>(x:Int)).take O.length) (c:Nat)=(k:Nat):=by
  rw[List.take_of_length_le (by simp)]
  have:=Lib.idxFrom_hit (c:Nat) (O.map fun x:Nat=>(x:Int)) k 0 (by simpa using hk.lt) (by rw[nat_getD,hk.yes]) (fun j hj=>by
   rw[nat_getD];intro h;exact hk.no j hj (by omega))
  simpa[Lib.idxOf] using this
 rw[e]at h;exact h
end Go.Proofs.YtnakejhohdbfdaaGreatDoor
