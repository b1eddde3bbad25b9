/- The program's look at a text and its base: nothing is wrong. -/
import Derived.Test.YtnakejhohdbfdaaGreatDoorMf
import Derived.WalkKit
import Derived.LaidEql
import Derived.Stop.Asserts
import Derived.RowKitTokens
namespace Go.Proofs.YtnakejhohdbfdaaGreatDoor
open Go.RowKit Lev

set_option maxRecDepth 10000 in
set_option maxHeartbeats 2000000 in
theorem check_ok (s : ByteArray) (b : Int) (w : World) (hs : s.size ≤ 400) (hb : b = 0 ∨ b = 1 ∨ b = 2) :
    Calls Tryz.prog 36 #[.string s, .int .i64 b] w fun e w' => e = .returned .nilIface ∧ w' = w := by
  have hsI : (s.size : Int) ≤ 400 := by omega
  have hd1 : decide ((400 : Int) < (s.size : Int)) = false := decide_eq_false (by omega)
  have hd2 : decide (400 < s.size) = false := decide_eq_false (by omega)
  rcases hb with rfl | rfl | rfl
  all_goals
    go_enter Tryz.func36, Tryz.ntmps36
    go_wp2
    go_ret
    exact ⟨rfl, rfl⟩
set_option maxRecDepth 10000 in
set_option maxHeartbeats 2000000 in
theorem as_nil (v : Value) (w : World) : Calls Tryz.prog 71 #[.nilIface, v] w fun e w' => e = .returned (.bool false) ∧ w' = w := by
  go_enter Tryz.func71, Tryz.ntmps71
  go_wp2
  go_ret
  exact ⟨rfl, rfl⟩
set_option maxRecDepth 10000 in
set_option maxHeartbeats 2000000 in
theorem number_ok (w : World) : Calls Tryz.prog 37 #[.nilIface] w fun e w' => e = .returned (.int .i64 0) ∧ Fr [] w w' := by
  have HA := hid as_nil
  go_enter Tryz.func37, Tryz.ntmps37
  go_wp2_with (first | (go_at_call 71; refine (HA.out _ _).mono ?_; rintro e w1 ⟨rfl, rfl⟩))
  go_ret
  exact ⟨rfl, (Fr.refl [] w).alloc _⟩
/-- The world with a fault of this number laid. -/
def faulty (w : World) (x : Int) : World := w.alloc (.cells #[.int .i64 x, .nilIface] 128)
set_option maxRecDepth 10000 in
set_option maxHeartbeats 2000000 in
theorem check_long (s : ByteArray) (b : Int) (w : World) (hs : 400 < s.size) :
    Calls Tryz.prog 36 #[.string s, .int .i64 b] w fun e w' => e = .returned (.iface 126 (.pointer (some ⟨w.heap.size, 0, none⟩))) ∧ w' = faulty w 1 := by
  have hd1 : decide ((400 : Int) < (s.size : Int)) = true := decide_eq_true (by omega)
  have hd2 : decide (400 < s.size) = true := decide_eq_true (by omega)
  go_enter Tryz.func36, Tryz.ntmps36
  go_wp2
  go_ret
  exact ⟨rfl, rfl⟩
set_option maxRecDepth 10000 in
set_option maxHeartbeats 2000000 in
theorem check_base (s : ByteArray) (b : Int) (w : World) (hs : s.size ≤ 400) (h0 : ¬ b = 0) (h1 : ¬ b = 1) (h2 : ¬ b = 2) :
    Calls Tryz.prog 36 #[.string s, .int .i64 b] w fun e w' => e = .returned (.iface 126 (.pointer (some ⟨w.heap.size, 0, none⟩))) ∧ w' = faulty w 2 := by
  have hsI : (s.size : Int) ≤ 400 := by omega
  have hd1 : decide ((400 : Int) < (s.size : Int)) = false := decide_eq_false (by omega)
  have hd2 : decide (400 < s.size) = false := decide_eq_false (by omega)
  have k0 : (b != 0) = true := by simp [h0]
  have k1 : (b != 1) = true := by simp [h1]
  have k2 : (b != 2) = true := by simp [h2]
  go_enter Tryz.func36, Tryz.ntmps36
  go_wp2
  go_ret
  exact ⟨rfl, rfl⟩
end Go.Proofs.YtnakejhohdbfdaaGreatDoor
/- errors.As at the program's own fault: the facts of the types, the walk. -/
namespace Go.Proofs.YtnakejhohdbfdaaGreatDoor.As
open Go.RowKit Go.Extern.Stop Go.Stop Go.Extern

/-- The type's own value; a Value of the type; one that stands for a variable. -/
abbrev ty (t : Nat) : Value := .pointer (some ⟨10, t, none⟩)
abbrev rty (t : Nat) : Value := .iface 257 (.agg #[ty t])
abbrev va (t : Nat) (a : Addr) : Value := .agg #[ty t, .pointer (some a), .int .u64 150]
abbrev vv (t : Nat) (a : Addr) : Value := .agg #[ty t, .pointer (some a), .int .u64 406]
theorem value100 (t : Addr) (w : World) : (ReflectliteValue.unpack (.iface 130 (.pointer (some t)))).run Tryz.prog w = .ok (va 130 ⟨w.heap.size, 0, none⟩) (w.alloc (.cells #[.pointer (some t)] 130)) := by kernel_rfl
theorem value96 (t : Addr) (w : World) : (ReflectliteValue.unpack (.iface 126 (.pointer (some t)))).run Tryz.prog w = .ok (va 126 ⟨w.heap.size, 0, none⟩) (w.alloc (.cells #[.pointer (some t)] 126)) := by kernel_rfl
theorem methKind (h : Value) (w : World) : (Go.method 476 257 (.agg #[h]) "Kind").run Tryz.prog w = .ok (272, h) w := by kernel_rfl
theorem methElem (h : Value) (w : World) : (Go.method 476 257 (.agg #[h]) "Elem").run Tryz.prog w = .ok (287, .agg #[h]) w := by kernel_rfl
theorem methImpl (h : Value) (w : World) : (Go.method 476 257 (.agg #[h]) "Implements").run Tryz.prog w = .ok (288, .agg #[h]) w := by kernel_rfl
theorem methAssg (h : Value) (w : World) : (Go.method 476 257 (.agg #[h]) "AssignableTo").run Tryz.prog w = .ok (285, .agg #[h]) w := by kernel_rfl
theorem type100 (a : Addr) (w : World) : (ReflectliteValue.methodAny (ReflectliteValue.valueError "reflectlite.Value.Type" 0) (fun t _ _ _ => ReflectliteType.toType t) #[va 130 a]).run Tryz.prog w = .ok (rty 130) w := by kernel_rfl
theorem kind100 (w : World) : ((ReflectliteType.abiMethod fun t => (fun a : Nat => Value.int IntKind.u8 (a : Int)) <$> Rtype.kind t) #[ty 130]).run Tryz.prog w = .ok (.int .u8 22) w := by kernel_rfl
theorem kind96 (w : World) : ((ReflectliteType.abiMethod fun t => (fun a : Nat => Value.int IntKind.u8 (a : Int)) <$> Rtype.kind t) #[ty 126]).run Tryz.prog w = .ok (.int .u8 22) w := by kernel_rfl
theorem elem100 (w : World) : (ReflectliteType.method ReflectliteType.elem #[.agg #[ty 130]]).run Tryz.prog w = .ok (rty 126) w := by kernel_rfl
theorem impl96 (w : World) : (ReflectliteType.relation "Implements" ReflectliteType.implements_ #[.agg #[ty 126], rty 86]).run Tryz.prog w = .ok (.bool true) w := by kernel_rfl
theorem typeOf96 (v : Value) (w : World) : (ReflectliteType.typeOf #[.iface 126 v]).run Tryz.prog w = .ok (rty 126) w := by kernel_rfl
theorem assg96 (w : World) : (ReflectliteType.relation "AssignableTo" ReflectliteType.assignableTo #[.agg #[ty 126], rty 126]).run Tryz.prog w = .ok (.bool true) w := by kernel_rfl
theorem elemOf100 (w : World) : (Rtype.elem? 130).run Tryz.prog w = .ok (some 126) w := by kernel_rfl
theorem mk96 (p : Addr) (w : World) : (ReflectliteValue.mk 126 p ReflectliteValue.flagAddr).run Tryz.prog w = .ok (vv 126 p) w := by kernel_rfl
theorem parts100 (a : Addr) (w : World) : (ReflectliteValue.parts (va 130 a)).run Tryz.prog w = .ok (some (130, a, 150)) w := by kernel_rfl
theorem parts96 (a : Addr) (w : World) : (ReflectliteValue.parts (va 126 a)).run Tryz.prog w = .ok (some (126, a, 150)) w := by kernel_rfl
theorem parts96v (a : Addr) (w : World) : (ReflectliteValue.parts (vv 126 a)).run Tryz.prog w = .ok (some (126, a, 406)) w := by kernel_rfl
theorem direct96 (w : World) : (Rtype.directlyAssignable 126 126).run Tryz.prog w = .ok true w := by kernel_rfl
/-- A method of a Value whose parts are known. -/
theorem method_at (z : Sem Value) (f : TypeId → Addr → Nat → Nat → Sem Value) (v : Value) (t : TypeId) (a : Addr) (fl : Nat) (p : Program) (w : World) (h : (ReflectliteValue.parts v).run p w = .ok (some (t, a, fl)) w) :
    (ReflectliteValue.method z f #[v]).run p w = (f t a fl (fl % 32)).run p w := by
  change (Bind.bind (ReflectliteValue.parts v) _).run p w = _
  rw [Sem.run_bind, h]
  rfl
theorem isNil100 (a p : Addr) (W : World) (ha : W.cell? a = some (.pointer (some p))) :
    (ReflectliteValue.method (ReflectliteValue.valueError "reflectlite.Value.IsNil" 0) ReflectliteValue.isNil #[va 130 a]).run Tryz.prog W = .ok (.bool false) W := by
  rw [method_at _ _ _ _ _ _ _ _ (parts100 a W)]
  simp [ReflectliteValue.isNil, loadVar, isAgg, underlying, Tryz.underlying130, ha, Result.andThen]
theorem elemV100 (a p : Addr) (W : World) (ha : W.cell? a = some (.pointer (some p))) :
    (ReflectliteValue.method (ReflectliteValue.valueError "reflectlite.Value.Elem" 0) ReflectliteValue.elem #[va 130 a]).run Tryz.prog W = .ok (vv 126 p) W := by
  rw [method_at _ _ _ _ _ _ _ _ (parts100 a W)]
  simp [ReflectliteValue.elem, loadVar, isAgg, underlying, Tryz.underlying130, ha, Result.andThen, elemOf100, mk96]
set_option maxRecDepth 10000 in
theorem set96 (ta b e : Addr) (old : Value) (W : World) (hb : W.cell? b = some (.pointer (some e))) (ht : W.cell? ta = some old) (hf : W.frozen? ta = false) :
    (ReflectliteValue.set #[vv 126 ta, va 126 b]).run Tryz.prog W = .ok (.tuple #[]) (W.setCell ta (.pointer (some e))) := by
  change (Bind.bind (ReflectliteValue.parts (vv 126 ta)) _).run Tryz.prog W = _
  rw [Sem.run_bind, parts96v]
  change (Bind.bind (ReflectliteValue.parts (va 126 b)) _).run Tryz.prog W = _
  rw [Sem.run_bind, parts96]
  simp [ReflectliteValue.flagAddr, loadVar, isAgg, underlying, Tryz.underlying126, hb, Result.andThen, direct96, storeVar, Value.cells, storeCells, Addr.add]
  rw [run_store Tryz.prog W ta _ _ (by rfl)]
  simp [ht, hf]
/-- The world behind errors.As at a fault. -/
def w1 (w : World) (t : Addr) : World := w.alloc (.cells #[.pointer (some t)] 130)
def w2 (w : World) (t : Addr) : World := (w1 w t).alloc (.cells #[ty 130, .pointer (some ⟨w.heap.size, 0, none⟩), .int .u64 150] 190)
def w3 (w : World) (t : Addr) : World := (w2 w t).alloc (.cells #[ty 130, .pointer (some ⟨w.heap.size, 0, none⟩), .int .u64 150] 190)
def w4 (w : World) (e t : Addr) : World := ((w3 w t).alloc (.cells #[.pointer (some e)] 126)).setCell t (.pointer (some e))
set_option maxRecDepth 10000 in
set_option maxHeartbeats 4000000 in
theorem as_hit (e t : Addr) (old : Value) (w : World) (hg : w.cell? ⟨0, 0, none⟩ = some (rty 86)) (ht0 : w.cell? t = some old) (hf0 : w.frozen? t = false) :
    Calls Tryz.prog 71 #[.iface 126 (.pointer (some e)), .iface 130 (.pointer (some t))] w fun ev w' => ev = .returned (.bool true) ∧ w' = w4 w e t := by
  have h93 := @run_callFunc_extern Tryz.prog 120 _ (fun args => ReflectliteValue.unpack (args.getD 0 (.tuple #[]))) Tryz.func120 (by kernel_rfl) (by kernel_rfl) (by kernel_rfl) (by kernel_rfl)
  have h94 := @run_callFunc_extern Tryz.prog 121 _ (ReflectliteValue.methodAny (ReflectliteValue.valueError "reflectlite.Value.Type" 0) (fun t _ _ _ => ReflectliteType.toType t)) Tryz.func121 (by kernel_rfl) (by kernel_rfl) (by kernel_rfl) (by kernel_rfl)
  have h95 := @run_callFunc_extern Tryz.prog 122 _ (ReflectliteValue.method (ReflectliteValue.valueError "reflectlite.Value.IsNil" 0) ReflectliteValue.isNil) Tryz.func122 (by kernel_rfl) (by kernel_rfl) (by kernel_rfl) (by kernel_rfl)
  have h238 := @run_callFunc_extern Tryz.prog 272 _ (ReflectliteType.abiMethod fun t => do pure (.int .u8 (← Rtype.kind t))) Tryz.func272 (by kernel_rfl) (by kernel_rfl) (by kernel_rfl) (by kernel_rfl)
  have h250 := @run_callFunc_extern Tryz.prog 287 _ (ReflectliteType.method ReflectliteType.elem) Tryz.func287 (by kernel_rfl) (by kernel_rfl) (by kernel_rfl) (by kernel_rfl)
  have h251 := @run_callFunc_extern Tryz.prog 288 _ (ReflectliteType.relation "Implements" ReflectliteType.implements_) Tryz.func288 (by kernel_rfl) (by kernel_rfl) (by kernel_rfl) (by kernel_rfl)
  have h149 := @run_callFunc_extern Tryz.prog 176 _ ReflectliteType.typeOf Tryz.func176 (by kernel_rfl) (by kernel_rfl) (by kernel_rfl) (by kernel_rfl)
  have h248 := @run_callFunc_extern Tryz.prog 285 _ (ReflectliteType.relation "AssignableTo" ReflectliteType.assignableTo) Tryz.func285 (by kernel_rfl) (by kernel_rfl) (by kernel_rfl) (by kernel_rfl)
  have h150 := @run_callFunc_extern Tryz.prog 177 _ (ReflectliteValue.method (ReflectliteValue.valueError "reflectlite.Value.Elem" 0) ReflectliteValue.elem) Tryz.func177 (by kernel_rfl) (by kernel_rfl) (by kernel_rfl) (by kernel_rfl)
  have h151 := @run_callFunc_extern Tryz.prog 178 _ ReflectliteValue.set Tryz.func178 (by kernel_rfl) (by kernel_rfl) (by kernel_rfl) (by kernel_rfl)
  have f1 := typeOf96
  have f2 := methAssg
  have f3 := assg96
  have f4 := value96
  have f5 := value100
  have f6 := type100
  have f7 := methKind
  have f8 := methElem
  have f9 := methImpl
  have f10 := kind100
  have f11 := kind96
  have f12 := elem100
  have f13 := impl96
  have hlt : 0 < w.heap.size := by
    rcases Nat.eq_zero_or_pos w.heap.size with h0 | h
    · simp [World.cell?, h0] at hg
    · exact h
  have htl : t.block < w.heap.size := by
    rcases Nat.lt_or_ge t.block w.heap.size with h | h
    · exact h
    · simp [World.cell?, Array.getElem?_eq_none h] at ht0
  have n8 := isNil100 ⟨w.heap.size, 0, none⟩ t (w2 w t) (by simp [w2, w1])
  have hg2 : (w2 w t).cell? ⟨0, 0, none⟩ = some (rty 86) := by
    rw [w2, World.cell?_alloc_lt _ _ ⟨0, 0, none⟩ (by simp [w1]), w1, World.cell?_alloc_lt _ _ ⟨0, 0, none⟩ hlt]; exact hg
  have el := elemV100 ⟨w.heap.size, 0, none⟩ t (w3 w t) (by rw [w3, World.cell?_alloc_lt _ _ _ (by simp [w2, w1]; omega)]; simp [w2, w1])
  have st := set96 t ⟨w.heap.size + 1 + 1 + 1, 0, none⟩ e old ((w3 w t).alloc (.cells #[.pointer (some e)] 126))
    (by rw [World.cell?_alloc_at _ _ _ _ (by simp [w3, w2, w1])]; rfl)
    (by rw [World.cell?_alloc_lt _ _ t (by simp [w3, w2, w1]; omega), w3, World.cell?_alloc_lt _ _ t (by simp [w2, w1]; omega), w2, World.cell?_alloc_lt _ _ t (by simp [w1]; omega), w1, World.cell?_alloc_lt _ _ t htl]; exact ht0)
    (by rw [World.frozen?_alloc_old _ _ t (by simp [w3, w2, w1]; omega), w3, World.frozen?_alloc_old _ _ t (by simp [w2, w1]; omega), w2, World.frozen?_alloc_old _ _ t (by simp [w1]; omega), w1, World.frozen?_alloc_old _ _ t (Nat.ne_of_lt htl)]; exact hf0)
  unfold w4
  dsimp only [w3, w2, w1, ty, rty, va, vv] at *
  go_enter Tryz.func71, Tryz.ntmps71
  go_wp2
  refine wp_loop_rounds 1 ?_
  rw [rounds_succ]
  go_wp2
  go_ret
  exact ⟨rfl, rfl⟩
end Go.Proofs.YtnakejhohdbfdaaGreatDoor.As
/- The number of a fault. -/
namespace Go.Proofs.YtnakejhohdbfdaaGreatDoor
open Go.RowKit Lev

theorem As.w4_fr (w : World) (e : Addr) (b : Nat) : Fr [b] w (As.w4 w e ⟨b, 0, none⟩) := by
  unfold As.w4 As.w3 As.w2 As.w1
  exact (((((Fr.refl [b] w).alloc _).alloc _).alloc _).alloc _).set (by simp) _
theorem As.w4_cell (w : World) (e : Addr) (b : Nat) (old : Value) (h : w.cell? ⟨b, 0, none⟩ = some old) : (As.w4 w e ⟨b, 0, none⟩).cell? ⟨b, 0, none⟩ = some (.pointer (some e)) := by
  unfold As.w4
  have hf : Fr [] w ((As.w3 w ⟨b, 0, none⟩).alloc (.cells #[.pointer (some e)] 126)) := by
    unfold As.w3 As.w2 As.w1
    exact ((((Fr.refl [] w).alloc _).alloc _).alloc _).alloc _
  exact World.cell?_setCell_same _ _ _ (hf.cell h (by simp))
set_option maxRecDepth 10000 in
set_option maxHeartbeats 2000000 in
theorem number_hit (P : Nat) (x : Int) (w : World) (hg : w.cell? ⟨0, 0, none⟩ = some (As.rty 86)) (hx : w.cell? ⟨P, 0, none⟩ = some (.int .i64 x)) :
    Calls Tryz.prog 37 #[.iface 126 (.pointer (some ⟨P, 0, none⟩))] w fun e w' => e = .returned (.int .i64 x) ∧ Fr [] w w' := by
  obtain ⟨v, hv⟩ : ∃ v, v = w.alloc (.cells #[.pointer none] 126) := ⟨_, rfl⟩
  have fv : Fr [] w v := by rw [hv]; exact (Fr.refl [] w).alloc _
  have hP : P < w.heap.size := by
    rcases Nat.lt_or_ge P w.heap.size with h | h
    · exact h
    · simp [World.cell?, Array.getElem?_eq_none h] at hx
  have gv : v.cell? ⟨0, 0, none⟩ = some (As.rty 86) := fv.cell hg (by simp)
  have tv : v.cell? ⟨w.heap.size, 0, none⟩ = some (.pointer none) := by rw [hv]; simp
  have zv : v.frozen? ⟨w.heap.size, 0, none⟩ = false := by rw [hv]; simp
  have HA := hid (As.as_hit ⟨P, 0, none⟩ ⟨w.heap.size, 0, none⟩ _ v gv tv zv)
  have f4 := As.w4_fr v ⟨P, 0, none⟩ w.heap.size
  have c4 := As.w4_cell v ⟨P, 0, none⟩ w.heap.size _ tv
  have x4 : (As.w4 v ⟨P, 0, none⟩ ⟨w.heap.size, 0, none⟩).cell? ⟨P, 0, none⟩ = some (.int .i64 x) := f4.cell (fv.cell hx (by simp)) (by simp; omega)
  have HF := hid ((fv.mono (T := [w.heap.size]) (by simp)).trans f4)
  generalize As.w4 v ⟨P, 0, none⟩ ⟨w.heap.size, 0, none⟩ = W at *
  clear f4 gv tv zv fv
  subst hv
  go_enter Tryz.func37, Tryz.ntmps37
  go_wp2_with (first | (go_at_call 71; refine HA.out.mono ?_; rintro e w1 ⟨rfl, rfl⟩))
  go_ret
  exact ⟨rfl, HF.out.mono (by simp)⟩
end Go.Proofs.YtnakejhohdbfdaaGreatDoor
/- The program's Levels where the text or the base is at fault. -/
namespace Go.Proofs.YtnakejhohdbfdaaGreatDoor
open Go.RowKit Lev

set_option maxRecDepth 10000 in
set_option maxHeartbeats 2000000 in
theorem levels_bad (s : ByteArray) (b x : Int) (w : World) (hg : w.cell? ⟨0, 0, none⟩ = some (As.rty 86))
    (hc : Calls Tryz.prog 36 #[.string s, .int .i64 b] w fun e w' => e = .returned (.iface 126 (.pointer (some ⟨w.heap.size, 0, none⟩))) ∧ w' = faulty w x) :
    Calls Tryz.prog 10 #[.string s, .int .i64 b] w fun e w' => e = .returned (.tuple #[.slice none 0 0, .int .i64 0, .int .i64 x]) ∧ Fr [] w w' := by
  have hf : Fr [] w (faulty w x) := (Fr.refl [] w).alloc _
  have HN := hid (number_hit w.heap.size x (faulty w x) (hf.cell hg (by simp)) (by simp [faulty]))
  have HC := hid hc
  have HF := hid hf
  generalize faulty w x = W at *
  clear hc hf hg
  go_enter Tryz.func10, Tryz.ntmps10
  go_wp2_with (first
    | (go_at_call 36; refine HC.out.mono ?_; rintro e w1 ⟨rfl, rfl⟩)
    | (go_at_call 37; refine HN.out.mono ?_; rintro e w2 ⟨rfl, hf2⟩; have HF2 := hid (HF.out.trans hf2); clear hf2))
  go_ret3
  exact ⟨rfl, HF2.out⟩
set_option maxRecDepth 10000 in
set_option maxHeartbeats 2000000 in
theorem levels_good (s : ByteArray) (b : Int) (w : World) (hs : s.size ≤ 400) (hb : b = 0 ∨ b = 1 ∨ b = 2) (Q : Option Addr → Nat → Nat → Int → World → Prop)
    (hc : Calls Tryz.prog 38 #[.string s, .int .i64 b] w fun e w' => ∃ g l c p, e = .returned (.tuple #[.slice g l c, .int .i64 p]) ∧ Q g l c p w') :
    Calls Tryz.prog 10 #[.string s, .int .i64 b] w fun e w' => ∃ g l c p, e = .returned (.tuple #[.slice g l c, .int .i64 p, .int .i64 0]) ∧ Q g l c p w' := by
  have HK := hid (check_ok s b w hs hb)
  have HC := hid hc
  clear hc hs hb
  go_enter Tryz.func10, Tryz.ntmps10
  go_wp2_with (first
    | (go_at_call 36; refine HK.out.mono ?_; rintro e w1 ⟨rfl, rfl⟩)
    | (go_at_call 38; refine HC.out.mono ?_; rintro e w2 ⟨g, l, c, p, rfl, hq⟩; have HQ := hid hq; clear hq))
  go_ret3
  exact ⟨_, _, _, _, rfl, HQ.out⟩
end Go.Proofs.YtnakejhohdbfdaaGreatDoor
