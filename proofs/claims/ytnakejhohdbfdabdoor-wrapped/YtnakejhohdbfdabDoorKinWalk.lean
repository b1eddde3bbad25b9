/- The tests on kinds, walked. -/
import Derived.Test.YtnakejhohdbfdabDoorRows
import Derived.Test.YtnakejhohdbfdabDoorKin
import Derived.WalkKit
import Derived.WalkSpells
namespace Go.Proofs.YtnakejhohdbfdabDoor
open Go.RowKit Kin
theorem retB {a b : Bool} (h : a = b) : Ending.returned (.bool a) = .returned (.bool b) := by rw [h]
theorem retI {a b : Int} (h : a = b) : Ending.returned (.int .i64 a) = .returned (.int .i64 b) := by rw [h]

set_option maxHeartbeats 1000000 in
theorem fn38_any (a : Int) (w : World) : Calls Tryd.prog 37 #[.int .i64 a] w fun e w' => e = .returned (.bool (aloneB a)) ∧ w' = w := by
  go_enter Tryd.func37, Tryd.ntmps37
  go_wp2
  all_goals go_ret
  all_goals exact ⟨retB (by simp [aloneB, *]), rfl⟩
set_option maxHeartbeats 1000000 in
theorem fn39_any (a b : Int) (w : World) : Calls Tryd.prog 38 #[.int .i64 a, .int .i64 b] w fun e w' => e = .returned (.bool (sylB a b)) ∧ w' = w := by
  go_enter Tryd.func38, Tryd.ntmps38
  go_wp2
  all_goals go_ret
  all_goals exact ⟨retB (by simp [sylB, *]), rfl⟩
set_option maxHeartbeats 1000000 in
theorem fn40_any (p a : Int) (w : World) : Calls Tryd.prog 39 #[.int .i64 p, .int .i64 a] w fun e w' => e = .returned (.int .i64 (pictN p a)) ∧ w' = w := by
  go_enter Tryd.func39, Tryd.ntmps39
  go_wp2
  all_goals go_ret
  all_goals exact ⟨retI (by simp [pictN, *]), rfl⟩

set_option maxHeartbeats 2000000 in
theorem fn33_any (b : Nat) (l p : Int) (o : Bool) (n : Int) (w : World) (hl : w.cell? ⟨b, 0, none⟩ = some (.int .i64 l)) (hp : w.cell? ⟨b, 1, none⟩ = some (.int .i64 p)) (ho : w.cell? ⟨b, 2, none⟩ = some (.bool o)) :
    Calls Tryd.prog 30 #[.pointer (some ⟨b, 0, none⟩), .int .i64 n] w fun e w' => e = .returned (.bool (partsB l p o n)) ∧ w' = w := by
  go_enter Tryd.func30, Tryd.ntmps30
  go_wp2_with (first
    | (go_at_call 37; refine (fn38_any _ _).mono ?_; rintro e w' ⟨rfl, rfl⟩)
    | (go_at_call 38; refine (fn39_any _ _ _).mono ?_; rintro e w' ⟨rfl, rfl⟩))
  all_goals go_ret
  all_goals refine ⟨retB ?_, rfl⟩
  all_goals clear hl hp ho
  all_goals first | (simp [partsB, *]; done) | (simp [partsB, *]; rfl) | (simp_all [partsB]; done)
theorem three_heap (w : World) (b : Nat) (x y z x' y' z' : Value) (hh : w.heap[b]? = some (.cells #[x, y, z] 63 (0, 0))) :
    (((w.setCell ⟨b, 0, none⟩ x').setCell ⟨b, 1, none⟩ y').setCell ⟨b, 2, none⟩ z').heap[b]? = some (.cells #[x', y', z'] 63 (0, 0)) := by
  rw [heap_setCell_same _ b 2 _ 63 z' (heap_setCell_same _ b 1 _ 63 y' (heap_setCell_same _ b 0 _ 63 x' hh))]
  rfl
theorem three_stores (w : World) (b : Nat) (x' y' z' : Value) : w.grownBy (((w.setCell ⟨b, 0, none⟩ x').setCell ⟨b, 1, none⟩ y').setCell ⟨b, 2, none⟩ z') (some b) :=
  ⟨rfl, rfl, rfl, by simp, fun k _ hk => by
    have hne : k ≠ b := fun e => hk (by rw [e])
    rw [heap_setCell_other _ ⟨b, 2, none⟩ k z' hne, heap_setCell_other _ ⟨b, 1, none⟩ k y' hne, heap_setCell_other _ ⟨b, 0, none⟩ k x' hne]⟩
set_option maxHeartbeats 2000000 in
theorem fn34_any (b : Nat) (l p : Int) (o : Bool) (n : Int) (w : World) (hh : w.heap[b]? = some (.cells #[.int .i64 l, .int .i64 p, .bool o] 63 (0, 0))) :
    Calls Tryd.prog 31 #[.pointer (some ⟨b, 0, none⟩), .int .i64 n] w fun e w' => e = .returned (.tuple #[]) ∧ w'.heap[b]? = some (.cells #[.int .i64 n, .int .i64 (pictN p n), .bool (oddN o n)] 63 (0, 0)) ∧ w.grownBy w' (some b) := by
  have c0 : w.cell? ⟨b, 0, none⟩ = some (.int .i64 l) := cell_of_row w b 0 _ _ _ hh
  have c1 : w.cell? ⟨b, 1, none⟩ = some (.int .i64 p) := cell_of_row w b 1 _ _ _ hh
  have c2 : w.cell? ⟨b, 2, none⟩ = some (.bool o) := cell_of_row w b 2 _ _ _ hh
  have f0 : w.frozen? ⟨b, 0, none⟩ = false := frozen_of_row w b 0 _ _ hh
  have f1 : w.frozen? ⟨b, 1, none⟩ = false := frozen_of_row w b 1 _ _ hh
  have f2 : w.frozen? ⟨b, 2, none⟩ = false := frozen_of_row w b 2 _ _ hh
  have HH : Hid _ := hh
  clear hh
  go_enter Tryd.func31, Tryd.ntmps31
  go_wp2_with (go_at_call 39; refine (fn40_any _ _ _).mono ?_; rintro e w' ⟨rfl, rfl⟩)
  all_goals go_end0
  all_goals (refine ⟨rfl, ?_, three_stores w b _ _ _⟩; rw [three_heap w b _ _ _ _ _ _ HH.out])
  all_goals simp [oddN, *]
end Go.Proofs.YtnakejhohdbfdabDoor
