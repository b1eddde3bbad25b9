/- The law Clustered. -/
import Derived.Test.YtnakejhohdbfdabDoorSnap
namespace Go.Proofs.YtnakejhohdbfdabDoor
open Go.RowKit Dec Kin Bnd

set_option maxHeartbeats 1000000 in
theorem fn17_same (l : List Int) (ga ca gb cb : Nat) (w : World) (hl : l.length ≤ 1000002) (ha : ∀ j, j < l.length → w.cell? ⟨ga, j, none⟩ = some (.int .i64 (l.getD j 0))) (hb : ∀ j, j < l.length → w.cell? ⟨gb, j, none⟩ = some (.int .i64 (l.getD j 0))) :
    Calls Tryd.prog 5 #[.slice (some ⟨ga, 0, none⟩) l.length ca, .slice (some ⟨gb, 0, none⟩) l.length cb] w fun e w' => e = .returned (.bool true) ∧ ∃ q, w' = w.drewN q := by
  have HA := hide ha
  have HB := hide hb
  clear ha hb
  generalize hn : l.length = n at *
  clear hn
  go_enter Tryd.func5, Tryd.ntmps5
  go_wp2_with fail
  go_loopw [5] (fun i wr => ∃ j q : Nat, j ≤ n ∧ i = .int .i64 j ∧ wr = w.drewN q) (fun i _ => n - (intOf i).toNat)
  case atStart => exact ⟨0, 0, Nat.zero_le _, rfl, rfl⟩
  case round =>
    obtain ⟨j, q, hj, rfl, rfl⟩ := hrel
    by_cases hjn : j < n
    · have c1 : (w.drewN q).cell? ⟨ga, j, none⟩ = some (.int .i64 (l.getD j 0)) := HA.out j hjn
      have c2 : (w.drewN q).cell? ⟨gb, j, none⟩ = some (.int .i64 (l.getD j 0)) := HB.out j hjn
      have d1 := HA.out j hjn
      have d2 := HB.out j hjn
      have hjI : (j : Int) < (n : Int) := by omega
      generalize l.getD j 0 = y at c1 c2 d1 d2
      go_wp2_with fail
      go_quiet (fail)
      go_wp2
      go_roundw
      case rel => exact ⟨j + 1, _, by omega, by go_num, rfl⟩
      case measure => simp [intOf]; omega
    · go_wp2
      go_ret
      exact ⟨rfl, q, rfl⟩

theorem rows_at {w : World} {base g cap : Nat} {l : List Int} (h : w.ownsRow base 3 1 (.slice (some ⟨g, 0, none⟩) l.length cap) l.length (ints64 l)) : ∀ j, j < l.length → w.cell? ⟨g, j, none⟩ = some (.int .i64 (l.getD j 0)) :=
  fun j hj => (h.cellAt j (by omega)).trans (ints_at hj)

end Go.Proofs.YtnakejhohdbfdabDoor
