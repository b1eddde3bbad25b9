/- The document's test on kinds, walked. -/
import Derived.Test.YtnakejhohdbfdabDoorKinWalk
namespace Go.Proofs.YtnakejhohdbfdabDoor
open Go.RowKit Kin
theorem hidd {p : Prop} (h : p) : Hid p := h

set_option maxHeartbeats 4000000 in
set_option maxRecDepth 100000 in
theorem join_plain (a b : Int) (pre : List Int) (g n cap m : Nat) (w : World) (hm : m + 1 < n) (hn : n ≤ 1000000) (ca : w.cell? ⟨g, m, none⟩ = some (.int .i64 a)) (cb : w.cell? ⟨g, m + 1, none⟩ = some (.int .i64 b))
    (h5 : ¬ (a = 5 ∧ b = 14)) (h6 : ¬ (a = 6 ∧ b = 6)) :
    Calls Tryd.prog 18 #[.slice (some ⟨g, 0, none⟩) n cap, .int .i64 ((m : Int) + 1)] w fun e w' => e = .returned (.bool (joinB a pre b)) ∧ w' = w := by
  have hm1 : (m : Int) + 1 < (n : Int) := by omega
  go_enter Tryd.func18, Tryd.ntmps18
  go_wp2
  all_goals go_ret
  all_goals refine ⟨retB ?_, rfl⟩
  all_goals clear ca cb
  all_goals first | (simp [joinB, aloneB, sylB, *]; done) | (simp_all [joinB, aloneB, sylB]; done) | (simp_all [joinB, aloneB, sylB]; omega)
end Go.Proofs.YtnakejhohdbfdabDoor
