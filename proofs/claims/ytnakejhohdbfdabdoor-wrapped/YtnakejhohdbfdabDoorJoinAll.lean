/- The document's test on kinds, whole. -/
import Derived.Test.YtnakejhohdbfdabDoorJoin
import Derived.Test.YtnakejhohdbfdabDoorJoinBack
namespace Go.Proofs.YtnakejhohdbfdabDoor
open Go.RowKit Kin

theorem fn24_any (f : Nat → Int) (g n cap m : Nat) (w : World) (hm : m + 1 < n) (hn : n ≤ 1000000) (hc : ∀ j, j < n → w.cell? ⟨g, j, none⟩ = some (.int .i64 (f j))) :
    Calls Tryd.prog 18 #[.slice (some ⟨g, 0, none⟩) n cap, .int .i64 ((m : Int) + 1)] w fun e w' => e = .returned (.bool (joinB (f m) (pref f m) (f (m + 1)))) ∧ w' = w := by
  by_cases h5 : f m = 5 ∧ f (m + 1) = 14
  · have e : joinB (f m) (pref f m) (f (m + 1)) = pictBack (pref f m) := by rw [h5.1, h5.2]; rfl
    rw [e]
    exact join_pict f g n cap m w hm hn hc h5.1 h5.2
  · by_cases h6 : f m = 6 ∧ f (m + 1) = 6
    · have e : joinB (f m) (pref f m) (f (m + 1)) = (flags (pref f (m + 1)) % 2 == 1) := by rw [pref_succ, h6.1, h6.2]; rfl
      rw [e]
      exact join_flags f g n cap m w hm hn hc h6.1 h6.2
    · exact join_plain (f m) (f (m + 1)) (pref f m) g n cap m w hm hn (hc m (by omega)) (hc (m + 1) hm) h5 h6
end Go.Proofs.YtnakejhohdbfdabDoor
