/- Words: the document's list, walked. -/
import Derived.Test.YtnakejhohdbfdabDoorWdB
namespace Go.Proofs.YtnakejhohdbfdabDoor
open Go.RowKit Dec Kin Bnd Lay

theorem wdTo_skip {s : ByteArray} {n i : Nat} (h : 0 < i ∧ i + 1 < (bnd s n).length ∧ ltr s n (i - 1) = ltr s n i) : wdTo s n (i + 1) = wdTo s n i := by rw [wdTo, if_pos h]
theorem wdTo_add {s : ByteArray} {n i : Nat} (h : ¬ (0 < i ∧ i + 1 < (bnd s n).length ∧ ltr s n (i - 1) = ltr s n i)) : wdTo s n (i + 1) = wdTo s n i ++ [(bnd s n).getD i 0] := by rw [wdTo, if_neg h]
end Go.Proofs.YtnakejhohdbfdabDoor
