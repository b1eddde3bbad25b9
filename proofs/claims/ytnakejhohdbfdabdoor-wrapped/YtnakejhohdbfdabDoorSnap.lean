/- Going to a boundary: the program's way and the document's, walked. -/
import Derived.Test.YtnakejhohdbfdabDoorShelf
import Derived.Test.YtnakejhohdbfdabDoorRefBnd
import Derived.WalkLawsBesides
namespace Go.Proofs.YtnakejhohdbfdabDoor
open Go.RowKit Dec Kin Bnd

theorem ints_at {l : List Int} {j : Nat} (h : j < l.length) : (ints64 l)[j]? = some (.int .i64 (l.getD j 0)) := by
  rw [ints64, List.getElem?_map, List.getElem?_eq_getElem h]
  simp [List.getD, h]

end Go.Proofs.YtnakejhohdbfdabDoor
