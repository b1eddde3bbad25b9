import Derived.Test.YtnakejhohdbfdacGreatDoorKDecWalkK
import Derived.Laws.StructEq
namespace Go.Proofs.YtnakejhohdbfdacGreatDoor.Cls
open Go.RowKit Dec
theorem cells_get {s:ByteArray}{n k:Nat}(h:k<n):(Dec.cells (lst s n))[k * 3]?=some (.int .i32 (rune s k))∧(Dec.cells (lst s n))[k * 3+1]?=some (.int .i64 (pos s k:Nat))∧(Dec.cells (lst s n))[k * 3+2]?=some (.int .i64 (pos s (k+1):Nat)):=cells_at _ _ _ (lst_at s n k h)
theorem runs:∀(s:ByteArray),∃n,Dec.Ends s n:=by
 intro s;have key:∀f k,s.size - pos s k≤f→pos s k≤s.size→(∀j,j<k→pos s j<s.size)→∃n,Dec.Ends s n:=by
  intro f
  induction f with
  | zero=>intro k h1 h2 h3;exact⟨k,by omega,h3⟩
  | succ f ih =>
    intro k h1 h2 h3;by_cases hlt:pos s k<s.size
    ·have h4:=pos_lt_succ s k
     have h5:=width_le s (pos s k) hlt;refine ih (k+1) (by omega) h5 (fun j hj=>?_)
     rcases Nat.lt_or_eq_of_le (Nat.le_of_lt_succ hj)with h | h
     ·exact h3 j h
     ·rw[h];exact hlt
    ·exact⟨k,by omega,h3⟩
 exact key s.size 0 (Nat.sub_le _ _) (Nat.zero_le _) (fun j hj=>absurd hj (Nat.not_lt_zero _))
end Go.Proofs.YtnakejhohdbfdacGreatDoor.Cls
