/- A setup of letters is right; its one line; Decode, called. -/
import Derived.Test.YtnakejhohdbfdabGreatDoorPlL
import Derived.Test.YtnakejhohdbfdabGreatDoorKKpT
namespace Go.Proofs.YtnakejhohdbfdabGreatDoor
open Go.RowKit Lev Lay Bnd

/-- The widths 0, 1, 2 .. -/
def wds (n : Nat) : List Int := (List.range n).map fun i => ((i : Nat) : Int)
theorem wds_len (n : Nat) : (wds n).length = n := by simp [wds]
theorem wds_at {n i : Nat} (h : i < n) : nth (wds n) i = (i : Int) := by simp [nth, wds, h]
theorem wds_snoc (n : Nat) : wds (n + 1) = wds n ++ [((n : Nat) : Int)] := by simp [wds, List.range_succ]
theorem early_ltr {K : List Int} {P : Nat → Nat} {e : Int} (h : ∀ k, ¬ nth K k = 10) : ∀ k, Lay.early K P e k = false
  | 0 => rfl
  | k + 1 => by
    rw [Lay.early, early_ltr h k, show (nth K k == 10) = false by simpa using h k]
    rfl
theorem chk_ltr {s : ByteArray} {odd : Bool} {n : Nat} {q : Nat → Nat} (h : LTx s odd n q) (hn : n ≤ 20) {b : Int} (hb : 0 ≤ b ∧ b ≤ 2) : chk s n (clsOf s n) b (wds n) [] = 0 := by
  have hs := h.sz
  have hs4 : s.size ≤ 400 := by
    cases odd
    · simp only [Bool.false_eq_true, if_false] at hs; omega
    · simp only [if_true] at hs; omega
  have hw : wOk (wds n) n = true := by
    unfold wOk
    rw [List.all_eq_true]
    intro i hi
    have hi := List.mem_range.1 hi
    rw [wds_at hi]
    simp; omega
  have hK : ∀ k, ¬ nth (clsOf s n) k = 10 := fun k => by
    by_cases hk : k < n
    · have e : nth (clsOf s n) k = if odd then 1 else 0 := LTx.cls h hk
      rw [e]; cases odd <;> decide
    · unfold nth; rw [List.getElem?_eq_none (by simp [clsOf]; omega)]; decide
  unfold chk
  rw [if_neg (by omega), if_neg (by omega), if_neg (by rw [wds_len, hw]; simp), if_neg (by simp [Lay.brTo]), if_neg (by rw [early_ltr hK]; decide)]
/-- The one line of letters, as New lays it. -/
theorem line_odd {s : ByteArray} {odd : Bool} {n : Nat} {q : Nat → Nat} (h : LTx s odd n q) {bs : Int} (hb : bs = 0 ∨ bs = 1) (W : List Int) :
    (lnOf (Dec.pos s) (nix (bix s n)) (evOf s n bs []) W 0 n).o = if odd then (List.range n).reverse else List.range n := by
  have e := line_ltr (s := s) (n := n) (bs := bs) (c := if odd then 1 else 0) (W := W) (fun k hk => LTx.kf h hk) (by cases odd <;> decide) hb (fun i hi => LTx.cls h hi)
  rw [e]
  cases odd <;> rfl
end Go.Proofs.YtnakejhohdbfdabGreatDoor
