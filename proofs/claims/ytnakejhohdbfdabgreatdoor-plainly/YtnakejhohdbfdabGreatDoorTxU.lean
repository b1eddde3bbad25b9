/- Texts of small letters, or of Hebrew ones: their runes. -/
import Derived.Test.YtnakejhohdbfdabGreatDoorPlU
namespace Go.Proofs.YtnakejhohdbfdabGreatDoor
open Go.RowKit Lev Lay Bnd

/-- A text of letters: number k of it is letter q k. -/
structure LTx (s : ByteArray) (odd : Bool) (n : Nat) (q : Nat → Nat) : Prop where
  lt : ∀ k, k < n → q k < (if odd then 27 else 26)
  sz : s.size = if odd then n * 2 else n
  lat : odd = false → ∀ k, k < n → (s.get! k).toNat = 97 + q k
  heb : odd = true → ∀ k, k < n → (s.get! (k * 2)).toNat = 215 ∧ (s.get! (k * 2 + 1)).toNat = 144 + q k
theorem LTx.dec {s : ByteArray} {odd : Bool} {n : Nat} {q : Nat → Nat} (h : LTx s odd n q) {k : Nat} (hk : k < n) : Utf8.decode s (if odd then k * 2 else k) = if odd then (1488 + q k, 2) else (97 + q k, 1) := by
  have hq := h.lt k hk
  have hs := h.sz
  cases odd
  · have e := h.lat rfl k hk
    simp only [Bool.false_eq_true, if_false] at *
    simp only [Utf8.decode, Nat.add_zero, e]
    exact if_pos (by omega)
  · obtain ⟨e0, e1⟩ := h.heb rfl k hk
    simp only [if_true] at *
    have h1 : (144 + q k) / 64 = 2 := by omega
    simp only [Utf8.decode, Nat.add_zero, e0, e1, h1]
    rw [if_neg (by omega), if_pos (by simp; omega), if_pos (by omega)]
    congr 1
    omega
theorem LTx.pos {s : ByteArray} {odd : Bool} {n : Nat} {q : Nat → Nat} (h : LTx s odd n q) : ∀ k, k ≤ n → Dec.pos s k = if odd then k * 2 else k
  | 0, _ => by cases odd <;> rfl
  | k + 1, hk => by
    rw [Dec.pos, LTx.pos h k (by omega), LTx.dec h (by omega)]
    cases odd
    · rfl
    · simp only [if_true]; omega
theorem LTx.rune {s : ByteArray} {odd : Bool} {n : Nat} {q : Nat → Nat} (h : LTx s odd n q) {k : Nat} (hk : k < n) : Dec.rune s k = ((if odd then 1488 + q k else 97 + q k : Nat) : Int) := by
  rw [Dec.rune, LTx.pos h k (by omega), LTx.dec h hk]
  cases odd <;> rfl
theorem LTx.ends {s : ByteArray} {odd : Bool} {n : Nat} {q : Nat → Nat} (h : LTx s odd n q) : Dec.Ends s n := by
  refine ⟨by rw [LTx.pos h n (Nat.le_refl _), h.sz], fun j hj => ?_⟩
  rw [LTx.pos h j (by omega), h.sz]
  cases odd
  · simpa using hj
  · simp only [if_true]; omega
theorem look_small : ∀ r : Nat, r < 26 → Tabs.look Tabs.classTab ((97 + r : Nat) : Int) = 0 ∧ Tabs.kindOf ((97 + r : Nat) : Int) = 0 := by decide
theorem look_heb : ∀ r : Nat, r < 27 → Tabs.look Tabs.classTab ((1488 + r : Nat) : Int) = 1 ∧ Tabs.kindOf ((1488 + r : Nat) : Int) = 0 := by decide
theorem LTx.kf {s : ByteArray} {odd : Bool} {n : Nat} {q : Nat → Nat} (h : LTx s odd n q) {k : Nat} (hk : k < n) : Bnd.kf s k = 0 := by
  have hq := h.lt k hk
  rw [Bnd.kf, LTx.rune h hk]
  cases odd
  · exact (look_small _ hq).2
  · exact (look_heb _ hq).2
theorem LTx.cls {s : ByteArray} {odd : Bool} {n : Nat} {q : Nat → Nat} (h : LTx s odd n q) {k : Nat} (hk : k < n) : nth (Kl s n) k = if odd then 1 else 0 := by
  have hq := h.lt k hk
  have e : nth (Kl s n) k = Tabs.look Tabs.classTab (Dec.rune s k) := by simp [nth, Kl, hk]
  rw [e, LTx.rune h hk]
  cases odd
  · exact (look_small _ hq).1
  · exact (look_heb _ hq).1
end Go.Proofs.YtnakejhohdbfdabGreatDoor
