/- Plain mathematics of reading a text rune by rune. -/
import Derived.Lib.TrimU
import Derived.Lib.RuneCountTail
import Derived.Lib.QuoteLoop
import Derived.WalkKit
namespace Go.Proofs.YtnakejhohdbfdabDoor.Dec
open Go

def pos (s : ByteArray) : Nat → Nat
  | 0 => 0
  | k + 1 => pos s k + (Utf8.decode s (pos s k)).2
def rune (s : ByteArray) (k : Nat) : Int := ((Utf8.decode s (pos s k)).1 : Nat)
def row (s : ByteArray) (k : Nat) : Int × Int × Int := (rune s k, (pos s k : Nat), (pos s (k + 1) : Nat))
/-- The first k runes. -/
def lst (s : ByteArray) : Nat → List (Int × Int × Int)
  | 0 => []
  | k + 1 => lst s k ++ [row s k]
/-- The first k runes, the last of them taken to go up to the text's end. -/
def lstL (s : ByteArray) : Nat → List (Int × Int × Int)
  | 0 => []
  | k + 1 => lst s k ++ [((rune s k, (pos s k : Nat), (s.size : Nat)) : Int × Int × Int)]
/-- There are just n runes. -/
def Ends (s : ByteArray) (n : Nat) : Prop := pos s n = s.size ∧ ∀ j, j < n → pos s j < s.size

theorem width_pos (s : ByteArray) (p : Nat) : 1 ≤ (Utf8.decode s p).2 := Lib.width_pos s p
theorem width_le (s : ByteArray) (p : Nat) (h : p < s.size) : p + (Utf8.decode s p).2 ≤ s.size := by
  have : (Utf8.decode s p).2 ≤ s.size - p := by rw [Lib.decode_at]; exact Lib.decodeN_width_le _ _ _ _ _ (by omega)
  omega
theorem decodeGo_tail (s : ByteArray) (p : Nat) : Utf8.decode (s.extract p s.size) 0 = Utf8.decode s p := by
  rw [Lib.tail_decode]; rfl
theorem pos_lt_succ (s : ByteArray) (k : Nat) : pos s k < pos s (k + 1) := by
  have := width_pos s (pos s k)
  show pos s k < pos s k + _
  omega
theorem pos_mono (s : ByteArray) : ∀ (a b : Nat), a < b → pos s a < pos s b
  | a, 0, h => by omega
  | a, b + 1, h => by
    have := pos_lt_succ s b
    rcases Nat.lt_or_eq_of_le (Nat.le_of_lt_succ h) with h1 | h1
    · have := pos_mono s a b h1; omega
    · subst h1; exact this
theorem le_pos (s : ByteArray) : ∀ k, k ≤ pos s k
  | 0 => Nat.zero_le _
  | k + 1 => by have := le_pos s k; have := pos_lt_succ s k; omega
theorem ends_unique {s : ByteArray} {n m : Nat} (h : Ends s n) (k : Ends s m) : n = m := by
  rcases Nat.lt_trichotomy n m with h1 | h1 | h1
  · have := k.2 n h1; have := h.1; omega
  · exact h1
  · have := h.2 m h1; have := k.1; omega
theorem lst_length (s : ByteArray) : ∀ k, (lst s k).length = k
  | 0 => rfl
  | k + 1 => by simp [lst, lst_length s k]
theorem lstL_length (s : ByteArray) : ∀ k, (lstL s k).length = k
  | 0 => rfl
  | k + 1 => by simp [lstL, lst_length s k]
theorem lst_at (s : ByteArray) : ∀ (n k : Nat), k < n → (lst s n)[k]? = some (row s k)
  | 0, k, h => by omega
  | n + 1, k, h => by
    rw [lst]
    rcases Nat.lt_or_eq_of_le (Nat.le_of_lt_succ h) with h1 | h1
    · rw [List.getElem?_append_left (by rw [lst_length]; exact h1)]; exact lst_at s n k h1
    · subst h1; rw [List.getElem?_append_right (by rw [lst_length]; exact Nat.le_refl _), lst_length]; simp
theorem lstL_last (s : ByteArray) (k : Nat) : (lstL s (k + 1))[k]? = some (rune s k, ((pos s k : Nat) : Int), ((s.size : Nat) : Int)) := by
  rw [lstL, List.getElem?_append_right (by rw [lst_length]; exact Nat.le_refl _), lst_length]; simp
theorem lstL_end {s : ByteArray} {n : Nat} (h : Ends s n) : lstL s n = lst s n := by
  cases n with
  | zero => rfl
  | succ n => rw [lst, lstL, row, h.1]

/-- Runes as cells: what is read, from, to. -/
def cells : List (Int × Int × Int) → List Value
  | [] => []
  | x :: l => .int .i32 x.1 :: .int .i64 x.2.1 :: .int .i64 x.2.2 :: cells l
theorem cells_length : ∀ l : List (Int × Int × Int), (cells l).length = l.length * 3
  | [] => rfl
  | x :: l => by have := cells_length l; simp only [cells, List.length_cons, this]; omega
theorem cells_append : ∀ l m : List (Int × Int × Int), cells l ++ cells m = cells (l ++ m)
  | [], _ => rfl
  | x :: l, m => by simp only [cells, List.cons_append, cells_append l m]
theorem cells_at : ∀ (l : List (Int × Int × Int)) (i : Nat) (x : Int × Int × Int), l[i]? = some x →
    (cells l)[i * 3]? = some (.int .i32 x.1) ∧ (cells l)[i * 3 + 1]? = some (.int .i64 x.2.1) ∧ (cells l)[i * 3 + 2]? = some (.int .i64 x.2.2)
  | [], i, x, h => by simp at h
  | y :: l, 0, x, h => by
    simp at h; subst h; exact ⟨rfl, rfl, rfl⟩
  | y :: l, i + 1, x, h => by
    have ih := cells_at l i x (by simpa using h)
    rw [show (i + 1) * 3 = i * 3 + 1 + 1 + 1 by omega]
    exact ih
theorem cells_snoc (s : ByteArray) (k : Nat) : cells (lst s k) ++ [.int .i32 (rune s k), .int .i64 (pos s k : Nat), .int .i64 (pos s (k + 1) : Nat)] = cells (lst s (k + 1)) := by
  rw [lst, ← cells_append]; rfl
theorem cells_snocL (s : ByteArray) (k : Nat) : cells (lst s k) ++ [.int .i32 (rune s k), .int .i64 (pos s k : Nat), .int .i64 (s.size : Nat)] = cells (lstL s (k + 1)) := by
  rw [lstL, ← cells_append]; rfl
/-- The last rune's end, set right when the next one comes. -/
theorem cells_set (s : ByteArray) (k : Nat) : (cells (lstL s (k + 1))).set (k * 3 + 2) (.int .i64 (pos s (k + 1) : Nat)) = cells (lst s (k + 1)) := by
  rw [lst, lstL, ← cells_append, ← cells_append, List.set_append_right _ _ (by rw [cells_length, lst_length]; omega), cells_length, lst_length]
  have : k * 3 + 2 - k * 3 = 2 := by omega
  rw [this]
  rfl
theorem cells_one : ∀ (l : List (Int × Int × Int)), ∀ u ∈ cells l, u.oneCell' = true
  | [], u, hu => by cases hu
  | x :: l, u, hu => by
    simp only [cells, List.mem_cons] at hu
    rcases hu with rfl | rfl | rfl | hu
    · rfl
    · rfl
    · rfl
    · exact cells_one l u hu

/-- What is owned stays owned where all that lay stands. -/
theorem owns_below {w w' : World} {base : Nat} {e : TypeId} {size : Nat} {v : Value} {n : Nat} {xs : List Value} (h : w.ownsRow base e size v n xs) (hb : RowKit.Below w.heap.size w w') : w'.ownsRow base e size v n xs := by
  refine ⟨h.1, ?_⟩
  rcases h.2 with h1 | ⟨g, cap, cur, hv, hg, hh, r⟩
  · exact .inl h1
  · refine .inr ⟨g, cap, cur, hv, hg, ?_, r⟩
    rw [hb.block g (Array.getElem?_eq_some_iff.1 hh).1]
    exact hh
theorem owns_low {w : World} {base base' : Nat} {e : TypeId} {size : Nat} {v : Value} {n : Nat} {xs : List Value} (h : w.ownsRow base e size v n xs) (hb : base' ≤ base) : w.ownsRow base' e size v n xs := by
  refine ⟨h.1, ?_⟩
  rcases h.2 with h1 | ⟨g, cap, cur, hv, hg, r⟩
  · exact .inl h1
  · exact .inr ⟨g, cap, cur, hv, by omega, r⟩
theorem owns_shape {w : World} {base : Nat} {e : TypeId} {size : Nat} {v : Value} {n : Nat} {xs : List Value} (h : w.ownsRow base e size v (n + 1) xs) : ∃ g cap, v = .slice (some ⟨g, 0, none⟩) (n + 1) cap := by
  rcases h.2 with ⟨_, h1⟩ | ⟨g, cap, cur, hv, _⟩
  · omega
  · exact ⟨g, cap, hv⟩
theorem owns_at {w : World} {base : Nat} {e : TypeId} {size : Nat} {n g cap : Nat} {xs : List Value} (h : w.ownsRow base e size (.slice (some ⟨g, 0, none⟩) n cap) n xs) : base ≤ g ∧ g < w.heap.size := h.lt g rfl
end Go.Proofs.YtnakejhohdbfdabDoor.Dec
