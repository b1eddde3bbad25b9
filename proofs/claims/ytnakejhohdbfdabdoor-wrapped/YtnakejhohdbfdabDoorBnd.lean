/- Plain mathematics of boundaries. -/
import Derived.Test.YtnakejhohdbfdabDoorTabs
import Derived.Test.YtnakejhohdbfdabDoorDec
import Derived.Test.YtnakejhohdbfdabDoorKin
namespace Go.Proofs.YtnakejhohdbfdabDoor.Bnd
open Go Dec Kin

/-- The kind of rune k. -/
def kf (s : ByteArray) (k : Nat) : Int := Tabs.kindOf (rune s k)
/-- No boundary ahead of rune k? (Ahead of the first one none is added.) -/
def jn (s : ByteArray) : Nat → Bool
  | 0 => true
  | m + 1 => joinB (kf s m) (pref (kf s) m) (kf s (m + 1))
def bndTo (s : ByteArray) : Nat → List Int
  | 0 => [0]
  | k + 1 => if jn s k then bndTo s k else bndTo s k ++ [((pos s k : Nat) : Int)]
def bnd (s : ByteArray) (n : Nat) : List Int := if 0 < s.size then bndTo s n ++ [((s.size : Nat) : Int)] else bndTo s n
def kl (s : ByteArray) : Nat → List Int
  | 0 => []
  | k + 1 => kl s k ++ [kf s k]

theorem bndTo_yes {s : ByteArray} {k : Nat} (h : jn s k = true) : bndTo s (k + 1) = bndTo s k := by rw [bndTo, if_pos h]
theorem bndTo_no {s : ByteArray} {k : Nat} (h : jn s k = false) : bndTo s (k + 1) = bndTo s k ++ [((pos s k : Nat) : Int)] := by rw [bndTo, if_neg (by rw [h]; exact Bool.false_ne_true)]
theorem parts_jn (s : ByteArray) (m : Nat) : partsB (lastOf (pref (kf s) (m + 1))) (pictOf (pref (kf s) (m + 1))) (oddOf (pref (kf s) (m + 1))) (kf s (m + 1)) = !jn s (m + 1) :=
  parts_joined (kf s m) (pref (kf s) m) (kf s (m + 1))
theorem kl_length (s : ByteArray) : ∀ k, (kl s k).length = k
  | 0 => rfl
  | k + 1 => by simp [kl, kl_length s k]
theorem kl_at (s : ByteArray) : ∀ (n k : Nat), k < n → (kl s n)[k]? = some (kf s k)
  | 0, k, h => by omega
  | n + 1, k, h => by
    rw [kl]
    rcases Nat.lt_or_eq_of_le (Nat.le_of_lt_succ h) with h1 | h1
    · rw [List.getElem?_append_left (by rw [kl_length]; exact h1)]; exact kl_at s n k h1
    · subst h1; rw [List.getElem?_append_right (by rw [kl_length]; exact Nat.le_refl _), kl_length]; simp
theorem bndTo_len (s : ByteArray) : ∀ k, 1 ≤ (bndTo s k).length ∧ (bndTo s k).length ≤ k + 1
  | 0 => ⟨Nat.le_refl _, Nat.le_refl _⟩
  | k + 1 => by
    have ih := bndTo_len s k
    cases h : jn s k
    · rw [bndTo_no h, List.length_append, List.length_singleton]; omega
    · rw [bndTo_yes h]; omega
theorem bnd_len (s : ByteArray) (n : Nat) : 1 ≤ (bnd s n).length ∧ (bnd s n).length ≤ n + 2 := by
  have h := bndTo_len s n
  unfold bnd
  split
  · rw [List.length_append, List.length_singleton]; omega
  · omega
theorem bndTo_head (s : ByteArray) : ∀ k, (bndTo s k)[0]? = some 0
  | 0 => rfl
  | k + 1 => by
    have ih := bndTo_head s k
    have hl := (bndTo_len s k).1
    cases h : jn s k
    · rw [bndTo_no h, List.getElem?_append_left (by omega)]; exact ih
    · rw [bndTo_yes h]; exact ih
theorem bnd_head (s : ByteArray) (n : Nat) : (bnd s n)[0]? = some 0 := by
  have hl := (bndTo_len s n).1
  unfold bnd
  split
  · rw [List.getElem?_append_left (by omega)]; exact bndTo_head s n
  · exact bndTo_head s n
/-- Boundaries ahead of rune k lie below it. -/
theorem bndTo_lt (s : ByteArray) : ∀ k, ∀ x ∈ bndTo s (k + 1), x < ((pos s (k + 1) : Nat) : Int)
  | 0, x, hx => by
    rw [bndTo_yes (k := 0) rfl] at hx
    simp only [bndTo, List.mem_singleton] at hx
    have := pos_lt_succ s 0
    rw [hx]; omega
  | k + 1, x, hx => by
    have h1 := pos_lt_succ s (k + 1)
    cases h : jn s (k + 1)
    · rw [bndTo_no h, List.mem_append, List.mem_singleton] at hx
      rcases hx with hx | hx
      · have := bndTo_lt s k x hx; omega
      · rw [hx]; omega
    · rw [bndTo_yes h] at hx
      have := bndTo_lt s k x hx; omega
theorem bndTo_sorted (s : ByteArray) : ∀ k, (bndTo s k).Pairwise (· < ·)
  | 0 => by simp [bndTo]
  | k + 1 => by
    have ih := bndTo_sorted s k
    cases h : jn s k
    · rw [bndTo_no h, List.pairwise_append]
      refine ⟨ih, by simp, fun a ha b hb => ?_⟩
      rw [List.mem_singleton] at hb
      subst hb
      cases k with
      | zero => cases h
      | succ m => exact bndTo_lt s m a ha
    · rw [bndTo_yes h]; exact ih
theorem bnd_sorted {s : ByteArray} {n : Nat} (h : Dec.Ends s n) : (bnd s n).Pairwise (· < ·) := by
  unfold bnd
  split
  · rename_i hs
    rw [List.pairwise_append]
    refine ⟨bndTo_sorted s n, by simp, fun a ha b hb => ?_⟩
    rw [List.mem_singleton] at hb
    subst hb
    cases n with
    | zero => have h1 := h.1; simp only [pos] at h1; omega
    | succ m => have := bndTo_lt s m a ha; rw [h.1] at this; exact this
  · exact bndTo_sorted s n
/-- The last boundary is the text's end. -/
theorem bnd_last {s : ByteArray} {n : Nat} (h : Dec.Ends s n) : (bnd s n)[(bnd s n).length - 1]? = some ((s.size : Nat) : Int) := by
  unfold bnd
  split
  · rw [List.length_append, List.length_singleton, Nat.add_sub_cancel, List.getElem?_append_right (Nat.le_refl _)]; simp
  · rename_i hs
    have hn : n = 0 := by
      cases n with
      | zero => rfl
      | succ m => have := h.2 0 (Nat.succ_pos _); omega
    subst hn
    have : s.size = 0 := by omega
    rw [this]; rfl

/- Going to a boundary. -/
/-- The last of the first i that is not above x (0 where there is none). -/
def best (l : List Int) (x : Int) : Nat → Int
  | 0 => 0
  | i + 1 => if l.getD i 0 ≤ x then l.getD i 0 else best l x i
/-- Places below k hold less than x, those from k on no less. -/
def Cut (l : List Int) (x : Int) (k : Nat) : Prop := k ≤ l.length ∧ (∀ i, i < k → l.getD i 0 < x) ∧ (∀ i, k ≤ i → i < l.length → x ≤ l.getD i 0)

theorem cut_cons {y : Int} {l : List Int} {x : Int} {k : Nat} (h : Cut l x k) (hy : y < x) : Cut (y :: l) x (k + 1) := by
  refine ⟨by have := h.1; simp; omega, fun i hi => ?_, fun i h1 h2 => ?_⟩
  · cases i with
    | zero => exact hy
    | succ i => exact h.2.1 i (by omega)
  · cases i with
    | zero => omega
    | succ i => exact h.2.2 i (by omega) (by simpa using h2)
theorem cut_exists (x : Int) : ∀ l : List Int, l.Pairwise (· < ·) → ∃ k, Cut l x k
  | [], _ => ⟨0, Nat.le_refl _, fun i h => by omega, fun i _ h => by simp at h⟩
  | y :: l, h => by
    rw [List.pairwise_cons] at h
    by_cases hy : y < x
    · obtain ⟨k, hk⟩ := cut_exists x l h.2
      exact ⟨k + 1, cut_cons hk hy⟩
    · refine ⟨0, Nat.zero_le _, fun i hi => by omega, fun i _ h2 => ?_⟩
      cases i with
      | zero => show x ≤ y; omega
      | succ i =>
        have hi : i < l.length := by simpa using h2
        have : l.getD i 0 ∈ l := by simp [List.getD, hi]
        have := h.1 _ this
        show x ≤ l.getD i 0
        omega
theorem cut_count : ∀ {l : List Int} {x : Int} {k : Nat}, Cut l x k → l.countP (fun y => decide (y < x)) = k
  | [], x, k, h => by have := h.1; simp at this; simp [this]
  | y :: l, x, k, h => by
    cases k with
    | zero =>
      rw [List.countP_eq_zero]
      intro z hz
      obtain ⟨i, hi, rfl⟩ := List.getElem_of_mem hz
      have := h.2.2 i (Nat.zero_le _) hi
      rw [List.getD, List.getElem?_eq_getElem hi] at this
      simp only [Option.getD_some] at this
      simp; omega
    | succ k =>
      have hy : y < x := h.2.1 0 (Nat.succ_pos _)
      have hc : Cut l x k := ⟨by have := h.1; simp at this; omega, fun i hi => h.2.1 (i + 1) (by omega), fun i h1 h2 => h.2.2 (i + 1) (by omega) (by simpa using h2)⟩
      rw [List.countP_cons, cut_count hc]
      simp [hy]
theorem sorted_lt {l : List Int} (h : l.Pairwise (· < ·)) {i j : Nat} (hij : i < j) (hj : j < l.length) : l.getD i 0 < l.getD j 0 := by
  rw [List.pairwise_iff_getElem] at h
  have := h i j (by omega) hj hij
  simpa [List.getD, hj, show i < l.length by omega] using this
theorem contains_iff {l : List Int} (hs : l.Pairwise (· < ·)) {x : Int} {k : Nat} (h : Cut l x k) : l.contains x = true ↔ k < l.length ∧ l.getD k 0 = x := by
  rw [List.contains_iff_mem]
  constructor
  · intro hm
    obtain ⟨i, hi, e⟩ := List.getElem_of_mem hm
    have e2 : l.getD i 0 = x := by simp [List.getD, hi, e]
    rcases Nat.lt_trichotomy i k with h1 | h1 | h1
    · have := h.2.1 i h1; omega
    · subst h1; exact ⟨hi, e2⟩
    · have := sorted_lt hs h1 hi
      have := h.2.2 k (Nat.le_refl _) (by omega)
      omega
  · rintro ⟨h1, h2⟩
    rw [← h2]
    simp [List.getD, h1]
theorem best_low {l : List Int} {x : Int} : ∀ {k : Nat}, (∀ i, i < k → l.getD i 0 ≤ x) → best l x (k + 1 - 1) = if k = 0 then 0 else l.getD (k - 1) 0
  | 0, _ => rfl
  | k + 1, h => by
    show best l x (k + 1) = _
    rw [best, if_pos (h k (Nat.lt_succ_self _))]
    simp
theorem best_stay {l : List Int} {x : Int} {k : Nat} : ∀ d, (∀ i, k ≤ i → i < k + d → x < l.getD i 0) → best l x (k + d) = best l x k
  | 0, _ => rfl
  | d + 1, h => by
    rw [show k + (d + 1) = (k + d) + 1 from rfl, best, if_neg (by have := h (k + d) (by omega) (by omega); omega)]
    exact best_stay d fun i h1 h2 => h i h1 (by omega)
/-- Where x is a boundary, the best is x. -/
theorem best_found {l : List Int} (hs : l.Pairwise (· < ·)) {x : Int} {k : Nat} (hk : k < l.length) (e : l.getD k 0 = x) : best l x l.length = x := by
  have h1 : best l x (k + 1) = x := by rw [best, if_pos (by omega), e]
  have h2 := best_stay (l := l) (x := x) (k := k + 1) (l.length - (k + 1)) (fun i h3 h4 => by
    have := sorted_lt hs (show k < i by omega) (by omega); omega)
  rw [show k + 1 + (l.length - (k + 1)) = l.length by omega] at h2
  rw [h2, h1]
/-- Where it is none, the best is the one below. -/
theorem best_below {l : List Int} {x : Int} {k : Nat} (h : Cut l x k) (hne : ∀ i, k ≤ i → i < l.length → l.getD i 0 ≠ x) : best l x l.length = if k = 0 then 0 else l.getD (k - 1) 0 := by
  have h2 := best_stay (l := l) (x := x) (k := k) (l.length - k) (fun i h3 h4 => by
    have := h.2.2 i h3 (by omega)
    have := hne i h3 (by omega)
    omega)
  rw [show k + (l.length - k) = l.length by have := h.1; omega] at h2
  rw [h2]
  exact best_low (k := k) fun i hi => by have := h.2.1 i hi; omega
/-- What both ways of going to a boundary come to. -/
def snapL (l : List Int) (x : Int) (up : Bool) (k : Nat) : Int := if l.contains x || up then l.getD k 0 else l.getD (k - 1) 0
/-- A list of boundaries: rising, from 0. -/
structure Rises (l : List Int) (z : Int) : Prop where
  sorted : l.Pairwise (· < ·)
  head : l[0]? = some 0
  last : l[l.length - 1]? = some z
theorem rises_bnd {s : ByteArray} {n : Nat} (h : Dec.Ends s n) : Rises (bnd s n) ((s.size : Nat) : Int) := ⟨bnd_sorted h, bnd_head s n, bnd_last h⟩
theorem Rises.head0 {l : List Int} {z : Int} (h : Rises l z) : l.getD 0 0 = 0 := by rw [List.getD, h.head]; rfl
theorem Rises.len {l : List Int} {z : Int} (h : Rises l z) : 0 < l.length := by
  have := h.head
  cases l with
  | nil => cases this
  | cons _ _ => exact Nat.succ_pos _
theorem Rises.cut_lt {l : List Int} {z x : Int} {k : Nat} (h : Rises l z) (hc : Cut l x k) (hx : x ≤ z) : k < l.length := by
  rcases Nat.lt_or_eq_of_le hc.1 with h1 | h1
  · exact h1
  · have h0 := h.len
    have h2 := hc.2.1 (l.length - 1) (by omega)
    rw [List.getD, h.last] at h2
    simp only [Option.getD_some] at h2
    omega
theorem Rises.cut_pos {l : List Int} {z x : Int} {k : Nat} (h : Rises l z) (hc : Cut l x k) (hx : 0 ≤ x) (hn : l.contains x = false) : 0 < k := by
  rcases Nat.eq_zero_or_pos k with h1 | h1
  · subst h1
    have h2 := hc.2.2 0 (Nat.le_refl _) h.len
    have h3 := h.head0
    have : l.contains x = true := (contains_iff h.sorted hc).2 ⟨h.len, by omega⟩
    rw [hn] at this; cases this
  · exact h1
theorem not_there {l : List Int} {x : Int} {k : Nat} (hn : l.contains x = false) : ∀ i, k ≤ i → i < l.length → l.getD i 0 ≠ x := fun i _ h2 e => by
  have : l.contains x = true := by
    rw [List.contains_iff_mem, ← e]
    simp [List.getD, h2]
  rw [hn] at this; cases this
theorem snap_down {l : List Int} {z x : Int} {k : Nat} (h : Rises l z) (hc : Cut l x k) (hx : 0 ≤ x) : best l x l.length = snapL l x false k := by
  unfold snapL
  rw [Bool.or_false]
  cases hn : l.contains x
  · rw [best_below hc (not_there hn), if_neg (by have := h.cut_pos hc hx hn; omega)]
    rfl
  · obtain ⟨h1, h2⟩ := (contains_iff h.sorted hc).1 hn
    rw [best_found h.sorted h1 h2, if_pos rfl, h2]
theorem snap_same {l : List Int} {z x : Int} {k : Nat} (h : Rises l z) (hc : Cut l x k) (hx : 0 ≤ x) (hb : best l x l.length = x) : snapL l x true k = x := by
  unfold snapL
  rw [Bool.or_true, if_pos rfl]
  cases hn : l.contains x
  · have hp := h.cut_pos hc hx hn
    rw [best_below hc (not_there hn), if_neg (by omega)] at hb
    have := hc.2.1 (k - 1) (by omega)
    omega
  · exact ((contains_iff h.sorted hc).1 hn).2
theorem snap_up {l : List Int} {x : Int} {k : Nat} : snapL l x true k = l.getD k 0 := by
  unfold snapL
  rw [Bool.or_true, if_pos rfl]
end Go.Proofs.YtnakejhohdbfdabDoor.Bnd
