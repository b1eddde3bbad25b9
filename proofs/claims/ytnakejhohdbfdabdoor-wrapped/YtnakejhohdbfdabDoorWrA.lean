/- Wrapping, plainly: how many runes a cluster has, its width, the lines. -/
import Derived.Lib.RuneCountTail
import Derived.Test.YtnakejhohdbfdabDoorWdB
namespace Go.Proofs.YtnakejhohdbfdabDoor
open Go.RowKit Dec Bnd Lay

theorem cut_decode_at (s : ByteArray) (p q j : Nat) (hp : p + j < q) (hq : q ≤ s.size) (hw : p + j + (Utf8.decode s (p + j)).2 ≤ q) : Utf8.decode (s.extract p q) j = Utf8.decode s (p + j) := by
  rw [Lib.decode_at] at hw ⊢
  rw [Lib.decode_at s (p + j), cut_size s p q hq, cut_get s p q j (by omega)]
  refine decodeN_cut (q - p - j) (s.size - (p + j)) _ _ _ _ _ _ _ (by omega) (by omega) (by omega) (fun h => ?_) (fun h => ?_) (fun h => ?_)
  · rw [cut_get s p q (j + 1) (by omega), Nat.add_assoc]
  · rw [cut_get s p q (j + 2) (by omega), Nat.add_assoc]
  · rw [cut_get s p q (j + 3) (by omega), Nat.add_assoc]
theorem cut_pos (s : ByteArray) {a b : Nat} (hb : pos s b ≤ s.size) : ∀ j, a + j ≤ b → pos (s.extract (pos s a) (pos s b)) j + pos s a = pos s (a + j)
  | 0, _ => by simp [pos]
  | j + 1, h => by
    have ih := cut_pos s (a := a) hb j (by omega)
    have h1 := pos_le s (show a + j + 1 ≤ b by omega)
    have h2 := pos_lt_succ s (a + j)
    have hw : pos s (a + j) + (Utf8.decode s (pos s (a + j))).2 = pos s (a + j + 1) := rfl
    rw [show pos (s.extract (pos s a) (pos s b)) (j + 1) = pos (s.extract (pos s a) (pos s b)) j + (Utf8.decode (s.extract (pos s a) (pos s b)) (pos (s.extract (pos s a) (pos s b)) j)).2 from rfl]
    rw [cut_decode_at s _ _ _ (by omega) hb (by rw [Nat.add_comm (pos s a), ih]; omega), Nat.add_comm (pos s a), ih]
    rw [show a + (j + 1) = a + j + 1 from rfl, ← hw]
    omega
theorem count_from {s : ByteArray} {n : Nat} (h : Dec.Ends s n) : ∀ (f k : Nat), k ≤ n → n - k ≤ f → Lib.runeCountFrom s f (Dec.pos s k) = n - k
  | 0, k, h1, h2 => by rw [Lib.runeCountFrom]; omega
  | f + 1, k, h1, h2 => by
    rw [Lib.runeCountFrom]
    rcases Nat.lt_or_eq_of_le h1 with h3 | h3
    · rw [if_pos (h.2 k h3)]
      have ih := count_from h f (k + 1) h3 (by omega)
      have e : Dec.pos s k + (Utf8.decode s (Dec.pos s k)).2 = Dec.pos s (k + 1) := rfl
      rw [e, ih]; omega
    · rw [h3, h.1, if_neg (by omega)]; omega
theorem count_ends {s : ByteArray} {n : Nat} (h : Dec.Ends s n) : Lib.runeCount s = n := by
  have h1 := count_from h s.size 0 (Nat.zero_le _) (by have := Dec.le_pos s n; have := h.1; omega)
  exact h1
/-- The number of runes of a cluster's bytes. -/
theorem cut_count {s : ByteArray} {n a b : Nat} (h : Dec.Ends s n) (hab : a ≤ b) (hb : b ≤ n) : Lib.runeCount (s.extract (pos s a) (pos s b)) = b - a := by
  have hq : pos s b ≤ s.size := by rw [← h.1]; exact pos_le s hb
  refine count_ends ⟨?_, fun j hj => ?_⟩
  · have := cut_pos s (a := a) hq (b - a) (by omega)
    rw [cut_size _ _ _ hq, show a + (b - a) = b by omega] at *
    omega
  · have h1 := cut_pos s (a := a) hq j (by omega)
    have h2 := pos_mono s (a + j) b (by omega)
    rw [cut_size _ _ _ hq]
    omega
def nth (l : List Int) (i : Nat) : Int := l[i]?.getD 0
/-- A width, as wrapping takes it. -/
def bw (x : Int) : Int := if x < 0 then 0 else if 1073741824 < x then 1073741824 else x
theorem bw_in (x : Int) : 0 ≤ bw x ∧ bw x ≤ 1073741824 := by unfold bw; split <;> (try split) <;> omega
/-- The sum of m widths from a on. -/
def sw (W : List Int) (a : Nat) : Nat → Int
  | 0 => 0
  | m + 1 => sw W a m + bw (nth W (a + m))
theorem sw_in (W : List Int) (a : Nat) : ∀ m, 0 ≤ sw W a m ∧ sw W a m ≤ (m : Int) * 1073741824
  | 0 => by simp [sw]
  | m + 1 => by
    have ih := sw_in W a m
    have := bw_in (nth W (a + m))
    rw [sw]; omega
theorem sw_mono (W : List Int) (a m : Nat) : ∀ d, sw W a m ≤ sw W a (m + d)
  | 0 => Int.le_refl _
  | d + 1 => by
    have ih := sw_mono W a m d
    have := bw_in (nth W (a + (m + d)))
    rw [← Nat.add_assoc, sw]; omega
/-- The width of cluster i. -/
def cw (s : ByteArray) (n : Nat) (W : List Int) (i : Nat) : Int := sw W (nix (bix s n) i) (nix (bix s n) (i + 1) - nix (bix s n) i)
/-- The widths of the d clusters from f on. -/
def sm (X : Nat → Int) (f : Nat) : Nat → Int
  | 0 => 0
  | d + 1 => sm X f d + X (f + d)
/-- What is left of a room. -/
def lft (R x : Int) : Int := if R < x then -1 else R - x
theorem lft_lft {R x y : Int} (hy : 0 ≤ y) : lft (lft R x) y = lft R (x + y) := by
  unfold lft; split <;> split <;> (try split) <;> omega
/-- The last blank's number and one, of the first d clusters from f on; 0: there is none. -/
def lb (B : Nat → Bool) (f : Nat) : Nat → Nat
  | 0 => 0
  | d + 1 => if B (f + d) then d + 1 else lb B f d
theorem lb_le (B : Nat → Bool) (f : Nat) : ∀ d, lb B f d ≤ d
  | 0 => Nat.le_refl _
  | d + 1 => by
    have := lb_le B f d
    rw [lb]; split <;> omega
/-- Does a line that began at f end ahead of its cluster number d? -/
def stp (B : Nat → Bool) (X : Nat → Int) (R : Int) (f d : Nat) : Bool := decide (0 < d) && !B (f + d) && decide (R < sm X f (d + 1))
/-- How many clusters a line takes that begins at f: d of them are taken. -/
def lnF (B : Nat → Bool) (X : Nat → Int) (R : Int) (c f : Nat) : Nat → Nat → Nat
  | 0, d => d
  | k + 1, d => if f + d < c then (if stp B X R f d then (if 0 < lb B f d then lb B f d else d) else lnF B X R c f k (d + 1)) else d
def ln1 (B : Nat → Bool) (X : Nat → Int) (R : Int) (c f : Nat) : Nat := lnF B X R c f (c - f) 0
theorem lnF_step {B : Nat → Bool} {X : Nat → Int} {R : Int} {c f d : Nat} (h : f + d < c) (hs : stp B X R f d = false) : lnF B X R c f (c - f - d) d = lnF B X R c f (c - f - (d + 1)) (d + 1) := by
  rw [show c - f - d = (c - f - (d + 1)) + 1 by omega, lnF, if_pos h, if_neg (by rw [hs]; exact Bool.false_ne_true)]
theorem lnF_stop {B : Nat → Bool} {X : Nat → Int} {R : Int} {c f d : Nat} (h : f + d < c) (hs : stp B X R f d = true) : lnF B X R c f (c - f - d) d = if 0 < lb B f d then lb B f d else d := by
  rw [show c - f - d = (c - f - (d + 1)) + 1 by omega, lnF, if_pos h, if_pos hs]
theorem lnF_end {B : Nat → Bool} {X : Nat → Int} {R : Int} {c f d : Nat} (h : f + d = c) : lnF B X R c f (c - f - d) d = d := by
  rw [show c - f - d = 0 by omega, lnF]
theorem lnF_in {B : Nat → Bool} {X : Nat → Int} {R : Int} {c f : Nat} : ∀ k d, k = c - f - d → f + d ≤ c → 0 < d → 0 < lnF B X R c f k d ∧ f + lnF B X R c f k d ≤ c
  | 0, d, _, h, h0 => by rw [lnF]; omega
  | k + 1, d, hk, h, h0 => by
    have hl := lb_le B f d
    rw [lnF]
    split
    · split
      · split <;> omega
      · exact lnF_in k (d + 1) (by omega) (by omega) (by omega)
    · omega
theorem ln1_in {B : Nat → Bool} {X : Nat → Int} {R : Int} {c f : Nat} (h : f < c) : 0 < ln1 B X R c f ∧ f + ln1 B X R c f ≤ c := by
  unfold ln1
  have hs : stp B X R f 0 = false := by simp [stp]
  have e := lnF_step (B := B) (X := X) (R := R) (c := c) (f := f) (d := 0) (by omega) hs
  rw [Nat.sub_zero] at e
  rw [e]
  exact lnF_in _ _ rfl (by omega) (by omega)
/-- Where lines begin behind f. -/
def brk (o : Nat → Nat) (c f : Nat) : List Nat := if _h : f < c ∧ 0 < o f ∧ f + o f < c then (f + o f) :: brk o c (f + o f) else []
termination_by c - f
decreasing_by omega
theorem brk_more {o : Nat → Nat} {c f : Nat} (h : 0 < o f) (h2 : f + o f < c) : brk o c f = (f + o f) :: brk o c (f + o f) := by
  rw [brk, dif_pos ⟨by omega, h, h2⟩]
theorem brk_none {o : Nat → Nat} {c f : Nat} (h : c ≤ f + o f) : brk o c f = [] := by
  rw [brk, dif_neg (fun h' => by omega)]
theorem brk_len (o : Nat → Nat) (c : Nat) : ∀ k f, c - f ≤ k → (brk o c f).length ≤ k
  | 0, f, h => by rw [brk, dif_neg (fun h' => by omega)]; exact Nat.le_refl _
  | k + 1, f, h => by
    rw [brk]
    split
    · rename_i h'
      have := brk_len o c k (f + o f) (by omega)
      rw [List.length_cons]; omega
    · exact Nat.zero_le _
def blk (s : ByteArray) (n i : Nat) : Bool := kc s n i == 12
/-- Where a text is broken. -/
def wrp (s : ByteArray) (n : Nat) (W : List Int) (R : Int) : List Int := (brk (ln1 (blk s n) (cw s n W) R (cn s n)) (cn s n) 0).map fun i => ((pos s (nix (bix s n) i) : Nat) : Int)
theorem sm_in {X : Nat → Int} {b : Int} (hX : ∀ i, 0 ≤ X i ∧ X i ≤ b) (f : Nat) : ∀ d, 0 ≤ sm X f d ∧ sm X f d ≤ (d : Int) * b
  | 0 => by simp [sm]
  | d + 1 => by
    have ih := sm_in hX f d
    have := hX (f + d)
    rw [sm]
    refine ⟨by omega, ?_⟩
    have e : ((d + 1 : Nat) : Int) * b = (d : Int) * b + b := by rw [Int.natCast_add, Int.add_mul]; simp
    rw [e]; omega
end Go.Proofs.YtnakejhohdbfdabDoor
