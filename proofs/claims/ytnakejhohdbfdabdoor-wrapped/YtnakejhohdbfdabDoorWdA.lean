/- Words, plainly: the first rune of a cluster; which clusters are of letters; where words begin and end. -/
import Derived.Test.YtnakejhohdbfdabDoorClLaw
namespace Go.Proofs.YtnakejhohdbfdabDoor
open Go.RowKit Dec Bnd

set_option maxRecDepth 100000 in
set_option maxHeartbeats 4000000 in
theorem decodeN_cut (m n b0 b1 b2 b3 c1 c2 c3 : Nat) (h1 : 1 ≤ m) (hmn : m ≤ n) (hw : (Lib.decodeN n b0 b1 b2 b3).2 ≤ m) (e1 : 1 < m → c1 = b1) (e2 : 2 < m → c2 = b2) (e3 : 3 < m → c3 = b3) :
    Lib.decodeN m b0 c1 c2 c3 = Lib.decodeN n b0 b1 b2 b3 := by
  rcases (show m = 1 ∨ m = 2 ∨ m = 3 ∨ 4 ≤ m by omega) with rfl | rfl | rfl | h4
  · clear e1 e2 e3
    revert hw
    unfold Lib.decodeN
    repeat' split
    all_goals (intro hw; first | rfl | (exfalso; omega) | (simp at hw) | omega)
  · obtain rfl := e1 (by omega)
    clear e1 e2 e3
    revert hw
    unfold Lib.decodeN
    repeat' split
    all_goals (intro hw; first | rfl | (exfalso; omega) | (simp at hw) | omega)
  · obtain rfl := e1 (by omega)
    obtain rfl := e2 (by omega)
    clear e1 e2 e3
    revert hw
    unfold Lib.decodeN
    repeat' split
    all_goals (intro hw; first | rfl | (exfalso; omega) | (simp at hw) | omega)
  · obtain rfl := e1 (by omega)
    obtain rfl := e2 (by omega)
    obtain rfl := e3 (by omega)
    clear e1 e2 e3 hw
    unfold Lib.decodeN
    repeat' split
    all_goals first | rfl | (exfalso; omega) | omega
theorem cut_size (s : ByteArray) (p q : Nat) (hq : q ≤ s.size) : (s.extract p q).size = q - p := by
  rw [ByteArray.size_extract]; omega
theorem cut_get (s : ByteArray) (p q j : Nat) (hj : p + j < q) : (s.extract p q).get! j = s.get! (p + j) := by
  rw [← Lib.getD_get!', ← Lib.getD_get!', Lib.extract_data]
  simp only [List.getD, List.getElem?_take, List.getElem?_drop]
  rw [if_pos (by omega)]
theorem cut_decode (s : ByteArray) (p q : Nat) (hp : p < q) (hq : q ≤ s.size) (hw : p + (Utf8.decode s p).2 ≤ q) : Utf8.decode (s.extract p q) 0 = Utf8.decode s p := by
  rw [Lib.decode_at] at hw ⊢
  rw [Lib.decode_at s p, cut_size s p q hq, cut_get s p q 0 (by omega), Nat.add_zero, Nat.zero_add, Nat.zero_add, Nat.zero_add, Nat.sub_zero]
  refine decodeN_cut (q - p) (s.size - p) _ _ _ _ _ _ _ (by omega) (by omega) (by omega) (fun h => ?_) (fun h => ?_) (fun h => ?_)
  · rw [cut_get s p q 1 (by omega)]
  · rw [cut_get s p q 2 (by omega)]
  · rw [cut_get s p q 3 (by omega)]
end Go.Proofs.YtnakejhohdbfdabDoor
namespace Go.Proofs.YtnakejhohdbfdabDoor.Lay
open Go Dec Bnd

def nix (l : List Nat) (i : Nat) : Nat := l[i]?.getD 0
/-! Where clusters begin, as numbers of runes. -/
def beg (s : ByteArray) : Nat → Bool
  | 0 => true
  | k + 1 => !jn s (k + 1)
def begs (s : ByteArray) : Nat → List Nat
  | 0 => []
  | k + 1 => if beg s k then begs s k ++ [k] else begs s k
/-- All boundaries. -/
def bix (s : ByteArray) (n : Nat) : List Nat := if n = 0 then [0] else begs s n ++ [n]
theorem begs_yes {s : ByteArray} {k : Nat} (h : beg s k = true) : begs s (k + 1) = begs s k ++ [k] := by rw [begs, if_pos h]
theorem begs_no {s : ByteArray} {k : Nat} (h : beg s k = false) : begs s (k + 1) = begs s k := by rw [begs, if_neg (by rw [h]; exact Bool.false_ne_true)]
theorem begs_one (s : ByteArray) : begs s 1 = [0] := rfl
theorem begs_lt (s : ByteArray) : ∀ k, ∀ x ∈ begs s k, x < k
  | 0, x, h => by cases h
  | k + 1, x, h => by
    cases hb : beg s k
    · rw [begs_no hb] at h; have := begs_lt s k x h; omega
    · rw [begs_yes hb, List.mem_append, List.mem_singleton] at h
      rcases h with h | h
      · have := begs_lt s k x h; omega
      · omega
theorem begs_len (s : ByteArray) : ∀ k, (begs s k).length ≤ k ∧ (0 < k → 0 < (begs s k).length)
  | 0 => ⟨Nat.le_refl _, fun h => absurd h (Nat.lt_irrefl _)⟩
  | k + 1 => by
    have ih := begs_len s k
    cases hb : beg s k
    · rw [begs_no hb]; refine ⟨by omega, fun _ => ih.2 ?_⟩; cases k with
      | zero => cases hb
      | succ k => omega
    · rw [begs_yes hb, List.length_append, List.length_singleton]; omega
theorem begs_sorted (s : ByteArray) : ∀ k, (begs s k).Pairwise (· < ·)
  | 0 => List.Pairwise.nil
  | k + 1 => by
    cases hb : beg s k
    · rw [begs_no hb]; exact begs_sorted s k
    · rw [begs_yes hb, List.pairwise_append]
      exact ⟨begs_sorted s k, by simp, fun a ha b hb => by rw [List.mem_singleton] at hb; rw [hb]; exact begs_lt s k a ha⟩
theorem begs_prefix (s : ByteArray) (k : Nat) : ∀ d, begs s k <+: begs s (k + d)
  | 0 => List.prefix_refl _
  | d + 1 => by
    refine (begs_prefix s k d).trans ?_
    rw [← Nat.add_assoc, begs]
    split
    · exact List.prefix_append _ _
    · exact List.prefix_refl _
theorem bnd_begs (s : ByteArray) : ∀ k, bndTo s (k + 1) = (begs s (k + 1)).map (fun j => ((pos s j : Nat) : Int))
  | 0 => by rw [bndTo_yes (k := 0) rfl]; rfl
  | k + 1 => by
    cases h : jn s (k + 1)
    · rw [bndTo_no h, begs_yes (by rw [beg, h]; rfl), bnd_begs s k, List.map_append]; rfl
    · rw [bndTo_yes h, begs_no (by rw [beg, h]; rfl), bnd_begs s k]
theorem bnd_bix {s : ByteArray} {n : Nat} (h : Dec.Ends s n) : bnd s n = (bix s n).map (fun j => ((pos s j : Nat) : Int)) := by
  unfold bnd bix
  cases n with
  | zero =>
    have h0 := h.1
    simp only [pos] at h0
    rw [if_neg (by omega), if_pos rfl]; rfl
  | succ m =>
    have := h.2 0 (Nat.succ_pos _)
    rw [if_pos (by omega), if_neg (Nat.succ_ne_zero _), bnd_begs, List.map_append, ← h.1]; rfl
theorem bix_len (s : ByteArray) (n : Nat) : (bix s n).length ≤ n + 1 ∧ 0 < (bix s n).length ∧ (0 < n → 1 < (bix s n).length) := by
  have h := begs_len s n
  unfold bix
  split
  · rename_i e; subst e; simp
  · rw [List.length_append, List.length_singleton]; omega
theorem bix_sorted (s : ByteArray) (n : Nat) : (bix s n).Pairwise (· < ·) := by
  unfold bix
  split
  · simp
  · rw [List.pairwise_append]
    exact ⟨begs_sorted s n, by simp, fun a ha b hb => by rw [List.mem_singleton] at hb; rw [hb]; exact begs_lt s n a ha⟩
theorem nix_lt {l : List Nat} (h : l.Pairwise (· < ·)) {i j : Nat} (hij : i < j) (hj : j < l.length) : nix l i < nix l j := by
  rw [List.pairwise_iff_getElem] at h
  have := h i j (by omega) hj hij
  simpa [nix, hj, show i < l.length by omega] using this
/-- How many clusters. -/
def cn (s : ByteArray) (n : Nat) : Nat := (bix s n).length - 1
theorem bix_zero (s : ByteArray) (n : Nat) : nix (bix s n) 0 = 0 := by
  unfold bix
  split
  · rfl
  · rename_i hn
    obtain ⟨m, rfl⟩ := Nat.exists_eq_succ_of_ne_zero hn
    have hp := begs_prefix s 1 m
    rw [begs_one, Nat.add_comm 1 m] at hp
    obtain ⟨t, ht⟩ := hp
    show nix (begs s (m + 1) ++ [m + 1]) 0 = 0
    rw [← ht]; rfl
theorem bix_last (s : ByteArray) (n : Nat) : nix (bix s n) (cn s n) = n := by
  unfold cn bix
  split
  · rename_i e; subst e; rfl
  · rw [List.length_append, List.length_singleton, Nat.add_sub_cancel, nix, List.getElem?_append_right (Nat.le_refl _)]; simp
theorem bix_at {s : ByteArray} {n i : Nat} (hn : 0 < n) (hi : i < (begs s n).length) : nix (bix s n) i = nix (begs s n) i := by
  unfold bix
  rw [if_neg (by omega), nix, nix, List.getElem?_append_left hi]
theorem cn_begs {s : ByteArray} {n : Nat} (hn : 0 < n) : cn s n = (begs s n).length := by
  unfold cn bix
  rw [if_neg (by omega), List.length_append, List.length_singleton, Nat.add_sub_cancel]
end Go.Proofs.YtnakejhohdbfdabDoor.Lay
namespace Go.Proofs.YtnakejhohdbfdabDoor
open Go.RowKit Dec Bnd Lay

def letB (c : Int) : Bool := c == 0 || c == 1 || c == 2 || c == 3 || c == 6
/-- The class of a cluster's first rune. -/
def kc (s : ByteArray) (n i : Nat) : Int := Tabs.look Tabs.classTab (rune s (nix (bix s n) i))
def ltr (s : ByteArray) (n i : Nat) : Bool := letB (kc s n i)
/-- The first k of a text's boundaries at which a word begins or ends. -/
def wdTo (s : ByteArray) (n : Nat) : Nat → List Int
  | 0 => []
  | i + 1 => if 0 < i ∧ i + 1 < (bnd s n).length ∧ ltr s n (i - 1) = ltr s n i then wdTo s n i else wdTo s n i ++ [(bnd s n).getD i 0]
def wd (s : ByteArray) (n : Nat) : List Int := wdTo s n (bnd s n).length
theorem wdTo_len (s : ByteArray) (n : Nat) : ∀ k, (wdTo s n k).length ≤ k
  | 0 => Nat.le_refl _
  | k + 1 => by
    have ih := wdTo_len s n k
    rw [wdTo]
    split
    · omega
    · rw [List.length_append, List.length_singleton]; omega
theorem bnd_len {s : ByteArray} {n : Nat} (h : Dec.Ends s n) : (bnd s n).length = cn s n + 1 := by
  have := (bix_len s n).2.1
  rw [bnd_bix h, List.length_map]; unfold cn; omega
theorem bnd_get {s : ByteArray} {n i : Nat} (h : Dec.Ends s n) (hi : i ≤ cn s n) : (bnd s n).getD i 0 = ((pos s (nix (bix s n) i) : Nat) : Int) := by
  have hl := (bix_len s n).2.1
  have hk : i < (bix s n).length := by unfold cn at hi; omega
  rw [bnd_bix h, List.getD, List.getElem?_map, nix, List.getElem?_eq_getElem hk]; rfl
theorem ri_lt {s : ByteArray} {n i : Nat} (hi : i < cn s n) : nix (bix s n) i < nix (bix s n) (i + 1) := nix_lt (bix_sorted s n) (Nat.lt_succ_self _) (by unfold cn at hi; omega)
theorem ri_le {s : ByteArray} {n i : Nat} (hi : i ≤ cn s n) : nix (bix s n) i ≤ n := by
  rcases Nat.lt_or_eq_of_le hi with h | h
  · have := nix_lt (bix_sorted s n) h (by have := (bix_len s n).2.1; unfold cn; omega)
    rw [bix_last] at this; omega
  · rw [h, bix_last]; exact Nat.le_refl _
theorem ri_in {s : ByteArray} {n i : Nat} (hi : i < cn s n) : nix (bix s n) i < n := by
  have := ri_lt hi; have := ri_le (s := s) (n := n) (i := i + 1) hi; omega
theorem pos_le (s : ByteArray) {a b : Nat} (h : a ≤ b) : pos s a ≤ pos s b := by
  rcases Nat.lt_or_eq_of_le h with h1 | h1
  · exact Nat.le_of_lt (pos_mono s a b h1)
  · rw [h1]; exact Nat.le_refl _
/-- The first rune of a cluster's bytes is the text's rune there. -/
theorem cluster_first {s : ByteArray} {n i : Nat} (h : Dec.Ends s n) (hi : i < cn s n) : Lib.decodeGo (s.extract (pos s (nix (bix s n) i)) (pos s (nix (bix s n) (i + 1)))) = Utf8.decode s (pos s (nix (bix s n) i)) := by
  have h1 := ri_lt hi
  have h2 := ri_le (s := s) (n := n) (i := i + 1) hi
  have h3 := pos_le s h2
  have h4 := pos_le s (show nix (bix s n) i + 1 ≤ nix (bix s n) (i + 1) from h1)
  have h5 := pos_lt_succ s (nix (bix s n) i)
  have h0 := h.1
  have hw : pos s (nix (bix s n) i) + (Utf8.decode s (pos s (nix (bix s n) i))).2 = pos s (nix (bix s n) i + 1) := rfl
  unfold Lib.decodeGo
  rw [if_neg (by rw [cut_size _ _ _ (by omega)]; omega), cut_decode s _ _ (by omega) (by omega) (by omega)]
end Go.Proofs.YtnakejhohdbfdabDoor
