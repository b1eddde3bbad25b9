/- A text of letters of one kind: its clusters, its one line. -/
import Derived.Test.YtnakejhohdbfdabGreatDoorKMm
import Derived.Test.YtnakejhohdbfdabGreatDoorLvU
import Derived.Test.YtnakejhohdbfdabGreatDoorOrU
namespace Go.Proofs.YtnakejhohdbfdabGreatDoor
open Go.RowKit Lev Lay Bnd

theorem beg_ltr {s : ByteArray} {n : Nat} (h : ∀ k, k < n → kf s k = 0) : ∀ k, k < n → beg s k = true
  | 0, _ => rfl
  | k + 1, hk => by
    rw [beg, jn, h k (by omega), h (k + 1) hk]
    rfl
theorem begs_ltr {s : ByteArray} {n : Nat} (h : ∀ k, k < n → kf s k = 0) : ∀ k, k ≤ n → begs s k = List.range k
  | 0, _ => rfl
  | k + 1, hk => by rw [begs_yes (beg_ltr h k hk), begs_ltr h k (by omega), List.range_succ]
theorem bix_ltr {s : ByteArray} {n : Nat} (h : ∀ k, k < n → kf s k = 0) : bix s n = List.range (n + 1) := by
  unfold bix
  split
  · rename_i h0; rw [h0]; rfl
  · rw [begs_ltr h n (Nat.le_refl _), List.range_succ]
theorem end_ltr {K : List Int} {ed : Nat → Bool} (h : Ltr K) (i : Nat) : endAt K ed i = false := by
  have e : ∀ f i, endF K ed f i = false := fun f i => by
    cases f with
    | zero => rfl
    | succ f =>
      rw [endF]
      rcases h i with e | e <;> rw [e] <;> rfl
  exact e _ _
theorem ev_ltr {s : ByteArray} {n : Nat} {bs : Int} {Br : List Int} (h : Ltr (Kl s n)) {i : Nat} (hi : i < n) : evOf s n bs Br i = bs + up bs (nth (Kl s n) i) := by
  unfold evOf elv
  rw [if_neg (by rw [end_ltr h]; decide)]
  exact levels_ltr h i (by rw [Kl_len]; exact hi)
/-- The one line of letters of class c. -/
theorem line_ltr {s : ByteArray} {n : Nat} {bs c : Int} {W : List Int} (hk : ∀ k, k < n → kf s k = 0) (hc : c = 0 ∨ c = 1) (hb : bs = 0 ∨ bs = 1) (h : ∀ i, i < n → nth (Kl s n) i = c) :
    (lnOf (Dec.pos s) (nix (bix s n)) (evOf s n bs []) W 0 n).o = if c = 1 then (List.range n).reverse else List.range n := by
  have hL : Ltr (Kl s n) := fun i => by
    by_cases hi : i < n
    · rw [h i hi]; exact hc
    · left; unfold nth; rw [List.getElem?_eq_none (by rw [Kl_len]; omega)]; rfl
  have hV : ∀ t, t < n → (fun t => evOf s n bs [] (nix (bix s n) (0 + t))) t = bs + up bs c := fun t ht => by
    dsimp only
    rw [bix_ltr hk, Nat.zero_add, show nix (List.range (n + 1)) t = t by unfold nix; rw [List.getElem?_range (by omega)]; rfl, ev_ltr hL ht, h t ht]
  have hv : 0 ≤ bs + up bs c ∧ ((bs + up bs c) % 2 = 1 ↔ c = 1) := by
    rcases hb with rfl | rfl <;> rcases hc with rfl | rfl <;> decide
  show (ordD _ (n - 0)).map (fun t => t + 0) = _
  rw [Nat.sub_zero, ord_one hv.1 hV, show (fun t : Nat => t + 0) = id from rfl, List.map_id]
  by_cases h1 : c = 1
  · rw [if_pos (hv.2.2 h1), if_pos h1]
  · rw [if_neg (fun e => h1 (hv.2.1 e)), if_neg h1]
end Go.Proofs.YtnakejhohdbfdabGreatDoor
