/- The order of clusters that have one level. -/
import Derived.Test.YtnakejhohdbfdabGreatDoorKMd
namespace Go.Proofs.YtnakejhohdbfdabGreatDoor.Lay
open Lev

theorem top_one {V : Nat → Int} {v : Int} (hv : 0 ≤ v) : ∀ n, (∀ t, t < n → V t = v) → 0 < n → topTo V n = v
  | 0, _, h => absurd h (Nat.lt_irrefl _)
  | n + 1, h, _ => by
    rw [topTo, h n (Nat.lt_succ_self _)]
    rcases Nat.eq_zero_or_pos n with h0 | h0
    · subst h0; simp only [topTo]; omega
    · rw [top_one hv n (fun t ht => h t (by omega)) h0]; omega
theorem tds_one {V : Nat → Int} {v : Int} {n : Nat} (h : ∀ t, t < n → V t = v) : ∀ (d : Nat) (l : List Nat), (∀ x ∈ l, x < n) → (d : Int) ≤ v → tds V 1 d l = if d % 2 = 1 then l.reverse else l
  | 0, l, _, _ => by simp [tds]
  | d + 1, l, hl, hd => by
    have e : turn (deep V (1 + d)) l = l.reverse := turn_all _ _ (fun x hx => by
      have := h x (hl x hx)
      unfold deep
      rw [this]
      exact decide_eq_true (by omega))
    rw [tds, e, tds_one h d l.reverse (fun x hx => hl x (List.mem_reverse.1 hx)) (by omega), List.reverse_reverse]
    by_cases h1 : d % 2 = 1
    · rw [if_pos h1, if_neg (by omega)]
    · rw [if_neg h1, if_pos (by omega)]
theorem ord_one {V : Nat → Int} {v : Int} {n : Nat} (hv : 0 ≤ v) (h : ∀ t, t < n → V t = v) : ordD V n = if v % 2 = 1 then (List.range n).reverse else List.range n := by
  rcases Nat.eq_zero_or_pos n with h0 | h0
  · subst h0; have := ordD_len V 0; rw [List.length_eq_zero_iff] at this; rw [this]; simp
  · unfold ordD
    rw [top_one hv n h h0, tds_one h _ _ (fun x hx => List.mem_range.1 hx) (by omega)]
    by_cases h1 : v % 2 = 1
    · rw [if_pos (by omega), if_pos h1]
    · rw [if_neg (by omega), if_neg h1]
end Go.Proofs.YtnakejhohdbfdabGreatDoor.Lay
