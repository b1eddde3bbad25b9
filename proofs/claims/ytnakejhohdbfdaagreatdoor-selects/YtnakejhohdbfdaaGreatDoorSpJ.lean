/- What is selected: the document's way, walked. -/
import Derived.Test.YtnakejhohdbfdaaGreatDoorSpC
namespace Go.Proofs.YtnakejhohdbfdaaGreatDoor
open Go.RowKit Lev Lay Bnd

theorem snp_at {Bd : List Int} {z : Int} (hr : Rises Bd z) (off : Int) (up : Bool) : ∃ i, i < Bd.length ∧ snp Bd z off up = nth Bd i := by
  obtain ⟨k, hk⟩ := cut_exists (min (max off 0) z) Bd hr.sorted
  have hlt := hr.cut_lt hk (by omega)
  have e : cidx Bd (min (max off 0) z) = k := cut_count hk
  unfold snp snapL
  rw [e]
  split
  · exact ⟨k, hlt, rfl⟩
  · exact ⟨k - 1, by omega, rfl⟩
theorem askd_iff {Bd : List Int} {z : Int} (hr : Rises Bd z) (a b : Int) {c : Nat} (hc : c + 1 < Bd.length) :
    askd Bd z a b c = (decide (snp Bd z (min a b) false ≤ nth Bd c) && decide (nth Bd (c + 1) ≤ snp Bd z (max a b) true)) := by
  obtain ⟨i, hi, e1⟩ := snp_at hr (min a b) false
  obtain ⟨j, hj, e2⟩ := snp_at hr (max a b) true
  have m : ∀ u v, u < v → v < Bd.length → nth Bd u < nth Bd v := fun u v h1 h2 => rises_lt hr h1 h2
  unfold askd
  rw [e1, e2, cidx_of hr hi, cidx_of hr hj]
  congr 1
  · rw [decide_eq_decide]
    constructor
    · intro h
      rcases Nat.lt_or_eq_of_le h with h | h
      · have := m i c h (by omega); omega
      · rw [h]; exact Int.le_refl _
    · intro h
      by_cases h2 : i ≤ c
      · exact h2
      · have := m c i (by omega) hi; omega
  · rw [decide_eq_decide]
    constructor
    · intro h
      rcases Nat.lt_or_eq_of_le (show c + 1 ≤ j from h) with h | h
      · have := m (c + 1) j h hj; omega
      · rw [h]; exact Int.le_refl _
    · intro h
      by_cases h2 : c < j
      · exact h2
      · have := m j (c + 1) (by omega) hc; omega
/-- The spans so far of line i, when the first k places are looked through. -/
def selK (Ls : List Ln) (f : Nat → Bool) (i k : Nat) : List Spn := selL Ls f i ++ spL i (lnN Ls i).x (partsTo f (lnN Ls i).o k).1
theorem selK_zero (Ls : List Ln) (f : Nat → Bool) (i : Nat) : selK Ls f i 0 = selL Ls f i := by simp [selK, partsTo, spL]
theorem selK_add {Ls : List Ln} {f : Nat → Bool} {i k e : Nat} (h : (partsTo f (lnN Ls i).o k).2 = k) (hk : k < e) (hg : ∀ g, k ≤ g → g < e → g < (lnN Ls i).o.length ∧ f (nix (lnN Ls i).o g) = true) (he : ¬ (e < (lnN Ls i).o.length ∧ f (nix (lnN Ls i).o e) = true)) :
    selK Ls f i (e + 1) = selK Ls f i k ++ [⟨i, k, e, nth (lnN Ls i).x k, nth (lnN Ls i).x e⟩] ∧ (partsTo f (lnN Ls i).o (e + 1)).2 = e + 1 := by
  have hp := parts_step h hk hg he
  unfold selK
  rw [hp]
  exact ⟨by simp [spL], rfl⟩
theorem selK_skip {Ls : List Ln} {f : Nat → Bool} {i k : Nat} (h : (partsTo f (lnN Ls i).o k).2 = k) (he : ¬ (k < (lnN Ls i).o.length ∧ f (nix (lnN Ls i).o k) = true)) : selK Ls f i (k + 1) = selK Ls f i k ∧ (partsTo f (lnN Ls i).o (k + 1)).2 = k + 1 := by
  have hp := parts_skip h he
  unfold selK
  rw [hp]
  exact ⟨rfl, rfl⟩
theorem selK_done {Ls : List Ln} {f : Nat → Bool} {i k : Nat} (h : (partsTo f (lnN Ls i).o k).2 = k) (hk : k = (lnN Ls i).o.length ∨ k = (lnN Ls i).o.length + 1) : selK Ls f i k = selL Ls f (i + 1) := by
  unfold selK
  rw [parts_done h hk]
  rfl
theorem selK_len {Ls : List Ln} {f : Nat → Bool} (hlo : ∀ i, (lnN Ls i).o.length ≤ 1000) (i k : Nat) : (selK Ls f i k).length ≤ i * 1001 + k := by
  have h1 := selL_small (f := f) hlo i
  have h2 := (partsTo_len f (lnN Ls i).o k).1
  unfold selK
  rw [List.length_append, spL, List.length_map]
  omega
end Go.Proofs.YtnakejhohdbfdaaGreatDoor
