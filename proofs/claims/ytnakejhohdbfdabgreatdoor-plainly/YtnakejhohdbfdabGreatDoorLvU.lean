/- Levels of a text of letters alone. -/
import Derived.Test.YtnakejhohdbfdabGreatDoorKMa
namespace Go.Proofs.YtnakejhohdbfdabGreatDoor.Lev

/-- Letters alone: each class is L or R. -/
def Ltr (C : List Int) : Prop := ∀ i, nth C i = 0 ∨ nth C i = 1
theorem marks_ltr {K C : List Int} {s : Sq} (h : Ltr C) : ∀ k, marksTo K s k C = C
  | 0 => rfl
  | k + 1 => by
    rw [marksTo, marks_ltr h k, markStep, if_neg (by have := h (nix s.I k); simp only [cl]; omega)]
theorem nums_ltr {C : List Int} {I : List Nat} {al : Bool} {a b : Int} (h : Ltr C) : ∀ k q, (numsTo I al a b k (q, C)).2 = C
  | 0, _ => rfl
  | k + 1, q => by
    have ih := nums_ltr (I := I) (al := al) (a := a) (b := b) h k q
    rw [numsTo, numStep, ih, if_pos (by have := h (nix I k); simp only [cl]; omega)]
theorem al_ltr {C : List Int} {I : List Nat} (h : Ltr C) : ∀ k, alTo I k C = C
  | 0 => rfl
  | k + 1 => by rw [alTo, al_ltr h k, alStep, if_neg (by have := h (nix I k); simp only [cl]; omega)]
theorem sep_ltr {C : List Int} {s : Sq} (h : Ltr C) : ∀ k, sepTo s k C = C
  | 0 => rfl
  | k + 1 => by rw [sepTo, sep_ltr h k, sepStep, if_neg (by have := h (nix s.I k); simp only [cl]; omega)]
theorem loose_ltr {C : List Int} {I : List Nat} (h : Ltr C) : ∀ k, looseTo I k C = C
  | 0 => rfl
  | k + 1 => by rw [looseTo, loose_ltr h k, looseStep, if_neg (by have := h (nix I k); simp only [cl]; omega)]
theorem scan_ltr {C : List Int} {I : List Nat} {fit : Int → Bool} {act : Nat → Nat → List Int → List Int} (h : Ltr C) (h0 : fit 0 = false) (h1 : fit 1 = false) : scan I fit act C = C := by
  have e : ∀ k, scanTo I fit act k (0, C) = (k, C) := fun k => by
    induction k with
    | zero => rfl
    | succ k ih =>
      rw [scanTo, ih, scanStep, if_neg (by rcases h (nix I k) with e | e <;> simp only [cl] <;> rw [e] <;> simp [h0, h1]), if_neg (Nat.lt_irrefl _)]
  unfold scan
  rw [e, scanEnd, if_neg (Nat.lt_irrefl _)]
theorem pairs_ltr {R C : List Int} {I : List Nat} (h : Ltr C) : ∀ k, pairsTo R I C k = ⟨[], [], false⟩
  | 0 => rfl
  | k + 1 => by
    rw [pairsTo, pairs_ltr h k, pairStep, if_neg (by decide), if_pos (by have := h (nix I k); simp only [cl]; omega)]
theorem rules_ltr {R K C : List Int} {s : Sq} (h : Ltr C) : rules R K s C = C := by
  have hw : weak K s C = C := by
    unfold weak
    rw [marks_ltr h, nums_ltr h, al_ltr h, sep_ltr h, scan_ltr h rfl rfl, loose_ltr h, nums_ltr h]
  unfold rules brackets neutral
  rw [hw, pairs_ltr h]
  exact scan_ltr h rfl rfl
theorem rulesTo_ltr {R K L C : List Int} {base : Int} {ss : List (List Nat)} (h : Ltr C) : ∀ k, rulesTo R K L base ss k C = C
  | 0 => rfl
  | k + 1 => by rw [rulesTo, rulesTo_ltr h k, rules_ltr h]
theorem emb_ltr {K : List Int} {base : Int} (h : Ltr K) : ∀ k, k ≤ K.length → (embTo K base k).st = [⟨base, -1, false⟩] ∧ (embTo K base k).C = K ∧ (embTo K base k).L.length = K.length ∧ ∀ i, i < k → nth (embTo K base k).L i = base
  | 0, _ => ⟨rfl, rfl, by simp [embTo], fun i hi => absurd hi (Nat.not_lt_zero _)⟩
  | k + 1, hk => by
    obtain ⟨h1, h2, h3, h4⟩ := emb_ltr (base := base) h k (by omega)
    have e : embTo K base (k + 1) = hold (embTo K base k) k := by
      rw [embTo, embStep]
      rcases h k with e | e <;> rw [e] <;> rfl
    have ht : top (embTo K base k).st = ⟨base, -1, false⟩ := by rw [h1]; rfl
    rw [e]
    unfold hold
    dsimp only
    rw [ht]
    refine ⟨h1, ?_, by simpa using h3, fun i hi => ?_⟩
    · rw [if_pos rfl]; exact h2
    · unfold nth
      rw [List.getElem?_set]
      by_cases hik : k = i
      · rw [if_pos hik, if_pos (by omega)]; rfl
      · rw [if_neg hik]; exact h4 i (by omega)
theorem raise_ltr {K C L : List Int} {base : Int} (h : Ltr K) (hL : ∀ i, i < K.length → nth L i = base) (hl : L.length = K.length) : ∀ k, k ≤ K.length → (raiseTo K C base k L).2.length = K.length ∧ (∀ i, i < k → nth (raiseTo K C base k L).2 i = base + up base (nth C i)) ∧ ∀ i, k ≤ i → nth (raiseTo K C base k L).2 i = nth L i
  | 0, _ => ⟨hl, fun i hi => absurd hi (Nat.not_lt_zero _), fun _ _ => rfl⟩
  | k + 1, hk => by
    obtain ⟨h1, h2, h3⟩ := raise_ltr (C := C) h hL hl k (by omega)
    have hg : gone (nth K k) = false := by rcases h k with e | e <;> rw [e] <;> rfl
    have hn : nth (raiseTo K C base k L).2 k = base := by rw [h3 k (Nat.le_refl _)]; exact hL k (by omega)
    have e : (raiseTo K C base (k + 1) L).2 = (raiseTo K C base k L).2.set k (base + up base (nth C k)) := by
      rw [raiseTo, if_neg (by rw [hg]; decide), hn]
    rw [e]
    refine ⟨by simpa using h1, fun i hi => ?_, fun i hi => ?_⟩
    · unfold nth
      rw [List.getElem?_set]
      by_cases hik : k = i
      · rw [if_pos hik, if_pos (by omega), hik]; rfl
      · rw [if_neg hik]; exact h2 i (by omega)
    · unfold nth
      rw [List.getElem?_set, if_neg (by omega)]
      exact h3 i (by omega)
/-- LEVELS OF LETTERS. -/
theorem levels_ltr {R K : List Int} {base : Int} (h : Ltr K) : ∀ i, i < K.length → nth (levels R K base) i = base + up base (nth K i) := by
  obtain ⟨_, e2, e3, e4⟩ := emb_ltr (base := base) h K.length (Nat.le_refl _)
  intro i hi
  unfold levels
  dsimp only
  rw [e2, rulesTo_ltr h]
  exact (raise_ltr (C := K) h e4 e3 K.length (Nat.le_refl _)).2.1 i hi
end Go.Proofs.YtnakejhohdbfdabGreatDoor.Lev
