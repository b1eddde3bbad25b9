/- What is selected, plainly: the parts of a line, and their spans. -/
import Derived.Test.YtnakejhohdbfdabGreatDoorKLdB
namespace Go.Proofs.YtnakejhohdbfdabGreatDoor
open Go.RowKit Lev Lay

theorem partsTo_step (p : Nat → Bool) (o : List Nat) (k : Nat) : partsTo p o (k + 1) = if k < o.length ∧ p (nix o k) = true then partsTo p o k else (if (partsTo p o k).2 < k then (partsTo p o k).1 ++ [((partsTo p o k).2, k)] else (partsTo p o k).1, k + 1) := rfl
structure PrtOk (f : Nat → Bool) (o : List Nat) (g : Nat) (L : List (Nat × Nat)) (fr : Nat) : Prop where
  le : fr ≤ g
  run : ∀ k, fr ≤ k → k < g → k < o.length ∧ f (nix o k) = true
  inn : ∀ p ∈ L, p.1 < p.2 ∧ p.2 < fr
  adj : L.Pairwise (fun p q => p.2 < q.1)
  has : ∀ k, k < fr → k < o.length → ((∃ p ∈ L, p.1 ≤ k ∧ k < p.2) ↔ f (nix o k) = true)
theorem prt_ok (f : Nat → Bool) (o : List Nat) : ∀ g, PrtOk f o g (partsTo f o g).1 (partsTo f o g).2
  | 0 => by
    refine ⟨Nat.le_refl _, fun k _ h => absurd h (Nat.not_lt_zero _), fun p hp => absurd hp List.not_mem_nil, List.Pairwise.nil, fun k h => absurd h (Nat.not_lt_zero _)⟩
  | g + 1 => by
    have ih := prt_ok f o g
    rw [partsTo_step]
    split
    · rename_i h
      refine ⟨Nat.le_succ_of_le ih.le, fun k h1 h2 => ?_, ih.inn, ih.adj, ih.has⟩
      rcases Nat.lt_or_eq_of_le (Nat.le_of_lt_succ h2) with h3 | rfl
      · exact ih.run k h1 h3
      · exact h
    · rename_i h
      generalize (partsTo f o g).1 = L at *
      generalize (partsTo f o g).2 = fr at *
      have hg : g < o.length → ¬ f (nix o g) = true := fun h1 h2 => h ⟨h1, h2⟩
      split
      · rename_i hlt
        refine ⟨Nat.le_refl _, fun k h1 h2 => by omega, fun p hp => ?_, ?_, fun k hk hkl => ?_⟩
        · rcases List.mem_append.1 hp with hp | hp
          · have := ih.inn p hp; have := ih.le; dsimp only; omega
          · rw [List.mem_singleton.1 hp]; dsimp only; omega
        · rw [List.pairwise_append]
          refine ⟨ih.adj, List.pairwise_singleton _ _, fun p hp q hq => ?_⟩
          rw [List.mem_singleton.1 hq]
          exact (ih.inn p hp).2
        · dsimp only at hk
          by_cases h1 : k < fr
          · rw [← ih.has k h1 hkl]
            constructor
            · rintro ⟨p, hp, h2, h3⟩
              rcases List.mem_append.1 hp with hp | hp
              · exact ⟨p, hp, h2, h3⟩
              · rw [List.mem_singleton.1 hp] at h2; dsimp only at h2; omega
            · rintro ⟨p, hp, h2, h3⟩
              exact ⟨p, List.mem_append.2 (.inl hp), h2, h3⟩
          · by_cases h4 : k < g
            · exact ⟨fun _ => (ih.run k (by omega) h4).2, fun _ => ⟨(fr, g), List.mem_append.2 (.inr (List.mem_singleton.2 rfl)), by dsimp only; omega, h4⟩⟩
            · obtain rfl : k = g := by omega
              refine ⟨fun hh => ?_, fun hh => absurd hh (hg hkl)⟩
              obtain ⟨p, hp, h2, h3⟩ := hh
              rcases List.mem_append.1 hp with hp | hp
              · have := ih.inn p hp; omega
              · rw [List.mem_singleton.1 hp] at h3; dsimp only at h3; omega
      · rename_i hlt
        obtain rfl : fr = g := by have := ih.le; omega
        refine ⟨Nat.le_refl _, fun k h1 h2 => by omega, fun p hp => ?_, ih.adj, fun k hk hkl => ?_⟩
        · have := ih.inn p hp; dsimp only; omega
        · dsimp only at hk
          by_cases h1 : k < fr
          · exact ih.has k h1 hkl
          · obtain rfl : k = fr := by omega
            refine ⟨fun hh => ?_, fun hh => absurd hh (hg hkl)⟩
            obtain ⟨p, hp, h2, h3⟩ := hh
            have := ih.inn p hp; omega
theorem prtL_ok (f : Nat → Bool) (o : List Nat) : PrtOk f o (o.length + 1) (Lay.parts f o) (o.length + 1) := by
  have h := prt_ok f o (o.length + 1)
  rw [show (partsTo f o (o.length + 1)).2 = o.length + 1 by rw [partsTo_step, if_neg (fun h => Nat.lt_irrefl _ h.1)]] at h
  exact h
structure Spn where
  l : Nat
  f : Nat
  t : Nat
  a : Int
  b : Int
/-- The spans of a line's parts. -/
def spL (i : Nat) (x : List Int) (L : List (Nat × Nat)) : List Spn := L.map (fun p => ⟨i, p.1, p.2, nth x p.1, nth x p.2⟩)
def spCells : List Spn → List Value
  | [] => []
  | x :: l => .int .i64 (x.l : Nat) :: .int .i64 (x.f : Nat) :: .int .i64 (x.t : Nat) :: .int .i64 x.a :: .int .i64 x.b :: spCells l
theorem spCells_len : ∀ l : List Spn, (spCells l).length = l.length * 5
  | [] => rfl
  | x :: l => by have := spCells_len l; simp only [spCells, List.length_cons, this]; omega
theorem spCells_app : ∀ l m : List Spn, spCells l ++ spCells m = spCells (l ++ m)
  | [], _ => rfl
  | x :: l, m => by simp only [spCells, List.cons_append, spCells_app l m]
theorem spCells_at : ∀ (l : List Spn) (i : Nat) (x : Spn), l[i]? = some x → (spCells l)[i * 5]? = some (.int .i64 (x.l : Nat)) ∧ (spCells l)[i * 5 + 1]? = some (.int .i64 (x.f : Nat)) ∧ (spCells l)[i * 5 + 2]? = some (.int .i64 (x.t : Nat)) ∧ (spCells l)[i * 5 + 3]? = some (.int .i64 x.a) ∧ (spCells l)[i * 5 + 4]? = some (.int .i64 x.b)
  | [], i, x, h => by simp at h
  | y :: l, 0, x, h => by simp at h; subst h; exact ⟨rfl, rfl, rfl, rfl, rfl⟩
  | y :: l, i + 1, x, h => by
    have ih := spCells_at l i x (by simpa using h)
    rw [show (i + 1) * 5 = i * 5 + 1 + 1 + 1 + 1 + 1 by omega]
    exact ih
theorem five_one (a b c d e : Int) : ∀ u ∈ [Value.int .i64 a, .int .i64 b, .int .i64 c, .int .i64 d, .int .i64 e], u.oneCell' = true := by
  intro u hu
  simp only [List.mem_cons, List.not_mem_nil, or_false] at hu
  rcases hu with rfl | rfl | rfl | rfl | rfl <;> rfl
theorem spCells_one : ∀ l : List Spn, ∀ u ∈ spCells l, u.oneCell' = true
  | [], u, h => by simp [spCells] at h
  | x :: l, u, h => by
    simp only [spCells, List.mem_cons] at h
    rcases h with rfl | rfl | rfl | rfl | rfl | h <;> first | rfl | exact spCells_one l u h
theorem info90 : (Tryz.prog.info? 90).map (fun i => (i.zero, i.size, i.bytes)) = some (some (.agg #[.int .i64 0, .int .i64 0, .int .i64 0, .int .i64 0, .int .i64 0]), 5, 40) := by kernel_rfl
end Go.Proofs.YtnakejhohdbfdabGreatDoor
