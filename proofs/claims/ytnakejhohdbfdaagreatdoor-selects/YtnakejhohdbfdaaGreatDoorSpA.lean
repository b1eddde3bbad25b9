/- What is selected, plainly: the parts of a line, and their spans. -/
import Derived.Test.YtnakejhohdbfdaaGreatDoorXLdB
namespace Go.Proofs.YtnakejhohdbfdaaGreatDoor
open Go.RowKit Lev Lay

theorem partsTo_step (p : Nat → Bool) (o : List Nat) (k : Nat) : partsTo p o (k + 1) = if k < o.length ∧ p (nix o k) = true then partsTo p o k else (if (partsTo p o k).2 < k then (partsTo p o k).1 ++ [((partsTo p o k).2, k)] else (partsTo p o k).1, k + 1) := rfl
structure PrtOk (f : Nat → Bool) (o : List Nat) (g : Nat) (L : List (Nat × Nat)) (fr : Nat) : Prop where
  le : fr ≤ g
  run : ∀ k, fr ≤ k → k < g → k < o.length ∧ f (nix o k) = true
  inn : ∀ p ∈ L, p.1 < p.2 ∧ p.2 < fr
  adj : L.Pairwise (fun p q => p.2 < q.1)
  has : ∀ k, k < fr → k < o.length → ((∃ p ∈ L, p.1 ≤ k ∧ k < p.2) ↔ f (nix o k) = true)
theorem prt_ok (f : Nat → Bool) (o : List Nat) : ∀ g, PrtOk f o g (partsTo f o g).1 (partsTo f o g).2
  | 0 => by
    refine ⟨Nat.le_refl _, fun k _ h => absurd h (Nat.not_lt_zero _), fun p hp => absurd hp List.not_mem_nil, List.Pairwise.nil, fun k h => absurd h (Nat.not_lt_zero _)⟩
  | g + 1 => by
    have ih := prt_ok f o g
    rw [partsTo_step]
    split
    · rename_i h
      refine ⟨Nat.le_succ_of_le ih.le, fun k h1 h2 => ?_, ih.inn, ih.adj, ih.has⟩
      rcases Nat.lt_or_eq_of_le (Nat.le_of_lt_succ h2) with h3 | rfl
      · exact ih.run k h1 h3
      · exact h
    · rename_i h
      generalize (partsTo f o g).1 = L at *
      generalize (partsTo f o g).2 = fr at *
      have hg : g < o.length → ¬ f (nix o g) = true := fun h1 h2 => h ⟨h1, h2⟩
      split
      · rename_i hlt
        refine ⟨Nat.le_refl _, fun k h1 h2 => by omega, fun p hp => ?_, ?_, fun k hk hkl => ?_⟩
        · rcases List.mem_append.1 hp with hp | hp
          · have := ih.inn p hp; have := ih.le; dsimp only; omega
          · rw [List.mem_singleton.1 hp]; dsimp only; omega
        · rw [List.pairwise_append]
          refine ⟨ih.adj, List.pairwise_singleton _ _, fun p hp q hq => ?_⟩
          rw [List.mem_singleton.1 hq]
          exact (ih.inn p hp).2
        · dsimp only at hk
          by_cases h1 : k < fr
          · rw [← ih.has k h1 hkl]
            constructor
            · rintro ⟨p, hp, h2, h3⟩
              rcases List.mem_append.1 hp with hp | hp
              · exact ⟨p, hp, h2, h3⟩
              · rw [List.mem_singleton.1 hp] at h2; dsimp only at h2; omega
            · rintro ⟨p, hp, h2, h3⟩
              exact ⟨p, List.mem_append.2 (.inl hp), h2, h3⟩
          · by_cases h4 : k < g
            · exact ⟨fun _ => (ih.run k (by omega) h4).2, fun _ => ⟨(fr, g), List.mem_append.2 (.inr (List.mem_singleton.2 rfl)), by dsimp only; omega, h4⟩⟩
            · obtain rfl : k = g := by omega
              refine ⟨fun hh => ?_, fun hh => absurd hh (hg hkl)⟩
              obtain ⟨p, hp, h2, h3⟩ := hh
              rcases List.mem_append.1 hp with hp | hp
              · have := ih.inn p hp; omega
              · rw [List.mem_singleton.1 hp] at h3; dsimp only at h3; omega
      · rename_i hlt
        obtain rfl : fr = g := by have := ih.le; omega
        refine ⟨Nat.le_refl _, fun k h1 h2 => by omega, fun p hp => ?_, ih.adj, fun k hk hkl => ?_⟩
        · have := ih.inn p hp; dsimp only; omega
        · dsimp only at hk
          by_cases h1 : k < fr
          · exact ih.has k h1 hkl
          · obtain rfl : k = fr := by omega
            refine ⟨fun hh => ?_, fun hh => absurd hh (hg hkl)⟩
            obtain ⟨p, hp, h2, h3⟩ := hh
            have := ih.inn p hp; omega
theorem prtL_ok (f : Nat → Bool) (o : List Nat) : PrtOk f o (o.length + 1) (Lay.parts f o) (o.length + 1) := by
  have h := prt_ok f o (o.length + 1)
  rw [show (partsTo f o (o.length + 1)).2 = o.length + 1 by rw [partsTo_step, if_neg (fun h => Nat.lt_irrefl _ h.1)]] at h
  exact h
structure Spn where
  l : Nat
  f : Nat
  t : Nat
  a : Int
  b : Int
/-- The spans of a line's parts. -/
def spL (i : Nat) (x : List Int) (L : List (Nat × Nat)) : List Spn := L.map (fun p => ⟨i, p.1, p.2, nth x p.1, nth x p.2⟩)
def spCells : List Spn → List Value
  | [] => []
  | x :: l => .int .i64 (x.l : Nat) :: .int .i64 (x.f : Nat) :: .int .i64 (x.t : Nat) :: .int .i64 x.a :: .int .i64 x.b :: spCells l
theorem spCells_len : ∀ l : List Spn, (spCells l).length = l.length * 5
  | [] => rfl
  | x :: l => by have := spCells_len l; simp only [spCells, List.length_cons, this]; omega
theorem spCells_app : ∀ l m : List Spn, spCells l ++ spCells m = spCells (l ++ m)
  | [], _ => rfl
  | x :: l, m => by simp only [spCells, List.cons_append, spCells_app l m]
theorem spCells_at : ∀ (l : List Spn) (i : Nat) (x : Spn), l[i]? = some x → (spCells l)[i * 5]? = some (.int .i64 (x.l : Nat)) ∧ (spCells l)[i * 5 + 1]? = some (.int .i64 (x.f : Nat)) ∧ (spCells l)[i * 5 + 2]? = some (.int .i64 (x.t : Nat)) ∧ (spCells l)[i * 5 + 3]? = some (.int .i64 x.a) ∧ (spCells l)[i * 5 + 4]? = some (.int .i64 x.b)
  | [], i, x, h => by simp at h
  | y :: l, 0, x, h => by simp at h; subst h; exact ⟨rfl, rfl, rfl, rfl, rfl⟩
  | y :: l, i + 1, x, h => by
    have ih := spCells_at l i x (by simpa using h)
    rw [show (i + 1) * 5 = i * 5 + 1 + 1 + 1 + 1 + 1 by omega]
    exact ih
theorem five_one (a b c d e : Int) : ∀ u ∈ [Value.int .i64 a, .int .i64 b, .int .i64 c, .int .i64 d, .int .i64 e], u.oneCell' = true := by
  intro u hu
  simp only [List.mem_cons, List.not_mem_nil, or_false] at hu
  rcases hu with rfl | rfl | rfl | rfl | rfl <;> rfl
theorem spCells_one : ∀ l : List Spn, ∀ u ∈ spCells l, u.oneCell' = true
  | [], u, h => by simp [spCells] at h
  | x :: l, u, h => by
    simp only [spCells, List.mem_cons] at h
    rcases h with rfl | rfl | rfl | rfl | rfl | h <;> first | rfl | exact spCells_one l u h
theorem info119 : (Tryz.prog.info? 119).map (fun i => (i.zero, i.size, i.bytes)) = some (some (.agg #[.int .i64 0, .int .i64 0, .int .i64 0, .int .i64 0, .int .i64 0]), 5, 40) := by kernel_rfl
end Go.Proofs.YtnakejhohdbfdaaGreatDoor
namespace Go.Proofs.YtnakejhohdbfdaaGreatDoor
open Go.RowKit Lev Lay

theorem parts_run {f : Nat → Bool} {o : List Nat} {k : Nat} (h : (partsTo f o k).2 = k) : ∀ e, k ≤ e → (∀ g, k ≤ g → g < e → g < o.length ∧ f (nix o g) = true) → partsTo f o e = ((partsTo f o k).1, k)
  | 0, hk, _ => by
    obtain rfl : k = 0 := by omega
    rfl
  | e + 1, hk, hg => by
    rcases Nat.lt_or_eq_of_le hk with h1 | h1
    · have ih := parts_run h e (by omega) (fun g a b => hg g a (by omega))
      rw [partsTo_step, if_pos (hg e (by omega) (by omega)), ih]
    · rw [← h1]
      exact Prod.ext rfl h
/-- A run from k to e, and what stops it. -/
theorem parts_step {f : Nat → Bool} {o : List Nat} {k e : Nat} (h : (partsTo f o k).2 = k) (hk : k < e) (hg : ∀ g, k ≤ g → g < e → g < o.length ∧ f (nix o g) = true) (he : ¬ (e < o.length ∧ f (nix o e) = true)) : partsTo f o (e + 1) = ((partsTo f o k).1 ++ [(k, e)], e + 1) := by
  have ih := parts_run h e (Nat.le_of_lt hk) hg
  rw [partsTo_step, if_neg he, ih]
  dsimp only
  rw [if_pos hk]
theorem parts_skip {f : Nat → Bool} {o : List Nat} {k : Nat} (h : (partsTo f o k).2 = k) (he : ¬ (k < o.length ∧ f (nix o k) = true)) : partsTo f o (k + 1) = ((partsTo f o k).1, k + 1) := by
  rw [partsTo_step, if_neg he, h, if_neg (Nat.lt_irrefl _)]
/-- At the end all parts are found. -/
theorem parts_done {f : Nat → Bool} {o : List Nat} {k : Nat} (h : (partsTo f o k).2 = k) (hk : k = o.length ∨ k = o.length + 1) : (partsTo f o k).1 = Lay.parts f o := by
  rcases hk with rfl | rfl
  · have := parts_skip h (fun h => Nat.lt_irrefl _ h.1)
    unfold Lay.parts
    rw [this]
  · rfl
end Go.Proofs.YtnakejhohdbfdaaGreatDoor
namespace Go.Proofs.YtnakejhohdbfdaaGreatDoor
open Go.RowKit Lev Lay

/-- The spans from number t on. -/
def sp5 (w : World) (g : Nat) (M : List Spn) (t : Nat) : Prop := ∀ j, t ≤ j → ∀ x, M[j]? = some x → w.cell? ⟨g, j * 5, none⟩ = some (.int .i64 (x.l : Nat)) ∧ w.cell? ⟨g, j * 5 + 1, none⟩ = some (.int .i64 (x.f : Nat)) ∧ w.cell? ⟨g, j * 5 + 2, none⟩ = some (.int .i64 (x.t : Nat)) ∧ w.cell? ⟨g, j * 5 + 3, none⟩ = some (.int .i64 x.a) ∧ w.cell? ⟨g, j * 5 + 4, none⟩ = some (.int .i64 x.b)
theorem sp5_own {w : World} {B g cap : Nat} {M : List Spn} (h : w.ownsRow B 119 5 (.slice (some ⟨g, 0, none⟩) M.length cap) M.length (spCells M)) : sp5 w g M 0 := fun j _ x hx => by
  have hl := h.1
  have hj : j < M.length := (List.getElem?_eq_some_iff.1 hx).1
  obtain ⟨a0, a1, a2, a3, a4⟩ := spCells_at M j x hx
  exact ⟨by rw [h.cellAt _ (by omega)]; exact a0, by rw [h.cellAt _ (by omega)]; exact a1, by rw [h.cellAt _ (by omega)]; exact a2, by rw [h.cellAt _ (by omega)]; exact a3, by rw [h.cellAt _ (by omega)]; exact a4⟩
theorem sp5.later {w : World} {g : Nat} {M : List Spn} {i : Nat} (h : sp5 w g M i) : sp5 w g M (i + 1) := fun j hj x hx => h j (by omega) x hx
theorem sp5.set {w : World} {g o : Nat} {M : List Spn} {t : Nat} (h : sp5 w g M t) (ho : o < t * 5) (v : Value) : sp5 (w.setCell ⟨g, o, none⟩ v) g M t := fun j hj x hx => by
  obtain ⟨a0, a1, a2, a3, a4⟩ := h j hj x hx
  have K : ∀ o' u, o ≠ o' → w.cell? ⟨g, o', none⟩ = some u → (w.setCell ⟨g, o, none⟩ v).cell? ⟨g, o', none⟩ = some u := fun o' u hne hu => (World.cell?_setCell_other w ⟨g, o, none⟩ ⟨g, o', none⟩ v (by intro e; cases e; exact hne rfl)).trans hu
  exact ⟨K _ _ (by omega) a0, K _ _ (by omega) a1, K _ _ (by omega) a2, K _ _ (by omega) a3, K _ _ (by omega) a4⟩
set_option maxRecDepth 10000 in
set_option maxHeartbeats 4000000 in
theorem spans29 (M : List Spn) (gA cA gB cB : Nat) (w : World) (hM : M.length ≤ 1000000) (hne : gA ≠ gB) (hA : sp5 w gA M 0) (hB : sp5 w gB M 0) (hf : ∀ o, w.frozen? ⟨gA, o, none⟩ = false) :
    Calls Tryz.prog 29 #[.slice (some ⟨gA, 0, none⟩) M.length cA, .slice (some ⟨gB, 0, none⟩) M.length cB] w fun e w' => e = .returned (.bool true) ∧ Fr [gA] w w' := by
  have HA := hid hA
  have HB := hid hB
  have HZ := hid hf
  obtain ⟨m, hm⟩ : ∃ m, m = M.length := ⟨_, rfl⟩
  have HM := hid hm
  rw [← hm] at hM ⊢
  clear hA hB hf hm
  go_enter Tryz.func29, Tryz.ntmps29
  go_wp2_with fail
  go_loopw [5] (fun iv wr => ∃ i : Nat, iv = .int .i64 i ∧ i ≤ m ∧ Hid (sp5 wr gA M i) ∧ Hid (∀ o, wr.frozen? ⟨gA, o, none⟩ = false) ∧ Hid (Fr [gA] w wr)) (fun iv _ => m - (intOf iv).toNat)
  case atStart => exact ⟨0, rfl, Nat.zero_le _, HA, HZ, hid (Fr.refl _ _)⟩
  case round =>
    obtain ⟨i, rfl, him, HAi, HZi, HFi⟩ := hrel
    by_cases hi : i < m
    · have hiI : (i : Int) < (m : Int) := by omega
      obtain ⟨x, hx⟩ : ∃ x, M[i]? = some x := ⟨_, List.getElem?_eq_getElem (by rw [← HM.out]; exact hi)⟩
      obtain ⟨a0, a1, a2, a3, a4⟩ := HAi.out i (Nat.le_refl _) x hx
      obtain ⟨b0, b1, b2, b3, b4⟩ := HB.out i (Nat.zero_le _) x hx
      have hnb : gB ∉ [gA] := fun h => hne (List.mem_singleton.1 h).symm
      have c0 := HFi.out.cell b0 hnb
      have c1 := HFi.out.cell b1 hnb
      have c2 := HFi.out.cell b2 hnb
      have c3 := HFi.out.cell b3 hnb
      have c4 := HFi.out.cell b4 hnb
      have z0 := HZi.out (i * 5)
      have z1 := HZi.out (i * 5 + 1)
      have z2 := HZi.out (i * 5 + 2)
      have z3 := HZi.out (i * 5 + 3)
      have z4 := HZi.out (i * 5 + 4)
      generalize x.l = xl at *
      generalize x.f = xf at *
      generalize x.t = xt at *
      generalize x.a = xa at *
      generalize x.b = xb at *
      clear b0 b1 b2 b3 b4 hx hnb
      go_wp2_with fail
      go_quiet (fail)
      obtain ⟨wd, hwd⟩ : ∃ wd, wd = wr.drewN nq := ⟨_, rfl⟩
      have HQ := hid (show Fr [] wr wd by rw [hwd]; exact Fr.drewN (Fr.refl [] wr) _)
      have HFd := hid (show Fr [gA] w wd by rw [hwd]; exact Fr.drewN HFi.out _)
      have HAd := hid (show sp5 wd gA M i by rw [hwd]; exact HAi.out)
      have HZd := hid (show ∀ o, wd.frozen? ⟨gA, o, none⟩ = false by rw [hwd]; exact HZi.out)
      have d0 := HQ.out.cell a0 List.not_mem_nil
      have d1 := HQ.out.cell a1 List.not_mem_nil
      have d2 := HQ.out.cell a2 List.not_mem_nil
      have d3 := HQ.out.cell a3 List.not_mem_nil
      have d4 := HQ.out.cell a4 List.not_mem_nil
      have y0 := HZd.out (i * 5)
      have y1 := HZd.out (i * 5 + 1)
      have y2 := HZd.out (i * 5 + 2)
      have y3 := HZd.out (i * 5 + 3)
      have y4 := HZd.out (i * 5 + 4)
      rw [← hwd]
      clear hwd a0 a1 a2 a3 a4 c0 c1 c2 c3 c4 z0 z1 z2 z3 z4
      go_wp2
      refine ⟨⟨i + 1, by go_num, by omega, hid ?_, hid (fun o => by simpa using HZd.out o), hid ?_⟩, by simp [intOf]; omega⟩
      · exact ((((HAd.out.later.set (by omega) _).set (by omega) _).set (by omega) _).set (by omega) _).set (by omega) _
      · exact ((((HFd.out.set (List.mem_singleton.2 rfl) _).set (List.mem_singleton.2 rfl) _).set (List.mem_singleton.2 rfl) _).set (List.mem_singleton.2 rfl) _).set (List.mem_singleton.2 rfl) _
    · obtain rfl : i = m := by omega
      have hiI : ¬ (i : Int) < (i : Int) := by omega
      go_wp2
      go_ret
      exact ⟨rfl, HFi.out⟩
end Go.Proofs.YtnakejhohdbfdaaGreatDoor
