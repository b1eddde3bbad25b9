/- The two readings of a text: the document's and the program's. -/
import Derived.Test.YtnakejhohdbfdaaDoorShelf
import Derived.Test.YtnakejhohdbfdaaDoorRows
import Derived.Test.YtnakejhohdbfdaaDoorDec
import Derived.WalkKit
import Derived.WalkSpells
import Derived.WalkSmall
import Derived.Lib.OthersKept
import Derived.RegionTactic
import Derived.Deep.QuietTactic
import Derived.BigQuiet
namespace Go.Proofs.YtnakejhohdbfdaaDoor
open Go.RowKit Dec
theorem hid {p : Prop} (h : p) : Hid p := h

theorem tabs_below {g3 g4 : Nat} {w w' : World} (h : Lib.Utf8Tabs g3 g4 w) (hb : Below w.heap.size w w') : Lib.Utf8Tabs g3 g4 w' := by
  refine ⟨fun c hc => ?_, fun i hi => ?_⟩
  · have h1 := h.1 c hc
    exact (hb.cell (p := ⟨g3, c, none⟩) (World.block_lt_of_cell? _ _ h1)).trans h1
  · have h1 := h.2 i hi
    exact ⟨(hb.cell (p := ⟨g4, 2 * i, none⟩) (World.block_lt_of_cell? _ _ h1.1)).trans h1.1, (hb.cell (p := ⟨g4, 2 * i + 1, none⟩) (World.block_lt_of_cell? _ _ h1.2)).trans h1.2⟩
theorem decode20_at (s : ByteArray) (p : Nat) (w : World) (h : p < s.size) (hT : Lib.Utf8Tabs 1 2 w) :
    Calls Tryd.prog 23 #[.string (s.extract p s.size)] w fun e w' => e = .returned (.tuple #[.int .i32 ((Utf8.decode s p).1 : Nat), .int .i64 ((Utf8.decode s p).2 : Nat)]) ∧ Below w.heap.size w w' := by
  have := Tryd.decode20 (s.extract p s.size) w hT
  have e : Lib.decodeGo (s.extract p s.size) = Utf8.decode s p := by
    unfold Lib.decodeGo
    rw [if_neg (by rw [Lib.tail_size]; omega), decodeGo_tail]
  rwa [e] at this
theorem info25 : (Tryd.prog.info? 25).map (fun i => (i.zero, i.size, i.bytes)) = some (some (.agg #[.int .i32 0, .int .i64 0, .int .i64 0]), 3, 24) := by kernel_rfl
theorem new3_cells (w : World) (a b c : Value) (t : TypeId) : ∀ j u, [a, b, c][j]? = some u → (w.alloc (.cells #[a, b, c] t)).cell? ((⟨w.heap.size, 0, none⟩ : Addr).add j) = some u := by
  intro j u hj
  rw [Addr.add_lit, Nat.zero_add, World.cell?_alloc_at _ _ _ _ rfl]
  simpa using hj

theorem new3_one (r a b : Int) : ∀ u ∈ [Value.int .i32 r, .int .i64 a, .int .i64 b], u.oneCell' = true := by
  intro u hu
  simp only [List.mem_cons, List.not_mem_nil, or_false] at hu
  rcases hu with rfl | rfl | rfl <;> rfl

set_option maxHeartbeats 2000000 in
theorem ref7_any (s : ByteArray) (w : World) (hs : s.size ≤ 1000000) (hT : Lib.Utf8Tabs 1 2 w) :
    Calls Tryd.prog 8 #[.string s] w fun e w' => ∃ n v, Dec.Ends s n ∧ e = .returned v ∧ w'.ownsRow w.heap.size 25 3 v n (Dec.cells (lst s n)) ∧ Below w.heap.size w w' ∧ (n = 0 → v = .slice none 0 0) := by
  have TT := hid hT
  clear hT
  obtain ⟨i0, hi, hz0, hz1, hz2⟩ := info_parts info25
  go_enter Tryd.func8, Tryd.ntmps8
  go_wp2
  go_loopw [3, 4] (fun v i wr => ∃ k p : Nat, p ≤ s.size ∧ k ≤ p ∧ i = .int .i64 p ∧ Hid (p = pos s k) ∧ Hid (∀ j, j < k → pos s j < s.size) ∧ Hid (wr.ownsRow w.heap.size 25 3 v k (Dec.cells (lst s k))) ∧ Hid (Below w.heap.size w wr) ∧ Hid (k = 0 → v = .slice none 0 0)) (fun _ i _ => s.size - (intOf i).toNat)
  case atStart => exact ⟨0, 0, Nat.zero_le _, Nat.le_refl _, rfl, hid rfl, hid (fun j hj => absurd hj (Nat.not_lt_zero _)), hid (World.ownsRow_nil _ _ _ _), hid (Below.refl _ _), hid (fun _ => rfl)⟩
  case round =>
    obtain ⟨k, p, hp, hkp, rfl, HP, HJ, HO, HB, HN⟩ := hrel
    by_cases hlt : p < s.size
    · have hw1 := width_pos s p
      have hw2 := width_le s p hlt
      have HC := hid (decode20_at s p _ hlt (tabs_below TT.out HB.out))
      have HR : Hid (((Utf8.decode s p).1 : Nat) = rune s k) := by rw [HP.out]; rfl
      have HQ : Hid (p + (Utf8.decode s p).2 = pos s (k + 1)) := by rw [HP.out]; rfl
      generalize (Utf8.decode s p).1 = r at HC HR
      generalize (Utf8.decode s p).2 = n at HC HQ hw1 hw2
      go_wp2_with fail
      refine HC.out.mono ?_
      rintro e w1 ⟨rfl, hb1⟩
      have HO1 := hid ((owns_below HO.out hb1).alloc (.cells #[.int .i32 r, .int .i64 p, .int .i64 ((p : Int) + n)] 25))
      have HB1 := hid ((HB.out.trans (hb1.mono HB.out.size)).alloc (by have := HB.out.size; have := hb1.size; omega) (.cells #[.int .i32 r, .int .i64 p, .int .i64 ((p : Int) + n)] 25))
      have hsz : w.heap.size ≤ w1.heap.size := by have := HB.out.size; have := hb1.size; omega
      clear HC hb1
      go_wp2_with (at_builtin; refine wpList_append_own _ rfl _ _ 22 rfl w.heap.size 25 i0 _ 3 24 Tryd.underlying22 hi hz0 hz1 hz2 rfl (by decide) _ _ _ rfl HO1.out ⟨w1.heap.size, 0, none⟩ 1 1 [.int .i32 r, .int .i64 p, .int .i64 ((p : Int) + n)] rfl rfl (new3_cells _ _ _ _ _) (new3_one _ _ _) (by unfold maxLen; omega) (by omega) (by simp; omega) ?_)
      intro v' w2 own2 hgrow hnil
      have HO2 : Hid (w2.ownsRow w.heap.size 25 3 v' (k + 1) (Dec.cells (lst s (k + 1)))) := by
        rw [← cells_snoc, ← HR.out, ← HP.out, ← HQ.out]
        exact hid (by simpa using own2)
      have HB2 : Hid (Below w.heap.size w w2) := HB1.out.grown hgrow (by simp; omega) (by intro g hg; exact (HO1.out.lt g hg).1)
      clear own2 hgrow hnil HO1 HB1
      go_wp2
      go_roundw
      case rel =>
        refine ⟨k + 1, p + n, by omega, by omega, by go_num, HQ, ?_, HO2, HB2, hid (fun h => by omega)⟩
        intro j hj
        rcases Nat.lt_or_eq_of_le (Nat.le_of_lt_succ hj) with h1 | h1
        · exact HJ.out j h1
        · rw [h1, ← HP.out]; exact hlt
      case measure => simp [intOf]; omega
    · go_wp2
      go_ret
      exact ⟨k, _, ⟨by rw [← HP.out]; omega, HJ.out⟩, rfl, HO.out, HB.out, HN.out⟩

theorem new3_cells_at (w : World) (n : Nat) (h : w.heap.size = n) (a b c : Value) (t : TypeId) : ∀ j u, [a, b, c][j]? = some u → (w.alloc (.cells #[a, b, c] t)).cell? ((⟨n, 0, none⟩ : Addr).add j) = some u := by
  subst h; exact new3_cells w a b c t
/-- A store into the row that is owned turns no block but that. -/
theorem iter_setCell {w : World} {it g j : Nat} {s : ByteArray} {p : Nat} {v : Value} (h : w.heap[it]? = some (.stringIter s p)) (hne : g ≠ it) : (w.setCell ⟨g, j, none⟩ v).heap[it]? = some (.stringIter s p) := by
  rw [Below.heap_setCell _ _ _ _ (fun e => hne e.symm)]; exact h

set_option maxHeartbeats 4000000 in
theorem fn21_any (s : ByteArray) (w : World) (hs : s.size ≤ 1000000) :
    Calls Tryd.prog 24 #[.string s] w fun e w' => ∃ n v, Dec.Ends s n ∧ e = .returned v ∧ w'.ownsRow w.heap.size 25 3 v n (Dec.cells (lst s n)) ∧ Below w.heap.size w w' ∧ (n = 0 → v = .slice none 0 0) := by
  obtain ⟨i0, hi, hz0, hz1, hz2⟩ := info_parts info25
  go_enter Tryd.func24, Tryd.ntmps24
  go_wp2
  go_loopw [3] (fun v wr => ∃ k p : Nat, p ≤ s.size ∧ k ≤ p ∧ wr.heap[w.heap.size]? = some (.stringIter s p) ∧ Hid (p = pos s k) ∧ Hid (∀ j, j < k → pos s j < s.size) ∧ Hid (wr.ownsRow (w.heap.size + 1) 25 3 v k (Dec.cells (lstL s k))) ∧ Hid (Below w.heap.size w wr) ∧ Hid (k = 0 → v = .slice none 0 0)) (fun _ wr => s.size - wr.iterPos w.heap.size)
  case atStart => exact ⟨0, 0, Nat.zero_le _, Nat.le_refl _, World.iter_heap _ _ _, hid rfl, hid (fun j hj => absurd hj (Nat.not_lt_zero _)), hid (World.ownsRow_nil _ _ _ _), hid ((Below.refl _ _).alloc (Nat.le_refl _) _), hid (fun _ => rfl)⟩
  case round =>
    obtain ⟨k, p, hp, hkp, hit, HP, HJ, HO, HB, HN⟩ := hrel
    by_cases hlt : p < s.size
    · have hw1 := width_pos s p
      have hw2 := width_le s p hlt
      have hnx := fun ty => Lib.run_next_any_at (P := Tryd.prog) wr w.heap.size s p ty hit hlt
      have HR : Hid (((Utf8.decode s p).1 : Nat) = rune s k) := by rw [HP.out]; rfl
      have HQ : Hid (p + (Utf8.decode s p).2 = pos s (k + 1)) := by rw [HP.out]; rfl
      generalize (Utf8.decode s p).1 = r at hnx HR
      generalize (Utf8.decode s p).2 = n at hnx HQ hw1 hw2
      have hJ2 : Hid (∀ j, j < k + 1 → pos s j < s.size) := by
        intro j hj
        rcases Nat.lt_or_eq_of_le (Nat.le_of_lt_succ hj) with h1 | h1
        · exact HJ.out j h1
        · rw [h1, ← HP.out]; exact hlt
      have HI := hid (Lib.iterAt_heap wr w.heap.size s p (p + n) hit)
      have HBI := hid (Lib.below_iterAt HB.out (Nat.le_refl _) s (p + n))
      have HOI := hid (ownsRow_iterAt HO.out (Nat.lt_succ_self _) s (p + n))
      have HIT := hid hit
      generalize wr.iterAt w.heap.size s (p + n) = wi at hnx HI HBI HOI
      have hwi : w.heap.size < wi.heap.size := (Array.getElem?_eq_some_iff.1 HI.out).1
      cases k with
      | zero =>
        have hv := HN.out rfl
        rw [hv] at HOI
        subst hv
        clear hit HN HO
        have HO1 := hid (HOI.out.alloc (.cells #[.int .i32 r, .int .i64 p, .int .i64 s.size] 25))
        go_wp2_with (at_builtin; refine wpList_append_own _ rfl _ _ 22 rfl (w.heap.size + 1) 25 i0 _ 3 24 Tryd.underlying22 hi hz0 hz1 hz2 rfl (by decide) _ _ _ rfl HO1.out ⟨wi.heap.size, 0, none⟩ 1 1 [.int .i32 r, .int .i64 p, .int .i64 s.size] rfl rfl (new3_cells _ _ _ _ _) (new3_one _ _ _) (by decide) (by decide) (by simp; omega) ?_)
        intro v' w2 own2 hgrow hnil
        have HO2 : Hid (w2.ownsRow (w.heap.size + 1) 25 3 v' (0 + 1) (Dec.cells (lstL s (0 + 1)))) := by
          rw [← cells_snocL, ← HR.out, ← HP.out]
          exact hid (by simpa [lst, lstL, Dec.cells] using own2)
        have HB2 : Hid (Below w.heap.size w w2) := (HBI.out.alloc (by omega) _).grown hgrow (by simp; omega) (by intro g hg; simp [Value.ownBlock] at hg)
        have HI2 : Hid (w2.heap[w.heap.size]? = some (.stringIter s (p + n))) := by
          rw [hgrow.block _ (by simp; omega) (by simp [Value.ownBlock])]
          exact (Lib.alloc_old _ _ _ hwi).trans HI.out
        clear own2 hgrow hnil HO1
        go_wp2
        go_roundw
        case rel => exact ⟨0 + 1, p + n, by omega, by omega, HI2.out, HQ, hJ2, HO2, HB2, hid (fun h => by omega)⟩
        case measure => rw [iterPos_of HI2.out, iterPos_of HIT.out]; omega
      | succ k =>
        obtain ⟨g, cap, hv⟩ := owns_shape HOI.out
        have hge := owns_at (hv ▸ HOI.out)
        rw [hv] at HOI
        subst hv
        clear hit HN HO
        have hcell := (HOI.out.cellAt (k * 3 + 2) (by omega)).trans (cells_at _ _ _ (lstL_last s k)).2.2
        have hfro := HOI.out.frozenAt (k * 3 + 2)
        have HST := hid (HOI.out.stored (k * 3 + 2) (.int .i64 p))
        have HO1 := hid (HST.out.1.alloc (.cells #[.int .i32 r, .int .i64 p, .int .i64 s.size] 25))
        have HI1 := hid (iter_setCell (j := k * 3 + 2) (v := .int .i64 p) HI.out (show g ≠ w.heap.size by omega))
        have HB1 := hid (HBI.out.grown HST.out.2 (by omega) (by intro x hx; cases hx; omega))
        have hsz1 : (wi.setCell ⟨g, k * 3 + 2, none⟩ (.int .i64 p)).heap.size = wi.heap.size := by simp
        have HSZ := hid hsz1
        clear hsz1
        go_wp2_with (at_builtin; refine wpList_append_own _ rfl _ _ 22 rfl (w.heap.size + 1) 25 i0 _ 3 24 Tryd.underlying22 hi hz0 hz1 hz2 rfl (by decide) _ _ _ rfl HO1.out ⟨wi.heap.size, 0, none⟩ 1 1 [.int .i32 r, .int .i64 p, .int .i64 s.size] rfl rfl (new3_cells_at _ _ HSZ.out _ _ _ _) (new3_one _ _ _) (by unfold maxLen; omega) (by omega) (by simp; omega) ?_)
        intro v' w2 own2 hgrow hnil
        have HO2 : Hid (w2.ownsRow (w.heap.size + 1) 25 3 v' (k + 1 + 1) (Dec.cells (lstL s (k + 1 + 1)))) := by
          rw [← cells_snocL, ← cells_set, ← HR.out, ← HP.out]
          exact hid (by simpa using own2)
        have HB2 : Hid (Below w.heap.size w w2) := (HB1.out.alloc (by rw [HSZ.out]; omega) _).grown hgrow (by simp; omega) (by intro x hx; simp [Value.ownBlock] at hx; omega)
        have HI2 : Hid (w2.heap[w.heap.size]? = some (.stringIter s (p + n))) := by
          rw [hgrow.block _ (by simp; omega) (by simp [Value.ownBlock]; omega)]
          exact (Lib.alloc_old _ _ _ (by rw [HSZ.out]; omega)).trans HI1.out
        clear own2 hgrow hnil HO1 hcell hfro HST HI1 HB1
        go_wp2
        go_roundw
        case rel => exact ⟨k + 1 + 1, p + n, by omega, by omega, HI2.out, HQ, hJ2, HO2, HB2, hid (fun h => by omega)⟩
        case measure => rw [iterPos_of HI2.out, iterPos_of HIT.out]; omega
    · have hnx := fun ty => Lib.run_next_end_at (P := Tryd.prog) wr w.heap.size s p ty hit hlt
      have HE : Hid (Dec.Ends s k) := ⟨by rw [← HP.out]; omega, HJ.out⟩
      have HO2 : Hid (wr.ownsRow w.heap.size 25 3 u3 k (Dec.cells (lst s k))) := by
        have h := HO.out
        rw [lstL_end HE.out] at h
        exact owns_low h (by omega)
      clear hit
      go_wp2
      go_ret
      exact ⟨k, _, HE.out, rfl, HO2.out, HB.out, HN.out⟩
set_option maxHeartbeats 400000 in
theorem fn8_any (s : ByteArray) (w : World) (hs : s.size ≤ 1000000) :
    Calls Tryd.prog 9 #[.string s] w fun e w' => ∃ n v, Dec.Ends s n ∧ e = .returned v ∧ w'.ownsRow w.heap.size 25 3 v n (Dec.cells (lst s n)) ∧ Below w.heap.size w w' ∧ (n = 0 → v = .slice none 0 0) := by
  have hc := fn21_any s w hs
  go_enter Tryd.func9, Tryd.ntmps9
  go_wp2_with (go_at_call 24; refine hc.mono ?_; rintro e w' ⟨n, v, h1, rfl, h2, h3, h4⟩)
  go_ret
  exact ⟨n, v, h1, rfl, h2, h3, h4⟩
end Go.Proofs.YtnakejhohdbfdaaDoor
