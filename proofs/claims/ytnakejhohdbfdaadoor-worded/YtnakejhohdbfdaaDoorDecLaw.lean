/- The law Decodes. -/
import Derived.Test.YtnakejhohdbfdaaDoorDecWalk
import Derived.Laws.StructEq
namespace Go.Proofs.YtnakejhohdbfdaaDoor
open Go.RowKit Dec

theorem below_draws (B : Nat) (w : World) (q : Nat) : Below B w (w.drewN q) := ⟨rfl, rfl, rfl, Nat.le_refl _, fun _ _ => rfl⟩
theorem cell_set_other (w : World) (g a b : Nat) (v : Value) (h : b ≠ a) : (w.setCell ⟨g, a, none⟩ v).cell? ⟨g, b, none⟩ = w.cell? ⟨g, b, none⟩ := by
  refine World.cell?_setCell_other _ _ _ _ ?_
  intro e
  exact h (by injection e with _ e2 _; exact e2.symm)
theorem cells_get {s : ByteArray} {n k : Nat} (h : k < n) : (Dec.cells (lst s n))[k * 3]? = some (.int .i32 (rune s k)) ∧ (Dec.cells (lst s n))[k * 3 + 1]? = some (.int .i64 (pos s k : Nat)) ∧ (Dec.cells (lst s n))[k * 3 + 2]? = some (.int .i64 (pos s (k + 1) : Nat)) := cells_at _ _ _ (lst_at s n k h)

set_option maxHeartbeats 400000 in
theorem decodes_long (s : ByteArray) (w : World) (hs : 4096 < s.size) :
    Calls Tryd.prog 3 #[.string s] w fun e w' => e = .returned (.bool true) ∧ w' = w := by
  have hs1 : (4096 : Int) < (s.size : Int) := by omega
  go_enter Tryd.func3, Tryd.ntmps3
  go_wp2
  go_ret
  exact ⟨rfl, rfl⟩

set_option maxHeartbeats 4000000 in
theorem decodes_nil (s : ByteArray) (w : World) (hs : s.size ≤ 4096) (hT : Lib.Utf8Tabs 1 2 w) (hend : Dec.Ends s 0) :
    Calls Tryd.prog 3 #[.string s] w fun e w' => e = .returned (.bool true) ∧ Below w.heap.size w w' := by
  have hs1 : ¬ (4096 : Int) < (s.size : Int) := by omega
  have C7 := hid (ref7_any s w (by omega) hT)
  have C8 := hid (fun w => fn8_any s w (by omega))
  have HE0 := hid hend
  clear hT hend
  go_enter Tryd.func3, Tryd.ntmps3
  go_wp2_with fail
  refine C7.out.mono ?_
  rintro e w1 ⟨n1, vm, h1, rfl, own1, hb1, hn1⟩
  obtain rfl := ends_unique h1 HE0.out
  obtain rfl := hn1 rfl
  clear h1 C7 hn1
  have HB1 := hid hb1
  clear hb1
  go_wp2_with fail
  go_loopw [4] (fun i wr => ∃ k : Nat, k ≤ 2 ∧ i = .int .i64 k ∧ Hid (Below w1.heap.size w1 wr)) (fun i _ => 2 - (intOf i).toNat)
  case atStart => exact ⟨0, by omega, rfl, hid (Below.refl _ _)⟩
  case round =>
    obtain ⟨k, hk, rfl, HR⟩ := hrel
    by_cases hlt : k < 2
    · have hltd : decide ((k : Int) < 2) = true := by simp; omega
      go_wp2_with fail
      refine (C8.out _).mono ?_
      rintro e w2 ⟨n2, vl, h2, rfl, own2, hb2, hn2⟩
      obtain rfl := ends_unique h2 HE0.out
      obtain rfl := hn2 rfl
      clear h2 hn2
      have HB2 := hid (HR.out.trans (hb2.mono HR.out.size))
      clear hb2 own2
      go_wp2
      go_loopw [6] (fun i wr => i = .int .i64 0 ∧ Hid (Below w1.heap.size w1 wr)) (fun _ _ => 0)
      case atStart => exact ⟨rfl, HB2⟩
      case round =>
        obtain ⟨rfl, HS⟩ := hrel
        go_wp2
        go_roundw
        case rel => exact ⟨k + 1, by omega, by go_num, HS⟩
        case measure => simp [intOf]; omega
    · go_wp2
      go_ret
      exact ⟨rfl, HB1.out.trans (HR.out.mono HB1.out.size)⟩

set_option maxHeartbeats 4000000 in
theorem decodes_pos (s : ByteArray) (w : World) (hs : s.size ≤ 4096) (hT : Lib.Utf8Tabs 1 2 w) (m : Nat) (hend : Dec.Ends s (m + 1)) :
    Calls Tryd.prog 3 #[.string s] w fun e w' => e = .returned (.bool true) ∧ Below w.heap.size w w' := by
  have hs1 : ¬ (4096 : Int) < (s.size : Int) := by omega
  have C7 := hid (ref7_any s w (by omega) hT)
  have C8 := hid (fun w => fn8_any s w (by omega))
  have HE0 := hid hend
  have hm : m + 1 ≤ 4096 := by have := le_pos s (m + 1); have := hend.1; omega
  clear hT hend
  go_enter Tryd.func3, Tryd.ntmps3
  go_wp2_with fail
  refine C7.out.mono ?_
  rintro e w1 ⟨n1, vm, h1, rfl, own1, hb1, hn1⟩
  obtain rfl := ends_unique h1 HE0.out
  obtain ⟨gm, cm, hvm⟩ := owns_shape own1
  subst hvm
  have OM := hid own1
  clear own1
  clear h1 C7 hn1
  have HB1 := hid hb1
  clear hb1
  go_wp2_with fail
  go_loopw [4] (fun i wr => ∃ k : Nat, k ≤ 2 ∧ i = .int .i64 k ∧ Hid (Below w1.heap.size w1 wr)) (fun i _ => 2 - (intOf i).toNat)
  case atStart => exact ⟨0, by omega, rfl, hid (Below.refl _ _)⟩
  case round =>
    obtain ⟨k, hk, rfl, HR⟩ := hrel
    by_cases hlt : k < 2
    · have hltd : decide ((k : Int) < 2) = true := by simp; omega
      go_wp2_with fail
      refine (C8.out _).mono ?_
      rintro e w2 ⟨n2, vl, h2, rfl, own2, hb2, hn2⟩
      obtain rfl := ends_unique h2 HE0.out
      obtain ⟨gl, cl, hvl⟩ := owns_shape own2
      subst hvl
      clear h2 hn2
      have HM2 := hid (owns_below (owns_below OM.out HR.out) hb2)
      have HL2 := hid own2
      have gml := owns_at (owns_below OM.out HR.out)
      have gll := owns_at own2
      have HB2 := hid hb2
      clear hb2 own2
      go_wp2
      go_loopw [6] (fun i wx => ∃ j : Nat, j ≤ m + 1 ∧ i = .int .i64 j ∧ Hid (Below wr.heap.size wr wx) ∧ Hid (∀ x, j * 3 ≤ x → x < (m + 1) * 3 → wx.cell? ⟨gl, x, none⟩ = (Dec.cells (lst s (m + 1)))[x]?) ∧ Hid (∀ x, wx.frozen? ⟨gl, x, none⟩ = false)) (fun i _ => m + 1 - (intOf i).toNat)
      case atStart => exact ⟨0, by omega, rfl, HB2, hid (fun x _ hx => HL2.out.cellAt x hx), hid (fun x => HL2.out.frozenAt x)⟩
      case round =>
        obtain ⟨j, hj, rfl, HS, HX, HF⟩ := hrel
        by_cases hjm : j < m + 1
        · obtain ⟨e0, e1, e2⟩ := cells_get (s := s) hjm
          have l0 := (HX.out (j * 3) (by omega) (by omega)).trans e0
          have l1 := (HX.out (j * 3 + 1) (by omega) (by omega)).trans e1
          have l2 := (HX.out (j * 3 + 2) (by omega) (by omega)).trans e2
          have m0 := ((HS.out.cell (p := ⟨gm, j * 3, none⟩) gml.2).trans ((owns_below OM.out HR.out).cellAt (j * 3) (by omega))).trans e0
          have m1 := ((HS.out.cell (p := ⟨gm, j * 3 + 1, none⟩) gml.2).trans ((owns_below OM.out HR.out).cellAt (j * 3 + 1) (by omega))).trans e1
          have m2 := ((HS.out.cell (p := ⟨gm, j * 3 + 2, none⟩) gml.2).trans ((owns_below OM.out HR.out).cellAt (j * 3 + 2) (by omega))).trans e2
          have f0 := HF.out (j * 3)
          have f1 := HF.out (j * 3 + 1)
          have f2 := HF.out (j * 3 + 2)
          generalize rune s j = z0 at l0 m0
          generalize ((pos s j : Nat) : Int) = z1 at l1 m1
          generalize ((pos s (j + 1) : Nat) : Int) = z2 at l2 m2
          clear e0 e1 e2
          go_wp2_with fail
          go_quiet (fail)
          go_wp2
          go_roundw
          case rel =>
            refine ⟨j + 1, by omega, by go_num, hid ?_, hid (fun x h1 h2 => ?_), hid (fun x => ?_)⟩
            · exact (((HS.out.trans (below_draws _ _ _)).setCell (by show _ ≤ gl; omega) _).setCell (by show _ ≤ gl; omega) _).setCell (by show _ ≤ gl; omega) _
            · rw [cell_set_other _ _ _ _ _ (by omega), cell_set_other _ _ _ _ _ (by omega), cell_set_other _ _ _ _ _ (by omega)]
              exact HX.out x (by omega) h2
            · simpa using HF.out x
          case measure => simp [intOf]; omega
        · go_wp2
          go_roundw
          case rel => exact ⟨k + 1, by omega, by go_num, hid (HR.out.trans (HS.out.mono HR.out.size))⟩
          case measure => simp [intOf]; omega
    · go_wp2
      go_ret
      exact ⟨rfl, HB1.out.trans (HR.out.mono HB1.out.size)⟩

theorem runs : ∀ (s : ByteArray), ∃ n, Dec.Ends s n := by
  intro s
  have key : ∀ f k, s.size - pos s k ≤ f → pos s k ≤ s.size → (∀ j, j < k → pos s j < s.size) → ∃ n, Dec.Ends s n := by
    intro f
    induction f with
    | zero => intro k h1 h2 h3; exact ⟨k, by omega, h3⟩
    | succ f ih =>
      intro k h1 h2 h3
      by_cases hlt : pos s k < s.size
      · have h4 := pos_lt_succ s k
        have h5 := width_le s (pos s k) hlt
        refine ih (k + 1) (by omega) h5 (fun j hj => ?_)
        rcases Nat.lt_or_eq_of_le (Nat.le_of_lt_succ hj) with h | h
        · exact h3 j h
        · rw [h]; exact hlt
      · exact ⟨k, by omega, h3⟩
  exact key s.size 0 (Nat.sub_le _ _) (Nat.zero_le _) (fun j hj => absurd hj (Nat.not_lt_zero _))
/-- THE LAW Decodes, of any text. -/
theorem decodes_any (s : ByteArray) (w : World) (hT : Lib.Utf8Tabs 1 2 w) :
    Calls Tryd.prog 3 #[.string s] w fun e w' => e = .returned (.bool true) ∧ Below w.heap.size w w' := by
  by_cases hs : s.size ≤ 4096
  · obtain ⟨n, hn⟩ := runs s
    cases n with
    | zero => exact decodes_nil s w hs hT hn
    | succ m => exact decodes_pos s w hs hT m hn
  · exact (decodes_long s w (by omega)).mono fun e w' h => ⟨h.1, h.2 ▸ Below.refl _ _⟩
end Go.Proofs.YtnakejhohdbfdaaDoor
