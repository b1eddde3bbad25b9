/- The law Rows: Known at the ends of each row, and beside them. -/
import Derived.Test.YtnakejhohdbfdaaDoorKnownWalk
namespace Go.Proofs.YtnakejhohdbfdaaDoor
open Go.RowKit Tabs

theorem rowCells_length : ∀ l : List (Int × Int × Int), (rowCells l).length = l.length * 3
  | [] => rfl
  | x :: l => by
    have := rowCells_length l
    simp only [rowCells, List.length_cons, this]
    omega
theorem rowCells_append : ∀ l m : List (Int × Int × Int), rowCells l ++ rowCells m = rowCells (l ++ m)
  | [], _ => rfl
  | x :: l, m => by simp only [rowCells, List.cons_append, rowCells_append l m]
theorem rowCells_one : ∀ (l : List (Int × Int × Int)), ∀ u ∈ rowCells l, u.oneCell' = true
  | [], u, hu => by cases hu
  | x :: l, u, hu => by
    simp only [rowCells, List.mem_cons] at hu
    rcases hu with rfl | rfl | rfl | hu
    · rfl
    · rfl
    · rfl
    · exact rowCells_one l u hu
theorem info36 : (Tryd.prog.info? 36).map (fun i => (i.zero, i.size, i.bytes)) = some (some (.agg #[.int .i32 0, .int .i32 0, .int .i64 0]), 3, 16) := by kernel_rfl
def bothTab : List (Int × Int × Int) := classTab ++ kindTab
theorem len_both : bothTab.length = 108 := by decide

theorem tabObj_cell (w : World) (l : List (Int × Int × Int)) (o : Nat) : (w.alloc (tabObj l)).cell? ⟨w.heap.size, o, none⟩ = (rowCells l)[o]? := by
  show World.cell? { w with heap := w.heap.push (tabObj l) } _ = _
  simp [World.cell?, tabObj]
theorem tab_owns (w : World) (l : List (Int × Int × Int)) (h : l.length ≤ maxLen) : (w.alloc (tabObj l)).ownsRow w.heap.size 36 3 (.slice (some ⟨w.heap.size, 0, none⟩) l.length l.length) l.length (rowCells l) := by
  have := World.ownsRow_lit (base := w.heap.size) (e := 36) (size := 3) w (rowCells l).toArray l.length (Nat.le_refl _) h (by simp [rowCells_length])
  simpa [tabObj] using this

set_option maxHeartbeats 2000000 in
theorem rows_any (w : World) (h0 : TabAt w 0 kindTab) (h3 : TabAt w 3 lowTab) (h4 : TabAt w 4 highTab) :
    Calls Tryd.prog 5 #[] w fun e w' => e = .returned (.bool true) ∧ Below w.heap.size w w' := by
  have g4 := h4.lt (by rw [len_high]; decide)
  have KN := hide (fun r wx (hb : Below w.heap.size w wx) => known_any r wx (h0.below (by omega) hb) (h3.below (by omega) hb) (h4.below g4 hb))
  clear h0 h3 h4 g4
  have own1 := (tab_owns w classTab (by rw [len_class]; decide)).alloc (tabObj kindTab)
  rw [len_class] at own1
  have OWN := hide own1
  clear own1
  have NEWS : Hid (∀ j u, (rowCells kindTab)[j]? = some u → ((w.alloc (tabObj classTab)).alloc (tabObj kindTab)).cell? ((⟨w.heap.size + 1, 0, none⟩ : Addr).add j) = some u) := by
    intro j u hj
    have e : (w.alloc (tabObj classTab)).heap.size = w.heap.size + 1 := by simp
    rw [Addr.add_lit, Nat.zero_add, ← e]
    exact (tabObj_cell (w.alloc (tabObj classTab)) kindTab j).trans hj
  have hbel : Below w.heap.size w ((w.alloc (tabObj classTab)).alloc (tabObj kindTab)) := ((Below.refl _ _).alloc (Nat.le_refl _) _).alloc (by simp) _
  have HB := hide hbel
  clear hbel
  obtain ⟨i0, hi, hz0, hz1, hz2⟩ := info_parts info36
  go_enter Tryd.func5, Tryd.ntmps5
  go_wp2_with (first
    | (go_at_call 14; refine (classes_any _).mono ?_; rintro e w' ⟨rfl, rfl⟩)
    | (go_at_call 15; refine (kinds_any _).mono ?_; rintro e w' ⟨rfl, rfl⟩)
    | (at_builtin; refine wpList_append_own _ rfl _ _ 33 rfl w.heap.size 36 i0 _ 3 16 Tryd.underlying33 hi hz0 hz1 hz2 rfl (by decide) _ _ _ rfl OWN.out ⟨w.heap.size + 1, 0, none⟩ 33 33 (rowCells kindTab) rfl (by rw [rowCells_length, len_kind]) NEWS.out (rowCells_one kindTab) (by decide) (by decide) (by simp; omega) ?_))
  intro v' w3 own3 hgrow hne
  have hex : ∃ g cap, v' = .slice (some ⟨g, 0, none⟩) 108 cap := by
    rcases own3.2 with ⟨h, _⟩ | ⟨g, cap, cur, h, _⟩
    · exact absurd h (by simpa using hne)
    · exact ⟨g, cap, h⟩
  obtain ⟨g, cap, hv⟩ := hex
  rw [hv]
  rw [hv] at own3
  have hb3 : Below w.heap.size w w3 := HB.out.grown hgrow (by simp; omega) (by intro k hk; simp [Value.ownBlock] at hk; omega)
  have gl := own3.lt g rfl
  have CE : Hid (∀ k, k < 108 → ∀ wx, Below w3.heap.size w3 wx → wx.cell? ⟨g, k * 3, none⟩ = some (.int .i32 (frm bothTab k)) ∧ wx.cell? ⟨g, k * 3 + 1, none⟩ = some (.int .i32 (til bothTab k))) := by
    intro k hk wx hb
    obtain ⟨c0, c1, _⟩ := rowCells_get bothTab k (by rw [len_both]; exact hk)
    rw [bothTab, ← rowCells_append] at c0 c1
    exact ⟨((hb.cell (p := ⟨g, k * 3, none⟩) gl.2).trans (own3.cellAt (k * 3) (by omega))).trans c0, ((hb.cell (p := ⟨g, k * 3 + 1, none⟩) gl.2).trans (own3.cellAt (k * 3 + 1) (by omega))).trans c1⟩
  have B3 := hide hb3
  clear hv hne own3 hgrow gl hb3 OWN NEWS HB hi hz0 hz1 hz2
  go_wp2
  go_loopw [3] (fun s3 wr => ∃ k : Nat, k ≤ 108 ∧ s3 = .int .i64 k ∧ Hid (Below w3.heap.size w3 wr)) (fun s3 _ => 108 - (intOf s3).toNat)
  case atStart => exact ⟨0, by omega, rfl, Below.refl _ _⟩
  case round =>
    obtain ⟨k, hk, rfl, HR⟩ := hrel
    by_cases hlt : k < 108
    · have hltd : decide ((k : Int) < 108) = true := by simp; omega
      go_wp2
      go_loopw [4] (fun s4 wr => ∃ d : Int, -1 ≤ d ∧ d ≤ 2 ∧ s4 = .int .i32 d ∧ Hid (Below w3.heap.size w3 wr)) (fun s4 _ => (2 - intOf s4).toNat)
      case atStart => exact ⟨-1, by omega, by omega, rfl, HR⟩
      case round =>
        obtain ⟨d, hd1, hd2, rfl, HS⟩ := hrel
        by_cases hd : d < 2
        · obtain ⟨c0, c1⟩ := CE.out k hlt _ HS.out
          clear c1
          generalize frm bothTab k = z0 at c0
          go_wp2_with fail
          refine (KN.out _ _ (B3.out.trans (HS.out.mono B3.out.size))).mono ?_
          rintro e wa ⟨rfl, hba⟩
          have hba2 : Below w3.heap.size w3 wa := HS.out.trans (hba.mono HS.out.size)
          have HS2 := hide hba2
          obtain ⟨c0', c1⟩ := CE.out k hlt wa hba2
          clear c0' hba hba2
          generalize til bothTab k = z1 at c1
          go_wp2_with fail
          refine (KN.out _ _ (B3.out.trans (HS2.out.mono B3.out.size))).mono ?_
          rintro e wb ⟨rfl, hbb⟩
          have hbb2 : Below w3.heap.size w3 wb := HS2.out.trans (hbb.mono HS2.out.size)
          have HS3 := hide hbb2
          clear hbb hbb2
          go_wp2
          go_roundw
          case rel => exact ⟨d + 1, by omega, by omega, by go_num, HS3⟩
          case measure => simp [intOf]; omega
        · go_wp2
          go_roundw
          case rel => exact ⟨k + 1, by omega, by go_num, HS⟩
          case measure => simp [intOf]; omega
    · go_wp2
      go_ret
      exact ⟨rfl, B3.out.trans (HR.out.mono B3.out.size)⟩
end Go.Proofs.YtnakejhohdbfdaaDoor
