/- The law Worded, walked. -/
import Derived.Test.YtnakejhohdbfdaaDoorWdH
namespace Go.Proofs.YtnakejhohdbfdaaDoor
open Go.RowKit Dec Kin Bnd Lay

theorem wd_pos {s : ByteArray} {n : Nat} (h : Dec.Ends s n) : 0 < (wd s n).length := by
  rw [wd, bnd_len h, wdTo_add (by rw [bnd_len h]; omega), List.length_append, List.length_singleton]; omega
theorem wd_len {s : ByteArray} {n : Nat} (h : Dec.Ends s n) : (wd s n).length ≤ s.size + 1 := by
  have h1 := wdTo_len s n (bnd s n).length
  have h2 := bnd_len h
  have h3 := (bix_len s n).1
  have h4 := le_pos s n
  have h5 := h.1
  unfold cn at h2
  unfold wd
  omega
theorem fn22w_any (s : ByteArray) (w : World) (hs : s.size ≤ 1000000) (n : Nat) (hend : Dec.Ends s n) (hT : Lib.Utf8Tabs 1 2 w) (h0 : TabAt w 0 Tabs.kindTab) (h3 : TabAt w 3 Tabs.lowTab) (h4 : TabAt w 4 Tabs.highTab) :
    Calls Tryd.prog 22 #[.string s] w fun e w' => ∃ v, e = .returned v ∧ w'.ownsRow w.heap.size 3 1 v (wd s n).length (ints64 (wd s n)) ∧ Below w.heap.size w w' := by
  have CB := hide (fn32_any s w hs n hend hT h0 h3 h4)
  clear hend hT h0 h3 h4
  go_enter Tryd.func22, Tryd.ntmps22
  go_wp2_with fail
  refine CB.out.mono ?_
  rintro e w1 ⟨v, rfl, own1, hb1⟩
  go_wp2
  go_ret
  exact ⟨v, rfl, own1, hb1⟩
theorem worded_long (s : ByteArray) (w : World) (hs : 4096 < s.size) :
    Calls Tryd.prog 7 #[.string s] w fun e w' => e = .returned (.bool true) ∧ w' = w := by
  have hs1 : (4096 : Int) < (s.size : Int) := by omega
  go_enter Tryd.func7, Tryd.ntmps7
  go_wp2
  go_ret
  exact ⟨rfl, rfl⟩
set_option maxHeartbeats 4000000 in
theorem worded_short (s : ByteArray) (w : World) (hs : s.size ≤ 4096) (hT : Lib.Utf8Tabs 1 2 w) (h0 : TabAt w 0 Tabs.kindTab) (h3 : TabAt w 3 Tabs.lowTab) (h4 : TabAt w 4 Tabs.highTab) (n : Nat) (hend : Dec.Ends s n) :
    Calls Tryd.prog 7 #[.string s] w fun e w' => e = .returned (.bool true) ∧ Below w.heap.size w w' := by
  have hs1 : ¬ (4096 : Int) < (s.size : Int) := by omega
  have hlen := wd_len hend
  have hpos := wd_pos hend
  have C21 := hide (ref21_any s w (by omega) hT n hend)
  have C22 := hide (fun wx (hb : Below w.heap.size w wx) => fn22w_any s wx (by omega) n hend (tabs_below hT hb) (h0.below (h0.lt (by decide)) hb) (h3.below (h3.lt (by decide)) hb) (h4.below (h4.lt (by decide)) hb))
  clear hT h0 h3 h4 hend
  generalize wd s n = l at *
  go_enter Tryd.func7, Tryd.ntmps7
  go_wp2_with fail
  refine C21.out.mono ?_
  rintro e w1 ⟨vm, rfl, own1, hb1⟩
  obtain ⟨gm, cm, hvm⟩ := owns_shape_pos hpos own1
  subst hvm
  have OM := hide own1
  have HB1 := hide hb1
  clear C21 own1 hb1
  go_wp2_with fail
  go_loopw [4] (fun i wr => ∃ j : Nat, j ≤ 2 ∧ i = .int .i64 j ∧ Hid (Below w1.heap.size w1 wr)) (fun i _ => 2 - (intOf i).toNat)
  case atStart => exact ⟨0, by omega, rfl, hide (Below.refl _ _)⟩
  case round =>
    obtain ⟨j, hj, rfl, HR⟩ := hrel
    have HW := hide (HB1.out.trans (HR.out.mono HB1.out.size))
    by_cases hlt : j < 2
    · have hltd : decide ((j : Int) < 2) = true := by simp; omega
      go_wp2_with fail
      refine (C22.out _ HW.out).mono ?_
      rintro e w2 ⟨vl, rfl, own2, hb2⟩
      obtain ⟨gl, cl, hvl⟩ := owns_shape_pos hpos own2
      subst hvl
      have OL := hide own2
      have OM2 := hide (owns_below (owns_below OM.out HR.out) hb2)
      have HB2 := hide hb2
      have gll := owns_at own2
      clear own2 hb2
      go_wp2_with fail
      refine (fn17_same l gl cl gm cm w2 (by omega) (rows_at OL.out) (rows_at OM2.out)).mono ?_
      rintro e w3 ⟨rfl, q, rfl⟩
      go_wp2_with fail
      go_loopw [7] (fun i wx => ∃ t : Nat, t ≤ l.length ∧ i = .int .i64 t ∧ Hid (Below wr.heap.size wr wx) ∧ Hid (∀ x, x < l.length → ∃ y, wx.cell? ⟨gl, x, none⟩ = some y) ∧ Hid (∀ x, wx.frozen? ⟨gl, x, none⟩ = false)) (fun i _ => l.length - (intOf i).toNat)
      case atStart => exact ⟨0, Nat.zero_le _, rfl, hide (HB2.out.trans (below_draws _ _ _)), hide (fun x hx => ⟨_, rows_at OL.out x hx⟩), hide (fun x => OL.out.frozenAt x)⟩
      case round =>
        obtain ⟨t, ht, rfl, HS, HX, HF⟩ := hrel
        by_cases htl : t < l.length
        · obtain ⟨y, hy⟩ := HX.out t htl
          have hf := HF.out t
          have htI : (t : Int) < (l.length : Int) := by omega
          go_wp2
          go_roundw
          case rel =>
            refine ⟨t + 1, by omega, by go_num, hide (HS.out.setCell (by show _ ≤ gl; omega) _), hide (fun x hx => ?_), hide (fun x => ?_)⟩
            · obtain ⟨y2, hy2⟩ := HX.out x hx
              exact cell?_setCell_some hy2
            · simpa using HF.out x
          case measure => simp [intOf]; omega
        · go_wp2
          go_roundw
          case rel => exact ⟨j + 1, by omega, by go_num, hide (HR.out.trans (HS.out.mono HR.out.size))⟩
          case measure => simp [intOf]; omega
    · go_wp2
      go_ret
      exact ⟨rfl, HW.out⟩
/-- THE LAW Worded, of any text. -/
theorem worded_any (s : ByteArray) (w : World) (hT : Lib.Utf8Tabs 1 2 w) (h0 : TabAt w 0 Tabs.kindTab) (h3 : TabAt w 3 Tabs.lowTab) (h4 : TabAt w 4 Tabs.highTab) :
    Calls Tryd.prog 7 #[.string s] w fun e w' => e = .returned (.bool true) ∧ Below w.heap.size w w' := by
  by_cases hs : s.size ≤ 4096
  · obtain ⟨n, hn⟩ := runs s
    exact worded_short s w hs hT h0 h3 h4 n hn
  · exact (worded_long s w (by omega)).mono fun e w' h => ⟨h.1, h.2 ▸ Below.refl _ _⟩
end Go.Proofs.YtnakejhohdbfdaaDoor
