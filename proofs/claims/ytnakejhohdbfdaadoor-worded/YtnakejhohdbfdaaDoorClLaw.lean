/- The law Clustered. -/
import Derived.Test.YtnakejhohdbfdaaDoorSnap
namespace Go.Proofs.YtnakejhohdbfdaaDoor
open Go.RowKit Dec Kin Bnd

set_option maxHeartbeats 1000000 in
theorem fn17_same (l : List Int) (ga ca gb cb : Nat) (w : World) (hl : l.length ≤ 1000002) (ha : ∀ j, j < l.length → w.cell? ⟨ga, j, none⟩ = some (.int .i64 (l.getD j 0))) (hb : ∀ j, j < l.length → w.cell? ⟨gb, j, none⟩ = some (.int .i64 (l.getD j 0))) :
    Calls Tryd.prog 18 #[.slice (some ⟨ga, 0, none⟩) l.length ca, .slice (some ⟨gb, 0, none⟩) l.length cb] w fun e w' => e = .returned (.bool true) ∧ ∃ q, w' = w.drewN q := by
  have HA := hide ha
  have HB := hide hb
  clear ha hb
  generalize hn : l.length = n at *
  clear hn
  go_enter Tryd.func18, Tryd.ntmps18
  go_wp2_with fail
  go_loopw [5] (fun i wr => ∃ j q : Nat, j ≤ n ∧ i = .int .i64 j ∧ wr = w.drewN q) (fun i _ => n - (intOf i).toNat)
  case atStart => exact ⟨0, 0, Nat.zero_le _, rfl, rfl⟩
  case round =>
    obtain ⟨j, q, hj, rfl, rfl⟩ := hrel
    by_cases hjn : j < n
    · have c1 : (w.drewN q).cell? ⟨ga, j, none⟩ = some (.int .i64 (l.getD j 0)) := HA.out j hjn
      have c2 : (w.drewN q).cell? ⟨gb, j, none⟩ = some (.int .i64 (l.getD j 0)) := HB.out j hjn
      have d1 := HA.out j hjn
      have d2 := HB.out j hjn
      have hjI : (j : Int) < (n : Int) := by omega
      generalize l.getD j 0 = y at c1 c2 d1 d2
      go_wp2_with fail
      go_quiet (fail)
      go_wp2
      go_roundw
      case rel => exact ⟨j + 1, _, by omega, by go_num, rfl⟩
      case measure => simp [intOf]; omega
    · go_wp2
      go_ret
      exact ⟨rfl, q, rfl⟩

set_option maxHeartbeats 400000 in
theorem fn16_any (s : ByteArray) (w : World) (hs : s.size ≤ 1000000) (ht : TabAt w 0 Tabs.kindTab) (n : Nat) (hend : Dec.Ends s n) :
    Calls Tryd.prog 17 #[.string s] w fun e w' => ∃ v, e = .returned v ∧ w'.ownsRow w.heap.size 3 1 v (bnd s n).length (ints64 (bnd s n)) ∧ Below w.heap.size w w' := by
  have CB := hide (fn25_any s w hs ht)
  have HE := hide hend
  clear ht hend
  go_enter Tryd.func17, Tryd.ntmps17
  go_wp2_with fail
  refine CB.out.mono ?_
  rintro e w1 ⟨n1, v, h1, rfl, own1, hb1⟩
  obtain rfl := ends_unique HE.out h1
  clear h1
  go_wp2
  go_ret
  exact ⟨v, rfl, own1, hb1⟩

set_option maxHeartbeats 400000 in
theorem clustered_long (s : ByteArray) (off : Int) (w : World) (hs : 4096 < s.size) :
    Calls Tryd.prog 6 #[.string s, .int .i64 off] w fun e w' => e = .returned (.bool true) ∧ w' = w := by
  have hs1 : (4096 : Int) < (s.size : Int) := by omega
  go_enter Tryd.func6, Tryd.ntmps6
  go_wp2
  go_ret
  exact ⟨rfl, rfl⟩

theorem rows_at {w : World} {base g cap : Nat} {l : List Int} (h : w.ownsRow base 3 1 (.slice (some ⟨g, 0, none⟩) l.length cap) l.length (ints64 l)) : ∀ j, j < l.length → w.cell? ⟨g, j, none⟩ = some (.int .i64 (l.getD j 0)) :=
  fun j hj => (h.cellAt j (by omega)).trans (ints_at hj)

set_option maxHeartbeats 4000000 in
theorem clustered_short (s : ByteArray) (off : Int) (w : World) (hs : s.size ≤ 4096) (hT : Lib.Utf8Tabs 1 2 w) (ht : TabAt w 0 Tabs.kindTab) (n k : Nat) (hend : Dec.Ends s n) (hc : Cut (bnd s n) (min (max off 0) ((s.size : Nat) : Int)) k) :
    Calls Tryd.prog 6 #[.string s, .int .i64 off] w fun e w' => e = .returned (.bool true) ∧ Below w.heap.size w w' := by
  have hs1 : ¬ (4096 : Int) < (s.size : Int) := by omega
  have h0 := ht.lt (by rw [Tabs.len_kind]; decide)
  have hlen := bnd_len s n
  have hns : n ≤ s.size := by have := le_pos s n; have := hend.1; omega
  have C15 := hide (ref15_any s w (by omega) hT n hend)
  have C16 := hide (fun wx (hb : Below w.heap.size w wx) => fn16_any s wx (by omega) (ht.below h0 hb) n hend)
  have C18 := hide (fun up wx (hb : Below w.heap.size w wx) => fn18_any s off up wx (by omega) (ht.below h0 hb) n k hend hc)
  have C19 := hide (fun up wx (hb : Below w.heap.size w wx) => ref19_any s off up wx (by omega) (tabs_below hT hb) n k hend hc)
  generalize snapL (bnd s n) (min (max off 0) ((s.size : Nat) : Int)) = sn at C18 C19
  clear hT ht hend hc h0
  generalize bnd s n = l at *
  go_enter Tryd.func6, Tryd.ntmps6
  go_wp2_with fail
  refine C15.out.mono ?_
  rintro e w1 ⟨vm, rfl, own1, hb1⟩
  obtain ⟨gm, cm, hvm⟩ := owns_shape_pos (by omega) own1
  subst hvm
  have OM := hide own1
  have HB1 := hide hb1
  clear C15 own1 hb1
  go_wp2_with fail
  go_loopw [6] (fun i wr => ∃ j : Nat, j ≤ 2 ∧ i = .int .i64 j ∧ Hid (Below w1.heap.size w1 wr)) (fun i _ => 2 - (intOf i).toNat)
  case atStart => exact ⟨0, by omega, rfl, hide (Below.refl _ _)⟩
  case round =>
    obtain ⟨j, hj, rfl, HR⟩ := hrel
    have HW := hide (HB1.out.trans (HR.out.mono HB1.out.size))
    by_cases hlt : j < 2
    · have hltd : decide ((j : Int) < 2) = true := by simp; omega
      go_wp2_with fail
      refine (C16.out _ HW.out).mono ?_
      rintro e w2 ⟨vl, rfl, own2, hb2⟩
      obtain ⟨gl, cl, hvl⟩ := owns_shape_pos (by omega) own2
      subst hvl
      have OL := hide own2
      have OM2 := hide (owns_below (owns_below OM.out HR.out) hb2)
      have HB2 := hide hb2
      have gll := owns_at own2
      clear own2 hb2
      go_wp2_with fail
      refine (fn17_same l gl cl gm cm w2 (by omega) (rows_at OL.out) (rows_at OM2.out)).mono ?_
      rintro e w3 ⟨rfl, q, rfl⟩
      go_wp2_with fail
      go_loopw [9] (fun i wx => ∃ t : Nat, t ≤ l.length ∧ i = .int .i64 t ∧ Hid (Below wr.heap.size wr wx) ∧ Hid (∀ x, x < l.length → ∃ y, wx.cell? ⟨gl, x, none⟩ = some y) ∧ Hid (∀ x, wx.frozen? ⟨gl, x, none⟩ = false)) (fun i _ => l.length - (intOf i).toNat)
      case atStart => exact ⟨0, Nat.zero_le _, rfl, hide (HB2.out.trans (below_draws _ _ _)), hide (fun x hx => ⟨_, rows_at OL.out x hx⟩), hide (fun x => OL.out.frozenAt x)⟩
      case round =>
        obtain ⟨t, ht, rfl, HS, HX, HF⟩ := hrel
        by_cases htl : t < l.length
        · obtain ⟨y, hy⟩ := HX.out t htl
          have hf := HF.out t
          have htI : (t : Int) < (l.length : Int) := by omega
          go_wp2
          go_roundw
          case rel =>
            refine ⟨t + 1, by omega, by go_num, hide (HS.out.setCell (by show _ ≤ gl; omega) _), hide (fun x hx => ?_), hide (fun x => ?_)⟩
            · obtain ⟨y2, hy2⟩ := HX.out x hx
              exact cell?_setCell_some hy2
            · simpa using HF.out x
          case measure => simp [intOf]; omega
        · go_wp2
          go_roundw
          case rel => exact ⟨j + 1, by omega, by go_num, hide (HR.out.trans (HS.out.mono HR.out.size))⟩
          case measure => simp [intOf]; omega
    · go_wp2_with fail
      refine (C18.out false _ HW.out).mono ?_
      rintro e wa ⟨rfl, hba⟩
      have HWa := hide (HW.out.trans (hba.mono HW.out.size))
      clear hba
      go_wp2_with fail
      refine (C19.out false _ HWa.out).mono ?_
      rintro e wb ⟨rfl, hbb⟩
      have HWb := hide (HWa.out.trans (hbb.mono HWa.out.size))
      clear hbb
      go_wp2_with fail
      refine (C18.out true _ HWb.out).mono ?_
      rintro e wc ⟨rfl, hbc⟩
      have HWc := hide (HWb.out.trans (hbc.mono HWb.out.size))
      clear hbc
      go_wp2_with fail
      refine (C19.out true _ HWc.out).mono ?_
      rintro e wd ⟨rfl, hbd⟩
      have HWd := hide (HWc.out.trans (hbd.mono HWc.out.size))
      clear hbd
      have e1 : (sn false k == sn false k) = true := by simp
      have e2 : (sn true k == sn true k) = true := by simp
      go_wp2
      go_ret
      exact ⟨rfl, HWd.out⟩
/-- THE LAW Clustered, of any text and offset. -/
theorem clustered_any (s : ByteArray) (off : Int) (w : World) (hT : Lib.Utf8Tabs 1 2 w) (ht : TabAt w 0 Tabs.kindTab) :
    Calls Tryd.prog 6 #[.string s, .int .i64 off] w fun e w' => e = .returned (.bool true) ∧ Below w.heap.size w w' := by
  by_cases hs : s.size ≤ 4096
  · obtain ⟨n, hn⟩ := runs s
    obtain ⟨k, hk⟩ := cut_exists (min (max off 0) ((s.size : Nat) : Int)) (bnd s n) (bnd_sorted hn)
    exact clustered_short s off w hs hT ht n k hn hk
  · exact (clustered_long s off w (by omega)).mono fun e w' h => ⟨h.1, h.2 ▸ Below.refl _ _⟩
end Go.Proofs.YtnakejhohdbfdaaDoor
