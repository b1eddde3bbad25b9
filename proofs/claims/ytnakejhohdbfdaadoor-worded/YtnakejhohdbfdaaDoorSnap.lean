/- Going to a boundary: the program's way and the document's, walked. -/
import Derived.Test.YtnakejhohdbfdaaDoorShelf
import Derived.Test.YtnakejhohdbfdaaDoorRefBnd
import Derived.WalkLawsBesides
namespace Go.Proofs.YtnakejhohdbfdaaDoor
open Go.RowKit Dec Kin Bnd

theorem ints_at {l : List Int} {j : Nat} (h : j < l.length) : (ints64 l)[j]? = some (.int .i64 (l.getD j 0)) := by
  rw [ints64, List.getElem?_map, List.getElem?_eq_getElem h]
  simp [List.getD, h]

theorem search35 (l : List Int) (z : Int) (hr : Rises l z) (x : Int) (k g cap : Nat) (w : World) (hc : Cut l x k) (hl : l.length ≤ 1000002) (hcell : ∀ j, j < l.length → w.cell? ⟨g, j, none⟩ = some (.int .i64 (l.getD j 0))) :
    Calls Tryd.prog 49 #[.slice (some ⟨g, 0, none⟩) l.length cap, .int .i64 x] w fun e w' => e = .returned (.tuple #[.int .i64 (k : Nat), .bool (l.contains x)]) ∧ ∃ q, w' = w.drewN q := by
  have h := Any.slices_BinarySearch_int Tryd.laysNm225 g 0 l.length cap l x w (Nat.le_refl _) (by omega) (fun j hj => by rw [Nat.zero_add]; exact hcell j hj)
    (by rw [List.take_length]; exact hr.sorted.imp fun h => Int.le_of_lt h)
  rw [List.take_length] at h
  have e : l.countP (fun y => decide (y < x)) = k := cut_count hc
  rw [e] at h
  exact h

set_option maxHeartbeats 2000000 in
theorem fn35_any (l : List Int) (z : Int) (hr : Rises l z) (off : Int) (up : Bool) (k g cap : Nat) (w : World) (hz : 0 ≤ z) (hc : Cut l (min (max off 0) z) k) (hl : l.length ≤ 1000002) (hcell : ∀ j, j < l.length → w.cell? ⟨g, j, none⟩ = some (.int .i64 (l.getD j 0))) :
    Calls Tryd.prog 41 #[.slice (some ⟨g, 0, none⟩) l.length cap, .int .i64 off, .bool up] w fun e w' => e = .returned (.int .i64 (snapL l (min (max off 0) z) up k)) ∧ ∃ q, w' = w.drewN q := by
  have HR := hide hr
  have HCUT := hide hc
  have hk := hr.cut_lt hc (by omega)
  have hx0 : 0 ≤ min (max off 0) z := by omega
  have HX0 := hide hx0
  have HCELL := hide hcell
  have hkI : (k : Int) < (l.length : Int) := by omega
  obtain ⟨d, hd⟩ : ∃ d, l.length = d + 1 := ⟨l.length - 1, by omega⟩
  have hzc : w.cell? ⟨g, d, none⟩ = some (.int .i64 z) := by
    rw [hcell d (by omega), List.getD, show d = l.length - 1 by omega, hr.last]; rfl
  have hdI : (l.length : Int) - 1 = (d : Int) := by omega
  have hdlt : (d : Int) < (l.length : Int) := by omega
  generalize hsn : snapL l (min (max off 0) z) up k = sn
  have HSN := hide hsn
  clear hr hc hcell hx0 hsn hd
  go_enter Tryd.func41, Tryd.ntmps41
  go_wp2_with fail
  refine (search35 l _ HR.out _ k g cap w HCUT.out (by omega) HCELL.out).mono ?_
  rintro e w2 ⟨rfl, q, rfl⟩
  clear hzc hdI hdlt
  cases hct : l.contains (min (max off 0) z)
  · have hk0 := HR.out.cut_pos HCUT.out HX0.out hct
    cases up
    · have E : l.getD (k - 1) 0 = sn := by rw [← HSN.out]; unfold snapL; rw [hct]; rfl
      obtain ⟨r, hr⟩ : ∃ r, k = r + 1 := ⟨k - 1, by omega⟩
      subst hr
      have c := HCELL.out r (by omega)
      rw [show r + 1 - 1 = r by omega] at E
      rw [E] at c
      have hri : (r : Int) < (l.length : Int) := by omega
      clear E hct hkI
      go_wp2
      go_ret
      exact ⟨rfl, q, rfl⟩
    · have E : l.getD k 0 = sn := snap_up.symm.trans HSN.out
      have c := HCELL.out k hk
      rw [E] at c
      clear E hct
      go_wp2
      go_ret
      exact ⟨rfl, q, rfl⟩
  · have E : l.getD k 0 = sn := by rw [← HSN.out]; unfold snapL; rw [hct]; rfl
    have c := HCELL.out k hk
    rw [E] at c
    clear E hct
    go_wp2
    go_ret
    exact ⟨rfl, q, rfl⟩
set_option maxHeartbeats 2000000 in
theorem fn26_any (s : ByteArray) (off : Int) (up : Bool) (w : World) (hs : s.size ≤ 1000000) (ht : TabAt w 0 Tabs.kindTab) (n k : Nat) (hend : Dec.Ends s n) (hc : Cut (bnd s n) (min (max off 0) ((s.size : Nat) : Int)) k) :
    Calls Tryd.prog 29 #[.string s, .int .i64 off, .bool up] w fun e w' => e = .returned (.int .i64 (snapL (bnd s n) (min (max off 0) ((s.size : Nat) : Int)) up k)) ∧ Below w.heap.size w w' := by
  have HR := hide (rises_bnd hend)
  have HCUT := hide hc
  have hlen := bnd_len s n
  have hl0 := HR.out.len
  have hns : n ≤ s.size := by have := le_pos s n; have := hend.1; omega
  have CB : Hid (Calls Tryd.prog 28 #[.string s] w fun e w' => ∃ v, e = .returned v ∧ w'.ownsRow w.heap.size 3 1 v (bnd s n).length (ints64 (bnd s n)) ∧ Below w.heap.size w w') :=
    (fn25_any s w hs ht).mono fun e w' ⟨n1, v, h1, h2, h3, h4⟩ => by
      obtain rfl := ends_unique hend h1
      exact ⟨v, h2, h3, h4⟩
  have hz0 : (0 : Int) ≤ ((s.size : Nat) : Int) := by omega
  have HZ0 := hide hz0
  clear ht hend hc hz0
  generalize bnd s n = l at *
  generalize hz : ((s.size : Nat) : Int) = z at *
  generalize hsn : snapL l (min (max off 0) z) up k = sn
  have HSN := hide hsn
  clear hsn
  go_enter Tryd.func29, Tryd.ntmps29
  go_wp2_with fail
  refine CB.out.mono ?_
  rintro e w1 ⟨v, rfl, own1, hb1⟩
  obtain ⟨g, cap, hv⟩ := owns_shape_pos (by omega) own1
  subst hv
  have HO := hide own1
  have HB := hide hb1
  clear own1 hb1 CB
  have HCELL : Hid (∀ j, j < l.length → w1.cell? ⟨g, j, none⟩ = some (.int .i64 (l.getD j 0))) := fun j hj => (HO.out.cellAt j (by omega)).trans (ints_at hj)
  go_wp2_with fail
  refine (fn35_any l _ HR.out off up k g cap w1 HZ0.out HCUT.out (by omega) HCELL.out).mono ?_
  rintro e w2 ⟨rfl, q, rfl⟩
  go_wp2
  go_ret
  have E := HSN.out
  subst E
  exact ⟨rfl, HB.out.trans (below_draws _ _ _)⟩
set_option maxHeartbeats 400000 in
theorem fn18_any (s : ByteArray) (off : Int) (up : Bool) (w : World) (hs : s.size ≤ 1000000) (ht : TabAt w 0 Tabs.kindTab) (n k : Nat) (hend : Dec.Ends s n) (hc : Cut (bnd s n) (min (max off 0) ((s.size : Nat) : Int)) k) :
    Calls Tryd.prog 19 #[.string s, .int .i64 off, .bool up] w fun e w' => e = .returned (.int .i64 (snapL (bnd s n) (min (max off 0) ((s.size : Nat) : Int)) up k)) ∧ Below w.heap.size w w' := by
  have h := fn26_any s off up w hs ht n k hend hc
  clear ht hend hc
  generalize snapL (bnd s n) (min (max off 0) ((s.size : Nat) : Int)) up k = v at h ⊢
  go_enter Tryd.func19, Tryd.ntmps19
  go_wp2_with (go_at_call 29; refine h.mono ?_; rintro e w' ⟨rfl, hb⟩)
  go_ret
  exact ⟨rfl, hb⟩

set_option maxHeartbeats 4000000 in
theorem ref19_low (s : ByteArray) (off : Int) (up : Bool) (w : World) (hs : s.size ≤ 1000000) (hT : Lib.Utf8Tabs 1 2 w) (n k : Nat) (hend : Dec.Ends s n) (hx : off < 0) (hc : Cut (bnd s n) 0 k) :
    Calls Tryd.prog 20 #[.string s, .int .i64 off, .bool up] w fun e w' => e = .returned (.int .i64 (snapL (bnd s n) 0 up k)) ∧ Below w.heap.size w w' := by
  have CB := hide (ref15_any s w hs hT n hend)
  have HR := hide (rises_bnd hend)
  have HCUT := hide hc
  have hk := HR.out.cut_lt hc (by omega)
  have hlen := bnd_len s n
  have hns : n ≤ s.size := by have := le_pos s n; have := hend.1; omega
  generalize hsn : snapL (bnd s n) 0 up k = sn
  have HSN := hide hsn
  clear hT hend hc hsn
  generalize bnd s n = l at *
  go_enter Tryd.func20, Tryd.ntmps20
  go_wp2_with fail
  refine CB.out.mono ?_
  rintro e w1 ⟨v, rfl, own1, hb1⟩
  obtain ⟨g, cap, hv⟩ := owns_shape_pos (by omega) own1
  subst hv
  have HO := hide own1
  have HB := hide hb1
  clear own1 hb1 CB
  have HCELL : Hid (∀ j, j < l.length → w1.cell? ⟨g, j, none⟩ = some (.int .i64 (l.getD j 0))) := fun j hj => (HO.out.cellAt j (by omega)).trans (ints_at hj)
  go_wp2_with fail
  go_loop [8, 9] (fun b i => ∃ j : Nat, j ≤ l.length ∧ i = .int .i64 j ∧ b = .int .i64 (best l 0 j)) (fun _ i => l.length - (intOf i).toNat)
  case atStart => exact ⟨0, Nat.zero_le _, rfl, rfl⟩
  case round =>
    obtain ⟨j, hj, rfl, rfl⟩ := hrel
    by_cases hjl : j < l.length
    · have c := HCELL.out j hjl
      by_cases hle : l.getD j 0 ≤ 0
      · have HBS : Hid (best l 0 (j + 1) = l.getD j 0) := by rw [best, if_pos hle]; rfl
        generalize l.getD j 0 = y at c hle HBS
        generalize best l 0 j = b0
        go_wp2
        go_round
        case rel => exact ⟨j + 1, by omega, by go_num, by rw [HBS.out]⟩
        case measure => simp [intOf]; omega
      · have HBS : Hid (best l 0 (j + 1) = best l 0 j) := by rw [best, if_neg hle]; rfl
        generalize l.getD j 0 = y at c hle
        generalize best l 0 j = b0 at HBS
        go_wp2
        go_round
        case rel => exact ⟨j + 1, by omega, by go_num, by rw [HBS.out]⟩
        case measure => simp [intOf]; omega
    · obtain rfl : j = l.length := by omega
      generalize hb0 : best l 0 l.length = b0
      have HB0 := hide hb0
      clear hb0
      cases up
      · have E : b0 = sn := HB0.out.symm.trans ((snap_down HR.out HCUT.out (by omega)).trans HSN.out)
        subst E
        go_wp2
        go_ret
        exact ⟨rfl, HB.out⟩
      · by_cases hbx : b0 = 0
        · have E : b0 = sn := by rw [hbx]; exact (snap_same HR.out HCUT.out (by omega) (HB0.out.trans hbx)).symm.trans HSN.out
          subst E
          have hbb : (b0 == 0) = true := by rw [hbx]; simp
          clear hbx
          go_wp2
          go_ret
          exact ⟨rfl, HB.out⟩
        · have hbb : (b0 == 0) = false := beq_eq_false_iff_ne.2 hbx
          have E : l.getD k 0 = sn := snap_up.symm.trans HSN.out
          have HE := hide E
          clear E hbx
          go_wp2_with fail
          go_loop [10] (fun i => ∃ j : Nat, j ≤ k ∧ i = .int .i64 j) (fun i => k + 1 - (intOf i).toNat)
          case atStart => exact ⟨0, Nat.zero_le _, rfl⟩
          case round =>
            obtain ⟨j, hjk, rfl⟩ := hrel
            have hjl2 : j < l.length := by omega
            have c := HCELL.out j hjl2
            by_cases hlt : j < k
            · have hy := HCUT.out.2.1 j hlt
              generalize l.getD j 0 = y at c hy
              go_wp2
              go_round
              case rel => exact ⟨j + 1, by omega, by go_num⟩
              case measure => simp [intOf]; omega
            · obtain rfl : j = k := by omega
              have hy := HCUT.out.2.2 j (Nat.le_refl _) hjl2
              rw [HE.out] at c hy
              go_wp2
              go_ret
              exact ⟨rfl, HB.out⟩

set_option maxHeartbeats 4000000 in
theorem ref19_mid (s : ByteArray) (off : Int) (up : Bool) (w : World) (hs : s.size ≤ 1000000) (hT : Lib.Utf8Tabs 1 2 w) (n k : Nat) (hend : Dec.Ends s n) (hx : 0 ≤ off) (hx2 : off ≤ (s.size : Int)) (hc : Cut (bnd s n) off k) :
    Calls Tryd.prog 20 #[.string s, .int .i64 off, .bool up] w fun e w' => e = .returned (.int .i64 (snapL (bnd s n) off up k)) ∧ Below w.heap.size w w' := by
  have CB := hide (ref15_any s w hs hT n hend)
  have HR := hide (rises_bnd hend)
  have HCUT := hide hc
  have hk := HR.out.cut_lt hc (by omega)
  have hlen := bnd_len s n
  have hns : n ≤ s.size := by have := le_pos s n; have := hend.1; omega
  generalize hsn : snapL (bnd s n) off up k = sn
  have HSN := hide hsn
  clear hT hend hc hsn
  generalize bnd s n = l at *
  go_enter Tryd.func20, Tryd.ntmps20
  go_wp2_with fail
  refine CB.out.mono ?_
  rintro e w1 ⟨v, rfl, own1, hb1⟩
  obtain ⟨g, cap, hv⟩ := owns_shape_pos (by omega) own1
  subst hv
  have HO := hide own1
  have HB := hide hb1
  clear own1 hb1 CB
  have HCELL : Hid (∀ j, j < l.length → w1.cell? ⟨g, j, none⟩ = some (.int .i64 (l.getD j 0))) := fun j hj => (HO.out.cellAt j (by omega)).trans (ints_at hj)
  go_wp2_with fail
  go_loop [8, 9] (fun b i => ∃ j : Nat, j ≤ l.length ∧ i = .int .i64 j ∧ b = .int .i64 (best l off j)) (fun _ i => l.length - (intOf i).toNat)
  case atStart => exact ⟨0, Nat.zero_le _, rfl, rfl⟩
  case round =>
    obtain ⟨j, hj, rfl, rfl⟩ := hrel
    by_cases hjl : j < l.length
    · have c := HCELL.out j hjl
      by_cases hle : l.getD j 0 ≤ off
      · have HBS : Hid (best l off (j + 1) = l.getD j 0) := by rw [best, if_pos hle]; rfl
        generalize l.getD j 0 = y at c hle HBS
        generalize best l off j = b0
        go_wp2
        go_round
        case rel => exact ⟨j + 1, by omega, by go_num, by rw [HBS.out]⟩
        case measure => simp [intOf]; omega
      · have HBS : Hid (best l off (j + 1) = best l off j) := by rw [best, if_neg hle]; rfl
        generalize l.getD j 0 = y at c hle
        generalize best l off j = b0 at HBS
        go_wp2
        go_round
        case rel => exact ⟨j + 1, by omega, by go_num, by rw [HBS.out]⟩
        case measure => simp [intOf]; omega
    · obtain rfl : j = l.length := by omega
      generalize hb0 : best l off l.length = b0
      have HB0 := hide hb0
      clear hb0
      cases up
      · have E : b0 = sn := HB0.out.symm.trans ((snap_down HR.out HCUT.out (by omega)).trans HSN.out)
        subst E
        go_wp2
        go_ret
        exact ⟨rfl, HB.out⟩
      · by_cases hbx : b0 = off
        · have E : b0 = sn := by rw [hbx]; exact (snap_same HR.out HCUT.out (by omega) (HB0.out.trans hbx)).symm.trans HSN.out
          subst E
          have hbb : (b0 == off) = true := by rw [hbx]; simp
          clear hbx
          go_wp2
          go_ret
          exact ⟨rfl, HB.out⟩
        · have hbb : (b0 == off) = false := beq_eq_false_iff_ne.2 hbx
          have E : l.getD k 0 = sn := snap_up.symm.trans HSN.out
          have HE := hide E
          clear E hbx
          go_wp2_with fail
          go_loop [10] (fun i => ∃ j : Nat, j ≤ k ∧ i = .int .i64 j) (fun i => k + 1 - (intOf i).toNat)
          case atStart => exact ⟨0, Nat.zero_le _, rfl⟩
          case round =>
            obtain ⟨j, hjk, rfl⟩ := hrel
            have hjl2 : j < l.length := by omega
            have c := HCELL.out j hjl2
            by_cases hlt : j < k
            · have hy := HCUT.out.2.1 j hlt
              generalize l.getD j 0 = y at c hy
              go_wp2
              go_round
              case rel => exact ⟨j + 1, by omega, by go_num⟩
              case measure => simp [intOf]; omega
            · obtain rfl : j = k := by omega
              have hy := HCUT.out.2.2 j (Nat.le_refl _) hjl2
              rw [HE.out] at c hy
              go_wp2
              go_ret
              exact ⟨rfl, HB.out⟩

set_option maxHeartbeats 4000000 in
theorem ref19_high (s : ByteArray) (off : Int) (up : Bool) (w : World) (hs : s.size ≤ 1000000) (hT : Lib.Utf8Tabs 1 2 w) (n k : Nat) (hend : Dec.Ends s n) (hx : (s.size : Int) < off) (hc : Cut (bnd s n) (s.size : Int) k) :
    Calls Tryd.prog 20 #[.string s, .int .i64 off, .bool up] w fun e w' => e = .returned (.int .i64 (snapL (bnd s n) (s.size : Int) up k)) ∧ Below w.heap.size w w' := by
  have CB := hide (ref15_any s w hs hT n hend)
  have HR := hide (rises_bnd hend)
  have HCUT := hide hc
  have hk := HR.out.cut_lt hc (by omega)
  have hlen := bnd_len s n
  have hns : n ≤ s.size := by have := le_pos s n; have := hend.1; omega
  generalize hsn : snapL (bnd s n) (s.size : Int) up k = sn
  have HSN := hide hsn
  clear hT hend hc hsn
  generalize bnd s n = l at *
  go_enter Tryd.func20, Tryd.ntmps20
  go_wp2_with fail
  refine CB.out.mono ?_
  rintro e w1 ⟨v, rfl, own1, hb1⟩
  obtain ⟨g, cap, hv⟩ := owns_shape_pos (by omega) own1
  subst hv
  have HO := hide own1
  have HB := hide hb1
  clear own1 hb1 CB
  have HCELL : Hid (∀ j, j < l.length → w1.cell? ⟨g, j, none⟩ = some (.int .i64 (l.getD j 0))) := fun j hj => (HO.out.cellAt j (by omega)).trans (ints_at hj)
  go_wp2_with fail
  go_loop [8, 9] (fun b i => ∃ j : Nat, j ≤ l.length ∧ i = .int .i64 j ∧ b = .int .i64 (best l (s.size : Int) j)) (fun _ i => l.length - (intOf i).toNat)
  case atStart => exact ⟨0, Nat.zero_le _, rfl, rfl⟩
  case round =>
    obtain ⟨j, hj, rfl, rfl⟩ := hrel
    by_cases hjl : j < l.length
    · have c := HCELL.out j hjl
      by_cases hle : l.getD j 0 ≤ (s.size : Int)
      · have HBS : Hid (best l (s.size : Int) (j + 1) = l.getD j 0) := by rw [best, if_pos hle]; rfl
        generalize l.getD j 0 = y at c hle HBS
        generalize best l (s.size : Int) j = b0
        go_wp2
        go_round
        case rel => exact ⟨j + 1, by omega, by go_num, by rw [HBS.out]⟩
        case measure => simp [intOf]; omega
      · have HBS : Hid (best l (s.size : Int) (j + 1) = best l (s.size : Int) j) := by rw [best, if_neg hle]; rfl
        generalize l.getD j 0 = y at c hle
        generalize best l (s.size : Int) j = b0 at HBS
        go_wp2
        go_round
        case rel => exact ⟨j + 1, by omega, by go_num, by rw [HBS.out]⟩
        case measure => simp [intOf]; omega
    · obtain rfl : j = l.length := by omega
      generalize hb0 : best l (s.size : Int) l.length = b0
      have HB0 := hide hb0
      clear hb0
      cases up
      · have E : b0 = sn := HB0.out.symm.trans ((snap_down HR.out HCUT.out (by omega)).trans HSN.out)
        subst E
        go_wp2
        go_ret
        exact ⟨rfl, HB.out⟩
      · by_cases hbx : b0 = (s.size : Int)
        · have E : b0 = sn := by rw [hbx]; exact (snap_same HR.out HCUT.out (by omega) (HB0.out.trans hbx)).symm.trans HSN.out
          subst E
          have hbb : (b0 == (s.size : Int)) = true := by rw [hbx]; simp
          clear hbx
          go_wp2
          go_ret
          exact ⟨rfl, HB.out⟩
        · have hbb : (b0 == (s.size : Int)) = false := beq_eq_false_iff_ne.2 hbx
          have E : l.getD k 0 = sn := snap_up.symm.trans HSN.out
          have HE := hide E
          clear E hbx
          go_wp2_with fail
          go_loop [10] (fun i => ∃ j : Nat, j ≤ k ∧ i = .int .i64 j) (fun i => k + 1 - (intOf i).toNat)
          case atStart => exact ⟨0, Nat.zero_le _, rfl⟩
          case round =>
            obtain ⟨j, hjk, rfl⟩ := hrel
            have hjl2 : j < l.length := by omega
            have c := HCELL.out j hjl2
            by_cases hlt : j < k
            · have hy := HCUT.out.2.1 j hlt
              generalize l.getD j 0 = y at c hy
              go_wp2
              go_round
              case rel => exact ⟨j + 1, by omega, by go_num⟩
              case measure => simp [intOf]; omega
            · obtain rfl : j = k := by omega
              have hy := HCUT.out.2.2 j (Nat.le_refl _) hjl2
              rw [HE.out] at c hy
              go_wp2
              go_ret
              exact ⟨rfl, HB.out⟩

theorem ref19_any (s : ByteArray) (off : Int) (up : Bool) (w : World) (hs : s.size ≤ 1000000) (hT : Lib.Utf8Tabs 1 2 w) (n k : Nat) (hend : Dec.Ends s n) (hc : Cut (bnd s n) (min (max off 0) ((s.size : Nat) : Int)) k) :
    Calls Tryd.prog 20 #[.string s, .int .i64 off, .bool up] w fun e w' => e = .returned (.int .i64 (snapL (bnd s n) (min (max off 0) ((s.size : Nat) : Int)) up k)) ∧ Below w.heap.size w w' := by
  by_cases h1 : off < 0
  · have e : min (max off 0) ((s.size : Nat) : Int) = 0 := by omega
    rw [e] at hc ⊢
    exact ref19_low s off up w hs hT n k hend h1 hc
  · by_cases h2 : (s.size : Int) < off
    · have e : min (max off 0) ((s.size : Nat) : Int) = (s.size : Int) := by omega
      rw [e] at hc ⊢
      exact ref19_high s off up w hs hT n k hend h2 hc
    · have e : min (max off 0) ((s.size : Nat) : Int) = off := by omega
      rw [e] at hc ⊢
      exact ref19_mid s off up w hs hT n k hend (by omega) (by omega) hc
end Go.Proofs.YtnakejhohdbfdaaDoor
