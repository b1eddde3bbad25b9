/- Words: the document's list, walked. -/
import Derived.Test.YtnakejhohdbfdaaDoorWdB
namespace Go.Proofs.YtnakejhohdbfdaaDoor
open Go.RowKit Dec Kin Bnd Lay

theorem wdTo_skip {s : ByteArray} {n i : Nat} (h : 0 < i ∧ i + 1 < (bnd s n).length ∧ ltr s n (i - 1) = ltr s n i) : wdTo s n (i + 1) = wdTo s n i := by rw [wdTo, if_pos h]
theorem wdTo_add {s : ByteArray} {n i : Nat} (h : ¬ (0 < i ∧ i + 1 < (bnd s n).length ∧ ltr s n (i - 1) = ltr s n i)) : wdTo s n (i + 1) = wdTo s n i ++ [(bnd s n).getD i 0] := by rw [wdTo, if_neg h]
set_option maxHeartbeats 4000000 in
theorem ref21_any (s : ByteArray) (w : World) (hs : s.size ≤ 1000000) (hT : Lib.Utf8Tabs 1 2 w) (n : Nat) (hend : Dec.Ends s n) :
    Calls Tryd.prog 21 #[.string s] w fun e w' => ∃ v, e = .returned v ∧ w'.ownsRow w.heap.size 3 1 v (wd s n).length (ints64 (wd s n)) ∧ Below w.heap.size w w' := by
  obtain ⟨i0, hi, hz0, hz1, hz2⟩ := info_parts info3
  have C16 := hide (ref15_any s w hs hT n hend)
  have C30 := hide (fun (Y : World) (hb : Below w.heap.size w Y) => ref30_any s Y hs (tabs_below hT hb) n hend)
  have HE := hide hend
  have hbl := bnd_len hend
  have hns : n ≤ s.size := by have := le_pos s n; have := hend.1; omega
  have hcn : cn s n ≤ n := by have := (bix_len s n).1; unfold cn; omega
  rw [hbl] at C16
  obtain ⟨c, hc⟩ : ∃ c, c = cn s n := ⟨_, rfl⟩
  have HWD := hide (show wd s n = wdTo s n (c + 1) by rw [wd, hbl, hc])
  have HBL := hide (show (bnd s n).length = c + 1 by rw [hbl, hc])
  rw [← hc] at C16 C30 hcn
  have HC := hide hc
  have H31 := hide (fun (x : Int) (Y : World) => ref31_any x Y)
  clear hT hend hbl hc
  go_enter Tryd.func21, Tryd.ntmps21
  go_wp2_with fail
  refine C16.out.mono ?_
  rintro e w1 ⟨vb, rfl, own1, hb1⟩
  obtain ⟨gb, cb, hvb⟩ := owns_shape_pos (by omega) own1
  subst hvb
  have OB := hide own1
  have HB1 := hide hb1
  have C30b := hide (C30.out w1 hb1)
  clear own1 hb1 C16 C30
  go_wp2_with fail
  refine C30b.out.mono ?_
  rintro e w2 ⟨vk, rfl, own2, hb2⟩
  have OK := hide own2
  have HB2 := hide hb2
  have OB2 := hide (owns_below OB.out hb2)
  clear C30b own2 hb2 OB
  go_wp2_with fail
  go_loopw [5, 6] (fun v i wr => ∃ j : Nat, j ≤ c + 1 ∧ i = .int .i64 j ∧ Hid (wr.ownsRow w2.heap.size 3 1 v (wdTo s n j).length (ints64 (wdTo s n j))) ∧ Hid (Below w2.heap.size w2 wr)) (fun _ i _ => c + 1 - (intOf i).toNat)
  case atStart => exact ⟨0, Nat.zero_le _, rfl, hide (World.ownsRow_nil _ _ _ _), hide (Below.refl _ _)⟩
  case round =>
    obtain ⟨j, hj, rfl, HO, HB⟩ := hrel
    have hlen := wdTo_len s n j
    have gbl := owns_at OB2.out
    have hszr := HB.out.size
    by_cases hjc : j < c + 1
    · have hjI : (j : Int) < ((c + 1 : Nat) : Int) := by omega
      have cb0 := ((HB.out.cell (p := ⟨gb, j, none⟩) gbl.2).trans (OB2.out.cellAt j (by omega))).trans (bnd_cells HE.out (by rw [← HC.out]; omega))
      have HGD := hide (bnd_get HE.out (show j ≤ cn s n by rw [← HC.out]; omega))
      have HAD := hide (fun h => wdTo_add (s := s) (n := n) (i := j) h)
      have HSK := hide (fun h => wdTo_skip (s := s) (n := n) (i := j) h)
      rw [HGD.out] at HAD
      rw [HBL.out] at HAD HSK
      generalize ((pos s (nix (bix s n) j) : Nat) : Int) = p at *
      have HO2 := hide (HO.out.alloc (.cells #[.int .i64 p] 3))
      have HB2' := hide (HB.out.alloc hszr (.cells #[.int .i64 p] 3))
      clear HGD
      by_cases hmid : 0 < j ∧ j + 1 < c + 1
      · obtain ⟨hj0, hj1⟩ := hmid
        have hj0I : (0 : Int) < (j : Int) := by omega
        have hj1I : (j : Int) + 1 < ((c + 1 : Nat) : Int) := by omega
        have hwj : IntKind.i64.wrap ((j : Int) + 1) = (j : Int) + 1 := by rw [IntKind.wrap_i64]; omega
        obtain ⟨j1, hj1e⟩ : ∃ j1, j1 = j - 1 := ⟨_, rfl⟩
        have hwj1 : IntKind.i64.wrap ((j : Int) - 1) = (j1 : Int) := by rw [IntKind.wrap_i64]; omega
        obtain ⟨gk, ck, hvk⟩ := owns_shape_pos (by omega) OK.out
        subst hvk
        have gkl := owns_at OK.out
        have k0 := ((HB.out.cell (p := ⟨gk, j1, none⟩) gkl.2).trans (OK.out.cellAt j1 (by omega))).trans (kcs_at (s := s) (n := n) (show j1 < c by omega))
        have k1 := ((HB.out.cell (p := ⟨gk, j, none⟩) gkl.2).trans (OK.out.cellAt j (by omega))).trans (kcs_at (s := s) (n := n) (show j < c by omega))
        have HA := hide (fun Y : World => H31.out (kc s n j1) Y)
        have HBq := hide (fun Y : World => H31.out (kc s n j) Y)
        have HL0 := hide (show letB (kc s n j1) = ltr s n (j - 1) by rw [hj1e]; rfl)
        have HL1 := hide (show letB (kc s n j) = ltr s n j from rfl)
        rw [HL0.out] at HA
        rw [HL1.out] at HBq
        generalize kc s n j1 = x0 at *
        generalize kc s n j = x1 at *
        have hjcI : (j : Int) < (c : Int) := by omega
        have hj1cI : (j1 : Int) < (c : Int) := by omega
        clear hj1e HL0 HL1
        generalize ltr s n (j - 1) = l0 at *
        generalize ltr s n j = l1 at *
        by_cases hll : l0 = l1
        · subst hll
          have HST := hide (HSK.out ⟨hj0, hj1, rfl⟩)
          go_wp2_with fail
          refine (HA.out _).mono ?_
          rintro e wq ⟨rfl, rfl⟩
          go_wp2_with fail
          refine (HBq.out _).mono ?_
          rintro e wq ⟨rfl, rfl⟩
          go_wp2
          go_roundw
          case rel => exact ⟨j + 1, by omega, by go_num, hide (by rw [HST.out]; exact HO.out), HB⟩
          case measure => simp [intOf]; omega
        · have HST := hide (HAD.out (fun h => hll h.2.2))
          have hllb : (l0 == l1) = false := by simpa using hll
          go_wp2_with fail
          refine (HA.out _).mono ?_
          rintro e wq ⟨rfl, rfl⟩
          go_wp2_with fail
          refine (HBq.out _).mono ?_
          rintro e wq ⟨rfl, rfl⟩
          go_wp2_with (at_builtin; refine wpList_append_own _ rfl _ _ 38 rfl w2.heap.size 3 i0 _ 1 8 Tryd.underlying38 hi hz0 hz1 hz2 rfl (by decide) _ _ _ rfl HO2.out ⟨wq.heap.size, 0, none⟩ 1 1 [.int .i64 p] rfl rfl (cell_one_new _ _ _) (one_cell _) (by unfold maxLen; omega) (by omega) (by simp; omega) ?_)
          intro v' w4 own4 hgrow hnil
          have HO4 := hide own4
          have HB4 := hide (HB2'.out.grown hgrow (by simp; omega) (by intro x hx; exact (HO2.out.lt x hx).1))
          clear own4 hgrow hnil HO2 HB2'
          go_wp2
          go_roundw
          case rel => exact ⟨j + 1, by omega, by go_num, hide (by rw [HST.out, len_snoc, ← ints_snoc]; exact HO4.out), HB4⟩
          case measure => simp [intOf]; omega
      · have HST := hide (HAD.out (fun h => hmid ⟨h.1, h.2.1⟩))
        by_cases hj0 : 0 < j
        · have hj0I : (0 : Int) < (j : Int) := by omega
          have hj1I : ¬ (j : Int) + 1 < ((c + 1 : Nat) : Int) := by omega
          have hwj : IntKind.i64.wrap ((j : Int) + 1) = (j : Int) + 1 := by rw [IntKind.wrap_i64]; omega
          have hjd : decide ((j : Int) + 1 < ((c + 1 : Nat) : Int)) = false := by simpa using hj1I
          go_wp2_with (at_builtin; refine wpList_append_own _ rfl _ _ 38 rfl w2.heap.size 3 i0 _ 1 8 Tryd.underlying38 hi hz0 hz1 hz2 rfl (by decide) _ _ _ rfl HO2.out ⟨wr.heap.size, 0, none⟩ 1 1 [.int .i64 p] rfl rfl (cell_one_new _ _ _) (one_cell _) (by unfold maxLen; omega) (by omega) (by simp; omega) ?_)
          intro v' w4 own4 hgrow hnil
          have HO4 := hide own4
          have HB4 := hide (HB2'.out.grown hgrow (by simp; omega) (by intro x hx; exact (HO2.out.lt x hx).1))
          clear own4 hgrow hnil HO2 HB2'
          go_wp2
          go_roundw
          case rel => exact ⟨j + 1, by omega, by go_num, hide (by rw [HST.out, len_snoc, ← ints_snoc]; exact HO4.out), HB4⟩
          case measure => simp [intOf]; omega
        · obtain rfl : j = 0 := by omega
          go_wp2_with (at_builtin; refine wpList_append_own _ rfl _ _ 38 rfl w2.heap.size 3 i0 _ 1 8 Tryd.underlying38 hi hz0 hz1 hz2 rfl (by decide) _ _ _ rfl HO2.out ⟨wr.heap.size, 0, none⟩ 1 1 [.int .i64 p] rfl rfl (cell_one_new _ _ _) (one_cell _) (by unfold maxLen; omega) (by omega) (by simp; omega) ?_)
          intro v' w4 own4 hgrow hnil
          have HO4 := hide own4
          have HB4 := hide (HB2'.out.grown hgrow (by simp; omega) (by intro x hx; exact (HO2.out.lt x hx).1))
          clear own4 hgrow hnil HO2 HB2'
          go_wp2
          go_roundw
          case rel => exact ⟨0 + 1, by omega, by go_num, hide (by rw [HST.out, len_snoc, ← ints_snoc]; exact HO4.out), HB4⟩
          case measure => simp [intOf]
    · obtain rfl : j = c + 1 := by omega
      have hjI : ¬ ((c + 1 : Nat) : Int) < ((c + 1 : Nat) : Int) := by omega
      go_wp2
      go_ret
      refine ⟨_, rfl, ?_, ?_⟩
      · rw [HWD.out]; exact owns_low HO.out (by have := HB1.out.size; have := HB2.out.size; omega)
      · have h1 := HB1.out.size
        exact (HB1.out.trans (HB2.out.mono h1)).trans (HB.out.mono (by have := HB2.out.size; omega))
end Go.Proofs.YtnakejhohdbfdaaDoor
