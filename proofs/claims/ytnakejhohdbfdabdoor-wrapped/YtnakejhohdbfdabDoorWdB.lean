/- Words: the document's, walked. -/
import Derived.Test.YtnakejhohdbfdabDoorWdA
namespace Go.Proofs.YtnakejhohdbfdabDoor
open Go.RowKit Dec Kin Bnd Lay

def kcs (s : ByteArray) (n i : Nat) : List Int := (List.range i).map (kc s n)
theorem kcs_snoc (s : ByteArray) (n i : Nat) : kcs s n (i + 1) = kcs s n i ++ [kc s n i] := by rw [kcs, List.range_succ, List.map_append]; rfl
theorem kcs_len (s : ByteArray) (n i : Nat) : (kcs s n i).length = i := by simp [kcs]
theorem kcs_at {s : ByteArray} {n m i : Nat} (h : i < m) : (ints64 (kcs s n m))[i]? = some (.int .i64 (kc s n i)) := by simp [ints64, kcs, h]
theorem pos_inj (s : ByteArray) {a b : Nat} (h : pos s a = pos s b) : a = b := by
  rcases Nat.lt_trichotomy a b with h1 | h1 | h1
  · have := pos_mono s _ _ h1; omega
  · exact h1
  · have := pos_mono s _ _ h1; omega
theorem bnd_cells {s : ByteArray} {n i : Nat} (h : Dec.Ends s n) (hi : i ≤ cn s n) : (ints64 (bnd s n))[i]? = some (.int .i64 ((pos s (nix (bix s n) i) : Nat) : Int)) := by
  rw [← bnd_get h hi, ints64, List.getElem?_map, List.getD, List.getElem?_eq_getElem (show i < (bnd s n).length by rw [bnd_len h]; omega)]; rfl
/-- The kinds so far, while the runes are looked through for cluster j. -/
def kin (s : ByteArray) (n j q : Nat) : List Int := kcs s n j ++ if nix (bix s n) j < q then [kc s n j] else []
theorem kin_eq (s : ByteArray) (n j q : Nat) : kin s n j q = kcs s n j ++ if nix (bix s n) j < q then [kc s n j] else [] := rfl
set_option maxHeartbeats 4000000 in
theorem ref30_any (s : ByteArray) (w : World) (hs : s.size ≤ 1000000) (hT : Lib.Utf8Tabs 0 1 w) (n : Nat) (hend : Dec.Ends s n) :
    Calls Tryd.prog 11 #[.string s] w fun e w' => ∃ v, e = .returned v ∧ w'.ownsRow w.heap.size 3 1 v (cn s n) (ints64 (kcs s n (cn s n))) ∧ Below w.heap.size w w' := by
  obtain ⟨i0, hi, hz0, hz1, hz2⟩ := info_parts info3
  have C16 := hide (ref15_any s w hs hT n hend)
  have C8 := hide (fun (Y : World) (hb : Below w.heap.size w Y) => ref7_any s Y hs (tabs_below hT hb))
  have HE := hide hend
  have hbl := bnd_len hend
  have hns : n ≤ s.size := by have := le_pos s n; have := hend.1; omega
  have hcn : cn s n ≤ n := by have := (bix_len s n).1; unfold cn; omega
  rw [hbl] at C16
  obtain ⟨c, hc⟩ : ∃ c, c = cn s n := ⟨_, rfl⟩
  rw [← hc] at C16 hcn ⊢
  have HC := hide hc
  clear hT hend hbl hc
  go_enter Tryd.func11, Tryd.ntmps11
  go_wp2_with fail
  refine C16.out.mono ?_
  rintro e w1 ⟨vb, rfl, own1, hb1⟩
  obtain ⟨gb, cb, hvb⟩ := owns_shape_pos (by omega) own1
  subst hvb
  have OB := hide own1
  have HB1 := hide hb1
  have C8b := hide (C8.out w1 hb1)
  clear own1 hb1 C16 C8
  go_wp2_with fail
  refine C8b.out.mono ?_
  rintro e w2 ⟨n2, vm, h2, rfl, own2, hb2, hn2⟩
  obtain rfl := ends_unique HE.out h2
  have OM := hide own2
  have HB2 := hide hb2
  have OB2 := hide (owns_below OB.out hb2)
  clear h2 C8b own2 hb2 hn2
  clear OB
  go_wp2_with fail
  go_loopw [5, 6] (fun v i wr => ∃ j : Nat, j ≤ c ∧ i = .int .i64 j ∧ Hid (wr.ownsRow w2.heap.size 3 1 v j (ints64 (kcs s n j))) ∧ Hid (Below w2.heap.size w2 wr)) (fun _ i _ => c - (intOf i).toNat)
  case atStart => exact ⟨0, Nat.zero_le _, rfl, hide (World.ownsRow_nil _ _ _ _), hide (Below.refl _ _)⟩
  case round =>
    obtain ⟨j, hj, rfl, HO, HB⟩ := hrel
    by_cases hjc : j < c
    · have hjI : (j : Int) + 1 < ((c + 1 : Nat) : Int) := by omega
      obtain ⟨gl, cl, hvm⟩ := owns_shape_pos (by omega) OM.out
      subst hvm
      have gll := owns_at OM.out
      have gbl := owns_at OB2.out
      have hw12 := HB2.out.size
      have hRI : nix (bix s n) j < n := ri_in (by rw [← HC.out]; exact hjc)
      have HCB : Hid (∀ Y, Below w2.heap.size w2 Y → Y.cell? ⟨gb, j, none⟩ = some (.int .i64 ((pos s (nix (bix s n) j) : Nat) : Int))) := fun Y hY => ((hY.cell (p := ⟨gb, j, none⟩) gbl.2).trans (OB2.out.cellAt j (by omega))).trans (bnd_cells HE.out (by rw [← HC.out]; exact hj))
      have HCR : Hid (∀ Y q, q < n → Below w2.heap.size w2 Y → Y.cell? ⟨gl, q * 3 + 1, none⟩ = some (.int .i64 ((pos s q : Nat) : Int)) ∧ Y.cell? ⟨gl, q * 3, none⟩ = some (.int .i32 (rune s q))) := fun Y q hq hY =>
        ⟨((hY.cell (p := ⟨gl, q * 3 + 1, none⟩) gll.2).trans (OM.out.cellAt (q * 3 + 1) (by omega))).trans (cells_get (s := s) hq).2.1, ((hY.cell (p := ⟨gl, q * 3, none⟩) gll.2).trans (OM.out.cellAt (q * 3) (by omega))).trans (cells_get (s := s) hq).1⟩
      generalize hri : nix (bix s n) j = ri at *
      have HRI := hide hri
      clear hri
      go_wp2_with fail
      go_loopw [5, 7] (fun v k wx => ∃ q : Nat, q ≤ n ∧ k = .int .i64 q ∧ Hid (wx.ownsRow w2.heap.size 3 1 v (kin s n j q).length (ints64 (kin s n j q))) ∧ Hid (Below w2.heap.size w2 wx)) (fun _ k _ => n - (intOf k).toNat)
      case atStart => exact ⟨0, Nat.zero_le _, rfl, hide (by rw [kin_eq, if_neg (Nat.not_lt_zero _), List.append_nil, kcs_len]; exact HO.out), HB⟩
      case round =>
        obtain ⟨q, hq, rfl, HX, HY⟩ := hrel
        have hlen : (kin s n j q).length ≤ c := by
          rw [kin_eq, List.length_append, kcs_len]
          split <;> simp <;> omega
        by_cases hqn : q < n
        · have hqI : (q : Int) < (n : Int) := by omega
          obtain ⟨c1, c0⟩ := HCR.out _ q hqn HY.out
          have c2 := HCB.out _ HY.out
          by_cases hqr : q = ri
          · subst hqr
            have HC11 := hide (fun Y : World => ref10_any (rune s q) Y)
            have HKC : Hid (Tabs.look Tabs.classTab (rune s q) = kc s n j) := by rw [kc, HRI.out]; exact rfl
            rw [HKC.out] at HC11
            have HST := hide (show kin s n j (q + 1) = kin s n j q ++ [kc s n j] by
              rw [kin_eq, kin_eq, HRI.out, if_pos (by omega), if_neg (by omega), List.append_nil])
            generalize kc s n j = kd at *
            generalize rune s q = r at *
            generalize ((pos s q : Nat) : Int) = p at *
            clear HKC
            go_wp2_with fail
            go_quiet (fail)
            go_wp2_with fail
            obtain ⟨wd, hwd⟩ : ∃ wd, wd = wr.drewN nq := ⟨_, rfl⟩
            have HXd := hide (show wd.ownsRow w2.heap.size 3 1 u5 (kin s n j q).length (ints64 (kin s n j q)) by rw [hwd]; exact HX.out)
            have HYd := hide (show Below w2.heap.size w2 wd by rw [hwd]; exact HY.out.trans (below_draws _ _ _))
            rw [← hwd]
            clear hwd c0 c1 c2
            refine (HC11.out wd).mono ?_
            rintro e w3 ⟨rfl, hb3⟩
            have HO3 := hide ((owns_below HXd.out hb3).alloc (.cells #[.int .i64 kd] 3))
            have HB3 := hide ((HYd.out.trans (hb3.mono HYd.out.size)).alloc (by have := HYd.out.size; have := hb3.size; omega) (.cells #[.int .i64 kd] 3))
            have hsz3 : w2.heap.size ≤ w3.heap.size := by have := HYd.out.size; have := hb3.size; omega
            clear hb3 HC11
            go_wp2_with (at_builtin; refine wpList_append_own _ rfl _ _ 22 rfl w2.heap.size 3 i0 _ 1 8 Tryd.underlying22 hi hz0 hz1 hz2 rfl (by decide) _ _ _ rfl HO3.out ⟨w3.heap.size, 0, none⟩ 1 1 [.int .i64 kd] rfl rfl (cell_one_new _ _ _) (one_cell _) (by unfold maxLen; omega) (by omega) (by simp; omega) ?_)
            intro v' w4 own4 hgrow hnil
            have HO4 := hide own4
            have HB4 := hide (HB3.out.grown hgrow (by simp; omega) (by intro x hx; exact (HO3.out.lt x hx).1))
            clear own4 hgrow hnil HO3 HB3
            go_wp2
            go_roundw
            case rel => exact ⟨q + 1, by omega, by go_num, hide (by rw [HST.out, len_snoc, ← ints_snoc]; exact HO4.out), HB4⟩
            case measure => simp [intOf]; omega
          · have hne : ((pos s q : Nat) : Int) ≠ ((pos s ri : Nat) : Int) := fun h => hqr (pos_inj s (by omega))
            have hneb : (((pos s q : Nat) : Int) == ((pos s ri : Nat) : Int)) = false := by simpa using hne
            have HST := hide (show kin s n j (q + 1) = kin s n j q by
              rw [kin_eq, kin_eq, HRI.out]
              by_cases h1 : ri < q
              · rw [if_pos h1, if_pos (by omega)]
              · rw [if_neg h1, if_neg (by omega)])
            generalize ((pos s q : Nat) : Int) = p1 at *
            generalize ((pos s ri : Nat) : Int) = p2 at *
            go_wp2_with fail
            go_quiet (fail)
            go_wp2
            go_roundw
            case rel => exact ⟨q + 1, by omega, by go_num, hide (by rw [HST.out]; exact HX.out), hide (HY.out.trans (below_draws _ _ _))⟩
            case measure => simp [intOf]; omega
        · have hqI : ¬ (q : Int) < (n : Int) := by omega
          have HST := hide (show kin s n j q = kcs s n (j + 1) by
            rw [kin_eq, HRI.out, if_pos (by omega), kcs_snoc])
          have hwj : IntKind.i64.wrap ((j : Int) + 1) = (j : Int) + 1 := by rw [IntKind.wrap_i64]; omega
          go_wp2
          go_roundw
          case rel => exact ⟨j + 1, by omega, by go_num, hide (by have h := HX.out; rw [HST.out, kcs_len] at h; exact h), HY⟩
          case measure => simp [intOf]; omega
    · obtain rfl : c = j := by omega
      have hjI : ¬ (c : Int) + 1 < ((c + 1 : Nat) : Int) := by omega
      go_wp2
      go_ret
      refine ⟨_, rfl, owns_low HO.out (by have := HB1.out.size; have := HB2.out.size; omega), ?_⟩
      have h1 := HB1.out.size
      exact (HB1.out.trans (HB2.out.mono h1)).trans (HB.out.mono (by have := HB2.out.size; omega))
end Go.Proofs.YtnakejhohdbfdabDoor
