/- The law Wrapped, walked. -/
import Derived.Test.YtnakejhohdbfdabDoorWrH
namespace Go.Proofs.YtnakejhohdbfdabDoor
open Go.RowKit Dec Kin Bnd Lay

/-- A list of numbers that a caller hands in. -/
def slAd (w : World) (v : Value) (l : List Int) : Prop := ∃ a c, v = .slice a l.length c ∧ ((a = none ∧ c = 0 ∧ l.length = 0) ∨ ∃ ad : Addr, a = some ad ∧ ∀ i, i < l.length → w.cell? (ad.add i) = some (.int .i64 (nth l i)))
theorem cell_spot {w : World} {a : Addr} {v : Value} (h : w.cell? a = some v) : a = ⟨a.block, a.off, none⟩ := by
  obtain ⟨b, o, sp⟩ := a
  cases sp with
  | none => rfl
  | some x =>
    unfold World.cell? at h
    split at h
    · simp at h
    · cases h
theorem cell_lt {w : World} {g o : Nat} {v : Value} (h : w.cell? ⟨g, o, none⟩ = some v) : g < w.heap.size := by
  unfold World.cell? at h
  split at h
  · rename_i hx
    exact (Array.getElem?_eq_some_iff.1 hx).1
  · cases h
theorem ad_at {ad : Addr} {w : World} {l : List Int} (h : ∀ i, i < l.length → w.cell? (ad.add i) = some (.int .i64 (nth l i))) : ∀ i, i < l.length → ∃ g o, ad = ⟨g, o, none⟩ ∧ g < w.heap.size ∧ w.cell? ⟨g, o + i, none⟩ = some (.int .i64 (nth l i)) := fun i hi => by
  have h1 := h 0 (by omega)
  have h0 : ad.add 0 = ad := by obtain ⟨b, o, sp⟩ := ad; cases sp <;> rfl
  rw [h0] at h1
  have hs := cell_spot h1
  have h2 := h i hi
  rw [hs] at h1 h2
  exact ⟨ad.block, ad.off, hs, cell_lt h1, by rw [Addr.add_lit] at h2; exact h2⟩
theorem held_of {w : World} {v : Value} {l : List Int} (h : slAd w v l) : ∃ a c, v = .slice a l.length c ∧ heldB w a l := by
  obtain ⟨a, c, rfl, h2⟩ := h
  refine ⟨a, c, rfl, fun Y hY i hi => ?_⟩
  rcases h2 with ⟨_, _, h0⟩ | ⟨ad, rfl, hc⟩
  · omega
  · obtain ⟨g, o, rfl, hlt, hcell⟩ := ad_at hc i hi
    exact ⟨g, o, rfl, (hY.cell (p := ⟨g, o + i, none⟩) hlt).trans hcell⟩
theorem wrapped_long (s : ByteArray) (a : Option Addr) (m c : Nat) (R : Int) (w : World) (h : 4096 < s.size ∨ 4096 < m) :
    Calls Tryd.prog 3 #[.string s, .slice a m c, .int .i64 R] w fun e w' => e = .returned (.bool true) ∧ w' = w := by
  by_cases h1 : 4096 < s.size
  · have hs1 : (4096 : Int) < (s.size : Int) := by omega
    go_enter Tryd.func3, Tryd.ntmps3
    go_wp2
    go_ret
    exact ⟨rfl, rfl⟩
  · have hs1 : decide ((4096 : Int) < (s.size : Int)) = false := by simp; omega
    have hs2 : (4096 : Int) < (m : Int) := by omega
    go_enter Tryd.func3, Tryd.ntmps3
    go_wp2
    go_ret
    exact ⟨rfl, rfl⟩
set_option maxRecDepth 10000 in
set_option maxHeartbeats 4000000 in
theorem wrapped_short (s : ByteArray) (vW : Value) (W : List Int) (R : Int) (w : World) (hs : s.size ≤ 4096) (hm : W.length ≤ 4096) (hW : slAd w vW W) (hR : -9223372036854775808 ≤ R ∧ R ≤ 9223372036854775807)
    (hT : Lib.Utf8Tabs 0 1 w) (h0 : TabAt w 2 Tabs.kindTab) (h3 : TabAt w 3 Tabs.lowTab) (h4 : TabAt w 4 Tabs.highTab) :
    Calls Tryd.prog 3 #[.string s, vW, .int .i64 R] w fun e w' => e = .returned (.bool true) ∧ Below w.heap.size w w' := by
  obtain ⟨n, hend⟩ := runs s
  have hns : n ≤ 4096 := by have := le_pos s n; have := hend.1; omega
  obtain ⟨i0, hi, hz0, hz1, hz2⟩ := info_parts info3
  have HSA := hide hW
  obtain ⟨aW, cW, rfl, hH⟩ := held_of hW
  have HH := hide hH
  have HE := hide hend
  have HT0 := hide (fun (A : World) (hb : Below w.heap.size w A) => h0.below (h0.lt (by decide)) hb)
  have HT3 := hide (fun (A : World) (hb : Below w.heap.size w A) => h3.below (h3.lt (by decide)) hb)
  have HT4 := hide (fun (A : World) (hb : Below w.heap.size w A) => h4.below (h4.lt (by decide)) hb)
  have HTU := hide (fun (A : World) (hb : Below w.heap.size w A) => tabs_below hT hb)
  obtain ⟨m, hmm⟩ : ∃ m, m = W.length := ⟨_, rfl⟩
  have HM := hide hmm
  rw [← hmm] at hm ⊢
  have hs1 : decide ((4096 : Int) < (s.size : Int)) = false := by simp; omega
  have hm1 : decide ((4096 : Int) < (m : Int)) = false := by simp; omega
  obtain ⟨w1, hw1⟩ : ∃ w1, w1 = w.alloc (.cells #[] 3) := ⟨_, rfl⟩
  have HB1 := hide (show Below w.heap.size w w1 by rw [hw1]; exact (Below.refl _ w).alloc (Nat.le_refl _) _)
  have HO1 := hide (show w1.ownsRow w.heap.size 3 1 (.slice (some ⟨w.heap.size, 0, none⟩) 0 0) 0 (ints64 []) from ⟨rfl, .inr ⟨_, 0, #[], rfl, Nat.le_refl _, by rw [hw1]; exact World.alloc_heap_new w _, Nat.le_refl _, Nat.zero_le _, rfl, rfl⟩⟩)
  have HW1 := hide hw1
  -- what is behind the copy
  have HBH : Hid (∀ (w2 : World) (aC : Option Addr) (cC : Nat), w2.ownsRow w.heap.size 3 1 (.slice aC m cC) m (ints64 W) → Below w.heap.size w w2 → m ≤ cC →
      Calls Tryd.prog 4 #[.string s, .slice aC m cC, .int .i64 R] w2 fun e w' => ∃ u, e = .returned u ∧ Below w2.heap.size w2 w' ∧ (m ≠ n → u = .slice none 0 0) ∧ (m = n → w'.ownsRow w2.heap.size 3 1 u (wrp s n W R).length (ints64 (wrp s n W R)))) := fun w2 aC cC own hb hcc => by
    refine wrap4 s _ R w2 _ ?_
    by_cases hmn : m = n
    · subst hmn
      have hl := own_lst own HM.out.symm
      have hx : ∃ g, 0 < m → aC = some ⟨g, 0, none⟩ ∧ g < w2.heap.size := by
        rcases Nat.eq_zero_or_pos m with h | h
        · exact ⟨0, fun h' => by omega⟩
        · obtain ⟨g, c', hv⟩ := owns_shape_pos h own
          cases hv
          exact ⟨g, fun _ => ⟨rfl, (owns_at own).2⟩⟩
      obtain ⟨g, hg⟩ := hx
      refine (wrapP_good s w2 hs m HE.out (HTU.out w2 hb) (HT0.out w2 hb) (HT3.out w2 hb) (HT4.out w2 hb) W aC g 0 cC HM.out.symm (fun h => (hg h).1) hcc (fun Y hY i hi => ?_) R hR).mono ?_
      · obtain ⟨g1, g2⟩ := hg (by omega)
        obtain ⟨g', o', e1, e2⟩ := hl i (by rw [← HM.out]; exact hi)
        rw [g1] at e1
        cases e1
        exact (hY.cell (p := ⟨g, 0 + i, none⟩) g2).trans e2
      · rintro e w' ⟨v, rfl, k1, k2⟩
        exact ⟨v, rfl, k2, fun h => absurd rfl h, fun _ => k1⟩
    · refine (wrapP_bad s w2 hs n HE.out aC m cC hmn R).mono ?_
      rintro e w' ⟨rfl, k⟩
      exact ⟨_, rfl, k, fun _ => rfl, fun h => absurd h hmn⟩
  have HLN := hide (show (wrp s n W R).length ≤ 1000000 by
    have h1 := brk_len (ln1 (blk s n) (cw s n W) R (cn s n)) (cn s n) (cn s n) 0 (by omega)
    have h2 : cn s n ≤ n := by have := (bix_len s n).1; unfold cn; omega
    show (List.map _ _).length ≤ _
    rw [List.length_map]; omega)
  clear hW hH hend hT h0 h3 h4 hmm hw1
  obtain ⟨aN, cN, hvN, hx⟩ := HSA.out
  rw [← HM.out] at hvN
  cases hvN
  rcases hx with ⟨hn1, hn2, hl0⟩ | ⟨ad, had, hcell⟩
  case' inl =>
    subst hn1 hn2
    have hW0 : W = [] := List.length_eq_zero_iff.1 hl0
    have hm0 : m = 0 := by rw [HM.out]; exact hl0
    subst hm0
    have HOC := hide (show w1.ownsRow w.heap.size 3 1 (.slice (some ⟨w.heap.size, 0, none⟩) 0 0) 0 (ints64 W) by rw [hW0]; exact HO1.out)
    have HBC := hide HB1.out
    have HCC := hide (Nat.le_refl 0)
    clear hl0 hW0
    have HHC := hide HH.out
    go_enter Tryd.func3, Tryd.ntmps3
    go_wp2_with (at_builtin; rw [← HW1.out]; refine wpList_append_own_none rfl _ _ 22 rfl w.heap.size 3 i0 1 Tryd.underlying22 hi _ 0 (ints64 []) rfl HO1.out rfl ?_)
    obtain ⟨w2, hw2⟩ : ∃ w2, w2 = w1 := ⟨_, rfl⟩
    rw [← hw2] at HOC HBC ⊢
    clear hw2
    have HC4 := hide (HBH.out w2 _ _ HOC.out HBC.out HCC.out)
  case' inr =>
    subst had
    have HHC := hide HH.out
    have hb3 : w.heap.size ≤ w1.heap.size := HB1.out.size
    have HCW := hide (show ∀ j u, (ints64 W)[j]? = some u → w1.cell? (ad.add j) = some u from fun j u hu => by
      have hj : j < W.length := by have := (List.getElem?_eq_some_iff.1 hu).1; simpa [ints64] using this
      rw [nth_at hj] at hu
      obtain ⟨g, o, rfl, hlt, hcl⟩ := ad_at hcell j hj
      rw [Addr.add_lit, ← hu]
      exact (HB1.out.cell (p := ⟨g, o + j, none⟩) hlt).trans hcl)
    have H1C := hide (show ∀ u ∈ ints64 W, u.oneCell' = true from fun u hu => by
      obtain ⟨x, _, rfl⟩ := List.mem_map.1 hu
      rfl)
    have HLE := hide (show (ints64 W).length = m * 1 by rw [HM.out]; simp [ints64])
    clear hcell
    go_enter Tryd.func3, Tryd.ntmps3
    go_wp2_with (at_builtin; rw [← HW1.out]; refine wpList_append_own _ rfl _ _ 22 rfl w.heap.size 3 i0 _ 1 8 Tryd.underlying22 hi hz0 hz1 hz2 rfl (by decide) _ 0 (ints64 []) rfl HO1.out ad m _ (ints64 W) rfl HLE.out HCW.out H1C.out (by unfold maxLen; omega) (by omega) hb3 ?_)
    intro v' w2 own2 hgrow hnil
    have HBC := hide (HB1.out.grown hgrow hb3 (by intro x hx; exact (HO1.out.lt x hx).1))
    obtain ⟨aC, cC, hv', hcc⟩ := owns_any own2
    subst hv'
    have HOC := hide own2
    have HC4 := hide (HBH.out w2 _ _ HOC.out HBC.out hcc)
    clear own2 hgrow hnil hcc
  all_goals (
    go_wp2_with fail
    refine HC4.out.mono ?_
    rintro e w3 ⟨u, rfl, hb3, hu1, hu2⟩
    have HB3 := hide (HBC.out.trans (hb3.mono HBC.out.size))
    have HU1 := hide hu1
    have HU2 := hide hu2
    have HO3 := hide (owns_below HOC.out hb3)
    have HC5 := hide (fun (ca cb : Nat) => ints_same W _ _ ca cb w3 (by rw [← HM.out]; omega) (own_lst HO3.out HM.out.symm) (fun j hj => HHC.out w3 HB3.out j hj))
    rw [← HM.out] at HC5
    have HC6 := hide (fun (Y : World) (hb : Below w.heap.size w Y) => ref7_any s Y (by omega) (HTU.out Y hb))
    clear hb3 hu1 hu2 HC4
    by_cases hmn : W.length = n
    · have HUO := hide (HU2.out (by rw [HM.out]; exact hmn))
      have HLW := hide HLN.out
      have HC7 := hide (fun (Y : World) (hb : Below w.heap.size w Y) (cc : Nat) => wrapD_any s Y hs (HTU.out Y hb) n HE.out W _ cc hmn (HHC.out.mono hb) R hR)
      generalize wrp s n W R = L at *
      obtain ⟨aU, cU, hvu, _⟩ := owns_any HUO.out
      subst hvu
      have hmn2 := HM.out.trans hmn
      subst hmn2
      go_wp2_with fail
      refine (HC5.out _ _).mono ?_
      rintro e w4 ⟨rfl, hb4⟩
      have HB4 := hide (HB3.out.trans (hb4.mono HB3.out.size))
      have HO4 := hide (owns_below HUO.out hb4)
      clear hb4 HC5
      go_wp2_with fail
      refine (HC6.out w4 HB4.out).mono ?_
      rintro e w5 ⟨n5, vR, h5, rfl, own5, hb5, _⟩
      obtain rfl := ends_unique HE.out h5
      obtain ⟨aR, cR, hvR, _⟩ := owns_any own5
      subst hvR
      have HB5 := hide (HB4.out.trans (hb5.mono HB4.out.size))
      have HO5 := hide (owns_below HO4.out hb5)
      clear h5 own5 hb5 HC6
      go_wp2_with fail
      refine (HC7.out w5 HB5.out _).mono ?_
      rintro e w6 ⟨vM, rfl, own6, hb6⟩
      obtain ⟨aM, cM, hvM, _⟩ := owns_any own6
      subst hvM
      have HB6 := hide (HB5.out.trans (hb6.mono HB5.out.size))
      have HO6 := hide (owns_below HO5.out hb6)
      have HM6 := hide own6
      have HC8 := hide (fun (ca cb : Nat) => ints_same L aU aM ca cb w6 HLW.out (own_lst HO6.out rfl) (own_lst HM6.out rfl))
      clear own6 hb6 HC7
      go_wp2_with fail
      refine (HC8.out _ _).mono ?_
      rintro e w7 ⟨rfl, hb7⟩
      have HB7 := hide (HB6.out.trans (hb7.mono HB6.out.size))
      clear hb7 HC8
      go_wp2
      go_ret
      exact ⟨rfl, HB7.out⟩
    · have hvu := HU1.out (by rw [HM.out]; exact hmn)
      subst hvu
      have hne : ((n : Int) == ((W.length : Nat) : Int)) = false := by simp; omega
      rw [← HM.out] at hne
      try rw [show ((0 : Nat) : Int) = 0 from rfl] at hne
      go_wp2_with fail
      refine (HC5.out _ _).mono ?_
      rintro e w4 ⟨rfl, hb4⟩
      have HB4 := hide (HB3.out.trans (hb4.mono HB3.out.size))
      clear hb4 HC5
      go_wp2_with fail
      refine (HC6.out w4 HB4.out).mono ?_
      rintro e w5 ⟨n5, vR, h5, rfl, own5, hb5, _⟩
      obtain rfl := ends_unique HE.out h5
      obtain ⟨aR, cR, hvR, _⟩ := owns_any own5
      subst hvR
      have HB5 := hide (HB4.out.trans (hb5.mono HB4.out.size))
      clear h5 own5 hb5 HC6
      go_wp2
      go_ret
      exact ⟨rfl, HB5.out⟩)
/-- THE LAW Wrapped, of any text, widths and room. -/
theorem wrapped_any (s : ByteArray) (vW : Value) (W : List Int) (R : Int) (w : World) (hW : slAd w vW W) (hR : -9223372036854775808 ≤ R ∧ R ≤ 9223372036854775807)
    (hT : Lib.Utf8Tabs 0 1 w) (h0 : TabAt w 2 Tabs.kindTab) (h3 : TabAt w 3 Tabs.lowTab) (h4 : TabAt w 4 Tabs.highTab) :
    Calls Tryd.prog 3 #[.string s, vW, .int .i64 R] w fun e w' => e = .returned (.bool true) ∧ Below w.heap.size w w' := by
  by_cases h : s.size ≤ 4096 ∧ W.length ≤ 4096
  · exact wrapped_short s vW W R w h.1 h.2 hW hR hT h0 h3 h4
  · obtain ⟨a, c, rfl, _⟩ := hW
    exact (wrapped_long s a W.length c R w (by omega)).mono fun e w' h => ⟨h.1, h.2 ▸ Below.refl _ _⟩
end Go.Proofs.YtnakejhohdbfdabDoor
