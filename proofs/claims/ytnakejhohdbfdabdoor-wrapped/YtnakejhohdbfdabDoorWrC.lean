/- Wrapping: the document's lines, walked. -/
import Derived.Test.YtnakejhohdbfdabDoorWrB
namespace Go.Proofs.YtnakejhohdbfdabDoor
open Go.RowKit Dec Kin Bnd Lay

/-- The last blank of the first d clusters from f on; -1: there is none. -/
def bl (B : Nat → Bool) (f d : Nat) : Int := if 0 < lb B f d then (f : Int) + (lb B f d : Int) - 1 else -1
theorem bl_yes {B : Nat → Bool} {f d : Nat} (h : B (f + d) = true) : bl B f (d + 1) = (f : Int) + (d : Int) := by
  unfold bl; rw [lb, if_pos h, if_pos (Nat.succ_pos _)]; omega
theorem bl_no {B : Nat → Bool} {f d : Nat} (h : B (f + d) = false) : bl B f (d + 1) = bl B f d := by
  unfold bl; simp only [lb, h, Bool.false_eq_true, if_false]
theorem cw_in {s : ByteArray} {n : Nat} {W : List Int} (hn : n ≤ 4096) (i : Nat) (hi : i < cn s n) : 0 ≤ cw s n W i ∧ cw s n W i ≤ 4398046511104 := by
  have h1 := sw_in W (nix (bix s n) i) (nix (bix s n) (i + 1) - nix (bix s n) i)
  have h2 := ri_le (s := s) (n := n) (i := i + 1) hi
  unfold cw
  omega
theorem sm_bd {X : Nat → Int} {c : Nat} (hX : ∀ i, i < c → 0 ≤ X i ∧ X i ≤ 4398046511104) (f : Nat) : ∀ d, f + d ≤ c → 0 ≤ sm X f d ∧ sm X f d ≤ (d : Int) * 4398046511104
  | 0, _ => by simp [sm]
  | d + 1, h => by
    have ih := sm_bd hX f d (by omega)
    have := hX (f + d) (by omega)
    rw [sm]; omega
def bps (s : ByteArray) (n : Nat) (l : List Nat) : List Int := l.map fun i => ((pos s (nix (bix s n) i) : Nat) : Int)
theorem bps_snoc (s : ByteArray) (n : Nat) (l : List Nat) (t : Nat) : bps s n (l ++ [t]) = bps s n l ++ [((pos s (nix (bix s n) t) : Nat) : Int)] := by simp [bps]
set_option maxRecDepth 10000 in
set_option maxHeartbeats 8000000 in
theorem wrapD_any (s : ByteArray) (w : World) (hs : s.size ≤ 4096) (hT : Lib.Utf8Tabs 0 1 w) (n : Nat) (hend : Dec.Ends s n) (W : List Int) (a : Option Addr) (cW : Nat) (hW : W.length = n) (hH : heldB w a W) (R : Int) (hR : -9223372036854775808 ≤ R ∧ R ≤ 9223372036854775807) :
    Calls Tryd.prog 7 #[.string s, .slice a n cW, .int .i64 R] w fun e w' => ∃ v, e = .returned v ∧ w'.ownsRow w.heap.size 3 1 v (wrp s n W R).length (ints64 (wrp s n W R)) ∧ Below w.heap.size w w' := by
  obtain ⟨i0, hi, hz0, hz1, hz2⟩ := info_parts info3
  have C10 := hide (ref15_any s w (by omega) hT n hend)
  have C11 := hide (fun (Y : World) (hb : Below w.heap.size w Y) => ref30_any s Y (by omega) (tabs_below hT hb) n hend)
  have C12 := hide (fun (Y : World) (hb : Below w.heap.size w Y) => widths_any s Y hs (tabs_below hT hb) n hend W a cW hW (hH.mono hb))
  have HE := hide hend
  have hbl := bnd_len hend
  have hns : n ≤ s.size := by have := le_pos s n; have := hend.1; omega
  have hcn : cn s n ≤ n := by have := (bix_len s n).1; unfold cn; omega
  rw [hbl] at C10
  have HWR := hide (show wrp s n W R = bps s n (brk (ln1 (blk s n) (cw s n W) R (cn s n)) (cn s n) 0) from rfl)
  have HX := hide (fun i (h : i < cn s n) => cw_in (s := s) (n := n) (W := W) (by omega) i h)
  obtain ⟨c, hc⟩ : ∃ c, c = cn s n := ⟨_, rfl⟩
  rw [← hc] at C10 C11 C12 hcn HWR HX
  have HC := hide hc
  obtain ⟨B, hB⟩ : ∃ B, B = blk s n := ⟨_, rfl⟩
  obtain ⟨X, hX⟩ : ∃ X, X = cw s n W := ⟨_, rfl⟩
  have HKB : Hid (∀ i, (kc s n i == 12) = B i) := fun i => by rw [hB]; rfl
  have HKX : Hid (∀ i, cw s n W i = X i) := fun i => by rw [hX]
  rw [← hB, ← hX] at HWR
  rw [← hX] at HX
  clear hT hend hbl hc hH hW hB hX
  go_enter Tryd.func7, Tryd.ntmps7
  go_wp2_with fail
  refine C10.out.mono ?_
  rintro e w1 ⟨vb, rfl, own1, hb1⟩
  obtain ⟨gb, cb, hvb⟩ := owns_shape_pos (by omega) own1
  subst hvb
  have OB := hide own1
  have HB1 := hide hb1
  have C11b := hide (C11.out w1 hb1)
  clear own1 hb1 C10 C11
  go_wp2_with fail
  refine C11b.out.mono ?_
  rintro e w2 ⟨vk, rfl, own2, hb2⟩
  have OK := hide own2
  have HB2 := hide (HB1.out.trans (hb2.mono HB1.out.size))
  have OB2 := hide (owns_below OB.out hb2)
  have C12b := hide (C12.out w2 HB2.out)
  clear own2 hb2 C11b C12 OB HB1
  go_wp2_with fail
  refine C12b.out.mono ?_
  rintro e w3 ⟨vx, rfl, own3, hb3⟩
  obtain ⟨aX, cX, hvx⟩ : ∃ aX cX, vx = .slice aX c cX := by
    rcases own3.2 with ⟨h, h0⟩ | ⟨g, cap, cur, h, _⟩
    · exact ⟨_, _, by rw [h, h0]⟩
    · exact ⟨_, _, h⟩
  subst hvx
  have OX := hide own3
  have HB3 := hide (HB2.out.trans (hb3.mono HB2.out.size))
  have OK3 := hide (owns_below OK.out hb3)
  have OB3 := hide (owns_below OB2.out hb3)
  clear own3 hb3 C12b OK OB2 HB2
  have HCE : Hid (∀ Y, Below w3.heap.size w3 Y → ∀ t, t < c → ∃ gk ck gx, vk = .slice (some ⟨gk, 0, none⟩) c ck ∧ aX = some ⟨gx, 0, none⟩ ∧ Y.cell? ⟨gk, t, none⟩ = some (.int .i64 (kc s n t)) ∧ Y.cell? ⟨gx, t, none⟩ = some (.int .i64 (X t)) ∧ Y.cell? ⟨gb, t, none⟩ = some (.int .i64 ((pos s (nix (bix s n) t) : Nat) : Int))) := fun Y hY t ht => by
    obtain ⟨gk, ck, hvk⟩ := owns_shape_pos (by omega) OK3.out
    obtain ⟨gx, cx, hvx⟩ := owns_shape_pos (by omega) OX.out
    cases hvx
    have h1 := OK3.out
    rw [hvk] at h1
    have gkl := owns_at h1
    have gxl := owns_at OX.out
    have gbl := owns_at OB3.out
    refine ⟨gk, ck, gx, hvk, rfl, ?_, ?_, ?_⟩
    · exact ((hY.cell (p := ⟨gk, t, none⟩) gkl.2).trans (h1.cellAt t (by omega))).trans (kcs_at ht)
    · rw [← HKX.out]; exact ((hY.cell (p := ⟨gx, t, none⟩) gxl.2).trans (OX.out.cellAt t (by omega))).trans (cws_at ht)
    · exact ((hY.cell (p := ⟨gb, t, none⟩) gbl.2).trans (OB3.out.cellAt t (by omega))).trans (bnd_cells HE.out (by rw [← HC.out]; omega))
  obtain ⟨o, ho⟩ : ∃ o, o = ln1 B X R c := ⟨_, rfl⟩
  rw [← ho] at HWR
  have HOO := hide ho
  clear ho
  go_wp2_with fail
  go_loopw [10, 11] (fun v fv wr => ∃ (f : Nat) (l : List Nat), f ≤ c ∧ fv = .int .i64 f ∧ l.length ≤ f ∧ Hid (bps s n (l ++ brk o c f) = wrp s n W R) ∧ Hid (wr.ownsRow w3.heap.size 3 1 v l.length (ints64 (bps s n l))) ∧ Hid (Below w3.heap.size w3 wr)) (fun _ fv _ => c - (intOf fv).toNat)
  case atStart => exact ⟨0, [], Nat.zero_le _, rfl, Nat.le_refl _, hide HWR.out.symm, hide (World.ownsRow_nil _ _ _ _), hide (Below.refl _ _)⟩
  case round =>
    obtain ⟨f, l, hf, rfl, hlf, HL, HO, HB⟩ := hrel
    by_cases hfc : f < c
    · have hfI : (f : Int) < (c : Int) := by omega
      obtain ⟨wo, hwo⟩ : ∃ wo, wo = wr := ⟨_, rfl⟩
      rw [← hwo] at HO HB ⊢
      clear hwo
      go_wp2_with fail
      go_loopw [12, 13, 14] (fun tv sv bv wx => ∃ d t : Nat, Hid (t = f + d) ∧ t ≤ c ∧ f ≤ t ∧ tv = .int .i64 t ∧ sv = .int .i64 (sm X f d) ∧ bv = .int .i64 (bl B f d) ∧ Hid (lnF B X R c f (c - f - d) d = o f) ∧ wx = wo) (fun tv _ _ _ => c - (intOf tv).toNat)
      case atStart => exact ⟨0, f, hide rfl, hf, Nat.le_refl _, rfl, rfl, rfl, hide (by rw [HOO.out]; rfl), rfl⟩
      case round =>
        obtain ⟨d, t, HT, htc, hft, rfl, rfl, rfl, HN, rfl⟩ := hrel
        have hsm := sm_bd HX.out f d (by have := HT.out; omega)
        by_cases ht : t < c
        · have htI : (t : Int) < (c : Int) := by omega
          obtain ⟨gk, ck, gx, hvk, hax, k0, x0, p0⟩ := HCE.out wr HB.out t ht
          subst hvk hax
          have hxb := HX.out t ht
          have hkb := HKB.out t
          have HS1 := hide (show sm X f (d + 1) = sm X f d + X t by rw [sm, ← HT.out])
          have HY := hide (fun (h : B t = true) => bl_yes (B := B) (f := f) (d := d) (by rw [← HT.out]; exact h))
          have HNo := hide (fun (h : B t = false) => bl_no (B := B) (f := f) (d := d) (by rw [← HT.out]; exact h))
          have HST := hide (fun (h : stp B X R f d = false) => (lnF_step (B := B) (X := X) (R := R) (c := c) (f := f) (d := d) (by have := HT.out; omega) h).symm.trans HN.out)
          have HSP := hide (fun (h : stp B X R f d = true) => (lnF_stop (B := B) (X := X) (R := R) (c := c) (f := f) (d := d) (by have := HT.out; omega) h).symm.trans HN.out)
          have HSD := hide (show stp B X R f d = (decide (0 < d) && !B t && decide (R < sm X f d + X t)) by rw [stp, HS1.out, ← HT.out])
          generalize kc s n t = kd at *
          obtain ⟨z, hz⟩ : ∃ z, z = sm X f d := ⟨_, rfl⟩
          obtain ⟨x, hx⟩ : ∃ x, x = X t := ⟨_, rfl⟩
          rw [← hz] at hsm HS1 HSD ⊢
          rw [← hx] at hxb HS1 HSD x0
          clear hz hx
          have hdb : (d : Int) ≤ 4096 := by have := HT.out; omega
          have hzb : 0 ≤ z ∧ z ≤ 18014398509481984 := by omega
          have hdt : (f : Int) + (d : Int) = (t : Int) := by have := HT.out; omega
          have HDT := hide hdt
          clear hsm hdt
          cases hb : B t
          · rw [hb] at hkb
            have hkd : ¬ kd = 12 := by simpa using hkb
            have HBN := hide (HNo.out hb)
            by_cases hd0 : d = 0
            · have htf : t = f := by have := HT.out; omega
              subst htf
              have HNX := hide (HST.out (by rw [HSD.out, hd0]; rfl))
              have HD0 := hide hd0
              clear hd0 hb
              go_wp2
              exact ⟨⟨d + 1, t + 1, hide (by have := HT.out; omega), by omega, by omega, by go_num, by rw [HS1.out], by rw [HBN.out], hide HNX.out, trivial⟩, by simp [intOf]; omega⟩
            · have htf : ¬ t = f := by have := HT.out; omega
              have htfb : ((t : Int) == (f : Int)) = false := by simp; omega
              by_cases hst : R < z + x
              · have hstd : decide (z + x ≤ R) = false := by simp; omega
                have HSS := hide (HSP.out (by rw [HSD.out, hb]; simp; omega))
                have hlb := lb_le B f d
                by_cases hl0 : 0 < lb B f d
                · have HOF := hide (show o f = lb B f d by rw [← HSS.out, if_pos hl0])
                  have HBL := hide (show bl B f d = (f : Int) + (lb B f d : Int) - 1 by unfold bl; rw [if_pos hl0])
                  obtain ⟨b1, hb1⟩ : ∃ b1 : Nat, b1 = f + lb B f d - 1 := ⟨_, rfl⟩
                  obtain ⟨t1, ht1⟩ : ∃ t1, t1 = f + lb B f d := ⟨_, rfl⟩
                  have hbe : bl B f d = (b1 : Int) := by rw [HBL.out]; omega
                  have ht1c : t1 < c := by have := HT.out; omega
                  have ht1I : (t1 : Int) < (c : Int) := by omega
                  have hwb : IntKind.i64.wrap ((b1 : Int) + 1) = (t1 : Int) := by rw [IntKind.wrap_i64]; omega
                  have p1 : wr.cell? ⟨gb, t1, none⟩ = some (.int .i64 ((pos s (nix (bix s n) t1) : Nat) : Int)) := by obtain ⟨_, _, _, _, _, _, _, p⟩ := HCE.out wr HB.out t1 ht1c; exact p
                  rw [hbe]
                  have HT1 := hide (show t1 = f + o f by rw [ht1, HOF.out])
                  have HOP := hide (show 0 < o f by rw [HOF.out]; exact hl0)
                  obtain ⟨y, hy⟩ : ∃ y : Int, y = ((pos s (nix (bix s n) t1) : Nat) : Int) := ⟨_, rfl⟩
                  rw [← hy] at p1
                  have HYE := hide hy
                  clear hbe ht1 hl0 hlb HBL hb hb1 hy
                  have hszr := HB.out.size
                  have HO3 := hide (HO.out.alloc (.cells #[.int .i64 y] 3))
                  have HB3' := hide (HB.out.alloc hszr (.cells #[.int .i64 y] 3))
                  go_wp2_with (at_builtin; refine wpList_append_own _ rfl _ _ 22 rfl w3.heap.size 3 i0 _ 1 8 Tryd.underlying22 hi hz0 hz1 hz2 rfl (by decide) _ _ _ rfl HO3.out ⟨wr.heap.size, 0, none⟩ 1 1 [.int .i64 y] rfl rfl (cell_one_new _ _ _) (one_cell _) (by unfold maxLen; omega) (by omega) (by simp; omega) ?_)
                  intro v' w4 own4 hgrow hnil
                  have HO4 := hide own4
                  have HB4 := hide (HB3'.out.grown hgrow (by simp; omega) (by intro x hx; exact (HO3.out.lt x hx).1))
                  clear own4 hgrow hnil HO3 HB3'
                  go_wp2
                  exact ⟨⟨t1, l ++ [t1], by omega, rfl, by rw [List.length_append, List.length_singleton]; have := HT1.out; have := HOP.out; omega, hide (by rw [← HL.out, List.append_assoc, brk_more HOP.out (by rw [← HT1.out]; omega), ← HT1.out]; rfl), hide (by rw [bps_snoc, List.length_append, List.length_singleton, ← ints_snoc, ← HYE.out]; exact HO4.out), HB4⟩, by simp [intOf]; have := HT1.out; have := HOP.out; omega⟩
                · have HOF := hide (show o f = d by rw [← HSS.out, if_neg hl0])
                  have hbe : bl B f d = -1 := by unfold bl; rw [if_neg hl0]
                  obtain ⟨t1, ht1⟩ : ∃ t1, t1 = t := ⟨_, rfl⟩
                  subst ht1
                  rw [hbe]
                  have HT1 := hide (show t1 = f + o f by rw [HOF.out]; exact HT.out)
                  have HOP := hide (show 0 < o f by rw [HOF.out]; omega)
                  obtain ⟨y, hy⟩ : ∃ y : Int, y = ((pos s (nix (bix s n) t1) : Nat) : Int) := ⟨_, rfl⟩
                  rw [← hy] at p0
                  have HYE := hide hy
                  clear hbe hl0 hlb hb hy
                  have hszr := HB.out.size
                  have HO3 := hide (HO.out.alloc (.cells #[.int .i64 y] 3))
                  have HB3' := hide (HB.out.alloc hszr (.cells #[.int .i64 y] 3))
                  go_wp2_with (at_builtin; refine wpList_append_own _ rfl _ _ 22 rfl w3.heap.size 3 i0 _ 1 8 Tryd.underlying22 hi hz0 hz1 hz2 rfl (by decide) _ _ _ rfl HO3.out ⟨wr.heap.size, 0, none⟩ 1 1 [.int .i64 y] rfl rfl (cell_one_new _ _ _) (one_cell _) (by unfold maxLen; omega) (by omega) (by simp; omega) ?_)
                  intro v' w4 own4 hgrow hnil
                  have HO4 := hide own4
                  have HB4 := hide (HB3'.out.grown hgrow (by simp; omega) (by intro x hx; exact (HO3.out.lt x hx).1))
                  clear own4 hgrow hnil HO3 HB3'
                  go_wp2
                  exact ⟨⟨t1, l ++ [t1], by omega, rfl, by rw [List.length_append, List.length_singleton]; have := HT1.out; have := HOP.out; omega, hide (by rw [← HL.out, List.append_assoc, brk_more HOP.out (by rw [← HT1.out]; omega), ← HT1.out]; rfl), hide (by rw [bps_snoc, List.length_append, List.length_singleton, ← ints_snoc, ← HYE.out]; exact HO4.out), HB4⟩, by simp [intOf]; have := HT1.out; have := HOP.out; omega⟩
              · have hle : z + x ≤ R := by omega
                have HNX := hide (HST.out (by rw [HSD.out, hb]; simp; omega))
                clear hb
                go_wp2
                exact ⟨⟨d + 1, t + 1, hide (by have := HT.out; omega), by omega, by omega, by go_num, by rw [HS1.out], by rw [HBN.out], hide HNX.out, trivial⟩, by simp [intOf]; omega⟩
          · rw [hb] at hkb
            have hkd : kd = 12 := by simpa using hkb
            subst hkd
            have HBN := hide (HY.out hb)
            have HNX := hide (HST.out (by rw [HSD.out, hb]; simp))
            clear hb hkb
            go_wp2
            exact ⟨⟨d + 1, t + 1, hide (by have := HT.out; omega), by omega, by omega, by go_num, by rw [HS1.out], by rw [HBN.out, HDT.out], hide HNX.out, trivial⟩, by simp [intOf]; omega⟩
        · obtain rfl : t = c := by omega
          have htI : decide ((t : Int) < (t : Int)) = false := by simp
          have HOF := hide (show o f = d by rw [← HN.out, lnF_end HT.out.symm])
          have HBR := hide (show brk o t f = brk o t t by rw [brk_none (by rw [HOF.out, ← HT.out]; exact Nat.le_refl _), brk_none (Nat.le_add_right _ _)])
          go_wp2
          exact ⟨⟨t, l, by omega, rfl, by omega, hide (by rw [← HL.out, HBR.out]), HO, HB⟩, by simp [intOf]; omega⟩
    · obtain rfl : f = c := by omega
      have hfI : ¬ (f : Int) < (f : Int) := by omega
      have HLE := hide (show l ++ brk o f f = l by rw [brk_none (Nat.le_add_right _ _), List.append_nil])
      go_wp2
      go_ret
      rw [HLE.out] at HL
      refine ⟨_, rfl, ?_, ?_⟩
      · have h := HO.out
        rw [← HL.out]
        rw [show (bps s n l).length = l.length by simp [bps]]
        exact owns_low h HB3.out.size
      · exact HB3.out.trans (HB.out.mono HB3.out.size)
end Go.Proofs.YtnakejhohdbfdabDoor
