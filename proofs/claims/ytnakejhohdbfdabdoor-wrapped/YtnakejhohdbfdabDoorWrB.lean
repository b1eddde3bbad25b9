/- Wrapping: the document's widths, walked. -/
import Derived.Test.YtnakejhohdbfdabDoorWrA
namespace Go.Proofs.YtnakejhohdbfdabDoor
open Go.RowKit Dec Kin Bnd Lay

theorem info2 : (Tryd.prog.info? 2).map (fun i => (i.zero, i.size, i.bytes)) = some (some (.int .i64 0), 1, 8) := by kernel_rfl
theorem bound_any (x : Int) (w : World) : Calls Tryd.prog 20 #[.int .i64 x, .int .i64 1073741824] w fun e w' => e = .returned (.int .i64 (bw x)) ∧ w' = w := by
  by_cases h1 : x < 0
  · have e : bw x = 0 := by unfold bw; rw [if_pos h1]
    rw [e]
    go_enter Tryd.func20, Tryd.ntmps20
    go_wp2
    go_ret
    exact ⟨rfl, rfl⟩
  · by_cases h2 : 1073741824 < x
    · have e : bw x = 1073741824 := by unfold bw; rw [if_neg h1, if_pos h2]
      rw [e]
      go_enter Tryd.func20, Tryd.ntmps20
      go_wp2
      go_ret
      exact ⟨rfl, rfl⟩
    · have e : bw x = x := by unfold bw; rw [if_neg h1, if_neg h2]
      rw [e]
      go_enter Tryd.func20, Tryd.ntmps20
      go_wp2
      go_ret
      exact ⟨rfl, rfl⟩
/-- A list of numbers that a caller holds, in a world behind w. -/
def heldB (w : World) (a : Option Addr) (W : List Int) : Prop := ∀ Y, Below w.heap.size w Y → ∀ i, i < W.length → ∃ g o, a = some ⟨g, o, none⟩ ∧ Y.cell? ⟨g, o + i, none⟩ = some (.int .i64 (nth W i))
theorem heldB.mono {w w1 : World} {a : Option Addr} {W : List Int} (h : heldB w a W) (hb : Below w.heap.size w w1) : heldB w1 a W := fun Y hY i hi => h Y (hb.trans (hY.mono hb.size)) i hi
def cws (s : ByteArray) (n : Nat) (W : List Int) (i : Nat) : List Int := (List.range i).map (cw s n W)
theorem cws_snoc (s : ByteArray) (n : Nat) (W : List Int) (i : Nat) : cws s n W (i + 1) = cws s n W i ++ [cw s n W i] := by rw [cws, List.range_succ, List.map_append]; rfl
theorem cws_len (s : ByteArray) (n : Nat) (W : List Int) (i : Nat) : (cws s n W i).length = i := by simp [cws]
theorem cws_at {s : ByteArray} {n m i : Nat} {W : List Int} (h : i < m) : (ints64 (cws s n W m))[i]? = some (.int .i64 (cw s n W i)) := by simp [ints64, cws, h]
/-- The width so far of the cluster whose runes are a to b, when q runes are passed. -/
def swq (W : List Int) (a b q : Nat) : Int := sw W a (min q b - a)
theorem swq_in {W : List Int} {a b q : Nat} (hab : a ≤ b) (hb : b ≤ 4096) (hq : q ≤ 4096) : 0 ≤ swq W a b q ∧ swq W a b q ≤ 4398046511104 := by
  have := sw_in W a (min q b - a)
  unfold swq
  omega
theorem swq_yes {W : List Int} {a b q : Nat} (h1 : a ≤ q) (h2 : q < b) : swq W a b (q + 1) = swq W a b q + bw (nth W q) := by
  unfold swq
  rw [show min (q + 1) b - a = (min q b - a) + 1 by omega, sw, show a + (min q b - a) = q by omega]
theorem swq_no {W : List Int} {a b q : Nat} (h : q < a ∨ b ≤ q) : swq W a b (q + 1) = swq W a b q := by
  unfold swq
  rw [show min (q + 1) b - a = min q b - a by omega]
theorem swq_end {W : List Int} {a b q : Nat} (h : b ≤ q) : swq W a b q = sw W a (b - a) := by
  unfold swq
  rw [show min q b = b by omega]
theorem pos_iff (s : ByteArray) (a b : Nat) : ((pos s a : Nat) : Int) < ((pos s b : Nat) : Int) ↔ a < b := by
  constructor
  · intro h
    rcases Nat.lt_or_ge a b with h1 | h1
    · exact h1
    · have := pos_le s h1; omega
  · intro h
    have := pos_mono s a b h; omega
set_option maxRecDepth 10000 in
set_option maxHeartbeats 4000000 in
theorem widths_any (s : ByteArray) (w : World) (hs : s.size ≤ 4096) (hT : Lib.Utf8Tabs 0 1 w) (n : Nat) (hend : Dec.Ends s n) (W : List Int) (a : Option Addr) (cW : Nat) (hW : W.length = n) (hH : heldB w a W) :
    Calls Tryd.prog 12 #[.string s, .slice a n cW] w fun e w' => ∃ v, e = .returned v ∧ w'.ownsRow w.heap.size 2 1 v (cn s n) (ints64 (cws s n W (cn s n))) ∧ Below w.heap.size w w' := by
  obtain ⟨i0, hi, hz0, hz1, hz2⟩ := info_parts info2
  have C16 := hide (ref15_any s w (by omega) hT n hend)
  have C8 := hide (fun (Y : World) (hb : Below w.heap.size w Y) => ref7_any s Y (by omega) (tabs_below hT hb))
  have HE := hide hend
  have HH := hide hH
  have HW := hide hW
  have hbl := bnd_len hend
  have hns : n ≤ s.size := by have := le_pos s n; have := hend.1; omega
  have hcn : cn s n ≤ n := by have := (bix_len s n).1; unfold cn; omega
  rw [hbl] at C16
  obtain ⟨c, hc⟩ : ∃ c, c = cn s n := ⟨_, rfl⟩
  rw [← hc] at C16 hcn ⊢
  have HC := hide hc
  clear hT hend hbl hc hH hW
  go_enter Tryd.func12, Tryd.ntmps12
  go_wp2_with fail
  refine C16.out.mono ?_
  rintro e w1 ⟨vb, rfl, own1, hb1⟩
  obtain ⟨gb, cb, hvb⟩ := owns_shape_pos (by omega) own1
  subst hvb
  have OB := hide own1
  have HB1 := hide hb1
  have C8b := hide (C8.out w1 hb1)
  clear own1 hb1 C16 C8
  go_wp2_with fail
  refine C8b.out.mono ?_
  rintro e w2 ⟨n2, vm, h2, rfl, own2, hb2, hn2⟩
  obtain rfl := ends_unique HE.out h2
  have OM := hide own2
  have HB2 := hide hb2
  have OB2 := hide (owns_below OB.out hb2)
  clear h2 C8b own2 hb2 hn2
  clear OB
  go_wp2_with fail
  go_loopw [7, 8] (fun v i wr => ∃ j : Nat, j ≤ c ∧ i = .int .i64 j ∧ Hid (wr.ownsRow w2.heap.size 2 1 v j (ints64 (cws s n W j))) ∧ Hid (Below w2.heap.size w2 wr)) (fun _ i _ => c - (intOf i).toNat)
  case atStart => exact ⟨0, Nat.zero_le _, rfl, hide (World.ownsRow_nil _ _ _ _), hide (Below.refl _ _)⟩
  case round =>
    obtain ⟨j, hj, rfl, HO, HB⟩ := hrel
    by_cases hjc : j < c
    · have hjI : (j : Int) + 1 < ((c + 1 : Nat) : Int) := by omega
      obtain ⟨gl, cl, hvm⟩ := owns_shape_pos (by omega) OM.out
      subst hvm
      have gll := owns_at OM.out
      have gbl := owns_at OB2.out
      have hw12 := HB2.out.size
      have hRI : nix (bix s n) j < nix (bix s n) (j + 1) := ri_lt (by rw [← HC.out]; exact hjc)
      have hRJ : nix (bix s n) (j + 1) ≤ n := ri_le (by rw [← HC.out]; exact hjc)
      have HCB : Hid (∀ Y, Below w2.heap.size w2 Y → ∀ t, t ≤ c → Y.cell? ⟨gb, t, none⟩ = some (.int .i64 ((pos s (nix (bix s n) t) : Nat) : Int))) := fun Y hY t ht => ((hY.cell (p := ⟨gb, t, none⟩) gbl.2).trans (OB2.out.cellAt t (by omega))).trans (bnd_cells HE.out (by rw [← HC.out]; exact ht))
      have HCR : Hid (∀ Y q, q < n → Below w2.heap.size w2 Y → Y.cell? ⟨gl, q * 3 + 1, none⟩ = some (.int .i64 ((pos s q : Nat) : Int))) := fun Y q hq hY =>
        ((hY.cell (p := ⟨gl, q * 3 + 1, none⟩) gll.2).trans (OM.out.cellAt (q * 3 + 1) (by omega))).trans (cells_get (s := s) hq).2.1
      have HCW : Hid (cw s n W j = sw W (nix (bix s n) j) (nix (bix s n) (j + 1) - nix (bix s n) j)) := rfl
      have HCJ : Hid (∀ Y, Below w2.heap.size w2 Y → Y.cell? ⟨gb, j, none⟩ = some (.int .i64 ((pos s (nix (bix s n) j) : Nat) : Int)) ∧ Y.cell? ⟨gb, j + 1, none⟩ = some (.int .i64 ((pos s (nix (bix s n) (j + 1)) : Nat) : Int))) := fun Y hY => ⟨HCB.out Y hY j (by omega), HCB.out Y hY (j + 1) (by omega)⟩
      generalize hri : nix (bix s n) j = ri at *
      generalize hrj : nix (bix s n) (j + 1) = rj at *
      clear hri hrj HCB
      go_wp2_with fail
      go_loopw [9, 10] (fun sv k wx => ∃ q : Nat, q ≤ n ∧ k = .int .i64 q ∧ sv = .int .i64 (swq W ri rj q) ∧ Hid (wx.ownsRow w2.heap.size 2 1 u7 j (ints64 (cws s n W j))) ∧ Hid (Below w2.heap.size w2 wx)) (fun _ k _ => n - (intOf k).toNat)
      case atStart => exact ⟨0, Nat.zero_le _, rfl, by simp [swq, sw], HO, HB⟩
      case round =>
        obtain ⟨q, hq, rfl, rfl, HX, HY⟩ := hrel
        have hsw := swq_in (W := W) (a := ri) (b := rj) (q := q) (by omega) (by omega) (by omega)
        by_cases hqn : q < n
        · have hqI : (q : Int) < (n : Int) := by omega
          have c1 := HCR.out _ q hqn HY.out
          obtain ⟨c2, c3⟩ := HCJ.out _ HY.out
          have hwj : IntKind.i64.wrap ((j : Int) + 1) = ((j + 1 : Nat) : Int) := by rw [IntKind.wrap_i64]; omega
          have hjc1 : ((j + 1 : Nat) : Int) < ((c + 1 : Nat) : Int) := by omega
          have hjc0 : (j : Int) < ((c + 1 : Nat) : Int) := by omega
          have e1 := pos_iff s q ri
          have e2 := pos_iff s q rj
          by_cases hin : ri ≤ q ∧ q < rj
          · have HST := hide (swq_yes (W := W) hin.1 hin.2)
            obtain ⟨gW, oW, ha, c4⟩ := HH.out wr (HB1.out.trans ((HB2.out.trans (HY.out.mono HB2.out.size)).mono HB1.out.size)) q (by rw [HW.out]; exact hqn)
            subst ha
            have HC20 := hide (fun Y : World => bound_any (nth W q) Y)
            have hbw := bw_in (nth W q)
            generalize bw (nth W q) = y at *
            generalize nth W q = x at *
            generalize swq W ri rj q = z at *
            generalize ((pos s q : Nat) : Int) = p at *
            generalize ((pos s ri : Nat) : Int) = p1 at *
            generalize ((pos s rj : Nat) : Int) = p2 at *
            have h1 : p1 ≤ p := by omega
            have h2 : p < p2 := by omega
            obtain ⟨wd, hwd⟩ : ∃ wd, wd = wr := ⟨_, rfl⟩
            clear e1 e2
            go_wp2_with fail
            go_quiet (fail)
            go_wp2_with fail
            refine (HC20.out _).mono ?_
            rintro e w3 ⟨rfl, rfl⟩
            go_wp2
            go_roundw
            case rel => exact ⟨q + 1, by omega, by go_num, by rw [HST.out], hide HX.out, hide (HY.out.trans (below_draws _ _ _))⟩
            case measure => simp [intOf]; omega
          · have HST := hide (swq_no (W := W) (a := ri) (b := rj) (q := q) (by omega))
            generalize swq W ri rj q = z at *
            by_cases hlo : ri ≤ q
            · generalize ((pos s q : Nat) : Int) = p at *
              generalize ((pos s ri : Nat) : Int) = p1 at *
              generalize ((pos s rj : Nat) : Int) = p2 at *
              have h1 : p1 ≤ p := by omega
              have h2 : ¬ p < p2 := by omega
              have h2d : decide (p < p2) = false := by simpa using h2
              clear e1 e2
              go_wp2_with fail
              go_quiet (fail)
              go_wp2
              go_roundw
              case rel => exact ⟨q + 1, by omega, by go_num, by rw [HST.out], hide HX.out, hide (HY.out.trans (below_draws _ _ _))⟩
              case measure => simp [intOf]; omega
            · generalize ((pos s q : Nat) : Int) = p at *
              generalize ((pos s ri : Nat) : Int) = p1 at *
              generalize ((pos s rj : Nat) : Int) = p2 at *
              have h1 : ¬ p1 ≤ p := by omega
              have h1d : decide (p1 ≤ p) = false := by simpa using h1
              clear e1 e2
              go_wp2_with fail
              go_quiet (fail)
              go_wp2
              go_roundw
              case rel => exact ⟨q + 1, by omega, by go_num, by rw [HST.out], hide HX.out, hide (HY.out.trans (below_draws _ _ _))⟩
              case measure => simp [intOf]; omega
        · obtain rfl : q = n := by omega
          have hqI : ¬ (q : Int) < (q : Int) := by omega
          have HST := hide (show swq W ri rj q = cw s q W j by rw [swq_end hRJ, HCW.out])
          have hszr := HY.out.size
          have hwj : IntKind.i64.wrap ((j : Int) + 1) = (j : Int) + 1 := by rw [IntKind.wrap_i64]; omega
          generalize swq W ri rj q = z at *
          have HO3 := hide (HX.out.alloc (.cells #[.int .i64 z] 2))
          have HB3 := hide (HY.out.alloc hszr (.cells #[.int .i64 z] 2))
          go_wp2_with (at_builtin; refine wpList_append_own _ rfl _ _ 33 rfl w2.heap.size 2 i0 _ 1 8 Tryd.underlying33 hi hz0 hz1 hz2 rfl (by decide) _ _ _ rfl HO3.out ⟨wr.heap.size, 0, none⟩ 1 1 [.int .i64 z] rfl rfl (cell_one_new _ _ _) (one_cell _) (by unfold maxLen; omega) (by omega) (by simp; omega) ?_)
          intro v' w4 own4 hgrow hnil
          have HO4 := hide own4
          have HB4 := hide (HB3.out.grown hgrow (by simp; omega) (by intro x hx; exact (HO3.out.lt x hx).1))
          clear own4 hgrow hnil HO3 HB3
          go_wp2
          go_roundw
          case rel => exact ⟨j + 1, by omega, by go_num, hide (by rw [cws_snoc, ← HST.out, ← ints_snoc]; exact HO4.out), HB4⟩
          case measure => simp [intOf]; omega
    · obtain rfl : c = j := by omega
      have hjI : ¬ (c : Int) + 1 < ((c + 1 : Nat) : Int) := by omega
      go_wp2
      go_ret
      refine ⟨_, rfl, owns_low HO.out (by have := HB1.out.size; have := HB2.out.size; omega), ?_⟩
      have h1 := HB1.out.size
      exact (HB1.out.trans (HB2.out.mono h1)).trans (HB.out.mono (by have := HB2.out.size; omega))
end Go.Proofs.YtnakejhohdbfdabDoor
