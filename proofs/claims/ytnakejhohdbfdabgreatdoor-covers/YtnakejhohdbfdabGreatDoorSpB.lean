/- The spans of a line's parts, walked. -/
import Derived.Test.YtnakejhohdbfdabGreatDoorSpA
import Derived.Test.YtnakejhohdbfdabGreatDoorKPvD
namespace Go.Proofs.YtnakejhohdbfdabGreatDoor
open Go.RowKit Lev Lay

set_option maxRecDepth 10000 in
set_option maxHeartbeats 4000000 in
theorem spans_any (j : Nat) (lf lt : Int) (vO : Value) (gX cX : Nat) (x : List Int) (L : List (Nat × Nat)) (vS : Value) (B : Nat) (w : World) (hX : ∀ t, t < x.length → w.cell? ⟨gX, t, none⟩ = some (.int .i64 (nth x t))) (hS : w.ownsRow B 337 2 vS L.length (ptCells L)) (hL : ∀ p ∈ L, p.1 < p.2 ∧ p.2 < x.length) (hn : L.length ≤ 10000) :
    Calls Tryz.prog 161 #[.int .i64 j, .agg #[.int .i64 lf, .int .i64 lt, vO, .slice (some ⟨gX, 0, none⟩) x.length cX], vS] w fun e w' => ∃ v, e = .returned v ∧ w'.ownsRow w.heap.size 90 5 v (spL j x L).length (spCells (spL j x L)) ∧ Fr [] w w' := by
  obtain ⟨i0, hi, hz0, hz1, hz2⟩ := info_parts info90
  obtain ⟨aS, cS, rfl⟩ := owns_slice hS
  obtain ⟨n, hnn⟩ : ∃ n, n = L.length := ⟨_, rfl⟩
  obtain ⟨lx, hlx⟩ : ∃ lx, lx = x.length := ⟨_, rfl⟩
  have HX := hid hX
  have HS := hid hS
  have HL := hid hL
  have HN := hid hnn
  have HLX := hid hlx
  rw [← hnn] at hn ⊢
  rw [← hlx]
  obtain ⟨wb, hwb⟩ : ∃ wb, wb = w.alloc (.cells #[.int .i64 lf, .int .i64 lt, vO, .slice (some ⟨gX, 0, none⟩) lx cX] 72) := ⟨_, rfl⟩
  have HFb := hid (show Fr [] w wb by rw [hwb]; exact (Fr.refl [] w).alloc _)
  have HOb := hid (show wb.heap[w.heap.size]? = some (.cells #[.int .i64 lf, .int .i64 lt, vO, .slice (some ⟨gX, 0, none⟩) lx cX] 72 (0, 0)) by rw [hwb]; exact obj_new w _)
  obtain ⟨R, hR⟩ : ∃ R, R = spL j x L := ⟨_, rfl⟩
  rw [← hR]
  have HR := hid hR
  clear hX hS hL hnn hlx hR
  go_enter Tryz.func161, Tryz.ntmps161
  go_wp2_with fail
  rw [← hwb]
  have hwbs : wb.heap.size = w.heap.size + 1 := by rw [hwb]; simp
  clear hwb
  go_loopw [7, 12] (fun vo kk wr => ∃ t : Nat, kk = .int .i64 t ∧ t ≤ n ∧ Hid (Fr [] wb wr) ∧ Hid (wr.ownsRow (w.heap.size + 1) 90 5 vo t (spCells (spL j x (L.take t))))) (fun _ kk _ => n - (intOf kk).toNat)
  case atStart => exact ⟨0, rfl, Nat.zero_le _, hid (Fr.refl _ _), hid (World.ownsRow_nil _ _ _ _)⟩
  case round =>
    obtain ⟨t, rfl, htn, HFt, HOt⟩ := hrel
    have HFw := hid (HFb.out.trans HFt.out)
    by_cases htl : t < n
    · have htI : (t : Int) < (n : Int) := by omega
      obtain ⟨p, hp⟩ : ∃ p, L[t]? = some p := ⟨_, List.getElem?_eq_getElem (by have := HN.out; omega)⟩
      obtain ⟨hp1, hp2⟩ := HL.out p (List.mem_of_getElem? hp)
      rw [← HLX.out] at hp2
      obtain ⟨gS, cS', hvS⟩ := owns_shape (by have := HN.out; omega) HS.out
      cases hvS
      have hown := owns_fr0 HS.out HFw.out
      obtain ⟨a1, a2⟩ := ptCells_at L t p hp
      have c0 : wr.cell? ⟨gS, t * 2, none⟩ = some (.int .i64 (p.1 : Nat)) := by rw [hown.cellAt _ (by have := HN.out; omega)]; exact a1
      have c1 : wr.cell? ⟨gS, t * 2 + 1, none⟩ = some (.int .i64 (p.2 : Nat)) := by rw [hown.cellAt _ (by have := HN.out; omega)]; exact a2
      have q1 : wr.cell? ⟨w.heap.size, 3, none⟩ = some (.slice (some ⟨gX, 0, none⟩) lx cX) := obj_cell (obj_fr HOb.out HFt.out List.not_mem_nil) (i := 3) rfl
      have q2 := HFw.out.cell (HX.out p.1 (by have := HLX.out; omega)) List.not_mem_nil
      have q3 := HFw.out.cell (HX.out p.2 (by have := HLX.out; omega)) List.not_mem_nil
      have HSN := hid (show spL j x (L.take (t + 1)) = spL j x (L.take t) ++ [⟨j, p.1, p.2, nth x p.1, nth x p.2⟩] by
        unfold spL
        rw [List.take_add_one, hp, List.map_append]; rfl)
      have HXL := hid (HX.out p.1 (by have := HLX.out; omega))
      generalize nth x p.1 = xa at *
      generalize nth x p.2 = xb at *
      generalize p.1 = f0 at *
      generalize p.2 = k0 at *
      have hfI : (f0 : Int) < (lx : Int) := by omega
      have hkI : (k0 : Int) < (lx : Int) := by omega
      clear hown a1 a2 hp
      have hgXl := World.block_lt_of_cell? _ _ HXL.out
      dsimp only at hgXl
      go_wp2_with fail
      clear c0 c1
      obtain ⟨w1, hw1⟩ : ∃ w1, w1 = wr.alloc (.cells #[.int .i64 f0, .int .i64 k0] 337) := ⟨_, rfl⟩
      obtain ⟨gP, hgP⟩ : ∃ gP, gP = wr.heap.size := ⟨_, rfl⟩
      have HF1 := hid (show Fr [] wr w1 by rw [hw1]; exact (Fr.refl [] wr).alloc _)
      have HP1 := hid (show w1.heap[gP]? = some (.cells #[.int .i64 f0, .int .i64 k0] 337 (0, 0)) by rw [hw1, hgP]; exact obj_new wr _)
      have hw1s : w1.heap.size = gP + 1 := by rw [hw1, hgP]; simp
      have hgt := HFt.out.size
      have HLT := hid (fun g (hg : u7.ownBlock = some g) => show w.heap.size + 1 ≤ g ∧ g < gP by rw [hgP]; exact HOt.out.lt g hg)
      rw [← hw1, ← hgP]
      rw [← hgP] at hgt
      have s0 := obj_cell HP1.out (i := 0) rfl
      have s1 := obj_cell HP1.out (i := 1) rfl
      have s2 := HF1.out.cell q1 List.not_mem_nil
      have s3 := HF1.out.cell q2 List.not_mem_nil
      have s4 := HF1.out.cell q3 List.not_mem_nil
      have HO1 := hid (owns_fr0 HOt.out HF1.out)
      clear q1 q2 q3 hw1 hgP
      have HKP := hid (fun (w1' w' : World) (hf : Fr [] w1 w1') (hg : w1'.grownBy w' u7.ownBlock) => show w'.cell? ⟨gP, 0, none⟩ = some (.int .i64 f0) ∧ w'.cell? ⟨gP, 1, none⟩ = some (.int .i64 k0) ∧ w'.cell? ⟨w.heap.size, 3, none⟩ = some (.slice (some ⟨gX, 0, none⟩) lx cX) ∧ w'.cell? ⟨gX, f0, none⟩ = some (.int .i64 xa) ∧ w'.cell? ⟨gX, k0, none⟩ = some (.int .i64 xb) from by
        have hs := hf.size
        have K : ∀ (b o : Nat) (v : Value), b < gP + 1 → (∀ g, u7.ownBlock = some g → g ≠ b) → w1.cell? ⟨b, o, none⟩ = some v → w'.cell? ⟨b, o, none⟩ = some v := fun b o v hb hne hc =>
          (World.cell?_of_block (a := ⟨b, o, none⟩) (hg.block b (by omega) (fun e => hne b e.symm rfl))).trans (hf.cell hc List.not_mem_nil)
        have h1 : ∀ g, u7.ownBlock = some g → g ≠ gP := fun g hg => by have := HLT.out g hg; omega
        have h2 : ∀ g, u7.ownBlock = some g → g ≠ w.heap.size := fun g hg => by have := HLT.out g hg; omega
        have h3 : ∀ g, u7.ownBlock = some g → g ≠ gX := fun g hg => by have := HLT.out g hg; omega
        exact ⟨K _ _ _ (by omega) h1 s0, K _ _ _ (by omega) h1 s1, K _ _ _ (by omega) h2 s2, K _ _ _ (by omega) h3 s3, K _ _ _ (by omega) h3 s4⟩)
      have hb0 : gP < w1.heap.size := by omega
      have hb1 : w.heap.size < w1.heap.size := by omega
      have hb2 : gX < w1.heap.size := by omega
      go_region_held_law (fun w' => w'.cell? ⟨gP, 0, none⟩ = some (.int .i64 f0) ∧ w'.cell? ⟨gP, 1, none⟩ = some (.int .i64 k0) ∧ w'.cell? ⟨w.heap.size, 3, none⟩ = some (.slice (some ⟨gX, 0, none⟩) lx cX) ∧ w'.cell? ⟨gX, f0, none⟩ = some (.int .i64 xa) ∧ w'.cell? ⟨gX, k0, none⟩ = some (.int .i64 xb)) (first | exact HS1 | go_keep) ((refine step_app rfl (.tmp 16) (.tmp 35) 38 rfl (w.heap.size + 1) 90 i0 _ 5 40 Tryz.underlying38 hi hz0 hz1 hz2 rfl (by decide) u7 t (spCells (spL j x (L.take t))) ?q1 ?q2 ⟨w1.heap.size, 0, none⟩ 1 1 [.int .i64 j, .int .i64 f0, .int .i64 k0, .int .i64 xa, .int .i64 xb] ?q3 rfl ?q4 (five_one _ _ _ _ _) (by unfold maxLen; omega) (by omega) ?q5 ?_; (case q1 => first | rfl | simp [Act.eval]); (case q2 => exact owns_fr0 HO1.out (frA _ _)); (case q3 => first | rfl | simp [Act.eval]); (case q4 => exact news_at _ _ _ _ (by simp)); (case q5 => simp; omega); intro v' w' hown hgrow; have HG1 := hid hown; have HG2 := hid hgrow; have HS1 := HKP.out _ _ (frA _ _) hgrow; clear hown hgrow))
      all_goals (
        have HF9 := hid (show Fr [] wb w' from Fr.grown ((HFt.out.trans HF1.out).trans (frA w1 (.cells #[.int .i64 j, .int .i64 f0, .int .i64 k0, .int .i64 xa, .int .i64 xb] 90))) HG2.out (fun g hg => by have := HLT.out g hg; omega))
        have HO9 := hid (show w'.ownsRow (w.heap.size + 1) 90 5 v' (t + 1) (spCells (spL j x (L.take (t + 1)))) by rw [HSN.out, ← spCells_app]; exact HG1.out)
        go_wp2
        go_roundw
        case rel => exact ⟨t + 1, by go_num, by omega, HF9, HO9⟩
        case measure => simp [intOf]; omega)
    · obtain rfl : t = n := by omega
      have htI : ¬ (t : Int) < (t : Int) := by omega
      have HFin := hid (show wr.ownsRow w.heap.size 90 5 u7 R.length (spCells R) by
        have h := HOt.out
        rw [show L.take t = L by rw [HN.out, List.take_length], ← HR.out] at h
        have e : R.length = t := by rw [HR.out, spL, List.length_map, HN.out]
        rw [e]
        exact owns_low h (by omega))
      go_wp2
      go_ret
      exact ⟨_, rfl, HFin.out, HFw.out⟩
end Go.Proofs.YtnakejhohdbfdabGreatDoor
