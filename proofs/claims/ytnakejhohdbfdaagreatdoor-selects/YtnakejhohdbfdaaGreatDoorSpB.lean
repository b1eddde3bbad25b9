/- The spans of a line's parts, walked. -/
import Derived.Test.YtnakejhohdbfdaaGreatDoorSpA
import Derived.Test.YtnakejhohdbfdaaGreatDoorXLdD
import Derived.Deep.RegionHeldLaw
namespace Go.Proofs.YtnakejhohdbfdaaGreatDoor
open Go.RowKit Lev Lay

set_option maxRecDepth 10000 in
set_option maxHeartbeats 4000000 in
theorem spans_any (j : Nat) (lf lt : Int) (vO : Value) (gX cX : Nat) (x : List Int) (L : List (Nat × Nat)) (vS : Value) (B : Nat) (w : World) (hX : ∀ t, t < x.length → w.cell? ⟨gX, t, none⟩ = some (.int .i64 (nth x t))) (hS : w.ownsRow B 250 2 vS L.length (ptCells L)) (hL : ∀ p ∈ L, p.1 < p.2 ∧ p.2 < x.length) (hn : L.length ≤ 10000) :
    Calls Tryz.prog 114 #[.int .i64 j, .agg #[.int .i64 lf, .int .i64 lt, vO, .slice (some ⟨gX, 0, none⟩) x.length cX], vS] w fun e w' => ∃ v, e = .returned v ∧ w'.ownsRow w.heap.size 119 5 v (spL j x L).length (spCells (spL j x L)) ∧ Fr [] w w' := by
  obtain ⟨i0, hi, hz0, hz1, hz2⟩ := info_parts info119
  obtain ⟨aS, cS, rfl⟩ := owns_slice hS
  obtain ⟨n, hnn⟩ : ∃ n, n = L.length := ⟨_, rfl⟩
  obtain ⟨lx, hlx⟩ : ∃ lx, lx = x.length := ⟨_, rfl⟩
  have HX := hid hX
  have HS := hid hS
  have HL := hid hL
  have HN := hid hnn
  have HLX := hid hlx
  rw [← hnn] at hn ⊢
  rw [← hlx]
  obtain ⟨wb, hwb⟩ : ∃ wb, wb = w.alloc (.cells #[.int .i64 lf, .int .i64 lt, vO, .slice (some ⟨gX, 0, none⟩) lx cX] 51) := ⟨_, rfl⟩
  have HFb := hid (show Fr [] w wb by rw [hwb]; exact (Fr.refl [] w).alloc _)
  have HOb := hid (show wb.heap[w.heap.size]? = some (.cells #[.int .i64 lf, .int .i64 lt, vO, .slice (some ⟨gX, 0, none⟩) lx cX] 51 (0, 0)) by rw [hwb]; exact obj_new w _)
  obtain ⟨R, hR⟩ : ∃ R, R = spL j x L := ⟨_, rfl⟩
  rw [← hR]
  have HR := hid hR
  clear hX hS hL hnn hlx hR
  go_enter Tryz.func114, Tryz.ntmps114
  go_wp2_with fail
  rw [← hwb]
  have hwbs : wb.heap.size = w.heap.size + 1 := by rw [hwb]; simp
  clear hwb
  go_loopw [7, 12] (fun vo kk wr => ∃ t : Nat, kk = .int .i64 t ∧ t ≤ n ∧ Hid (Fr [] wb wr) ∧ Hid (wr.ownsRow (w.heap.size + 1) 119 5 vo t (spCells (spL j x (L.take t))))) (fun _ kk _ => n - (intOf kk).toNat)
  case atStart => exact ⟨0, rfl, Nat.zero_le _, hid (Fr.refl _ _), hid (World.ownsRow_nil _ _ _ _)⟩
  case round =>
    obtain ⟨t, rfl, htn, HFt, HOt⟩ := hrel
    have HFw := hid (HFb.out.trans HFt.out)
    by_cases htl : t < n
    · have htI : (t : Int) < (n : Int) := by omega
      obtain ⟨p, hp⟩ : ∃ p, L[t]? = some p := ⟨_, List.getElem?_eq_getElem (by have := HN.out; omega)⟩
      obtain ⟨hp1, hp2⟩ := HL.out p (List.mem_of_getElem? hp)
      rw [← HLX.out] at hp2
      obtain ⟨gS, cS', hvS⟩ := owns_shape (by have := HN.out; omega) HS.out
      cases hvS
      have hown := owns_fr0 HS.out HFw.out
      obtain ⟨a1, a2⟩ := ptCells_at L t p hp
      have c0 : wr.cell? ⟨gS, t * 2, none⟩ = some (.int .i64 (p.1 : Nat)) := by rw [hown.cellAt _ (by have := HN.out; omega)]; exact a1
      have c1 : wr.cell? ⟨gS, t * 2 + 1, none⟩ = some (.int .i64 (p.2 : Nat)) := by rw [hown.cellAt _ (by have := HN.out; omega)]; exact a2
      have q1 : wr.cell? ⟨w.heap.size, 3, none⟩ = some (.slice (some ⟨gX, 0, none⟩) lx cX) := obj_cell (obj_fr HOb.out HFt.out List.not_mem_nil) (i := 3) rfl
      have q2 := HFw.out.cell (HX.out p.1 (by have := HLX.out; omega)) List.not_mem_nil
      have q3 := HFw.out.cell (HX.out p.2 (by have := HLX.out; omega)) List.not_mem_nil
      have HSN := hid (show spL j x (L.take (t + 1)) = spL j x (L.take t) ++ [⟨j, p.1, p.2, nth x p.1, nth x p.2⟩] by
        unfold spL
        rw [List.take_add_one, hp, List.map_append]; rfl)
      have HXL := hid (HX.out p.1 (by have := HLX.out; omega))
      generalize nth x p.1 = xa at *
      generalize nth x p.2 = xb at *
      generalize p.1 = f0 at *
      generalize p.2 = k0 at *
      have hfI : (f0 : Int) < (lx : Int) := by omega
      have hkI : (k0 : Int) < (lx : Int) := by omega
      clear hown a1 a2 hp
      have hgXl := World.block_lt_of_cell? _ _ HXL.out
      dsimp only at hgXl
      go_wp2_with fail
      clear c0 c1
      obtain ⟨w1, hw1⟩ : ∃ w1, w1 = wr.alloc (.cells #[.int .i64 f0, .int .i64 k0] 250) := ⟨_, rfl⟩
      obtain ⟨gP, hgP⟩ : ∃ gP, gP = wr.heap.size := ⟨_, rfl⟩
      have HF1 := hid (show Fr [] wr w1 by rw [hw1]; exact (Fr.refl [] wr).alloc _)
      have HP1 := hid (show w1.heap[gP]? = some (.cells #[.int .i64 f0, .int .i64 k0] 250 (0, 0)) by rw [hw1, hgP]; exact obj_new wr _)
      have hw1s : w1.heap.size = gP + 1 := by rw [hw1, hgP]; simp
      have hgt := HFt.out.size
      have HLT := hid (fun g (hg : u7.ownBlock = some g) => show w.heap.size + 1 ≤ g ∧ g < gP by rw [hgP]; exact HOt.out.lt g hg)
      rw [← hw1, ← hgP]
      rw [← hgP] at hgt
      have s0 := obj_cell HP1.out (i := 0) rfl
      have s1 := obj_cell HP1.out (i := 1) rfl
      have s2 := HF1.out.cell q1 List.not_mem_nil
      have s3 := HF1.out.cell q2 List.not_mem_nil
      have s4 := HF1.out.cell q3 List.not_mem_nil
      have HO1 := hid (owns_fr0 HOt.out HF1.out)
      clear q1 q2 q3 hw1 hgP
      have HKP := hid (fun (w1' w' : World) (hf : Fr [] w1 w1') (hg : w1'.grownBy w' u7.ownBlock) => show w'.cell? ⟨gP, 0, none⟩ = some (.int .i64 f0) ∧ w'.cell? ⟨gP, 1, none⟩ = some (.int .i64 k0) ∧ w'.cell? ⟨w.heap.size, 3, none⟩ = some (.slice (some ⟨gX, 0, none⟩) lx cX) ∧ w'.cell? ⟨gX, f0, none⟩ = some (.int .i64 xa) ∧ w'.cell? ⟨gX, k0, none⟩ = some (.int .i64 xb) from by
        have hs := hf.size
        have K : ∀ (b o : Nat) (v : Value), b < gP + 1 → (∀ g, u7.ownBlock = some g → g ≠ b) → w1.cell? ⟨b, o, none⟩ = some v → w'.cell? ⟨b, o, none⟩ = some v := fun b o v hb hne hc =>
          (World.cell?_of_block (a := ⟨b, o, none⟩) (hg.block b (by omega) (fun e => hne b e.symm rfl))).trans (hf.cell hc List.not_mem_nil)
        have h1 : ∀ g, u7.ownBlock = some g → g ≠ gP := fun g hg => by have := HLT.out g hg; omega
        have h2 : ∀ g, u7.ownBlock = some g → g ≠ w.heap.size := fun g hg => by have := HLT.out g hg; omega
        have h3 : ∀ g, u7.ownBlock = some g → g ≠ gX := fun g hg => by have := HLT.out g hg; omega
        exact ⟨K _ _ _ (by omega) h1 s0, K _ _ _ (by omega) h1 s1, K _ _ _ (by omega) h2 s2, K _ _ _ (by omega) h3 s3, K _ _ _ (by omega) h3 s4⟩)
      have hb0 : gP < w1.heap.size := by omega
      have hb1 : w.heap.size < w1.heap.size := by omega
      have hb2 : gX < w1.heap.size := by omega
      go_region_held_law (fun w' => w'.cell? ⟨gP, 0, none⟩ = some (.int .i64 f0) ∧ w'.cell? ⟨gP, 1, none⟩ = some (.int .i64 k0) ∧ w'.cell? ⟨w.heap.size, 3, none⟩ = some (.slice (some ⟨gX, 0, none⟩) lx cX) ∧ w'.cell? ⟨gX, f0, none⟩ = some (.int .i64 xa) ∧ w'.cell? ⟨gX, k0, none⟩ = some (.int .i64 xb)) (first | exact HS1 | go_keep) ((refine step_app rfl (.tmp 16) (.tmp 35) 69 rfl (w.heap.size + 1) 119 i0 _ 5 40 Tryz.underlying69 hi hz0 hz1 hz2 rfl (by decide) u7 t (spCells (spL j x (L.take t))) ?q1 ?q2 ⟨w1.heap.size, 0, none⟩ 1 1 [.int .i64 j, .int .i64 f0, .int .i64 k0, .int .i64 xa, .int .i64 xb] ?q3 rfl ?q4 (five_one _ _ _ _ _) (by unfold maxLen; omega) (by omega) ?q5 ?_; (case q1 => first | rfl | simp [Act.eval]); (case q2 => exact owns_fr0 HO1.out (frA _ _)); (case q3 => first | rfl | simp [Act.eval]); (case q4 => exact news_at _ _ _ _ (by simp)); (case q5 => simp; omega); intro v' w' hown hgrow; have HG1 := hid hown; have HG2 := hid hgrow; have HS1 := HKP.out _ _ (frA _ _) hgrow; clear hown hgrow))
      all_goals (
        have HF9 := hid (show Fr [] wb w' from Fr.grown ((HFt.out.trans HF1.out).trans (frA w1 (.cells #[.int .i64 j, .int .i64 f0, .int .i64 k0, .int .i64 xa, .int .i64 xb] 119))) HG2.out (fun g hg => by have := HLT.out g hg; omega))
        have HO9 := hid (show w'.ownsRow (w.heap.size + 1) 119 5 v' (t + 1) (spCells (spL j x (L.take (t + 1)))) by rw [HSN.out, ← spCells_app]; exact HG1.out)
        go_wp2
        go_roundw
        case rel => exact ⟨t + 1, by go_num, by omega, HF9, HO9⟩
        case measure => simp [intOf]; omega)
    · obtain rfl : t = n := by omega
      have htI : ¬ (t : Int) < (t : Int) := by omega
      have HFin := hid (show wr.ownsRow w.heap.size 119 5 u7 R.length (spCells R) by
        have h := HOt.out
        rw [show L.take t = L by rw [HN.out, List.take_length], ← HR.out] at h
        have e : R.length = t := by rw [HR.out, spL, List.length_map, HN.out]
        rw [e]
        exact owns_low h (by omega))
      go_wp2
      go_ret
      exact ⟨_, rfl, HFin.out, HFw.out⟩
end Go.Proofs.YtnakejhohdbfdaaGreatDoor
namespace Go.Proofs.YtnakejhohdbfdaaGreatDoor
open Go.RowKit Lev Lay

theorem step_appo {P : Program} {ops : Array Oper} {o : Oper} {a : Act} {w : World} {K : Act → World → Prop} {Q : Exit → Act → World → Prop} {X : Prop}
    (hg : o.guard = none) (s x : Operand) (t : TypeId) (hop : o.op = Op.call { callee := Callee.builtin Builtin.append, args := #[s, x], argTypes := #[t, t] })
    (base : Nat) (e : TypeId) (i : TypeInfo) (z : Value) (size bytes : Nat) (h1 : P.underlying t = some (.slice e)) (h2 : P.info? e = some i) (h3 : i.zero = some z) (h4 : i.size = size) (h5 : i.bytes = bytes) (h6 : z.cells.size = size) (h7 : 0 < size)
    (v : Value) (n : Nat) (xs : List Value) (hs : a.eval s = v) (hown : w.ownsRow base e size v n xs)
    (B' : Nat) (vx : Value) (m : Nat) (news : List Value) (hx : a.eval x = vx) (hnx : w.ownsRow B' e size vx m news) (h1c : ∀ u ∈ news, u.oneCell' = true)
    (b1 : n + m ≤ maxLen) (b2 : (n + m) * bytes ≤ 140737488355328) (b3 : base ≤ w.heap.size)
    (hK : ∀ v' w', w'.ownsRow base e size v' (n + m) (xs ++ news) → w.grownBy w' v.ownBlock → K (a.put o.dst v') w') :
    if Region.wanted o (yielded ops a.tmps) = true then Oper.wp P o a w K Q else X := by
  have hl := hnx.1
  rcases hnx.2 with ⟨hv, hm⟩ | ⟨g, cap, cur, hv, _⟩
  · have hw : Region.wanted o (yielded ops a.tmps) = true := by simp [Region.wanted, hg]
    rw [if_pos hw]
    have hnil : news = [] := List.length_eq_zero_iff.1 (by rw [hl, hm, Nat.zero_mul])
    have hrun := run_append_owned_none (P := P) (w := w) base t o.type e i size h1 h2 v n xs hown
    subst hnil
    subst hm
    have hk := hK v w (by simpa using hown) ⟨rfl, rfl, rfl, Nat.le_refl _, fun _ _ _ => rfl⟩
    unfold Oper.wp
    simp [execOp, hop, resolve, invoke, builtin, hs, hx, hv, hrun, Result.andThen]
    exact hk
  · exact step_app hg s x t hop base e i z size bytes h1 h2 h3 h4 h5 h6 h7 v n xs hs hown ⟨g, 0, none⟩ m cap news (hx.trans hv) hl (fun j u hu => by
      rw [hv] at hnx
      have hj : j < news.length := (List.getElem?_eq_some_iff.1 hu).1
      have h := hnx.cellAt j (by omega)
      rw [hu] at h
      rcases Nat.eq_zero_or_pos j with h9 | h9
      · subst h9; exact h
      · simpa [Addr.add, show ¬ j = 0 by omega] using h) h1c b1 b2 b3 hK
set_option maxHeartbeats 1000000 in
theorem parts_nil (F : Nat) (caps : Array Value) (w : World) :
    Calls Tryz.prog 115 #[.slice none 0 0, .func (.func F) #[] caps] w fun e w' => e = .returned (.slice none 0 0) ∧ w' = w := by
  go_enter Tryz.func115, Tryz.ntmps115
  go_wp2_with fail
  go_loopw [5, 6, 11] (fun vo ff gg wr => ∃ k : Nat, gg = .int .i64 k ∧ k ≤ 1 ∧ ff = .int .i64 k ∧ vo = .slice none 0 0 ∧ wr = w) (fun _ _ gg _ => 1 - (intOf gg).toNat)
  case atStart => exact ⟨0, rfl, Nat.zero_le _, rfl, by simp⟩
  case round =>
    obtain ⟨k, rfl, hk, rfl, rfl, rfl⟩ := hrel
    by_cases h : k < 1
    · obtain rfl : k = 0 := by omega
      go_wp2
      go_roundw
      case rel => exact ⟨1, rfl, Nat.le_refl _, rfl, by simp⟩
      case measure => simp [intOf]
    · obtain rfl : k = 1 := by omega
      go_wp2
      go_ret
      exact ⟨rfl, rfl⟩
theorem parts_gen (F : Nat) (caps : Array Value) (p : Nat → Bool) (o : List Nat) (B : Nat) (v : Value) (w : World) (hl : o.length ≤ 1000) (hO : w.ownsRow B 3 1 v o.length (intsN o)) (eg : ∀ args w, (callFunc F args).run Tryz.prog w = .ok (.enter F args) w)
    (hf : ∀ X, Fr [] w X → ∀ i, i < o.length → Calls Tryz.prog F (#[.int .i64 (nix o i : Nat)] ++ caps) X fun e w' => e = .returned (.bool (p (nix o i))) ∧ ∃ q, w' = X.drewN q) :
    Calls Tryz.prog 115 #[v, .func (.func F) #[] caps] w fun e w' => ∃ v, e = .returned v ∧ w'.ownsRow w.heap.size 250 2 v (Lay.parts p o).length (ptCells (Lay.parts p o)) ∧ Fr [] w w' := by
  rcases hO.2 with ⟨hv, h0⟩ | ⟨g, cap, cur, hv, _⟩
  · rw [hv]
    refine (parts_nil F caps w).mono ?_
    rintro e w' ⟨rfl, rfl⟩
    have : Lay.parts p o = [] := by rw [List.length_eq_zero_iff.1 h0]; rfl
    rw [this]
    exact ⟨_, rfl, World.ownsRow_nil _ _ _ _, Fr.refl _ _⟩
  · rw [hv] at hO ⊢
    exact parts_any F caps p o g cap w hl (owns_rowN hO rfl) eg hf
end Go.Proofs.YtnakejhohdbfdaaGreatDoor
