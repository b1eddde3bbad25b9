import Derived.Test.YtnakejhohdbfdabGreatDoorSpA
import Derived.Test.YtnakejhohdbfdabGreatDoorKPvD
import Derived.Test.YtnakejhohdbfdabGreatDoorKQcI
namespace Go.Proofs.YtnakejhohdbfdabGreatDoor
open Go.RowKit Lev Lay

set_option maxRecDepth 10000 in
set_option maxHeartbeats 4000000 in
theorem spans_any (j : Nat) (lf lt : Int) (vO : Value) (gX cX : Nat) (x : List Int) (L : List (Nat × Nat)) (vS : Value) (B : Nat) (w : World) (hX : ∀ t, t < x.length → w.cell? ⟨gX, t, none⟩ = some (.int .i64 (nth x t))) (hS : w.ownsRow B 337 2 vS L.length (ptCells L)) (hL : ∀ p ∈ L, p.1 < p.2 ∧ p.2 < x.length) (hn : L.length ≤ 10000) :
    Calls Tryz.prog 161 #[.int .i64 j, .agg #[.int .i64 lf, .int .i64 lt, vO, .slice (some ⟨gX, 0, none⟩) x.length cX], vS] w fun e w' => ∃ v, e = .returned v ∧ w'.ownsRow w.heap.size 90 5 v (spL j x L).length (spCells (spL j x L)) ∧ Fr [] w w' := by
  obtain ⟨i0, hi, hz0, hz1, hz2⟩ := info_parts info90
  obtain ⟨aS, cS, rfl⟩ := owns_slice hS
  obtain ⟨n, hnn⟩ : ∃ n, n = L.length := ⟨_, rfl⟩
  obtain ⟨lx, hlx⟩ : ∃ lx, lx = x.length := ⟨_, rfl⟩
  have HX := hid hX
  have HS := hid hS
  have HL := hid hL
  have HN := hid hnn
  have HLX := hid hlx
  rw [← hnn] at hn ⊢
  rw [← hlx]
  obtain ⟨wb, hwb⟩ : ∃ wb, wb = w.alloc (.cells #[.int .i64 lf, .int .i64 lt, vO, .slice (some ⟨gX, 0, none⟩) lx cX] 72) := ⟨_, rfl⟩
  have HFb := hid (show Fr [] w wb by rw [hwb]; exact (Fr.refl [] w).alloc _)
  have HOb := hid (show wb.heap[w.heap.size]? = some (.cells #[.int .i64 lf, .int .i64 lt, vO, .slice (some ⟨gX, 0, none⟩) lx cX] 72 (0, 0)) by rw [hwb]; exact obj_new w _)
  obtain ⟨R, hR⟩ : ∃ R, R = spL j x L := ⟨_, rfl⟩
  rw [← hR]
  have HR := hid hR
  clear hX hS hL hnn hlx hR
  go_enter Tryz.func161, Tryz.ntmps161
  go_wp2_with fail
  rw [← hwb]
  have hwbs : wb.heap.size = w.heap.size + 1 := by rw [hwb]; simp
  clear hwb
  go_loopw [7, 12] (fun vo kk wr => ∃ t : Nat, kk = .int .i64 t ∧ t ≤ n ∧ Hid (Fr [] wb wr) ∧ Hid (wr.ownsRow (w.heap.size + 1) 90 5 vo t (spCells (spL j x (L.take t))))) (fun _ kk _ => n - (intOf kk).toNat)
  case atStart => exact ⟨0, rfl, Nat.zero_le _, hid (Fr.refl _ _), hid (World.ownsRow_nil _ _ _ _)⟩
  case round =>
    obtain ⟨t, rfl, htn, HFt, HOt⟩ := hrel
    have HFw := hid (HFb.out.trans HFt.out)
    by_cases htl : t < n
    · have htI : (t : Int) < (n : Int) := by omega
      obtain ⟨p, hp⟩ : ∃ p, L[t]? = some p := ⟨_, List.getElem?_eq_getElem (by have := HN.out; omega)⟩
      obtain ⟨hp1, hp2⟩ := HL.out p (List.mem_of_getElem? hp)
      rw [← HLX.out] at hp2
      obtain ⟨gS, cS', hvS⟩ := owns_shape (by have := HN.out; omega) HS.out
      cases hvS
      have hown := owns_fr0 HS.out HFw.out
      obtain ⟨a1, a2⟩ := ptCells_at L t p hp
      have c0 : wr.cell? ⟨gS, t * 2, none⟩ = some (.int .i64 (p.1 : Nat)) := by rw [hown.cellAt _ (by have := HN.out; omega)]; exact a1
      have c1 : wr.cell? ⟨gS, t * 2 + 1, none⟩ = some (.int .i64 (p.2 : Nat)) := by rw [hown.cellAt _ (by have := HN.out; omega)]; exact a2
      have q1 : wr.cell? ⟨w.heap.size, 3, none⟩ = some (.slice (some ⟨gX, 0, none⟩) lx cX) := obj_cell (obj_fr HOb.out HFt.out List.not_mem_nil) (i := 3) rfl
      have q2 := HFw.out.cell (HX.out p.1 (by have := HLX.out; omega)) List.not_mem_nil
      have q3 := HFw.out.cell (HX.out p.2 (by have := HLX.out; omega)) List.not_mem_nil
      have HSN := hid (show spL j x (L.take (t + 1)) = spL j x (L.take t) ++ [⟨j, p.1, p.2, nth x p.1, nth x p.2⟩] by
        unfold spL
        rw [List.take_add_one, hp, List.map_append]; rfl)
      have HXL := hid (HX.out p.1 (by have := HLX.out; omega))
      generalize nth x p.1 = xa at *
      generalize nth x p.2 = xb at *
      generalize p.1 = f0 at *
      generalize p.2 = k0 at *
      have hfI : (f0 : Int) < (lx : Int) := by omega
      have hkI : (k0 : Int) < (lx : Int) := by omega
      clear hown a1 a2 hp
      have hgXl := World.block_lt_of_cell? _ _ HXL.out
      dsimp only at hgXl
      go_wp2_with fail
      clear c0 c1
      obtain ⟨w1, hw1⟩ : ∃ w1, w1 = wr.alloc (.cells #[.int .i64 f0, .int .i64 k0] 337) := ⟨_, rfl⟩
      obtain ⟨gP, hgP⟩ : ∃ gP, gP = wr.heap.size := ⟨_, rfl⟩
      have HF1 := hid (show Fr [] wr w1 by rw [hw1]; exact (Fr.refl [] wr).alloc _)
      have HP1 := hid (show w1.heap[gP]? = some (.cells #[.int .i64 f0, .int .i64 k0] 337 (0, 0)) by rw [hw1, hgP]; exact obj_new wr _)
      have hw1s : w1.heap.size = gP + 1 := by rw [hw1, hgP]; simp
      have hgt := HFt.out.size
      have HLT := hid (fun g (hg : u7.ownBlock = some g) => show w.heap.size + 1 ≤ g ∧ g < gP by rw [hgP]; exact HOt.out.lt g hg)
      rw [← hw1, ← hgP]
      rw [← hgP] at hgt
      have s0 := obj_cell HP1.out (i := 0) rfl
      have s1 := obj_cell HP1.out (i := 1) rfl
      have s2 := HF1.out.cell q1 List.not_mem_nil
      have s3 := HF1.out.cell q2 List.not_mem_nil
      have s4 := HF1.out.cell q3 List.not_mem_nil
      have HO1 := hid (owns_fr0 HOt.out HF1.out)
      clear q1 q2 q3 hw1 hgP
      have HKP := hid (fun (w1' w' : World) (hf : Fr [] w1 w1') (hg : w1'.grownBy w' u7.ownBlock) => show w'.cell? ⟨gP, 0, none⟩ = some (.int .i64 f0) ∧ w'.cell? ⟨gP, 1, none⟩ = some (.int .i64 k0) ∧ w'.cell? ⟨w.heap.size, 3, none⟩ = some (.slice (some ⟨gX, 0, none⟩) lx cX) ∧ w'.cell? ⟨gX, f0, none⟩ = some (.int .i64 xa) ∧ w'.cell? ⟨gX, k0, none⟩ = some (.int .i64 xb) from by
        have hs := hf.size
        have K : ∀ (b o : Nat) (v : Value), b < gP + 1 → (∀ g, u7.ownBlock = some g → g ≠ b) → w1.cell? ⟨b, o, none⟩ = some v → w'.cell? ⟨b, o, none⟩ = some v := fun b o v hb hne hc =>
          (World.cell?_of_block (a := ⟨b, o, none⟩) (hg.block b (by omega) (fun e => hne b e.symm rfl))).trans (hf.cell hc List.not_mem_nil)
        have h1 : ∀ g, u7.ownBlock = some g → g ≠ gP := fun g hg => by have := HLT.out g hg; omega
        have h2 : ∀ g, u7.ownBlock = some g → g ≠ w.heap.size := fun g hg => by have := HLT.out g hg; omega
        have h3 : ∀ g, u7.ownBlock = some g → g ≠ gX := fun g hg => by have := HLT.out g hg; omega
        exact ⟨K _ _ _ (by omega) h1 s0, K _ _ _ (by omega) h1 s1, K _ _ _ (by omega) h2 s2, K _ _ _ (by omega) h3 s3, K _ _ _ (by omega) h3 s4⟩)
      have hb0 : gP < w1.heap.size := by omega
      have hb1 : w.heap.size < w1.heap.size := by omega
      have hb2 : gX < w1.heap.size := by omega
      go_region_held_law (fun w' => w'.cell? ⟨gP, 0, none⟩ = some (.int .i64 f0) ∧ w'.cell? ⟨gP, 1, none⟩ = some (.int .i64 k0) ∧ w'.cell? ⟨w.heap.size, 3, none⟩ = some (.slice (some ⟨gX, 0, none⟩) lx cX) ∧ w'.cell? ⟨gX, f0, none⟩ = some (.int .i64 xa) ∧ w'.cell? ⟨gX, k0, none⟩ = some (.int .i64 xb)) (first | exact HS1 | go_keep) ((refine step_app rfl (.tmp 16) (.tmp 35) 38 rfl (w.heap.size + 1) 90 i0 _ 5 40 Tryz.underlying38 hi hz0 hz1 hz2 rfl (by decide) u7 t (spCells (spL j x (L.take t))) ?q1 ?q2 ⟨w1.heap.size, 0, none⟩ 1 1 [.int .i64 j, .int .i64 f0, .int .i64 k0, .int .i64 xa, .int .i64 xb] ?q3 rfl ?q4 (five_one _ _ _ _ _) (by unfold maxLen; omega) (by omega) ?q5 ?_; (case q1 => first | rfl | simp [Act.eval]); (case q2 => exact owns_fr0 HO1.out (frA _ _)); (case q3 => first | rfl | simp [Act.eval]); (case q4 => exact news_at _ _ _ _ (by simp)); (case q5 => simp; omega); intro v' w' hown hgrow; have HG1 := hid hown; have HG2 := hid hgrow; have HS1 := HKP.out _ _ (frA _ _) hgrow; clear hown hgrow))
      all_goals (
        have HF9 := hid (show Fr [] wb w' from Fr.grown ((HFt.out.trans HF1.out).trans (frA w1 (.cells #[.int .i64 j, .int .i64 f0, .int .i64 k0, .int .i64 xa, .int .i64 xb] 90))) HG2.out (fun g hg => by have := HLT.out g hg; omega))
        have HO9 := hid (show w'.ownsRow (w.heap.size + 1) 90 5 v' (t + 1) (spCells (spL j x (L.take (t + 1)))) by rw [HSN.out, ← spCells_app]; exact HG1.out)
        go_wp2
        go_roundw
        case rel => exact ⟨t + 1, by go_num, by omega, HF9, HO9⟩
        case measure => simp [intOf]; omega)
    · obtain rfl : t = n := by omega
      have htI : ¬ (t : Int) < (t : Int) := by omega
      have HFin := hid (show wr.ownsRow w.heap.size 90 5 u7 R.length (spCells R) by
        have h := HOt.out
        rw [show L.take t = L by rw [HN.out, List.take_length], ← HR.out] at h
        have e : R.length = t := by rw [HR.out, spL, List.length_map, HN.out]
        rw [e]
        exact owns_low h (by omega))
      go_wp2
      go_ret
      exact ⟨_, rfl, HFin.out, HFw.out⟩
end Go.Proofs.YtnakejhohdbfdabGreatDoor
namespace Go.Proofs.YtnakejhohdbfdabGreatDoor
open Go.RowKit Lev Lay

theorem step_appo {P : Program} {ops : Array Oper} {o : Oper} {a : Act} {w : World} {K : Act → World → Prop} {Q : Exit → Act → World → Prop} {X : Prop}
    (hg : o.guard = none) (s x : Operand) (t : TypeId) (hop : o.op = Op.call { callee := Callee.builtin Builtin.append, args := #[s, x], argTypes := #[t, t] })
    (base : Nat) (e : TypeId) (i : TypeInfo) (z : Value) (size bytes : Nat) (h1 : P.underlying t = some (.slice e)) (h2 : P.info? e = some i) (h3 : i.zero = some z) (h4 : i.size = size) (h5 : i.bytes = bytes) (h6 : z.cells.size = size) (h7 : 0 < size)
    (v : Value) (n : Nat) (xs : List Value) (hs : a.eval s = v) (hown : w.ownsRow base e size v n xs)
    (B' : Nat) (vx : Value) (m : Nat) (news : List Value) (hx : a.eval x = vx) (hnx : w.ownsRow B' e size vx m news) (h1c : ∀ u ∈ news, u.oneCell' = true)
    (b1 : n + m ≤ maxLen) (b2 : (n + m) * bytes ≤ 140737488355328) (b3 : base ≤ w.heap.size)
    (hK : ∀ v' w', w'.ownsRow base e size v' (n + m) (xs ++ news) → w.grownBy w' v.ownBlock → K (a.put o.dst v') w') :
    if Region.wanted o (yielded ops a.tmps) = true then Oper.wp P o a w K Q else X := by
  have hl := hnx.1
  rcases hnx.2 with ⟨hv, hm⟩ | ⟨g, cap, cur, hv, _⟩
  · have hw : Region.wanted o (yielded ops a.tmps) = true := by simp [Region.wanted, hg]
    rw [if_pos hw]
    have hnil : news = [] := List.length_eq_zero_iff.1 (by rw [hl, hm, Nat.zero_mul])
    have hrun := run_append_owned_none (P := P) (w := w) base t o.type e i size h1 h2 v n xs hown
    subst hnil
    subst hm
    have hk := hK v w (by simpa using hown) ⟨rfl, rfl, rfl, Nat.le_refl _, fun _ _ _ => rfl⟩
    unfold Oper.wp
    simp [execOp, hop, resolve, invoke, builtin, hs, hx, hv, hrun, Result.andThen]
    exact hk
  · exact step_app hg s x t hop base e i z size bytes h1 h2 h3 h4 h5 h6 h7 v n xs hs hown ⟨g, 0, none⟩ m cap news (hx.trans hv) hl (fun j u hu => by
      rw [hv] at hnx
      have hj : j < news.length := (List.getElem?_eq_some_iff.1 hu).1
      have h := hnx.cellAt j (by omega)
      rw [hu] at h
      rcases Nat.eq_zero_or_pos j with h9 | h9
      · subst h9; exact h
      · simpa [Addr.add, show ¬ j = 0 by omega] using h) h1c b1 b2 b3 hK
set_option maxHeartbeats 1000000 in
theorem parts_nil (F : Nat) (caps : Array Value) (w : World) :
    Calls Tryz.prog 162 #[.slice none 0 0, .func (.func F) #[] caps] w fun e w' => e = .returned (.slice none 0 0) ∧ w' = w := by
  go_enter Tryz.func162, Tryz.ntmps162
  go_wp2_with fail
  go_loopw [5, 6, 11] (fun vo ff gg wr => ∃ k : Nat, gg = .int .i64 k ∧ k ≤ 1 ∧ ff = .int .i64 k ∧ vo = .slice none 0 0 ∧ wr = w) (fun _ _ gg _ => 1 - (intOf gg).toNat)
  case atStart => exact ⟨0, rfl, Nat.zero_le _, rfl, by simp⟩
  case round =>
    obtain ⟨k, rfl, hk, rfl, rfl, rfl⟩ := hrel
    by_cases h : k < 1
    · obtain rfl : k = 0 := by omega
      go_wp2
      go_roundw
      case rel => exact ⟨1, rfl, Nat.le_refl _, rfl, by simp⟩
      case measure => simp [intOf]
    · obtain rfl : k = 1 := by omega
      go_wp2
      go_ret
      exact ⟨rfl, rfl⟩
theorem parts_gen (F : Nat) (caps : Array Value) (p : Nat → Bool) (o : List Nat) (B : Nat) (v : Value) (w : World) (hl : o.length ≤ 1000) (hO : w.ownsRow B 3 1 v o.length (intsN o)) (eg : ∀ args w, (callFunc F args).run Tryz.prog w = .ok (.enter F args) w)
    (hf : ∀ X, Fr [] w X → ∀ i, i < o.length → Calls Tryz.prog F (#[.int .i64 (nix o i : Nat)] ++ caps) X fun e w' => e = .returned (.bool (p (nix o i))) ∧ ∃ q, w' = X.drewN q) :
    Calls Tryz.prog 162 #[v, .func (.func F) #[] caps] w fun e w' => ∃ v, e = .returned v ∧ w'.ownsRow w.heap.size 337 2 v (Lay.parts p o).length (ptCells (Lay.parts p o)) ∧ Fr [] w w' := by
  rcases hO.2 with ⟨hv, h0⟩ | ⟨g, cap, cur, hv, _⟩
  · rw [hv]
    refine (parts_nil F caps w).mono ?_
    rintro e w' ⟨rfl, rfl⟩
    have : Lay.parts p o = [] := by rw [List.length_eq_zero_iff.1 h0]; rfl
    rw [this]
    exact ⟨_, rfl, World.ownsRow_nil _ _ _ _, Fr.refl _ _⟩
  · rw [hv] at hO ⊢
    exact parts_any F caps p o g cap w hl (owns_rowN hO rfl) eg hf
end Go.Proofs.YtnakejhohdbfdabGreatDoor
namespace Go.Proofs.YtnakejhohdbfdabGreatDoor
open Go.RowKit Lev Lay Bnd

/-- What is selected on the first n lines. -/
def selL (Ls : List Ln) (f : Nat → Bool) : Nat → List Spn
  | 0 => []
  | n + 1 => selL Ls f n ++ spL n (lnN Ls n).x (Lay.parts f (lnN Ls n).o)
structure SelOk (Ls : List Ln) (f : Nat → Bool) (n : Nat) (M : List Spn) : Prop where
  inn : ∀ s ∈ M, s.l < n ∧ s.f < s.t ∧ s.t ≤ (lnN Ls s.l).o.length ∧ s.a = nth (lnN Ls s.l).x s.f ∧ s.b = nth (lnN Ls s.l).x s.t
  adj : M.Pairwise (fun p q => p.l < q.l ∨ (p.l = q.l ∧ p.t < q.f))
  has : ∀ i k, i < n → k < (lnN Ls i).o.length → ((∃ s ∈ M, s.l = i ∧ s.f ≤ k ∧ k < s.t) ↔ f (nix (lnN Ls i).o k) = true)
theorem selL_ok (Ls : List Ln) (f : Nat → Bool) : ∀ n, SelOk Ls f n (selL Ls f n)
  | 0 => ⟨fun s hs => absurd hs List.not_mem_nil, List.Pairwise.nil, fun i k h => absurd h (Nat.not_lt_zero _)⟩
  | n + 1 => by
    have ih := selL_ok Ls f n
    have hp := prtL_ok f (lnN Ls n).o
    rw [selL]
    have hm : ∀ s ∈ spL n (lnN Ls n).x (Lay.parts f (lnN Ls n).o), ∃ p ∈ Lay.parts f (lnN Ls n).o, s = ⟨n, p.1, p.2, nth (lnN Ls n).x p.1, nth (lnN Ls n).x p.2⟩ := fun s hs => by
      obtain ⟨p, h1, h2⟩ := List.mem_map.1 hs
      exact ⟨p, h1, h2.symm⟩
    refine ⟨fun s hs => ?_, ?_, fun i k hi hk => ?_⟩
    · rcases List.mem_append.1 hs with hs | hs
      · obtain ⟨a, b⟩ := ih.inn s hs
        exact ⟨by omega, b⟩
      · obtain ⟨p, h1, rfl⟩ := hm s hs
        have := hp.inn p h1
        exact ⟨by dsimp only; omega, this.1, by dsimp only; omega, rfl, rfl⟩
    · rw [List.pairwise_append]
      refine ⟨ih.adj, ?_, fun s hs q hq => ?_⟩
      · rw [spL, List.pairwise_map]
        exact hp.adj.imp fun h => .inr ⟨rfl, h⟩
      · obtain ⟨p, h1, rfl⟩ := hm q hq
        exact .inl (ih.inn s hs).1
    · by_cases h : i < n
      · rw [← ih.has i k h hk]
        constructor
        · rintro ⟨s, hs, h1, h2⟩
          rcases List.mem_append.1 hs with hs | hs
          · exact ⟨s, hs, h1, h2⟩
          · obtain ⟨p, _, rfl⟩ := hm s hs
            dsimp only at h1; omega
        · rintro ⟨s, hs, h1⟩
          exact ⟨s, List.mem_append.2 (.inl hs), h1⟩
      · obtain rfl : i = n := by omega
        rw [← hp.has k (by omega) hk]
        constructor
        · rintro ⟨s, hs, h1, h2⟩
          rcases List.mem_append.1 hs with hs | hs
          · have := ih.inn s hs; omega
          · obtain ⟨p, h3, rfl⟩ := hm s hs
            exact ⟨p, h3, h2⟩
        · rintro ⟨p, h1, h2⟩
          exact ⟨_, List.mem_append.2 (.inr (List.mem_map.2 ⟨p, h1, rfl⟩)), rfl, h2⟩
theorem selL_small {Ls : List Ln} {f : Nat → Bool} {d : Nat} (hd : ∀ i, (lnN Ls i).o.length ≤ d) : ∀ n, (selL Ls f n).length ≤ n * (d + 1)
  | 0 => Nat.zero_le _
  | n + 1 => by
    have ih := selL_small (f := f) hd n
    have h1 := (partsTo_len f (lnN Ls n).o ((lnN Ls n).o.length + 1)).1
    have h2 := hd n
    rw [selL, List.length_append, spL, List.length_map, Nat.succ_mul]
    unfold Lay.parts
    omega
/-- Byte off, taken to a boundary. -/
def snp (Bd : List Int) (z off : Int) (up : Bool) : Int := snapL Bd (min (max off 0) z) up (cidx Bd (min (max off 0) z))
/-- The clusters that are selected between two bytes. -/
def askd (Bd : List Int) (z a b : Int) (c : Nat) : Bool := decide (cidx Bd (snp Bd z (min a b) false) ≤ c) && decide (c < cidx Bd (snp Bd z (max a b) true))
theorem sel1_any (f0 t0 c : Nat) (bf bt : Nat) (w : World) (hf : w.cell? ⟨bf, 0, none⟩ = some (.int .i64 (f0 : Nat))) (ht : w.cell? ⟨bt, 0, none⟩ = some (.int .i64 (t0 : Nat))) :
    Calls Tryz.prog 160 (#[.int .i64 c] ++ #[.pointer (some ⟨bf, 0, none⟩), .pointer (some ⟨bt, 0, none⟩)]) w fun e w' => e = .returned (.bool (decide (f0 ≤ c) && decide (c < t0))) ∧ ∃ q, w' = w.drewN q := by
  by_cases h1 : f0 ≤ c
  · have h1I : (f0 : Int) ≤ (c : Int) := by omega
    by_cases h2 : c < t0
    · have h2I : (c : Int) < (t0 : Int) := by omega
      go_enter Tryz.func160, Tryz.ntmps160
      go_wp2
      go_ret
      exact ⟨by simp [h1, h2], 0, rfl⟩
    · have h2I : ¬ (c : Int) < (t0 : Int) := by omega
      go_enter Tryz.func160, Tryz.ntmps160
      go_wp2
      go_ret
      exact ⟨by simp, 0, rfl⟩
  · have h1I : ¬ (f0 : Int) ≤ (c : Int) := by omega
    go_enter Tryz.func160, Tryz.ntmps160
    go_wp2
    go_ret
    exact ⟨by simp, 0, rfl⟩
theorem enters160 (args : Array Value) (w : World) : (callFunc 160 args).run Tryz.prog w = .ok (.enter 160 args) w := by kernel_rfl
set_option maxRecDepth 10000 in
set_option maxHeartbeats 4000000 in
theorem select_any (B P : Nat) (Bd V X : List Int) (r z : Int) (Ls : List Ln) (v0 v1 v2 vL : Value) (hs : List Value) (a b : Int) (w : World) (h : LP w B P Bd V X r Ls v0 v1 v2 vL hs) (hr : Rises Bd z) (hz : 0 ≤ z) (hbl : Bd.length ≤ 1000) (hK0 : 0 < Ls.length) (hK : Ls.length ≤ 400) (hlo : ∀ l ∈ Ls, l.o.length ≤ 1000 ∧ l.x.length = l.o.length + 1) :
    Calls Tryz.prog 90 #[.pointer (some ⟨P, 0, none⟩), .int .i64 a, .int .i64 b] w fun e w' => ∃ v, e = .returned v ∧ w'.ownsRow w.heap.size 90 5 v (selL Ls (askd Bd z a b) Ls.length).length (spCells (selL Ls (askd Bd z a b) Ls.length)) ∧ Fr [] w w' := by
  have hl0 := hr.len
  obtain ⟨gB, cB, hvB, _, HRB⟩ := h.b.row hl0
  subst hvB
  obtain ⟨xa, hxa⟩ : ∃ xa, xa = snp Bd z (min a b) false := ⟨_, rfl⟩
  obtain ⟨xb, hxb⟩ : ∃ xb, xb = snp Bd z (max a b) true := ⟨_, rfl⟩
  have H1 := hid (fun (Y : World) (hf : Fr [] w Y) => show Calls Tryz.prog 157 #[.slice (some ⟨gB, 0, none⟩) Bd.length cB, .int .i64 (min a b), .bool false] Y fun e w' => e = .returned (.int .i64 xa) ∧ ∃ q, w' = Y.drewN q by
    obtain ⟨k, hk⟩ := cut_exists (min (max (min a b) 0) z) Bd hr.sorted
    have h1 := Cls.fn35_any Bd z hr (min a b) false k gB cB Y hz hk (by omega) (fun j hj => HRB.fr hf List.not_mem_nil j hj)
    rw [show k = cidx Bd (min (max (min a b) 0) z) from (cut_count hk).symm] at h1
    rw [hxa]; exact h1)
  have H2 := hid (fun (Y : World) (hf : Fr [] w Y) => show Calls Tryz.prog 157 #[.slice (some ⟨gB, 0, none⟩) Bd.length cB, .int .i64 (max a b), .bool true] Y fun e w' => e = .returned (.int .i64 xb) ∧ ∃ q, w' = Y.drewN q by
    obtain ⟨k, hk⟩ := cut_exists (min (max (max a b) 0) z) Bd hr.sorted
    have h1 := Cls.fn35_any Bd z hr (max a b) true k gB cB Y hz hk (by omega) (fun j hj => HRB.fr hf List.not_mem_nil j hj)
    rw [show k = cidx Bd (min (max (max a b) 0) z) from (cut_count hk).symm] at h1
    rw [hxb]; exact h1)
  obtain ⟨fa, hfa⟩ : ∃ fa, fa = cidx Bd xa := ⟨_, rfl⟩
  obtain ⟨fb, hfb⟩ : ∃ fb, fb = cidx Bd xb := ⟨_, rfl⟩
  have H3 := hid (fun (Y : World) (hf : Fr [] w Y) => show Calls Tryz.prog 150 #[.agg #[.slice (some ⟨gB, 0, none⟩) Bd.length cB, v1, v2], .int .i64 xa] Y fun e w' => e = .returned (.int .i64 (fa : Nat)) ∧ Fr [] Y w' by
    rw [hfa]; exact at_any Bd z hr xa gB cB Bd.length v1 v2 Y rfl hbl (HRB.fr hf List.not_mem_nil))
  have H4 := hid (fun (Y : World) (hf : Fr [] w Y) => show Calls Tryz.prog 150 #[.agg #[.slice (some ⟨gB, 0, none⟩) Bd.length cB, v1, v2], .int .i64 xb] Y fun e w' => e = .returned (.int .i64 (fb : Nat)) ∧ Fr [] Y w' by
    rw [hfb]; exact at_any Bd z hr xb gB cB Bd.length v1 v2 Y rfl hbl (HRB.fr hf List.not_mem_nil))
  obtain ⟨f, hf⟩ : ∃ f, f = askd Bd z a b := ⟨_, rfl⟩
  have HFF := hid (fun c => show f c = (decide (fa ≤ c) && decide (c < fb)) by rw [hf, hfa, hfb, hxa, hxb]; rfl)
  rw [← hf]
  have p0 := obj_cell h.o (i := 0) (v := .slice (some ⟨gB, 0, none⟩) Bd.length cB) rfl
  have p1 := obj_cell h.o (i := 1) (v := v1) rfl
  have p2 := obj_cell h.o (i := 2) (v := v2) rfl
  have hPl : P < w.heap.size := World.block_lt_of_cell? _ _ p0
  obtain ⟨gL, cL, hvL⟩ := owns_shape hK0 h.l
  subst hvL
  have HLP := hid h
  have HLO := hid hlo
  obtain ⟨K, hKK⟩ : ∃ K, K = Ls.length := ⟨_, rfl⟩
  have HK := hid hKK
  rw [← hKK] at hK0 hK ⊢
  obtain ⟨nB, hnB⟩ : ∃ nB, nB = Bd.length := ⟨_, rfl⟩
  have HNB := hid hnB
  rw [← hnB] at H1 H2 H3 H4 hbl p0
  clear h hr HRB hxa hxb hfa hfb hf hlo hKK hl0 hnB
  go_enter Tryz.func90, Tryz.ntmps90
  go_wp2_with fail
  go_cut [7] from 13 to 99 (fun v wx => ∃ bf, v = .pointer (some ⟨bf, 0, none⟩) ∧ Hid (wx.cell? ⟨bf, 0, none⟩ = some (.int .i64 (fa : Nat)) ∧ Fr [] w wx))
  case first =>
    go_region_held (fun wz => wz.cell? ⟨P, 0, none⟩ = some (.slice (some ⟨gB, 0, none⟩) nB cB) ∧ wz.cell? ⟨P, 1, none⟩ = some v1 ∧ wz.cell? ⟨P, 2, none⟩ = some v2) (first | exact HS1 | exact And.intro (HK9.out.cell p0 List.not_mem_nil) (And.intro (HK9.out.cell p1 List.not_mem_nil) (HK9.out.cell p2 List.not_mem_nil)) | exact And.intro (HK8.out.cell p0 List.not_mem_nil) (And.intro (HK8.out.cell p1 List.not_mem_nil) (HK8.out.cell p2 List.not_mem_nil)) | exact And.intro (HK7.out.cell p0 List.not_mem_nil) (And.intro (HK7.out.cell p1 List.not_mem_nil) (HK7.out.cell p2 List.not_mem_nil)) | go_keep)
      (first
        | (go_at_call 157; refine (H1.out _ ?fa).mono ?_; (case fa => (first | exact (Fr.refl [] w).drew | exact fr_drewN _ _ | exact (fr_drewN _ _).alloc _ | exact (Fr.refl [] w).drew.alloc _ | exact ((Fr.refl [] w).drew.alloc _).drewN _ | exact ((Fr.refl [] w).alloc _).drewN _)); rintro e w1 ⟨rfl, q, rfl⟩)
        | (go_at_call 150; refine (H3.out _ ?fa).mono ?_; (case fa => (first | exact (Fr.refl [] w).drew | exact fr_drewN _ _ | exact (fr_drewN _ _).alloc _ | exact (Fr.refl [] w).drew.alloc _ | exact ((Fr.refl [] w).drew.alloc _).drewN _ | exact ((Fr.refl [] w).alloc _).drewN _)); rintro e w2 ⟨rfl, hf2⟩; have HG2 := hid (show Fr [] w w2 from Fr.trans (by (first | exact (Fr.refl [] w).drew | exact fr_drewN _ _ | exact (fr_drewN _ _).alloc _ | exact (Fr.refl [] w).drew.alloc _ | exact ((Fr.refl [] w).drew.alloc _).drewN _ | exact ((Fr.refl [] w).alloc _).drewN _)) hf2); have HS1 := And.intro (HG2.out.cell p0 List.not_mem_nil) (And.intro (HG2.out.cell p1 List.not_mem_nil) (HG2.out.cell p2 List.not_mem_nil)); (first | (have HOB := hid (show w2.heap[w.heap.size]? = some (.cells #[.int .i64 0] 3 (0, 0)) from by first | exact obj_fr (obj_new (w.drewN _) _) hf2 List.not_mem_nil | exact obj_fr (obj_fr (obj_new w.drew _) (fr_drewN _ _) List.not_mem_nil) hf2 List.not_mem_nil); have b0 := obj_cell HOB.out (i := 0) (v := .int .i64 0) rfl; have k0 := obj_froz HOB.out 0) | skip); have HK9 := hid (Fr.set_new (b := w.heap.size) (i := 0) (v := .int .i64 (fa : Nat)) HG2.out (Nat.le_refl _)); have HK7 := hid (show Fr [] w (w2.alloc (.cells #[.int .i64 0] 3)) from HG2.out.alloc _); have HK8 := hid (Fr.set_new (b := w2.heap.size) (i := 0) (v := .int .i64 (fa : Nat)) HK7.out HG2.out.size); clear hf2))
    all_goals (
      go_wp2
      go_meet
      first | exact ⟨_, rfl, hid ⟨World.cell?_setCell_same _ _ _ b0, HK9.out⟩⟩ | exact ⟨_, rfl, hid ⟨obj_cell (obj_new w2 _) rfl, HG2.out.alloc _⟩⟩)
  case rest =>
    obtain ⟨bf, rfl, HB⟩ := hcut
    obtain ⟨w3, hw3⟩ : ∃ w3, w3 = wc := ⟨_, rfl⟩
    rw [← hw3] at HB ⊢
    have HF3 := hid HB.out.2
    have HBF := hid HB.out.1
    have q0 := HF3.out.cell p0 List.not_mem_nil
    have q1 := HF3.out.cell p1 List.not_mem_nil
    have q2 := HF3.out.cell p2 List.not_mem_nil
    have hPl3 : P < w3.heap.size := World.block_lt_of_cell? _ _ q0
    clear hw3 HB H1 H3 p0 p1 p2
    go_wp2_with fail
    go_cut [8] from 13 to 99 (fun v wx => ∃ bt, v = .pointer (some ⟨bt, 0, none⟩) ∧ Hid (wx.cell? ⟨bt, 0, none⟩ = some (.int .i64 (fb : Nat)) ∧ Fr [] w3 wx))
    case first =>
      go_region_held (fun wz => wz.cell? ⟨P, 0, none⟩ = some (.slice (some ⟨gB, 0, none⟩) nB cB) ∧ wz.cell? ⟨P, 1, none⟩ = some v1 ∧ wz.cell? ⟨P, 2, none⟩ = some v2) (first | exact HS1 | exact And.intro (HK9.out.cell q0 List.not_mem_nil) (And.intro (HK9.out.cell q1 List.not_mem_nil) (HK9.out.cell q2 List.not_mem_nil)) | exact And.intro (HK8.out.cell q0 List.not_mem_nil) (And.intro (HK8.out.cell q1 List.not_mem_nil) (HK8.out.cell q2 List.not_mem_nil)) | exact And.intro (HK7.out.cell q0 List.not_mem_nil) (And.intro (HK7.out.cell q1 List.not_mem_nil) (HK7.out.cell q2 List.not_mem_nil)) | go_keep)
        (first
          | (go_at_call 157; refine (H2.out _ ?fa).mono ?_; (case fa => refine HF3.out.trans ?_; (first | exact (Fr.refl [] w3).drew | exact fr_drewN _ _ | exact (fr_drewN _ _).alloc _ | exact (Fr.refl [] w3).drew.alloc _ | exact ((Fr.refl [] w3).drew.alloc _).drewN _ | exact ((Fr.refl [] w3).alloc _).drewN _)); rintro e w1 ⟨rfl, q, rfl⟩)
          | (go_at_call 150; refine (H4.out _ ?fa).mono ?_; (case fa => refine HF3.out.trans ?_; (first | exact (Fr.refl [] w3).drew | exact fr_drewN _ _ | exact (fr_drewN _ _).alloc _ | exact (Fr.refl [] w3).drew.alloc _ | exact ((Fr.refl [] w3).drew.alloc _).drewN _ | exact ((Fr.refl [] w3).alloc _).drewN _)); rintro e w2 ⟨rfl, hf2⟩; have HG2 := hid (show Fr [] w3 w2 from Fr.trans (by (first | exact (Fr.refl [] w3).drew | exact fr_drewN _ _ | exact (fr_drewN _ _).alloc _ | exact (Fr.refl [] w3).drew.alloc _ | exact ((Fr.refl [] w3).drew.alloc _).drewN _ | exact ((Fr.refl [] w3).alloc _).drewN _)) hf2); have HS1 := And.intro (HG2.out.cell q0 List.not_mem_nil) (And.intro (HG2.out.cell q1 List.not_mem_nil) (HG2.out.cell q2 List.not_mem_nil)); (first | (have HOB := hid (show w2.heap[w3.heap.size]? = some (.cells #[.int .i64 0] 3 (0, 0)) from by first | exact obj_fr (obj_new (w3.drewN _) _) hf2 List.not_mem_nil | exact obj_fr (obj_fr (obj_new w3.drew _) (fr_drewN _ _) List.not_mem_nil) hf2 List.not_mem_nil); have b0 := obj_cell HOB.out (i := 0) (v := .int .i64 0) rfl; have k0 := obj_froz HOB.out 0) | skip); have HK9 := hid (Fr.set_new (b := w3.heap.size) (i := 0) (v := .int .i64 (fb : Nat)) HG2.out (Nat.le_refl _)); have HK7 := hid (show Fr [] w3 (w2.alloc (.cells #[.int .i64 0] 3)) from HG2.out.alloc _); have HK8 := hid (Fr.set_new (b := w2.heap.size) (i := 0) (v := .int .i64 (fb : Nat)) HK7.out HG2.out.size); clear hf2))
      all_goals (
        go_wp2
        go_meet
        first | exact ⟨_, rfl, hid ⟨World.cell?_setCell_same _ _ _ b0, HK9.out⟩⟩ | exact ⟨_, rfl, hid ⟨obj_cell (obj_new w2 _) rfl, HG2.out.alloc _⟩⟩)
    case rest =>
      obtain ⟨bt, rfl, HB⟩ := hcut
      obtain ⟨w4, hw4⟩ : ∃ w4, w4 = wc := ⟨_, rfl⟩
      rw [← hw4] at HB ⊢
      have HF4 := hid (HF3.out.trans HB.out.2)
      have HBT := hid HB.out.1
      have HBF4 := hid (HB.out.2.cell HBF.out List.not_mem_nil)
      clear hw4 HB H2 H4 q0 q1 q2 HBF
      have hmf : ∀ (fn : Fn) (first cap : Array Value) (w : World), (Instr.makeFunc fn first cap).run Tryz.prog w = .ok (.func fn first cap) w := fun _ _ _ _ => rfl
      have s3 := HF4.out.cell (obj_cell HLP.out.o (i := 3) (v := .slice (some ⟨gL, 0, none⟩) Ls.length cL) rfl) List.not_mem_nil
      rw [← HK.out] at s3
      go_wp2_with fail
      have hi90 := info_parts info90
      obtain ⟨i0, hi, hz0, hz1, hz2⟩ := hi90
      have HSM := hid (fun n (hn : n ≤ K) => show (selL Ls f n).length ≤ 401 * 1001 from Nat.le_trans (selL_small (f := f) (d := 1000) (fun i => by
        by_cases hi : i < Ls.length
        · exact (HLO.out _ (lnN_mem hi)).1
        · unfold lnN; rw [List.getElem?_eq_none (by omega)]; exact Nat.zero_le _) n) (Nat.mul_le_mul (by omega) (Nat.le_refl _)))
      clear s3
      go_loopw [10, 47] (fun vo kk wr => ∃ t : Nat, kk = .int .i64 t ∧ t ≤ K ∧ Hid (Fr [] w4 wr) ∧ Hid (wr.ownsRow w4.heap.size 90 5 vo (selL Ls f t).length (spCells (selL Ls f t)))) (fun _ kk _ => K - (intOf kk).toNat)
      case atStart => exact ⟨0, rfl, Nat.zero_le _, hid (Fr.refl _ _), hid (World.ownsRow_nil _ _ _ _)⟩
      case round =>
        obtain ⟨t, rfl, htK, HFt, HOt⟩ := hrel
        have HFw := hid (HF4.out.trans HFt.out)
        by_cases htl : t < K
        · have htI : (t : Int) < (K : Int) := by omega
          have HLt := hid (HLP.out.fr HFw.out (fun k hk => absurd hk List.not_mem_nil))
          obtain ⟨U, _, hn⟩ := HLt.out.n
          obtain ⟨vO, vX, a1, a2, a3, a4, a5, a6, _, _⟩ := hn t _ (lnN_get' (by rw [← HK.out]; exact htl))
          have hll := HLt.out.l
          have hmem := lnN_mem (show t < Ls.length by rw [← HK.out]; exact htl)
          obtain ⟨hlo, hlx⟩ := HLO.out _ hmem
          obtain ⟨gX, cX, hvX⟩ := owns_shape (by rw [hlx]; omega) a6
          subst hvX
          obtain ⟨aO, cO, hvO⟩ := owns_slice a5
          subst hvO
          have hhl := hll.1
          have c0 : wr.cell? ⟨gL, t * 4, none⟩ = some (.int .i64 (lnN Ls t).f) := by rw [hll.cellAt _ (by have := HK.out; omega)]; exact a1
          have c1 : wr.cell? ⟨gL, t * 4 + 1, none⟩ = some (.int .i64 (lnN Ls t).t) := by rw [hll.cellAt _ (by have := HK.out; omega)]; exact a2
          have c2 : wr.cell? ⟨gL, t * 4 + 2, none⟩ = some (.slice aO (lnN Ls t).o.length cO) := by rw [hll.cellAt _ (by have := HK.out; omega)]; exact a3
          have c3 : wr.cell? ⟨gL, t * 4 + 3, none⟩ = some (.slice (some ⟨gX, 0, none⟩) (lnN Ls t).x.length cX) := by rw [hll.cellAt _ (by have := HK.out; omega)]; exact a4
          obtain ⟨o, ho⟩ : ∃ o, o = (lnN Ls t).o := ⟨_, rfl⟩
          obtain ⟨x, hx⟩ : ∃ x, x = (lnN Ls t).x := ⟨_, rfl⟩
          rw [← ho] at a5 hlo hlx c2
          rw [← hx] at a6 hlx c3
          have HA5 := hid a5
          have HXC := hid (fun (Y : World) (hf : Fr [] wr Y) (k : Nat) (hk : k < x.length) => show Y.cell? ⟨gX, k, none⟩ = some (.int .i64 (nth x k)) from hf.cell (by rw [a6.cellAt _ (by omega)]; exact ints64_at hk) List.not_mem_nil)
          have HSE := hid (show selL Ls f (t + 1) = selL Ls f t ++ spL t x (Lay.parts f o) by rw [selL, ho, hx])
          have hsz := HSM.out t htK
          have hsz1 := HSM.out (t + 1) htl
          rw [HSE.out, List.length_append] at hsz1
          generalize (lnN Ls t).f = lf at *
          generalize (lnN Ls t).t = lt at *
          have HLX := hid hlx
          have HPR := hid (prtL_ok f o)
          have HPT := hid (fun (Y : World) (hf : Fr [] wr Y) => parts_gen 160 #[.pointer (some ⟨bf, 0, none⟩), .pointer (some ⟨bt, 0, none⟩)] f o B _ Y hlo (owns_fr0 HA5.out hf) enters160 (fun Z hZ i hi => by
            rw [HFF.out]
            exact sel1_any fa fb _ bf bt Z ((HFt.out.trans (hf.trans hZ)).cell HBF4.out List.not_mem_nil) ((HFt.out.trans (hf.trans hZ)).cell HBT.out List.not_mem_nil)))
          obtain ⟨lx, hlxx⟩ : ∃ lx, lx = x.length := ⟨_, rfl⟩
          have HLXX := hid hlxx
          rw [← hlxx] at c3
          have HPL := hid (show (Lay.parts f o).length ≤ 1001 from Nat.le_trans (partsTo_len f o (o.length + 1)).1 (by omega))
          obtain ⟨lo, hloo⟩ : ∃ lo, lo = o.length := ⟨_, rfl⟩
          rw [← hloo] at HPT c2
          have HSP := hid (fun (Y : World) (v : Value) (B' : Nat) (hf : Fr [] wr Y) (h9 : Y.ownsRow B' 337 2 v (Lay.parts f o).length (ptCells (Lay.parts f o))) => spans_any t lf lt (.slice aO o.length cO) gX cX x (Lay.parts f o) v B' Y (HXC.out Y hf) h9 (fun p hp => by have h8 := HPR.out.inn p hp; have := HLX.out; exact ⟨h8.1, by omega⟩) (by have := HPL.out; omega))
          rw [← hlxx, ← hloo] at HSP
          obtain ⟨L, hL⟩ : ∃ L, L = Lay.parts f o := ⟨_, rfl⟩
          obtain ⟨M, hM⟩ : ∃ M, M = spL t x L := ⟨_, rfl⟩
          rw [← hL] at HPT HSP HSE hsz1
          rw [← hM] at HSP HSE hsz1
          obtain ⟨S0, hS0⟩ : ∃ S0, S0 = selL Ls f t := ⟨_, rfl⟩
          rw [← hS0] at HOt HSE hsz hsz1
          clear hn hll a1 a2 a3 a4 a5 a6 hlxx hloo hmem hlo hlx ho hx hL hM hS0
          go_wp2_with fail
          clear c0 c1 c2 c3
          obtain ⟨w5, hw5⟩ : ∃ w5, w5 = wr.alloc (.cells #[.int .i64 lf, .int .i64 lt, .slice aO lo cO, .slice (some ⟨gX, 0, none⟩) lx cX] 72) := ⟨_, rfl⟩
          obtain ⟨gP, hgP⟩ : ∃ gP, gP = wr.heap.size := ⟨_, rfl⟩
          have HF5 := hid (show Fr [] wr w5 by rw [hw5]; exact (Fr.refl [] wr).alloc _)
          have HP5 := hid (show w5.heap[gP]? = some (.cells #[.int .i64 lf, .int .i64 lt, .slice aO lo cO, .slice (some ⟨gX, 0, none⟩) lx cX] 72 (0, 0)) by rw [hw5, hgP]; exact obj_new wr _)
          have hw5s : w5.heap.size = gP + 1 := by rw [hw5, hgP]; simp
          have hwl := HFt.out.size
          have HLT := hid (fun g (hg : u10.ownBlock = some g) => show w4.heap.size ≤ g ∧ g < gP by rw [hgP]; exact HOt.out.lt g hg)
          have HO5 := hid (owns_fr0 HOt.out HF5.out)
          rw [← hw5, ← hgP]
          rw [← hgP] at hwl
          clear hw5 hgP
          have HKP := hid (fun (w1' w' : World) (hf : Fr [] w5 w1') (hg : w1'.grownBy w' u10.ownBlock) => show w'.cell? ⟨gP, 0, none⟩ = some (.int .i64 lf) ∧ w'.cell? ⟨gP, 1, none⟩ = some (.int .i64 lt) ∧ w'.cell? ⟨gP, 2, none⟩ = some (.slice aO lo cO) ∧ w'.cell? ⟨gP, 3, none⟩ = some (.slice (some ⟨gX, 0, none⟩) lx cX) from by
            have hs := hf.size
            have hob := obj_fr HP5.out hf List.not_mem_nil
            have hob' := (hg.block gP (by omega) (fun e => by have := HLT.out gP e.symm; omega)).trans hob
            exact ⟨obj_cell hob' (i := 0) rfl, obj_cell hob' (i := 1) rfl, obj_cell hob' (i := 2) rfl, obj_cell hob' (i := 3) rfl⟩)
          have HKF := hid (fun (w' : World) (hf : Fr [] w5 w') => HKP.out w' w' hf ⟨rfl, rfl, rfl, Nat.le_refl _, fun _ _ _ => rfl⟩)
          obtain ⟨s0, s1, s2, s3⟩ := HKF.out w5 (Fr.refl _ _)
          go_region_held_law (fun w' => w'.cell? ⟨gP, 0, none⟩ = some (.int .i64 lf) ∧ w'.cell? ⟨gP, 1, none⟩ = some (.int .i64 lt) ∧ w'.cell? ⟨gP, 2, none⟩ = some (.slice aO lo cO) ∧ w'.cell? ⟨gP, 3, none⟩ = some (.slice (some ⟨gX, 0, none⟩) lx cX)) (first | exact HS1 | go_keep)
            (first
              | (go_at_call 162; refine (HPT.out _ ?fa).mono ?_; (case fa => first | exact HF5.out.drew | exact HF5.out); rintro e w6 ⟨vP, rfl, own6, hf6⟩; have HG6 := hid (show Fr [] w5 w6 from Fr.trans (by first | exact (Fr.refl [] w5).drew | exact Fr.refl [] w5) hf6); have HO6 := hid own6; have HS1 := HKF.out w6 HG6.out; clear own6 hf6)
              | (go_at_call 161; refine (HSP.out w6 vP _ (HF5.out.trans HG6.out) HO6.out).mono ?_; rintro e w7 ⟨vM, rfl, own7, hf7⟩; have HG7 := hid (HG6.out.trans hf7); have HO7 := hid own7; have HS1 := HKF.out w7 HG7.out; clear own7 hf7)
              | (refine step_appo rfl (.tmp 52) (.tmp 59) 38 rfl w4.heap.size 90 i0 _ 5 40 Tryz.underlying38 hi hz0 hz1 hz2 rfl (by decide) u10 S0.length (spCells S0) ?q1 ?q2 w6.heap.size vM M.length (spCells M) ?q3 ?q4 (spCells_one _) (by unfold maxLen; omega) (by omega) ?q5 ?_; (case q1 => first | rfl | simp [Act.eval]); (case q2 => exact owns_fr0 HO5.out HG7.out); (case q3 => first | rfl | simp [Act.eval]); (case q4 => exact HO7.out); (case q5 => have := HG7.out.size; omega); intro v' w' hown hgrow; have HG1 := hid hown; have HG2 := hid hgrow; have HS1 := HKP.out _ _ HG7.out hgrow; clear hown hgrow))
          all_goals (
            have HF9 := hid (show Fr [] w4 w' from Fr.grown ((HFt.out.trans HF5.out).trans HG7.out) HG2.out (fun g hg => by have := HLT.out g hg; omega))
            have HO9 := hid (show w'.ownsRow w4.heap.size 90 5 v' (selL Ls f (t + 1)).length (spCells (selL Ls f (t + 1))) by rw [HSE.out, List.length_append, ← spCells_app]; exact HG1.out)
            go_wp2
            go_roundw
            case rel => exact ⟨t + 1, by go_num, by omega, HF9, HO9⟩
            case measure => simp [intOf]; omega)
        · obtain rfl : t = K := by omega
          have htI : ¬ (t : Int) < (t : Int) := by omega
          go_wp2
          go_ret
          exact ⟨_, rfl, owns_low HOt.out HF4.out.size, HFw.out⟩
end Go.Proofs.YtnakejhohdbfdabGreatDoor
