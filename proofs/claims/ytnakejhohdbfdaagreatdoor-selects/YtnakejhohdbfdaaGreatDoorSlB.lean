/- The law Selects. -/
import Derived.Test.YtnakejhohdbfdaaGreatDoorSpK
namespace Go.Proofs.YtnakejhohdbfdaaGreatDoor
open Go.RowKit Lev Lay Bnd

theorem lay_select (Q P : Nat) (a b : Int) (w : World) (hq : w.cell? ⟨Q, 0, none⟩ = some (.pointer (some ⟨P, 0, none⟩))) (R : Value → World → Prop) (h : Calls Tryz.prog 68 #[.pointer (some ⟨P, 0, none⟩), .int .i64 a, .int .i64 b] w fun e w' => ∃ v, e = .returned v ∧ R v w') :
    Calls Tryz.prog 30 #[.pointer (some ⟨Q, 0, none⟩), .int .i64 a, .int .i64 b] w fun e w' => ∃ v, e = .returned v ∧ R v w' := by
  have H := hid h
  clear h
  go_enter Tryz.func30, Tryz.ntmps30
  go_wp2_with fail
  refine H.out.mono ?_
  rintro e w1 ⟨v, rfl, hr⟩
  have HR := hid hr
  clear hr
  go_wp2
  go_ret
  exact ⟨_, rfl, HR.out⟩
theorem spans_nil (a b : Option Addr) (ca cb : Nat) (w : World) : Calls Tryz.prog 29 #[.slice a 0 ca, .slice b 0 cb] w fun e w' => e = .returned (.bool true) ∧ w' = w := by
  go_enter Tryz.func29, Tryz.ntmps29
  go_wp2_with fail
  go_loopw [5] (fun iv wr => iv = .int .i64 0 ∧ wr = w) (fun _ _ => 0)
  case atStart => exact ⟨rfl, rfl⟩
  case round =>
    obtain ⟨rfl, rfl⟩ := hrel
    go_wp2
    go_ret
    exact ⟨rfl, rfl⟩
/-- Two rows of the same spans; the first one is the caller's own. -/
theorem spans_same (M : List Spn) (B1 B2 : Nat) (vA vB : Value) (w w0 : World) (hM : M.length ≤ 1000000) (hA : w.ownsRow B1 119 5 vA M.length (spCells M)) (hB : w.ownsRow B2 119 5 vB M.length (spCells M)) (hlt : ∀ g, vA.ownBlock = some g → g < B2) (hf : Fr [] w0 w) (h0 : w0.heap.size ≤ B1) :
    Calls Tryz.prog 29 #[vA, vB] w fun e w' => e = .returned (.bool true) ∧ Fr [] w0 w' := by
  rcases Nat.eq_zero_or_pos M.length with hz | hz
  · rw [hz] at hA hB
    obtain ⟨a, ca, rfl⟩ := owns_slice hA
    obtain ⟨b, cb, rfl⟩ := owns_slice hB
    refine (spans_nil a b ca cb w).mono ?_
    rintro e w' ⟨rfl, rfl⟩
    exact ⟨rfl, hf⟩
  · obtain ⟨gA, cA, rfl⟩ := owns_shape hz hA
    obtain ⟨gB, cB, rfl⟩ := owns_shape hz hB
    have h1 := (owns_at hA).1
    have h2 := (owns_at hB).1
    have h3 := hlt gA rfl
    refine (spans29 M gA cA gB cB w hM (by omega) (sp5_own hA) (sp5_own hB) (fun o => hA.frozenAt o)).mono ?_
    rintro e w' ⟨rfl, hf1⟩
    exact ⟨rfl, ((hf.mono (fun _ h _ => absurd h List.not_mem_nil) : Fr [gA] w0 w).trans hf1).mono (fun x hx hl => by have := List.mem_singleton.1 hx; omega)⟩
theorem askd_swap (Bd : List Int) (z a b : Int) : askd Bd z b a = askd Bd z a b := by
  funext c
  unfold askd
  rw [show min b a = min a b by omega, show max b a = max a b by omega]
set_option maxRecDepth 10000 in
set_option maxHeartbeats 4000000 in
theorem selects_good (s : ByteArray) (b : Int) (vW vB : Value) (W Br : List Int) (n : Nat) (qa qb : Int) (w : World) (hF : Floor w) (hend : Dec.Ends s n) (hW : slAd w vW W) (hB : slAd w vB Br) (hs : s.size ≤ 4096) (hWl : W.length ≤ 4096) (hBl : Br.length ≤ 4096) (hck : chk s n (clsOf s n) b W Br = 0) :
    Calls Tryz.prog 8 #[.agg #[.string s, .int .i64 b, vW, vB], .int .i64 qa, .int .i64 qb] w fun e w' => e = .returned (.bool true) ∧ Fr [] w w' := by
  obtain ⟨Bd, V, X, r, bs, Cs, Ls, T, TT, F, hbn, _, _⟩ := twin_all s b W Br n hend (by omega) hck
  have hs4 : s.size ≤ 400 := (chk_zero' hck).1
  obtain ⟨aW, cW0, rfl, _⟩ := id hW
  obtain ⟨aB, cB0, rfl, _⟩ := id hB
  obtain ⟨wb, hwb⟩ : ∃ wb, wb = w.alloc (.cells #[.string s, .int .i64 b, .slice aW W.length cW0, .slice aB Br.length cB0] 35) := ⟨_, rfl⟩
  have HFb := hid (show Fr [] w wb by rw [hwb]; exact (Fr.refl [] w).alloc _)
  have HOb := hid (show wb.heap[w.heap.size]? = some (.cells #[.string s, .int .i64 b, .slice aW W.length cW0, .slice aB Br.length cB0] 35 (0, 0)) by rw [hwb]; exact obj_new w _)
  have H13 := hid (fit_yes s b aW aB W.length cW0 Br.length cB0 wb hs hWl hBl)
  have H14 := hid (fun (Y : World) (hf : Fr [] w Y) => made_good s b _ _ W Br n Y (hF.fr hf) hend (hW.fr hf) (hB.fr hf) (by omega) (by omega) hck Bd V X r bs Cs Ls T)
  have hlo : ∀ l ∈ Ls, l.o.length ≤ 1000 ∧ l.x.length = l.o.length + 1 := fun l hl => ⟨(T.ll l hl).1, TT.xl l hl⟩
  have HSL := hid (show (selL Ls (askd Bd (s.size : Nat) qa qb) Ls.length).length ≤ 1000000 by
    have h1 := selL_small (f := askd Bd (s.size : Nat) qa qb) (Ls := Ls) (d := 1000) (fun i => by
      by_cases hi : i < Ls.length
      · exact (hlo _ (lnN_mem hi)).1
      · unfold lnN; rw [List.getElem?_eq_none (by omega)]; exact Nat.zero_le _) Ls.length
    have := T.l1
    have : Ls.length * (1000 + 1) ≤ 400 * 1001 := Nat.mul_le_mul this (Nat.le_refl _)
    omega)
  have HP := hid (fun (B P : Nat) (v0 v1 v2 vL : Value) (hs : List Value) (a c : Int) (Y : World) (h : LP Y B P Bd V X r Ls v0 v1 v2 vL hs) => select_any B P Bd V X r ((s.size : Nat) : Int) Ls v0 v1 v2 vL hs a c Y h F.rs (by omega) (by have := T.bd; have := T.vl; omega) T.l0 T.l1 hlo)
  have HD := hid (fun (WB : World) (U lb : Nat) (vC vM : Value) (hm : List Value) (Y : World) (hf : Fr [] w Y) (h : LD WB Y U lb s bs vC vM Cs Ls hm) => selD_any WB U lb s bs vC vM Bd V X Ls hm qa qb n Y (by rw [T.cs]; exact h) hend hbn (hF.fr hf).u F.rs F.bd (fun i hi c hc => (F.on i hi c hc).1) hs4 T.vl T.l0 T.l1 hlo)
  generalize W.length = nW at *
  generalize Br.length = nB at *
  clear hW hB hF hend hck T TT F hlo
  go_enter Tryz.func8, Tryz.ntmps8
  go_wp2_with fail
  rw [← hwb]
  clear hwb
  refine H13.out.mono ?_
  rintro e w1 ⟨rfl, hf1⟩
  have HF1 := hid (HFb.out.trans hf1)
  have HO1 := hid (obj_fr HOb.out hf1 List.not_mem_nil)
  have l0 := obj_cell HO1.out (i := 0) (v := .string s) rfl
  have l1 := obj_cell HO1.out (i := 1) (v := .int .i64 b) rfl
  have l2 := obj_cell HO1.out (i := 2) (v := .slice aW nW cW0) rfl
  have l3 := obj_cell HO1.out (i := 3) (v := .slice aB nB cB0) rfl
  have H14b := hid (H14.out w1 HF1.out)
  clear hf1 H13 H14
  go_wp2_with fail
  refine H14b.out.mono ?_
  rintro e w2 ⟨Q, lb, rfl, hPP, hDD, hf2⟩
  obtain ⟨P, B, v0, v1, v2, vL, hs0, hQ, hLP⟩ := hPP.out
  obtain ⟨WB, vC, vM, hm, hLD⟩ := hDD.out
  have HF2 := hid (HF1.out.trans hf2)
  have HCP := hid (fun (a c : Int) (Y : World) (hf : Fr [] w2 Y) => lay_select Q P a c Y (obj_cell (obj_fr hQ hf List.not_mem_nil) (i := 0) rfl) _ (HP.out B P v0 v1 v2 vL hs0 a c Y (hLP.fr hf (fun k hk => absurd hk List.not_mem_nil))))
  have HCD := hid (fun (Y : World) (hf : Fr [] w2 Y) => HD.out WB w2.heap.size lb vC vM hm Y (HF2.out.trans hf) (hLD.fr0 hf))
  have HA1 := hid (HCP.out qa qb)
  have HA2 := hid (HCP.out qb qa)
  rw [askd_swap] at HA2
  generalize selL Ls (askd Bd ((s.size : Nat) : Int) qa qb) Ls.length = M at *
  clear hPP hDD hf2 hQ hLP hLD H14b l0 l1 l2 l3 HP HD HCP
  go_wp2_with fail
  refine (HA1.out w2 (Fr.refl _ _)).mono ?_
  rintro e w3 ⟨vA, rfl, own3, hf3⟩
  have HF3 := hid hf3
  have HO3 := hid own3
  clear hf3 own3 HA1
  go_wp2_with fail
  refine (HCD.out w3 HF3.out).mono ?_
  rintro e w4 ⟨vD, rfl, own4, hf4⟩
  have HF4 := hid (HF3.out.trans hf4)
  have HC1 := hid (spans_same M w2.heap.size w3.heap.size vA vD w4 w2 HSL.out (owns_fr0 HO3.out hf4) own4 (fun g hg => (HO3.out.lt g hg).2) HF4.out (Nat.le_refl _))
  clear hf4 own4 HO3
  go_wp2_with fail
  refine HC1.out.mono ?_
  rintro e w5 ⟨rfl, hf5⟩
  have HF5 := hid hf5
  clear hf5 HC1
  go_wp2_with fail
  refine (HA2.out w5 HF5.out).mono ?_
  rintro e w6 ⟨vA2, rfl, own6, hf6⟩
  have HF6 := hid (HF5.out.trans hf6)
  have HO6 := hid own6
  clear hf6 own6 HA2
  go_wp2_with fail
  refine (HCD.out w6 HF6.out).mono ?_
  rintro e w7 ⟨vD2, rfl, own7, hf7⟩
  have HF7 := hid (HF6.out.trans hf7)
  have HC2 := hid (spans_same M w5.heap.size w6.heap.size vA2 vD2 w7 w2 HSL.out (owns_fr0 HO6.out hf7) own7 (fun g hg => (HO6.out.lt g hg).2) HF7.out HF5.out.size)
  clear hf7 own7 HO6
  go_wp2_with fail
  refine HC2.out.mono ?_
  rintro e w8 ⟨rfl, hf8⟩
  have HF8 := hid (HF2.out.trans hf8)
  clear hf8 HC2
  go_wp2
  go_ret
  exact ⟨rfl, HF8.out⟩
set_option maxRecDepth 10000 in
theorem selects_out (s : ByteArray) (b : Int) (aW aB : Option Addr) (nW cW nB cB : Nat) (qa qb : Int) (w : World) (h : ¬ (s.size ≤ 4096 ∧ nW ≤ 4096 ∧ nB ≤ 4096)) :
    Calls Tryz.prog 8 #[.agg #[.string s, .int .i64 b, .slice aW nW cW, .slice aB nB cB], .int .i64 qa, .int .i64 qb] w fun e w' => e = .returned (.bool true) ∧ Fr [] w w' := by
  have HFb := hid (show Fr [] w (w.alloc (.cells #[.string s, .int .i64 b, .slice aW nW cW, .slice aB nB cB] 35)) from (Fr.refl [] w).alloc _)
  have H13 := hid (fit_no s b aW aB nW cW nB cB (w.alloc (.cells #[.string s, .int .i64 b, .slice aW nW cW, .slice aB nB cB] 35)) h)
  clear h
  go_enter Tryz.func8, Tryz.ntmps8
  go_wp2_with fail
  refine H13.out.mono ?_
  rintro e w1 ⟨rfl, hf1⟩
  have HF1 := hid (HFb.out.trans hf1)
  clear hf1 H13
  go_wp2_with fail
  go_ret
  exact ⟨rfl, HF1.out⟩
set_option maxRecDepth 10000 in
theorem selects_bad (s : ByteArray) (b : Int) (vW vB : Value) (W Br : List Int) (n : Nat) (qa qb : Int) (w : World) (hF : Floor w) (hend : Dec.Ends s n) (hW : slAd w vW W) (hB : slAd w vB Br) (hs : s.size ≤ 4096) (hWl : W.length ≤ 4096) (hBl : Br.length ≤ 4096) (hck : chk s n (clsOf s n) b W Br ≠ 0) :
    Calls Tryz.prog 8 #[.agg #[.string s, .int .i64 b, vW, vB], .int .i64 qa, .int .i64 qb] w fun e w' => e = .returned (.bool true) ∧ Fr [] w w' := by
  obtain ⟨aW, cW0, rfl, _⟩ := id hW
  obtain ⟨aB, cB0, rfl, _⟩ := id hB
  obtain ⟨wb, hwb⟩ : ∃ wb, wb = w.alloc (.cells #[.string s, .int .i64 b, .slice aW W.length cW0, .slice aB Br.length cB0] 35) := ⟨_, rfl⟩
  have HFb := hid (show Fr [] w wb by rw [hwb]; exact (Fr.refl [] w).alloc _)
  have HOb := hid (show wb.heap[w.heap.size]? = some (.cells #[.string s, .int .i64 b, .slice aW W.length cW0, .slice aB Br.length cB0] 35 (0, 0)) by rw [hwb]; exact obj_new w _)
  have H13 := hid (fit_yes s b aW aB W.length cW0 Br.length cB0 wb hs hWl hBl)
  have H14 := hid (fun (Y : World) (hf : Fr [] w Y) => made_bad s b _ _ W Br n Y (hF.fr hf) hend (hW.fr hf) (hB.fr hf) (by omega) (by omega) hck)
  generalize W.length = nW at *
  generalize Br.length = nB at *
  clear hW hB hF hend hck
  go_enter Tryz.func8, Tryz.ntmps8
  go_wp2_with fail
  rw [← hwb]
  clear hwb
  refine H13.out.mono ?_
  rintro e w1 ⟨rfl, hf1⟩
  have HF1 := hid (HFb.out.trans hf1)
  have HO1 := hid (obj_fr HOb.out hf1 List.not_mem_nil)
  have l0 := obj_cell HO1.out (i := 0) (v := .string s) rfl
  have l1 := obj_cell HO1.out (i := 1) (v := .int .i64 b) rfl
  have l2 := obj_cell HO1.out (i := 2) (v := .slice aW nW cW0) rfl
  have l3 := obj_cell HO1.out (i := 3) (v := .slice aB nB cB0) rfl
  have H14b := hid (H14.out w1 HF1.out)
  clear hf1 H13 H14
  go_wp2_with fail
  refine H14b.out.mono ?_
  rintro e w2 ⟨rfl, hf2⟩
  have HF2 := hid (HF1.out.trans hf2)
  clear hf2 H14b
  go_wp2_with fail
  go_ret
  exact ⟨rfl, HF2.out⟩
/-- THE LAW. -/
theorem selects_any (s : ByteArray) (b : Int) (vW vB : Value) (W Br : List Int) (qa qb : Int) (w : World) (hF : Floor w) (hW : slAd w vW W) (hB : slAd w vB Br) :
    Calls Tryz.prog 8 #[.agg #[.string s, .int .i64 b, vW, vB], .int .i64 qa, .int .i64 qb] w fun e w' => e = .returned (.bool true) ∧ Fr [] w w' := by
  by_cases h : s.size ≤ 4096 ∧ W.length ≤ 4096 ∧ Br.length ≤ 4096
  · obtain ⟨n, hend⟩ := Cls.runs s
    by_cases hck : chk s n (clsOf s n) b W Br = 0
    · exact selects_good s b vW vB W Br n qa qb w hF hend hW hB h.1 h.2.1 h.2.2 hck
    · exact selects_bad s b vW vB W Br n qa qb w hF hend hW hB h.1 h.2.1 h.2.2 hck
  · obtain ⟨aW, cW, rfl, _⟩ := hW
    obtain ⟨aB, cB, rfl, _⟩ := hB
    exact selects_out s b aW aB _ cW _ cB qa qb w h
end Go.Proofs.YtnakejhohdbfdaaGreatDoor
