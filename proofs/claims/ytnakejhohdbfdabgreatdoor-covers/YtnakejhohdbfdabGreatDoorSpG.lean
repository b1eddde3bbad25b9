/- Covers: the law where the setup is right, the other way round; the law. -/
import Derived.Test.YtnakejhohdbfdabGreatDoorSpE
namespace Go.Proofs.YtnakejhohdbfdabGreatDoor
open Go.RowKit Lev Lay Bnd

set_option maxRecDepth 10000 in
set_option maxHeartbeats 4000000 in
theorem covers_lt (s : ByteArray) (b : Int) (vW vB : Value) (W Br : List Int) (n : Nat) (qa qb : Int) (hab : qb < qa) (w : World) (hF : Floor w) (hend : Dec.Ends s n) (hW : slAd w vW W) (hB : slAd w vB Br) (hs : s.size ≤ 4096) (hWl : W.length ≤ 4096) (hBl : Br.length ≤ 4096) (hck : chk s n (clsOf s n) b W Br = 0) :
    Calls Tryz.prog 9 #[.agg #[.string s, .int .i64 b, vW, vB], .int .i64 qa, .int .i64 qb] w fun e w' => e = .returned (.bool true) ∧ Fr [] w w' := by
  obtain ⟨Bd, V, X, r, bs, Cs, Ls, T, TT, F, hbn, _, _, _, _, _, _, _⟩ := keep_four s b W Br n hend (by omega) hck
  have hBd := bd_bnd F hend (fun h => (hbn h).2.2.2.1)
  obtain ⟨aW, cW, rfl, _⟩ := id hW
  obtain ⟨aB, cB, rfl, _⟩ := id hB
  obtain ⟨wb, hwb⟩ : ∃ wb, wb = w.alloc (.cells #[.string s, .int .i64 b, .slice aW W.length cW, .slice aB Br.length cB] 48) := ⟨_, rfl⟩
  have HFb := hid (show Fr [] w wb by rw [hwb]; exact (Fr.refl [] w).alloc _)
  have HOb := hid (show wb.heap[w.heap.size]? = some (.cells #[.string s, .int .i64 b, .slice aW W.length cW, .slice aB Br.length cB] 48 (0, 0)) by rw [hwb]; exact obj_new w _)
  have HA := hid (fun (Z : World) (hf : Fr [] w Z) => alive_any Z (hF.fr hf))
  have HL := hid (fun (Z : World) (hf : Fr [] w Z) => laid_good s b _ _ W Br Z (hF.fr hf) (hW.fr hf) (hB.fr hf) hs hWl hBl Bd V X r bs Cs Ls T)
  have HSn := hid (fun (off : Int) (up : Bool) (Z : World) (hf : Fr [] w Z) => show Calls Tryz.prog 44 #[.string s, .int .i64 off, .bool up] Z fun e w' => e = .returned (.int .i64 (snp Bd (s.size : Nat) off up)) ∧ Fr [] Z w' by
    rw [hBd]; exact snap44 s n off up Z hend (by omega) (hF.fr hf).t9)
  obtain ⟨K, hK⟩ : ∃ K, K = Ls.length := ⟨_, rfl⟩
  obtain ⟨c, hc⟩ : ∃ c, c = V.length := ⟨_, rfl⟩
  have HK := hid hK
  have HCL := hid hc
  have hK0 : 0 < K := by rw [hK]; exact T.l0
  have hK1 : K ≤ 400 := by rw [hK]; exact T.l1
  have hc1 : c ≤ 400 := by rw [hc]; exact T.vl
  have HT := hid T
  have HTT := hid TT
  have HFF := hid F
  generalize W.length = nW at *
  generalize Br.length = nB at *
  clear hF hW hB T TT F hend hck hK hc hbn hBd
  go_enter Tryz.func9, Tryz.ntmps9
  go_wp2_with fail
  rw [← hwb]
  clear hwb
  refine (HA.out wb HFb.out).mono ?_
  rintro e w1 ⟨rfl, hf1⟩
  have HF1 := hid (HFb.out.trans hf1)
  have HO1 := hid (obj_fr HOb.out hf1 List.not_mem_nil)
  have c0 := obj_cell HO1.out (i := 0) (v := .string s) rfl
  have c1 := obj_cell HO1.out (i := 1) (v := .int .i64 b) rfl
  have c2 := obj_cell HO1.out (i := 2) (v := .slice aW nW cW) rfl
  have c3 := obj_cell HO1.out (i := 3) (v := .slice aB nB cB) rfl
  clear hf1 HA
  go_wp2_with fail
  refine (HL.out w1 HF1.out).mono ?_
  rintro e w2 ⟨Q, P, v0, v1, v2, vL, hs2, rfl, hQ, _, ⟨B, _, hLP⟩, hf2⟩
  have HF2 := hid (HF1.out.trans hf2)
  have HQ := hid hQ
  have HO2 := hid (obj_fr HO1.out hf2 List.not_mem_nil)
  have HLP := hid hLP
  have q0 := obj_cell hQ (i := 0) (v := .pointer (some ⟨P, 0, none⟩)) rfl
  obtain ⟨M, hM⟩ : ∃ M, M = selL Ls (askd Bd (s.size : Nat) qa qb) K := ⟨_, rfl⟩
  have H43 := hid (lay_select Q P qa qb w2 q0 (fun v w' => w'.ownsRow w2.heap.size 90 5 v M.length (spCells M) ∧ Fr [] w2 w') (by
    refine (select_any B P Bd V X r (s.size : Nat) Ls v0 v1 v2 vL hs2 qa qb w2 hLP HFF.out.rs (by omega) (by have := HT.out.bd; have := HCL.out; omega) (by have := HK.out; omega) (by have := HK.out; omega) (fun l hl => ⟨(HT.out.ll l hl).1, HTT.out.xl l hl⟩)).mono ?_
    rintro e w' ⟨v, rfl, h1, h2⟩
    rw [hM, HK.out]
    exact ⟨v, rfl, h1, h2⟩))
  have HSO := hid (show SelOk Ls (askd Bd (s.size : Nat) qa qb) K M by rw [hM]; exact selL_ok ..)
  have HMl := hid (show M.length ≤ 401 * 1001 by
    rw [hM]
    exact Nat.le_trans (selL_small (d := 1000) (fun i => by
        by_cases hi : i < Ls.length
        · exact (HT.out.ll _ (lnN_mem hi)).1
        · unfold lnN; rw [List.getElem?_eq_none (by omega)]; exact Nat.zero_le _) K) (Nat.mul_le_mul (by omega) (Nat.le_refl _)))
  clear hQ hLP hf2 q0 HL c0 c1 c2 c3 hM
  go_wp2_with fail
  refine H43.out.mono ?_
  rintro e w3 ⟨vM, rfl, own3, hf3⟩
  obtain ⟨aM, cM, rfl⟩ := owns_slice own3
  have HF3 := hid (HF2.out.trans hf3)
  have HM3 := hid own3
  have HK3 := hid hf3
  have HO3 := hid (obj_fr HO2.out hf3 List.not_mem_nil)
  clear own3 hf3 H43
  obtain ⟨nM, hnM⟩ : ∃ nM, nM = M.length := ⟨_, rfl⟩
  rw [← hnM]
  have hnM1 : nM ≤ 401401 := by rw [hnM]; exact HMl.out
  have HNM := hid hnM
  clear hnM HMl
  have k0 := obj_cell HO3.out (i := 0) (v := .string s) rfl
  obtain ⟨ya, hya⟩ : ∃ ya, ya = snp Bd (s.size : Nat) (min qa qb) false := ⟨_, rfl⟩
  obtain ⟨yb, hyb⟩ : ∃ yb, yb = snp Bd (s.size : Nat) (max qa qb) true := ⟨_, rfl⟩
  have HYA := hid hya
  have HYB := hid hyb
  -- the two bytes, in their order
  have HS1 := hid (fun (Z : World) (hf : Fr [] w3 Z) => show Calls Tryz.prog 44 #[.string s, .int .i64 (min qa qb), .bool false] Z fun e w' => e = .returned (.int .i64 ya) ∧ Fr [] Z w' by rw [HYA.out]; exact HSn.out _ _ Z (HF3.out.trans hf))
  have HS2 := hid (fun (Z : World) (hf : Fr [] w3 Z) => show Calls Tryz.prog 44 #[.string s, .int .i64 (max qa qb), .bool true] Z fun e w' => e = .returned (.int .i64 yb) ∧ Fr [] Z w' by rw [HYB.out]; exact HSn.out _ _ Z (HF3.out.trans hf))
  clear hya hyb HSn
  have em : min qa qb = qb := by omega
  have eM : max qa qb = qa := by omega
  have hab2 : decide (qb < qa) = true := by simpa using hab
  all_goals (
    rw [em] at HS1
    rw [eM] at HS2
    clear em eM
    go_wp2_with fail
    refine (HS1.out w3 (Fr.refl _ _)).mono ?_
    rintro e w4 ⟨rfl, hf4⟩
    have HF4 := hid hf4
    have k4 := hf4.cell k0 List.not_mem_nil
    clear hf4 HS1 k0
    go_wp2_with fail
    refine (HS2.out w4 HF4.out).mono ?_
    rintro e w5 ⟨rfl, hf5⟩
    have HF5 := hid (HF4.out.trans hf5)
    clear hf5 HS2 k4
    have H32 := hid (lay_lines Q P w5 (obj_cell (obj_fr HQ.out (HK3.out.trans HF5.out) List.not_mem_nil) rfl) (fun v w' => ∃ hs', w'.ownsRow w5.heap.size 72 4 v K hs' ∧ lnsAt w' w5.heap.size w'.heap.size hs' Ls ∧ Fr [] w5 w') (by
      have hLP := HLP.out.fr (HK3.out.trans HF5.out) (fun k hk => absurd hk List.not_mem_nil)
      obtain ⟨U, _, hn⟩ := hLP.n
      have hll := hLP.l
      rw [← HK.out] at hll
      refine (lines56_any P K _ U v0 v1 v2 vL _ hs2 _ w5 hLP.o hll hn hK0 (by omega) HK.out.symm HT.out.ll).mono ?_
      rintro e w' ⟨v, hs', rfl, h1, h2, _, h4⟩
      exact ⟨v, rfl, hs', h1, h2, h4⟩))
    go_wp2_with fail
    refine H32.out.mono ?_
    rintro e w6 ⟨vN, rfl, hs', own6, hl6, hf6⟩
    obtain ⟨gN, cN, rfl⟩ := owns_shape hK0 own6
    have HN := hid own6
    have HLN := hid hl6
    have HF6 := hid (HF5.out.trans hf6)
    clear own6 hl6 hf6 H32
    have H31 := hid (lay_clusters Q P w6 (obj_cell (obj_fr HQ.out (HK3.out.trans HF6.out) List.not_mem_nil) rfl) (fun v w' => w'.ownsRow w6.heap.size 67 4 v c (clCells (clP Bd V X c)) ∧ Fr [] w6 w') (by
      have hLP := HLP.out.fr (HK3.out.trans HF6.out) (fun k hk => absurd hk List.not_mem_nil)
      refine (clusters_any P c _ v0 v1 v2 vL _ Bd V X w6 hLP.o hLP.b hLP.v hLP.x HCL.out.symm (by rw [HT.out.vx]; exact HCL.out.symm) (by rw [HT.out.bd, HCL.out]) (by omega)).mono ?_
      rintro e w' ⟨v, rfl, h1, h2⟩
      exact ⟨v, rfl, h1, h2⟩))
    go_wp2_with fail
    refine H31.out.mono ?_
    rintro e w7 ⟨vC, rfl, own7, hf7⟩
    obtain ⟨aC, cC, rfl⟩ := owns_slice own7
    have HC7 := hid own7
    have HF7 := hid (HF6.out.trans hf7)
    have HN7 := hid (fun (j : Nat) (hj : j < K) => ln_cells HN.out HLN.out HK.out.symm (Fr.refl [] w6) rfl (fun j hj => by rw [HTT.out.xl _ (lnN_mem (by rw [← HK.out]; exact hj))]; omega) hj)
    have HG7 := hid (fun (Y : World) (hf : Fr [] w7 Y) => show Fr [w6.heap.size] w6 Y from (hf7.trans hf).mono (fun _ h _ => absurd h List.not_mem_nil))
    have HM7 := hid (owns_fr0 HM3.out HF7.out)
    clear own7 hf7 H31
    go_wp2_with fail
    go_loopw [12] (fun iv wr => ∃ i : Nat, iv = .int .i64 i ∧ i ≤ nM ∧ Hid (Fr [] w7 wr)) (fun iv _ => nM - (intOf iv).toNat)
    case atStart => exact ⟨0, rfl, Nat.zero_le _, hid (Fr.refl _ _)⟩
    case round =>
      obtain ⟨i, rfl, hin, HR⟩ := hrel
      by_cases hi : i < nM
      · have hiI : (i : Int) < (nM : Int) := by omega
        have HIi := hid hi
        obtain ⟨gM, cM', hvM⟩ := owns_shape (show 0 < M.length by have := HNM.out; omega) HM7.out
        cases hvM
        have hown := owns_fr0 HM7.out HR.out
        obtain ⟨sp, hsp⟩ : ∃ sp, M[i]? = some sp := ⟨_, List.getElem?_eq_getElem (by have := HNM.out; omega)⟩
        obtain ⟨a0, a1, a2, a3, a4⟩ := spCells_at M i sp hsp
        have m0 : wr.cell? ⟨gM, i * 5, none⟩ = some (.int .i64 (sp.l : Nat)) := by rw [hown.cellAt _ (by have := HNM.out; omega)]; exact a0
        have m1 : wr.cell? ⟨gM, i * 5 + 1, none⟩ = some (.int .i64 (sp.f : Nat)) := by rw [hown.cellAt _ (by have := HNM.out; omega)]; exact a1
        have m2 : wr.cell? ⟨gM, i * 5 + 2, none⟩ = some (.int .i64 (sp.t : Nat)) := by rw [hown.cellAt _ (by have := HNM.out; omega)]; exact a2
        have m3 : wr.cell? ⟨gM, i * 5 + 3, none⟩ = some (.int .i64 sp.a) := by rw [hown.cellAt _ (by have := HNM.out; omega)]; exact a3
        have m4 : wr.cell? ⟨gM, i * 5 + 4, none⟩ = some (.int .i64 sp.b) := by rw [hown.cellAt _ (by have := HNM.out; omega)]; exact a4
        obtain ⟨hl, hft, hto, hsa, hsb⟩ := HSO.out.inn sp (List.mem_of_getElem? hsp)
        obtain ⟨aO, cO, gX, cX, hcell, _⟩ := HN7.out sp.l hl
        have hxl := HTT.out.xl _ (lnN_mem (show sp.l < Ls.length by rw [← HK.out]; exact hl))
        have hll1 := (HT.out.ll _ (lnN_mem (show sp.l < Ls.length by rw [← HK.out]; exact hl))).1
        have HCE := hid (fun (Y : World) (hf : Fr [] w7 Y) => show Y.cell? ⟨gN, sp.l * 4 + 3, none⟩ = some (.slice (some ⟨gX, 0, none⟩) (lnN Ls sp.l).x.length cX) ∧ Y.cell? ⟨gX, sp.f, none⟩ = some (.int .i64 sp.a) ∧ Y.cell? ⟨gX, sp.t, none⟩ = some (.int .i64 sp.b) by
          obtain ⟨_, _, _, h3, hx⟩ := hcell Y (HG7.out Y hf)
          exact ⟨h3, by rw [hsa]; exact hx _ (by omega), by rw [hsb]; exact hx _ (by omega)⟩)
        have HAD := hid (show ∀ i', i = i' + 1 → ∃ p, M[i']? = some p ∧ (p.l < sp.l ∨ (p.l = sp.l ∧ p.t < sp.f)) from fun i' e => by
          have hlt : i' < M.length := by have := HNM.out; omega
          refine ⟨_, List.getElem?_eq_getElem hlt, ?_⟩
          have hi2 : i < M.length := by have := HNM.out; omega
          have h := List.pairwise_iff_getElem.1 HSO.out.adj i' i hlt hi2 (by omega)
          rw [show M[i] = sp from by rw [List.getElem?_eq_getElem hi2] at hsp; exact Option.some.inj hsp] at h
          exact h)
        have HMC := hid (fun (Y : World) (hf : Fr [] w7 Y) (k : Nat) (q : Spn) (hq : M[k]? = some q) => show Y.cell? ⟨gM, k * 5, none⟩ = some (.int .i64 (q.l : Nat)) ∧ Y.cell? ⟨gM, k * 5 + 1, none⟩ = some (.int .i64 (q.f : Nat)) ∧ Y.cell? ⟨gM, k * 5 + 2, none⟩ = some (.int .i64 (q.t : Nat)) by
          have ho := owns_fr0 HM7.out hf
          have hk : k < M.length := (List.getElem?_eq_some_iff.1 hq).1
          obtain ⟨b0, b1, b2, _, _⟩ := spCells_at M k q hq
          exact ⟨by rw [ho.cellAt _ (by omega)]; exact b0, by rw [ho.cellAt _ (by omega)]; exact b1, by rw [ho.cellAt _ (by omega)]; exact b2⟩)
        rw [hxl] at HCE
        obtain ⟨lx, hlx⟩ : ∃ lx, lx = (lnN Ls sp.l).o.length + 1 := ⟨_, rfl⟩
        rw [← hlx] at HCE
        have hlx1 : lx ≤ 1001 := by omega
        have hto2 : sp.t < lx := by omega
        generalize sp.l = sl at *
        generalize sp.f = sf at *
        generalize sp.t = st at *
        generalize sp.a = sa at *
        generalize sp.b = sb at *
        clear hown a0 a1 a2 a3 a4 hsp hsa hsb hcell hxl hll1 hlx hto
        go_wp2_with fail
        obtain ⟨w8, hw8⟩ : ∃ w8, w8 = wr.alloc (.cells #[.int .i64 sl, .int .i64 sf, .int .i64 st, .int .i64 sa, .int .i64 sb] 90) := ⟨_, rfl⟩
        obtain ⟨gP, hgP⟩ : ∃ gP, gP = wr.heap.size := ⟨_, rfl⟩
        have HF8 := hid (show Fr [] w7 w8 by rw [hw8]; exact HR.out.alloc _)
        have HP8 := hid (show w8.heap[gP]? = some (.cells #[.int .i64 sl, .int .i64 sf, .int .i64 st, .int .i64 sa, .int .i64 sb] 90 (0, 0)) by rw [hw8, hgP]; exact obj_new wr _)
        rw [← hw8, ← hgP]
        clear hw8 hgP m0 m1 m2 m3 m4
        have x0 := obj_cell HP8.out (i := 0) (v := .int .i64 sl) rfl
        have x1 := obj_cell HP8.out (i := 1) (v := .int .i64 sf) rfl
        have x2 := obj_cell HP8.out (i := 2) (v := .int .i64 st) rfl
        have x3 := obj_cell HP8.out (i := 3) (v := .int .i64 sa) rfl
        have x4 := obj_cell HP8.out (i := 4) (v := .int .i64 sb) rfl
        obtain ⟨y0, y1, y2⟩ := HCE.out w8 HF8.out
        have hlI : (sl : Int) < (K : Int) := by omega
        have hfI : (sf : Int) < (lx : Int) := by omega
        have htI : (st : Int) < (lx : Int) := by omega
        have z0 : decide ((sl : Int) < 0) = false := by simp
        have z1 : decide ((K : Int) ≤ (sl : Int)) = false := by simp; omega
        have z2 : decide ((sf : Int) < 0) = false := by simp
        have z3 : decide ((st : Int) ≤ (sf : Int)) = false := by simp; omega
        have z4 : decide ((lx : Int) ≤ (st : Int)) = false := by simp; omega
        go_quiet (fail)
        obtain ⟨w9, hw9⟩ : ∃ w9, w9 = w8.drewN nq := ⟨_, rfl⟩
        have HF9 := hid (show Fr [] w8 w9 by rw [hw9]; exact fr_drewN _ _)
        rw [← hw9]
        clear hw9 x0 x1 x2 x3 x4 y0 y1 y2 z0 z1 z2 z3 z4
        have HP9 := hid (obj_fr HP8.out HF9.out List.not_mem_nil)
        have HR9 := hid (HF8.out.trans HF9.out)
        have x0 := obj_cell HP9.out (i := 0) (v := .int .i64 sl) rfl
        have x1 := obj_cell HP9.out (i := 1) (v := .int .i64 sf) rfl
        have x2 := obj_cell HP9.out (i := 2) (v := .int .i64 st) rfl
        have x3 := obj_cell HP9.out (i := 3) (v := .int .i64 sa) rfl
        have x4 := obj_cell HP9.out (i := 4) (v := .int .i64 sb) rfl
        obtain ⟨y0, y1, y2⟩ := HCE.out w9 HR9.out
        go_wp2_with fail
        go_quiet (fail)
        obtain ⟨wz, hwz⟩ : ∃ wz, wz = w9.drewN nq := ⟨_, rfl⟩
        have HFz := hid (show Fr [] w9 wz by rw [hwz]; exact fr_drewN _ _)
        rw [← hwz]
        clear hwz x0 x1 x2 x3 x4 y0 y1 y2
        have HPz := hid (obj_fr HP9.out HFz.out List.not_mem_nil)
        have HRz := hid (HR9.out.trans HFz.out)
        have x0 := obj_cell HPz.out (i := 0) (v := .int .i64 sl) rfl
        have x1 := obj_cell HPz.out (i := 1) (v := .int .i64 sf) rfl
        rcases Nat.eq_zero_or_pos i with h0 | h0
        · subst h0
          have z5 : decide ((0 : Int) < ((0 : Nat) : Int)) = false := by simp
          go_wp2_with fail
          go_quiet (fail)
          go_wp2
          exact ⟨⟨1, by go_num, HIi.out, hid (HRz.out.drewN _)⟩, by simp [intOf]; have := HIi.out; omega⟩
        · obtain ⟨i', rfl⟩ : ∃ i', i = i' + 1 := ⟨i - 1, by omega⟩
          obtain ⟨p, hp, hpa⟩ := HAD.out i' rfl
          obtain ⟨n0, _, n2⟩ := HMC.out wz HRz.out i' p hp
          generalize p.l = pl at *
          generalize p.t = pt at *
          have z5 : (((i' + 1 : Nat) : Int)) - 1 = (i' : Int) := by omega
          have z6 : (0 : Int) < ((i' + 1 : Nat) : Int) := by omega
          have z8 : (i' : Int) < (nM : Int) := by omega
          have za : IntKind.i64.wrap (i' : Int) = (i' : Int) := by rw [IntKind.wrap_i64]; omega
          have z9 : decide ((sl : Int) < (pl : Int)) = false := by simp; omega
          have z9a : decide (sl < pl) = false := by simp; omega
          have z9b : ¬ sl < pl := by omega
          rcases Nat.lt_or_ge pl sl with hps | hps
          · have z7b : ¬ pl = sl := by omega
            have z7a : (pl == sl) = false := by simp; omega
            have z7 : ((pl : Int) == (sl : Int)) = false := by simp; omega
            have z7c : ¬ (pl : Int) = (sl : Int) := by omega
            have z7d : decide ((pl : Int) = (sl : Int)) = false := by simp; omega
            have z7e : decide (pl = sl) = false := by simp; omega
            go_wp2_with fail
            go_quiet (fail)
            go_wp2
            exact ⟨⟨i' + 2, by go_num, HIi.out, hid (HRz.out.drewN _)⟩, by simp [intOf]; have := HIi.out; omega⟩
          · obtain rfl : pl = sl := by omega
            have z7 : decide ((sf : Int) ≤ (pt : Int)) = false := by simp; omega
            go_wp2_with fail
            go_quiet (fail)
            go_wp2
            exact ⟨⟨i' + 2, by go_num, HIi.out, hid (HRz.out.drewN _)⟩, by simp [intOf]; have := HIi.out; omega⟩
      · obtain rfl : i = nM := by omega
        have hiI : decide ((i : Int) < (i : Int)) = false := by simp
        obtain ⟨w8, hw8⟩ : ∃ w8, w8 = wr := ⟨_, rfl⟩
        rw [← hw8] at HR ⊢
        clear hw8
        go_wp2_with fail
        go_loopw [14] (fun jv wr => ∃ j : Nat, jv = .int .i64 j ∧ j ≤ K ∧ Hid (Fr [] w7 wr)) (fun jv _ => K - (intOf jv).toNat)
        case atStart => exact ⟨0, rfl, Nat.zero_le _, hid HR.out⟩
        case round =>
          obtain ⟨j, rfl, hjK, HFj⟩ := hrel
          by_cases hj : j < K
          · have hjI : (j : Int) < (K : Int) := by omega
            have HJj := hid hj
            obtain ⟨aO, cO, gX, cX, hcell, hord⟩ := HN7.out j hj
            have HCE := hid (fun (Y : World) (hf : Fr [] w7 Y) => (hcell Y (HG7.out Y hf)).2.2.1)
            have HOR := hid (fun (ho : 0 < (lnN Ls j).o.length) => hord ho)
            obtain ⟨lo, hlo⟩ : ∃ lo, lo = (lnN Ls j).o.length := ⟨_, rfl⟩
            rw [← hlo] at HCE HOR
            have HLO := hid hlo
            have hlo1 : lo ≤ 1000 := by rw [hlo]; exact (HT.out.ll _ (lnN_mem (by rw [← HK.out]; exact hj))).1
            clear hcell hord hlo
            go_wp2_with fail
            go_loopw [15] (fun kv wr => ∃ k : Nat, kv = .int .i64 k ∧ k ≤ lo ∧ Hid (Fr [] w7 wr)) (fun kv _ => lo - (intOf kv).toNat)
            case atStart => exact ⟨0, rfl, Nat.zero_le _, hid HFj.out⟩
            case round =>
              obtain ⟨k, rfl, hkl, HFk⟩ := hrel
              have n2 := HCE.out wr HFk.out
              by_cases hk : k < lo
              · have hkI : (k : Int) < (lo : Int) := by omega
                have HKk := hid hk
                obtain ⟨gO, hgO, horc⟩ := HOR.out (by omega)
                subst hgO
                have oc := horc wr (HG7.out wr HFk.out) k hk
                have HOC := hid (fun (Y : World) (hf : Fr [] w7 Y) => horc Y (HG7.out Y hf) k hk)
                have HIN := hid (inSp_all HSO.out (i := j) (k := k) (by exact hj) (by rw [← HLO.out]; exact hk))
                obtain ⟨o, ho⟩ : ∃ o, o = nix (lnN Ls j).o k := ⟨_, rfl⟩
                rw [← ho] at oc HIN HOC
                have hoc : o < c := by rw [HCL.out, ho]; exact (HFF.out.on j (by rw [← HK.out]; exact hj) _ (nix_mem' (by rw [← HLO.out]; exact hk))).1
                have HAQ := hid (askd_iff HFF.out.rs qa qb (c := o) (by have := HT.out.bd; have := HCL.out; omega))
                rw [← HYA.out, ← HYB.out] at HAQ
                obtain ⟨gC, cC', hvC⟩ := owns_shape (show 0 < c by omega) HC7.out
                cases hvC
                obtain ⟨p0, p1, p2, p3⟩ := cl_cell4 (owns_fr0 HC7.out HFk.out) hoc
                have hoI : (o : Int) < (c : Int) := by omega
                generalize nth Bd o = bo at *
                generalize nth Bd (o + 1) = bo1 at *
                generalize nth V o = vo at *
                generalize nth X o = xo at *
                clear ho horc
                go_wp2_with fail
                obtain ⟨w9, hw9⟩ : ∃ w9, w9 = wr.alloc (.cells #[.int .i64 bo, .int .i64 bo1, .int .i64 vo, .int .i64 xo] 67) := ⟨_, rfl⟩
                obtain ⟨gP, hgP⟩ : ∃ gP, gP = wr.heap.size := ⟨_, rfl⟩
                have HF9 := hid (show Fr [] w7 w9 by rw [hw9]; exact HFk.out.alloc _)
                have HP9 := hid (show w9.heap[gP]? = some (.cells #[.int .i64 bo, .int .i64 bo1, .int .i64 vo, .int .i64 xo] 67 (0, 0)) by rw [hw9, hgP]; exact obj_new wr _)
                rw [← hw9, ← hgP]
                clear hw9 hgP p0 p1 p2 p3 oc n2
                go_loopw [17, 18] (fun bv qv wr => ∃ q : Nat, qv = .int .i64 q ∧ q ≤ i ∧ bv = .bool (inSp M j k q) ∧ Hid (Fr [] w9 wr)) (fun _ qv _ => i - (intOf qv).toNat)
                case atStart => exact ⟨0, rfl, Nat.zero_le _, rfl, hid (Fr.refl _ _)⟩
                case round =>
                  obtain ⟨q, rfl, hqi, rfl, HFq⟩ := hrel
                  by_cases hq : q < i
                  · have hqI : (q : Int) < (i : Int) := by omega
                    have HQq := hid hq
                    obtain ⟨gM, cM', hvM⟩ := owns_shape (show 0 < M.length by have := HNM.out; omega) HM7.out
                    cases hvM
                    have hown := owns_fr0 HM7.out (HF9.out.trans HFq.out)
                    obtain ⟨sp, hsp⟩ : ∃ sp, M[q]? = some sp := ⟨_, List.getElem?_eq_getElem (by have := HNM.out; omega)⟩
                    obtain ⟨a0, a1, a2, _, _⟩ := spCells_at M q sp hsp
                    have m0 : wr.cell? ⟨gM, q * 5, none⟩ = some (.int .i64 (sp.l : Nat)) := by rw [hown.cellAt _ (by have := HNM.out; omega)]; exact a0
                    have m1 : wr.cell? ⟨gM, q * 5 + 1, none⟩ = some (.int .i64 (sp.f : Nat)) := by rw [hown.cellAt _ (by have := HNM.out; omega)]; exact a1
                    have m2 : wr.cell? ⟨gM, q * 5 + 2, none⟩ = some (.int .i64 (sp.t : Nat)) := by rw [hown.cellAt _ (by have := HNM.out; omega)]; exact a2
                    have HST := hid (inSp_step (i := j) (k := k) hsp)
                    obtain ⟨b0, hb0⟩ : ∃ b0, b0 = inSp M j k q := ⟨_, rfl⟩
                    rw [← hb0] at HST ⊢
                    generalize sp.l = sl at *
                    generalize sp.f = sf at *
                    generalize sp.t = st at *
                    clear hown a0 a1 a2 hsp hb0
                    cases b0
                    · by_cases h1 : sl = j
                      · subst h1
                        by_cases h2 : sf ≤ k
                        · have h2I : (sf : Int) ≤ (k : Int) := by omega
                          by_cases h3 : k < st
                          · have h3I : (k : Int) < (st : Int) := by omega
                            have HS3 := hid (show inSp M sl k (q + 1) = true by rw [HST.out]; simp [h2, h3])
                            go_wp2
                            exact ⟨⟨q + 1, by go_num, HQq.out, by rw [HS3.out], hid HFq.out⟩, by simp [intOf]; have := HQq.out; omega⟩
                          · have h3I : ¬ (k : Int) < (st : Int) := by omega
                            have HS3 := hid (show inSp M sl k (q + 1) = false by rw [HST.out]; simp [h3])
                            go_wp2
                            exact ⟨⟨q + 1, by go_num, HQq.out, by rw [HS3.out], hid HFq.out⟩, by simp [intOf]; have := HQq.out; omega⟩
                        · have h2I : ¬ (sf : Int) ≤ (k : Int) := by omega
                          have h2a : decide (sf ≤ k) = false := by simp; omega
                          have h2b : decide ((sf : Int) ≤ (k : Int)) = false := by simp; omega
                          have HS3 := hid (show inSp M sl k (q + 1) = false by rw [HST.out]; simp [h2])
                          go_wp2
                          exact ⟨⟨q + 1, by go_num, HQq.out, by rw [HS3.out], hid HFq.out⟩, by simp [intOf]; have := HQq.out; omega⟩
                      · have h1I : ¬ (sl : Int) = (j : Int) := by omega
                        have h1a : (sl == j) = false := by simp; omega
                        have h1b : ((sl : Int) == (j : Int)) = false := by simp; omega
                        have HS3 := hid (show inSp M j k (q + 1) = false by rw [HST.out]; simp [h1])
                        go_wp2
                        exact ⟨⟨q + 1, by go_num, HQq.out, by rw [HS3.out], hid HFq.out⟩, by simp [intOf]; have := HQq.out; omega⟩
                    · have HS3 := hid (show inSp M j k (q + 1) = true by rw [HST.out]; rfl)
                      go_wp2
                      exact ⟨⟨q + 1, by go_num, HQq.out, by rw [HS3.out], hid HFq.out⟩, by simp [intOf]; have := HQq.out; omega⟩
                  · obtain rfl : q = i := by omega
                    have hqI : decide ((q : Int) < (q : Int)) = false := by simp
                    rw [show inSp M j k q = (decide (ya ≤ bo) && decide (bo1 ≤ yb)) by rw [HNM.out, HIN.out, HAQ.out]]
                    have HPq := hid (obj_fr HP9.out HFq.out List.not_mem_nil)
                    have x0 := obj_cell HPq.out (i := 0) (v := .int .i64 bo) rfl
                    have x1 := obj_cell HPq.out (i := 1) (v := .int .i64 bo1) rfl
                    have HRq := hid (HF9.out.trans HFq.out)
                    by_cases h1 : ya ≤ bo
                    · by_cases h2 : bo1 ≤ yb
                      · go_wp2
                        exact ⟨⟨k + 1, by go_num, HKk.out, hid HRq.out⟩, by simp [intOf]; have := HKk.out; omega⟩
                      · have h2b : decide (bo1 ≤ yb) = false := by simpa using h2
                        go_wp2
                        exact ⟨⟨k + 1, by go_num, HKk.out, hid HRq.out⟩, by simp [intOf]; have := HKk.out; omega⟩
                    · have h1b : decide (ya ≤ bo) = false := by simpa using h1
                      go_wp2
                      exact ⟨⟨k + 1, by go_num, HKk.out, hid HRq.out⟩, by simp [intOf]; have := HKk.out; omega⟩
              · obtain rfl : k = lo := by omega
                have hkI : decide ((k : Int) < (k : Int)) = false := by simp
                go_wp2
                exact ⟨⟨j + 1, by go_num, HJj.out, hid HFk.out⟩, by simp [intOf]; have := HJj.out; omega⟩
          · obtain rfl : j = K := by omega
            have hjI : decide ((j : Int) < (j : Int)) = false := by simp
            go_wp2
            go_ret
            exact ⟨rfl, HF3.out.trans (HF7.out.trans HFj.out)⟩)
end Go.Proofs.YtnakejhohdbfdabGreatDoor
