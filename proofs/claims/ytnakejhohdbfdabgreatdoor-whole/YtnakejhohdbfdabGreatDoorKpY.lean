/- Whole: the law where the setup is right. -/
import Derived.Test.YtnakejhohdbfdabGreatDoorKpX
namespace Go.Proofs.YtnakejhohdbfdabGreatDoor
open Go.RowKit Lev Lay Bnd

set_option maxRecDepth 10000 in
set_option maxHeartbeats 4000000 in
theorem whole_good (s : ByteArray) (b : Int) (vW vB : Value) (W Br : List Int) (n : Nat) (w : World) (hF : Floor w) (hend : Dec.Ends s n) (hW : slAd w vW W) (hB : slAd w vB Br) (hs : s.size ≤ 4096) (hWl : W.length ≤ 4096) (hBl : Br.length ≤ 4096) (hck : chk s n (clsOf s n) b W Br = 0) :
    Calls Tryz.prog 5 #[.agg #[.string s, .int .i64 b, vW, vB]] w fun e w' => e = .returned (.bool true) ∧ Fr [] w w' := by
  obtain ⟨Bd, V, X, r, bs, Cs, Ls, T, TT, F, _, _, _, _, _, _, O, hKB⟩ := keep_four s b W Br n hend (by omega) hck
  obtain ⟨aW, cW, rfl, _⟩ := id hW
  obtain ⟨aB, cB, rfl, _⟩ := id hB
  obtain ⟨wb, hwb⟩ : ∃ wb, wb = w.alloc (.cells #[.string s, .int .i64 b, .slice aW W.length cW, .slice aB Br.length cB] 48) := ⟨_, rfl⟩
  have HFb := hid (show Fr [] w wb by rw [hwb]; exact (Fr.refl [] w).alloc _)
  have HOb := hid (show wb.heap[w.heap.size]? = some (.cells #[.string s, .int .i64 b, .slice aW W.length cW, .slice aB Br.length cB] 48 (0, 0)) by rw [hwb]; exact obj_new w _)
  have HA := hid (fun (Z : World) (hf : Fr [] w Z) => alive_any Z (hF.fr hf))
  have HL := hid (fun (Z : World) (hf : Fr [] w Z) => laid_good s b _ _ W Br Z (hF.fr hf) (hW.fr hf) (hB.fr hf) hs hWl hBl Bd V X r bs Cs Ls T)
  obtain ⟨K, hK⟩ : ∃ K, K = Ls.length := ⟨_, rfl⟩
  obtain ⟨c, hc⟩ : ∃ c, c = V.length := ⟨_, rfl⟩
  have HK := hid hK
  have HCL := hid hc
  have hK0 : 0 < K := by rw [hK]; exact T.l0
  have hK1 : K ≤ 400 := by rw [hK]; exact T.l1
  have hc1 : c ≤ 400 := by rw [hc]; exact T.vl
  have HT := hid T
  have HTT := hid TT
  have HFF := hid F
  have HOO := hid O
  have HKB := hid hKB
  generalize W.length = nW at *
  generalize Br.length = nB at *
  clear hF hW hB T TT F O hKB hend hck hK hc
  go_enter Tryz.func5, Tryz.ntmps5
  go_wp2_with fail
  rw [← hwb]
  clear hwb
  refine (HA.out wb HFb.out).mono ?_
  rintro e w1 ⟨rfl, hf1⟩
  have HF1 := hid (HFb.out.trans hf1)
  have HO1 := hid (obj_fr HOb.out hf1 List.not_mem_nil)
  have c0 := obj_cell HO1.out (i := 0) (v := .string s) rfl
  have c1 := obj_cell HO1.out (i := 1) (v := .int .i64 b) rfl
  have c2 := obj_cell HO1.out (i := 2) (v := .slice aW nW cW) rfl
  have c3 := obj_cell HO1.out (i := 3) (v := .slice aB nB cB) rfl
  clear hf1 HA
  go_wp2_with fail
  refine (HL.out w1 HF1.out).mono ?_
  rintro e w2 ⟨Q, P, v0, v1, v2, vL, hs2, rfl, hQ, _, ⟨B, _, hLP⟩, hf2⟩
  have HF2 := hid (HF1.out.trans hf2)
  have HKC := hid (KC.of hQ hLP HFF.out (by omega) HTT.out HT.out.bd HT.out.vl HT.out.l0 HT.out.l1 HT.out.ll)
  have HQ := hid hQ
  have HO2 := hid (obj_fr HO1.out hf2 List.not_mem_nil)
  have HLP := hid hLP
  have q0 := obj_cell hQ (i := 0) (v := .pointer (some ⟨P, 0, none⟩)) rfl
  have H31 := hid (lay_clusters Q P w2 q0 (fun v w' => w'.ownsRow w2.heap.size 67 4 v c (clCells (clP Bd V X c)) ∧ Fr [] w2 w') (by
    refine (clusters_any P c _ v0 v1 v2 vL _ Bd V X w2 hLP.o hLP.b hLP.v hLP.x HCL.out.symm (by rw [HT.out.vx]; exact HCL.out.symm) (by rw [HT.out.bd, HCL.out]) (by omega)).mono ?_
    rintro e w' ⟨v, rfl, h1, h2⟩
    exact ⟨v, rfl, h1, h2⟩))
  clear hQ hLP hf2 q0 HL c0 c1 c2 c3
  go_wp2_with fail
  refine H31.out.mono ?_
  rintro e w3 ⟨vC, rfl, own3, hf3⟩
  obtain ⟨aC, cC, rfl⟩ := owns_slice own3
  have HF3 := hid (HF2.out.trans hf3)
  have HC3 := hid own3
  have HK3 := hid hf3
  have HO3 := hid (obj_fr HO2.out hf3 List.not_mem_nil)
  clear own3 hf3 H31
  go_wp2_with fail
  go_loopw [6, 7] (fun av iv wr => ∃ i : Nat, av = .int .i64 (nth Bd i) ∧ iv = .int .i64 i ∧ i ≤ c ∧ Hid (Fr [] w3 wr)) (fun _ iv _ => c - (intOf iv).toNat)
  case atStart => exact ⟨0, by rw [rises_first HFF.out.rs], rfl, Nat.zero_le _, hid (Fr.refl _ _)⟩
  case round =>
    obtain ⟨i, rfl, rfl, hic, HR⟩ := hrel
    by_cases hi : i < c
    · have hiI : (i : Int) < (c : Int) := by omega
      have HIi := hid hi
      obtain ⟨gC, cC', hvC⟩ := owns_shape (by omega) HC3.out
      cases hvC
      obtain ⟨p0, p1, p2, p3⟩ := cl_cell4 (owns_fr0 HC3.out HR.out) hi
      obtain ⟨xa, hxa⟩ : ∃ xa, xa = nth Bd i := ⟨_, rfl⟩
      obtain ⟨xb, hxb⟩ : ∃ xb, xb = nth Bd (i + 1) := ⟨_, rfl⟩
      have hlt : xa < xb := by rw [hxa, hxb]; exact rises_lt HFF.out.rs (by omega) (by have := HT.out.bd; have := HCL.out; omega)
      have hlv := HOO.out.lv i
      have hwd := HOO.out.wd i
      rw [← hxa] at p0 ⊢
      rw [← hxb] at p1
      have HXB := hid hxb
      generalize nth V i = lv at *
      generalize nth X i = wd at *
      have h1 : decide (xb ≤ xa) = false := by simp; omega
      have h2 : decide (lv < 0) = false := by simp; omega
      have h3 : decide (11 < lv) = false := by simp; omega
      have h4 : decide (wd < 0) = false := by simp; omega
      clear hxa hxb
      go_wp2
      exact ⟨⟨i + 1, by rw [HXB.out], by go_num, HIi.out, hid HR.out⟩, by simp [intOf]; have := HIi.out; omega⟩
    · obtain rfl : i = c := by omega
      have hid2 : decide ((i : Int) < (i : Int)) = false := by simp
      rw [show nth Bd i = ((s.size : Nat) : Int) by
        have h := rises_last HFF.out.rs
        rw [HT.out.bd, Nat.add_sub_cancel, ← HCL.out] at h
        exact h]
      have k0 := obj_cell (obj_fr HO3.out HR.out List.not_mem_nil) (i := 0) (v := .string s) rfl
      have H32 := hid (lay_lines Q P wr (obj_cell (obj_fr HQ.out (HK3.out.trans HR.out) List.not_mem_nil) rfl) (fun v w' => ∃ hs', w'.ownsRow wr.heap.size 72 4 v K hs' ∧ lnsAt w' wr.heap.size w'.heap.size hs' Ls ∧ Fr [] wr w') (by
        have hLP := HLP.out.fr (HK3.out.trans HR.out) (fun k hk => absurd hk List.not_mem_nil)
        obtain ⟨U, _, hn⟩ := hLP.n
        have hll := hLP.l
        rw [← HK.out] at hll
        refine (lines56_any P K _ U v0 v1 v2 vL _ hs2 _ wr hLP.o hll hn hK0 (by omega) HK.out.symm HT.out.ll).mono ?_
        rintro e w' ⟨v, hs', rfl, h1, h2, _, h4⟩
        exact ⟨v, rfl, hs', h1, h2, h4⟩))
      go_wp2_with fail
      refine H32.out.mono ?_
      rintro e w4 ⟨vN, rfl, hs', own4, hl4, hf4⟩
      obtain ⟨gN, cN, rfl⟩ := owns_shape hK0 own4
      have HN := hid own4
      have HLN := hid hl4
      have HR4 := hid (HR.out.trans hf4)
      obtain ⟨i3, hi3, hz30, hz31, hz32⟩ := info_parts info3
      obtain ⟨ZL, hZL⟩ : ∃ ZL, ZL = madeCells #[.int .i64 0] i := ⟨_, rfl⟩
      have hmk1 : ∀ X : World, (Instr.makeSlice 41 (.int .i64 i) (.int .i64 i)).run Tryz.prog X = .ok (.slice (some ⟨X.heap.size, 0, none⟩) i i) (X.alloc (.cells ZL 3)) := fun X => by
        have := run_make (P := Tryz.prog) X 41 3 i3 _ Tryz.underlying41 hi3 hz30 .i64 .i64 i i (by omega) (Int.le_refl _) (by rw [hz32]; omega) (by omega)
        rw [hz31] at this
        rw [hZL]; exact (by simpa [show (Value.int .i64 0).cells = #[Value.int .i64 0] from rfl] using this)
      obtain ⟨w5, hw5⟩ : ∃ w5, w5 = w4.alloc (.cells ZL 3) := ⟨_, rfl⟩
      have HR5 := hid (show Fr [] w4 w5 by rw [hw5]; exact (Fr.refl [] w4).alloc _)
      have HS5 := hid (show rowAt w5 w4.heap.size i (snL Ls i 0 0) ∧ soft w5 w4.heap.size i from ⟨fun t ht => by
          have h := obj_new w4 (.cells ZL 3)
          rw [← hw5, hZL] at h
          rw [(made_at w5 w4.heap.size i _ 3 h ht).1, snL_zero]
          simp [nth, ht], fun t ht => by
          have h := obj_new w4 (.cells ZL 3)
          rw [← hw5, hZL] at h
          exact (made_at w5 w4.heap.size i _ 3 h ht).2⟩)
      have HW5 := hid hw5
      clear own4 hl4 hf4 H32 k0 hZL hw5
      obtain ⟨gS, hgS⟩ : ∃ gS, gS = w4.heap.size := ⟨_, rfl⟩
      have hgN : gN < gS := by rw [hgS]; exact (owns_at HN.out).2
      have HGS := hid hgS
      rw [← hgS] at HS5
      have HC5 := hid (show i = 0 ∨ ∃ gC cC', aC = some ⟨gC, 0, none⟩ ∧ gC < gS ∧ ∀ Y, Fr [gS] w5 Y → ∀ t, t < i → Y.cell? ⟨gC, t * 4, none⟩ = some (.int .i64 (nth Bd t)) ∧ Y.cell? ⟨gC, t * 4 + 1, none⟩ = some (.int .i64 (nth Bd (t + 1))) ∧ Y.cell? ⟨gC, t * 4 + 3, none⟩ = some (.int .i64 (nth X t)) ∧ cC' = cC from by
        rcases Nat.eq_zero_or_pos i with h | h
        · exact .inl h
        · obtain ⟨gC, cC', hvC⟩ := owns_shape h HC3.out
          cases hvC
          have hlt : gC < gS := by rw [hgS]; have := (owns_at (owns_fr0 HC3.out HR4.out)).2; omega
          refine .inr ⟨gC, cC, rfl, hlt, fun Y hf t ht => ?_⟩
          obtain ⟨p0, p1, _, p3⟩ := cl_cell4 (owns_fr0 HC3.out (HR4.out.trans HR5.out)) ht
          have hn : gC ∉ [gS] := fun hm => by have := List.mem_singleton.1 hm; omega
          exact ⟨hf.cell p0 hn, hf.cell p1 hn, hf.cell p3 hn, rfl⟩)
      have HLC := hid (fun (j : Nat) (hj : j < K) => ln_cells HN.out HLN.out HK.out.symm HR5.out HGS.out (fun j hj => by rw [HTT.out.xl _ (lnN_mem (by rw [← HK.out]; exact hj))]; omega) hj)
      clear hgS
      obtain ⟨fF, hfF⟩ : ∃ fF : Nat → Int, fF = fun j => if j < K then (lnN Ls j).f else ((s.size : Nat) : Int) := ⟨_, rfl⟩
      have HFn := hid (show (∀ j, j < K → fF j = (lnN Ls j).f) ∧ (∀ j, j < K → fF (j + 1) = (lnN Ls j).t) ∧ fF 0 = 0 ∧ fF K = ((s.size : Nat) : Int) by
        rw [hfF]
        refine ⟨fun j hj => if_pos hj, fun j hj => ?_, (if_pos hK0).trans HOO.out.f0, if_neg (Nat.lt_irrefl _)⟩
        by_cases h : j + 1 < K
        · exact (if_pos h).trans (HOO.out.ft j (by rw [← HK.out]; exact h)).symm
        · refine (if_neg h).trans ?_
          have e := HOO.out.tN
          rw [← HK.out, show K - 1 = j by omega] at e
          exact e.symm)
      have hcbS : w3.heap.size ≤ gS := by rw [HGS.out]; exact HR4.out.size
      clear hfF
      go_wp2_with fail
      rw [← HW5.out, ← HGS.out]
      go_loopw [10, 11] (fun fv jv wr => ∃ j : Nat, fv = .int .i64 (fF j) ∧ jv = .int .i64 j ∧ j ≤ K ∧ Hid (rowAt wr gS i (snL Ls i j 0) ∧ soft wr gS i) ∧ Hid (Fr [gS] w5 wr)) (fun _ jv _ => K - (intOf jv).toNat)
      case atStart => exact ⟨0, by rw [HFn.out.2.2.1], rfl, Nat.zero_le _, hid HS5.out, hid (Fr.refl _ _)⟩
      case round =>
        obtain ⟨j, rfl, rfl, hjK, HSj, HFj⟩ := hrel
        by_cases hj : j < K
        · have hjI : (j : Int) < (K : Int) := by omega
          have HJj := hid hj
          obtain ⟨aO, cO, gX, cX, hcell, hord⟩ := HLC.out j hj
          obtain ⟨n0, n1, n2, n3, nx⟩ := hcell wr HFj.out
          have HCE := hid hcell
          have HOR := hid hord
          obtain ⟨lo, hlo⟩ : ∃ lo, lo = (lnN Ls j).o.length := ⟨_, rfl⟩
          obtain ⟨lx, hlx⟩ : ∃ lx, lx = (lnN Ls j).x.length := ⟨_, rfl⟩
          have hlx2 : lx = lo + 1 := by rw [hlx, hlo]; exact HTT.out.xl _ (lnN_mem (by rw [← HK.out]; exact hj))
          have hlo1 : lo ≤ 1000 := by rw [hlo]; exact (HT.out.ll _ (lnN_mem (by rw [← HK.out]; exact hj))).1
          have nx0 := nx 0 (by rw [← hlx]; omega)
          rw [HOO.out.x0 j (by rw [← HK.out]; exact hj)] at nx0
          rw [← hlo] at n2
          rw [← hlx] at n3
          have HLO := hid hlo
          have HLX := hid hlx
          rw [HFn.out.1 j hj]
          have HFf := hid (HFn.out.1 j hj)
          have HFt := hid (HFn.out.2.1 j hj)
          obtain ⟨lf, hlf⟩ : ∃ lf, lf = (lnN Ls j).f := ⟨_, rfl⟩
          obtain ⟨lt, hlt⟩ : ∃ lt, lt = (lnN Ls j).t := ⟨_, rfl⟩
          rw [← hlf] at n0 ⊢
          rw [← hlt] at n1
          have HLF := hid hlf
          have HLT := hid hlt
          subst hlx2
          have h0x : (0 : Int) < ((lo + 1 : Nat) : Int) := by omega
          clear hcell hord hlo hlx nx hlf hlt
          go_wp2_with fail
          go_quiet (fail)
          obtain ⟨w6, hw6⟩ : ∃ w6, w6 = wr.drewN nq := ⟨_, rfl⟩
          have HQ6 := hid (show Fr [] wr w6 by rw [hw6]; exact Fr.drewN (Fr.refl [] wr) _)
          have HF6 := hid (show Fr [gS] w5 w6 by rw [hw6]; exact Fr.drewN HFj.out _)
          have HS6 := hid (show rowAt w6 gS i (snL Ls i j 0) ∧ soft w6 gS i from ⟨HSj.out.1.fr HQ6.out List.not_mem_nil, HSj.out.2.fr HSj.out.1 HQ6.out List.not_mem_nil⟩)
          rw [← hw6]
          obtain ⟨_, m1, m2, _, _⟩ := HCE.out w6 HF6.out
          rw [← HLT.out] at m1
          rw [← HLO.out] at m2
          clear hw6 n0 n1 n2 n3 nx0
          go_wp2_with fail
          go_loopw [12] (fun kv wr => ∃ k : Nat, kv = .int .i64 k ∧ k ≤ lo ∧ Hid (rowAt wr gS i (snL Ls i j k) ∧ soft wr gS i) ∧ Hid (Fr [gS] w5 wr)) (fun kv _ => lo - (intOf kv).toNat)
          case atStart => exact ⟨0, rfl, Nat.zero_le _, hid HS6.out, hid HF6.out⟩
          case round =>
            clear m1 m2
            obtain ⟨k, rfl, hkl, HSk, HFk⟩ := hrel
            obtain ⟨n0, n1, n2, n3, nx⟩ := HCE.out wr HFk.out
            rw [← HLF.out] at n0
            rw [← HLT.out] at n1
            rw [← HLO.out] at n2
            rw [← HLX.out] at n3 nx
            by_cases hk : k < lo
            · have hkI : (k : Int) < (lo : Int) := by omega
              have HKk := hid hk
              obtain ⟨gO, hgO, horc⟩ := HOR.out (by rw [← HLO.out]; omega)
              subst hgO
              have oc := horc wr HFk.out k (by rw [← HLO.out]; exact hk)
              obtain ⟨o, ho⟩ : ∃ o, o = nix (lnN Ls j).o k := ⟨_, rfl⟩
              rw [← ho] at oc
              have hmem : o ∈ (lnN Ls j).o := by rw [ho]; exact nix_mem' (by rw [← HLO.out]; exact hk)
              obtain ⟨hoc, hof, hot⟩ := HOO.out.on j (by rw [← HK.out]; exact hj) o hmem
              rw [← HCL.out] at hoc
              rw [← HLF.out] at hof
              rw [← HLT.out] at hot
              rcases HC5.out with h0 | ⟨gC, cC', hgC, _, hcl⟩
              · omega
              subst hgC
              obtain ⟨p0, p1, p3, hcc⟩ := hcl wr HFk.out o hoc
              have x0 := nx k (by omega)
              have x1 := nx (k + 1) (by omega)
              have hxd := HOO.out.xd j (by rw [← HK.out]; exact hj) k (by rw [← HLO.out]; exact hk)
              rw [← ho] at hxd
              have hst := snL_step HOO.out HFF.out.nd (n := i) (show j < Ls.length by rw [← HK.out]; exact hj) (by rw [← HLO.out]; exact hk) (by rw [← ho]; exact hoc)
              rw [← ho] at hst
              have s0 := HSk.out.1 o hoc
              rw [hst.1] at s0
              have f0 := HSk.out.2 o hoc
              have HST := hid hst.2
              have hxb := HTT.out.xb _ (lnN_mem (by rw [← HK.out]; exact hj)) k (by rw [← HLX.out]; omega)
              have hxb1 := HTT.out.xb _ (lnN_mem (by rw [← HK.out]; exact hj)) (k + 1) (by rw [← HLX.out]; omega)
              generalize nth (lnN Ls j).x k = xk at *
              generalize nth (lnN Ls j).x (k + 1) = xk1 at *
              generalize nth Bd o = bo at *
              generalize nth Bd (o + 1) = bo1 at *
              generalize nth X o = wo at *
              have hoI : (o : Int) < (i : Int) := by omega
              have q1 : decide (bo < lf) = false := by simp; omega
              have q2 : decide (lt < bo1) = false := by simp; omega
              have q4 : IntKind.i64.wrap (xk1 - xk) = wo := by rw [IntKind.wrap_i64]; omega
              have q3 : decide ((o : Int) < 0) = false := by simp
              have q5 : decide ((i : Int) ≤ (o : Int)) = false := by simp; omega
              have q6 : decide (i ≤ o) = false := by simp; omega
              have q7 : decide (lt < bo1) = false := by simp; omega
              clear hst hxd hmem hof hot hxb hxb1 ho hcl horc nx hcc
              go_wp2_with fail
              go_quiet (fail)
              obtain ⟨w7, hw7⟩ : ∃ w7, w7 = wr.drewN nq := ⟨_, rfl⟩
              have HQ7 := hid (show Fr [] wr w7 by rw [hw7]; exact Fr.drewN (Fr.refl [] wr) _)
              have HF7 := hid (show Fr [gS] w5 w7 by rw [hw7]; exact Fr.drewN HFk.out _)
              have HS7 := hid (show rowAt w7 gS i (snL Ls i j k) ∧ soft w7 gS i from ⟨HSk.out.1.fr HQ7.out List.not_mem_nil, HSk.out.2.fr HSk.out.1 HQ7.out List.not_mem_nil⟩)
              rw [← hw7]
              have t0 : w7.cell? ⟨gS, o, none⟩ = some (.int .i64 0) := HQ7.out.cell s0 List.not_mem_nil
              have t1 := HS7.out.2 o hoc
              clear hw7 n0 n1 n2 n3 oc p0 p1 p3 x0 x1 s0 f0 q1 q2 q3 q4 q5 q6 q7
              have HNX := hid (show rowAt (w7.setCell ⟨gS, o, none⟩ (.int .i64 1)) gS i (snL Ls i j (k + 1)) ∧ soft (w7.setCell ⟨gS, o, none⟩ (.int .i64 1)) gS i ∧ Fr [gS] w5 (w7.setCell ⟨gS, o, none⟩ (.int .i64 1)) from ⟨by rw [HST.out]; exact HS7.out.1.set hoc (snL_len ..) 1, HS7.out.2.set _ _, HF7.out.set (List.mem_singleton.2 rfl) _⟩)
              go_wp2
              exact ⟨⟨k + 1, by go_num, HKk.out, hid ⟨HNX.out.1, HNX.out.2.1⟩, hid HNX.out.2.2⟩, by simp [intOf]; have := HKk.out; omega⟩
            · obtain rfl : k = lo := by omega
              have hkI : decide ((k : Int) < (k : Int)) = false := by simp
              have HSN := hid (show rowAt wr gS i (snL Ls i (j + 1) 0) by rw [← snL_next, ← HLO.out]; exact HSk.out.1)
              clear nx
              go_wp2
              exact ⟨⟨j + 1, by rw [HFt.out, ← HLT.out], by go_num, HJj.out, hid ⟨HSN.out, HSk.out.2⟩, hid HFk.out⟩, by simp [intOf]; have := HJj.out; omega⟩
        · obtain rfl : j = K := by omega
          have hjI : decide ((j : Int) < (j : Int)) = false := by simp
          rw [HFn.out.2.2.2]
          obtain ⟨w8, hw8⟩ : ∃ w8, w8 = wr := ⟨_, rfl⟩
          rw [← hw8] at HSj HFj ⊢
          have hb3 := obj_lt HO3.out
          have HW8 := hid (show Fr [gS] w3 w8 from (((HR4.out.trans HR5.out).mono (fun _ h _ => absurd h List.not_mem_nil) : Fr [gS] w3 w5).trans HFj.out))
          have HO8 := hid (obj_fr HO3.out HW8.out (fun hm => by have := List.mem_singleton.1 hm; omega))
          have HEND := hid (show Fr [] w w8 from (((HF3.out.mono (fun _ h _ => absurd h List.not_mem_nil) : Fr [gS] w w3).trans HW8.out).mono (fun x hx hlt => by have := List.mem_singleton.1 hx; omega)))
          have hKB : ((j : Int) == (nB : Int) + 1) = true := by
            have h1 := HKB.out
            have h2 := HK.out
            simp; omega
          clear hw8
          go_wp2_with fail
          go_loopw [14] (fun tv wr => ∃ t : Nat, tv = .int .i64 t ∧ t ≤ i ∧ Hid (Fr [] w8 wr)) (fun tv _ => i - (intOf tv).toNat)
          case atStart => exact ⟨0, rfl, Nat.zero_le _, hid (Fr.refl _ _)⟩
          case round =>
            obtain ⟨t, rfl, hti, HFr⟩ := hrel
            by_cases ht : t < i
            · have htI : (t : Int) < (i : Int) := by omega
              have HTi := hid ht
              have s0 := (HSj.out.1.fr HFr.out List.not_mem_nil) t ht
              rw [show nth (snL Ls i j 0) t = 1 by
                have h := snL_all HFF.out (c := t) (by rw [← HCL.out]; exact ht)
                rw [← HCL.out, ← HK.out] at h
                exact h] at s0
              go_wp2
              exact ⟨⟨t + 1, by go_num, HTi.out, hid HFr.out⟩, by simp [intOf]; have := HTi.out; omega⟩
            · obtain rfl : t = i := by omega
              have htI : decide ((t : Int) < (t : Int)) = false := by simp
              have HO9 := hid (obj_fr HO8.out HFr.out List.not_mem_nil)
              have k0 := obj_cell HO9.out (i := 0) (v := .string s) rfl
              have k3 := obj_cell HO9.out (i := 3) (v := .slice aB nB cB) rfl
              go_wp2_with fail
              go_ret
              exact ⟨rfl, HEND.out.trans HFr.out⟩
set_option maxRecDepth 10000 in
set_option maxHeartbeats 4000000 in
theorem whole_none (s : ByteArray) (b : Int) (aW aB : Option Addr) (nW cW nB cB : Nat) (w : World) (hF : Floor w)
    (hL : ∀ Z, Fr [] w Z → Calls Tryz.prog 30 #[.agg #[.string s, .int .i64 b, .slice aW nW cW, .slice aB nB cB]] Z fun e w' => e = .returned (.pointer none) ∧ Fr [] Z w') :
    Calls Tryz.prog 5 #[.agg #[.string s, .int .i64 b, .slice aW nW cW, .slice aB nB cB]] w fun e w' => e = .returned (.bool true) ∧ Fr [] w w' := by
  obtain ⟨wb, hwb⟩ : ∃ wb, wb = w.alloc (.cells #[.string s, .int .i64 b, .slice aW nW cW, .slice aB nB cB] 48) := ⟨_, rfl⟩
  have HFb := hid (show Fr [] w wb by rw [hwb]; exact (Fr.refl [] w).alloc _)
  have HOb := hid (show wb.heap[w.heap.size]? = some (.cells #[.string s, .int .i64 b, .slice aW nW cW, .slice aB nB cB] 48 (0, 0)) by rw [hwb]; exact obj_new w _)
  have HA := hid (fun (Z : World) (hf : Fr [] w Z) => alive_any Z (hF.fr hf))
  have HL := hid hL
  clear hF hL
  go_enter Tryz.func5, Tryz.ntmps5
  go_wp2_with fail
  rw [← hwb]
  clear hwb
  refine (HA.out wb HFb.out).mono ?_
  rintro e w1 ⟨rfl, hf1⟩
  have HF1 := hid (HFb.out.trans hf1)
  have HO1 := hid (obj_fr HOb.out hf1 List.not_mem_nil)
  have c0 := obj_cell HO1.out (i := 0) (v := .string s) rfl
  have c1 := obj_cell HO1.out (i := 1) (v := .int .i64 b) rfl
  have c2 := obj_cell HO1.out (i := 2) (v := .slice aW nW cW) rfl
  have c3 := obj_cell HO1.out (i := 3) (v := .slice aB nB cB) rfl
  clear hf1 HA
  go_wp2_with fail
  refine (HL.out w1 HF1.out).mono ?_
  rintro e w2 ⟨rfl, hf2⟩
  have HF2 := hid (HF1.out.trans hf2)
  clear hf2 c0 c1 c2 c3 HL
  go_wp2
  go_ret
  exact ⟨rfl, HF2.out⟩
theorem whole_any (s : ByteArray) (b : Int) (vW vB : Value) (W Br : List Int) (w : World) (hF : Floor w) (hW : slAd w vW W) (hB : slAd w vB Br) :
    Calls Tryz.prog 5 #[.agg #[.string s, .int .i64 b, vW, vB]] w fun e w' => e = .returned (.bool true) ∧ Fr [] w w' := by
  obtain ⟨aW, cW, rfl, _⟩ := id hW
  obtain ⟨aB, cB, rfl, _⟩ := id hB
  by_cases h : ∃ n, Dec.Ends s n ∧ (s.size ≤ 4096 ∧ W.length ≤ 4096 ∧ Br.length ≤ 4096) ∧ chk s n (clsOf s n) b W Br = 0
  · obtain ⟨n, hend, hf, hck⟩ := h
    exact whole_good s b _ _ W Br n w hF hend hW hB hf.1 hf.2.1 hf.2.2 hck
  · refine whole_none s b aW aB W.length cW Br.length cB w hF (fun Z hf => laid_none s b aW aB cW cB W Br Z (hF.fr hf) (hW.fr hf) (hB.fr hf) (fun n hend hl hck => h ⟨n, hend, hl, hck⟩))
end Go.Proofs.YtnakejhohdbfdabGreatDoor
