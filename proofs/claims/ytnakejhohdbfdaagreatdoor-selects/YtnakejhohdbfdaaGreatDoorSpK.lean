/- What is selected: the document's way, walked. -/
import Derived.Test.YtnakejhohdbfdaaGreatDoorSpJ
import Derived.Deep.CutBlock
namespace Go.Proofs.YtnakejhohdbfdaaGreatDoor
open Go.RowKit Lev Lay Bnd

/-- A line's cells in the document's layout. -/
theorem lnD {WB w : World} {U lb gL K cL : Nat} {s : ByteArray} {bs : Int} {vC : Value} {Cs : List (Int × Int × Int × Int)} {Ls : List Ln} {hm : List Value} (h : LD WB w U lb s bs vC (.slice (some ⟨gL, 0, none⟩) K cL) Cs Ls hm) (hK : Ls.length = K) {i : Nat} (hi : i < K) (hx : 0 < (lnN Ls i).x.length) :
    ∃ aO cO gX cX, gX < w.heap.size ∧ (∀ Y, Fr [] w Y → Y.cell? ⟨gL, i * 4 + 2, none⟩ = some (.slice aO (lnN Ls i).o.length cO) ∧ Y.cell? ⟨gL, i * 4 + 3, none⟩ = some (.slice (some ⟨gX, 0, none⟩) (lnN Ls i).x.length cX) ∧ ∀ t, t < (lnN Ls i).x.length → Y.cell? ⟨gX, t, none⟩ = some (.int .i64 (nth (lnN Ls i).x t))) ∧
      ∀ t, t < (lnN Ls i).o.length → ∃ gO, aO = some ⟨gO, 0, none⟩ ∧ ∀ Y, Fr [] w Y → Y.cell? ⟨gO, t, none⟩ = some (.int .i64 (nix (lnN Ls i).o t : Nat)) := by
  subst hK
  obtain ⟨vO, vX, a1, a2, a3, a4, a5, a6, _⟩ := h.inn i _ (lnN_get hi)
  obtain ⟨gX, cX, hvX⟩ := owns_shape hx a6
  subst hvX
  obtain ⟨aO, cO, hvO⟩ := owns_slice a5
  subst hvO
  have hl := h.ownL.1
  have c2 : w.cell? ⟨gL, i * 4 + 2, none⟩ = some (.slice aO (lnN Ls i).o.length cO) := by rw [h.ownL.cellAt _ (by omega)]; exact a3
  have c3 : w.cell? ⟨gL, i * 4 + 3, none⟩ = some (.slice (some ⟨gX, 0, none⟩) (lnN Ls i).x.length cX) := by rw [h.ownL.cellAt _ (by omega)]; exact a4
  refine ⟨aO, cO, gX, cX, (owns_at a6).2, fun Y hf => ⟨hf.cell c2 List.not_mem_nil, hf.cell c3 List.not_mem_nil, fun t ht => ?_⟩, fun t ht => ?_⟩
  · exact hf.cell (by rw [a6.cellAt t (by omega), ints64_at ht]) List.not_mem_nil
  · obtain ⟨gO, cO', hv⟩ := owns_shape (by omega) a5
    cases hv
    exact ⟨gO, rfl, fun Y hf => hf.cell (owns_rowN a5 rfl t ht) List.not_mem_nil⟩
theorem clD {w : World} {B : Nat} {vC : Value} {Bd V X : List Int} (h : w.ownsRow B 48 4 vC (clP Bd V X V.length).length (clCells (clP Bd V X V.length))) {c : Nat} (hc : c < V.length) :
    ∃ gC cC, vC = .slice (some ⟨gC, 0, none⟩) V.length cC ∧ ∀ Y, Fr [] w Y → Y.cell? ⟨gC, c * 4, none⟩ = some (.int .i64 (nth Bd c)) ∧ Y.cell? ⟨gC, c * 4 + 1, none⟩ = some (.int .i64 (nth Bd (c + 1))) := by
  rw [clP_len] at h
  obtain ⟨gC, cC, hv⟩ := owns_shape (by omega) h
  subst hv
  have hl := h.1
  obtain ⟨a1, a2, _, _⟩ := clCells_at _ c _ (clP_at Bd V X hc)
  exact ⟨gC, cC, rfl, fun Y hf => ⟨hf.cell (by rw [h.cellAt _ (by omega)]; exact a1) List.not_mem_nil, hf.cell (by rw [h.cellAt _ (by omega)]; exact a2) List.not_mem_nil⟩⟩
set_option maxRecDepth 10000 in
set_option maxHeartbeats 8000000 in
theorem selD_any (WB : World) (U lb : Nat) (s : ByteArray) (bs : Int) (vC vM : Value) (Bd V X : List Int) (Ls : List Ln) (hm : List Value) (a b : Int) (n : Nat) (w : World) (h : LD WB w U lb s bs vC vM (clP Bd V X V.length) Ls hm) (hend : Dec.Ends s n) (hbn : Bd = bnd s n) (hT : Lib.Utf8Tabs 1 2 w) (hr : Rises Bd ((s.size : Nat) : Int)) (hbd : Bd.length = V.length + 1) (hon : ∀ i, i < Ls.length → ∀ c ∈ (lnN Ls i).o, c < V.length) (hs : s.size ≤ 400) (_hv4 : V.length ≤ 400) (hK0 : 0 < Ls.length) (hK : Ls.length ≤ 400) (hlo : ∀ l ∈ Ls, l.o.length ≤ 1000 ∧ l.x.length = l.o.length + 1) :
    Calls Tryz.prog 31 #[.pointer (some ⟨lb, 0, none⟩), .int .i64 a, .int .i64 b] w fun e w' => ∃ v, e = .returned v ∧ w'.ownsRow w.heap.size 119 5 v (selL Ls (askd Bd (s.size : Nat) a b) Ls.length).length (spCells (selL Ls (askd Bd (s.size : Nat) a b) Ls.length)) ∧ Fr [] w w' := by
  obtain ⟨i0, hi, hz0, hz1, hz2⟩ := info_parts info119
  obtain ⟨xa, hxa⟩ : ∃ xa, xa = snp Bd (s.size : Nat) (min a b) false := ⟨_, rfl⟩
  obtain ⟨xb, hxb⟩ : ∃ xb, xb = snp Bd (s.size : Nat) (max a b) true := ⟨_, rfl⟩
  have HSN : Hid (∀ (off : Int) (up : Bool) (Y : World), Fr [] w Y → Calls Tryz.prog 58 #[.string s, .int .i64 off, .bool up] Y fun e w' => e = .returned (.int .i64 (snp Bd (s.size : Nat) off up)) ∧ Fr [] Y w') := fun off up Y hf => by
    obtain ⟨k, hk⟩ := cut_exists (min (max off 0) ((s.size : Nat) : Int)) Bd hr.sorted
    have h1 := Cls.ref19_any s off up Y (by omega) (Cls.tabs_below hT (hf.below (Nat.le_refl _) (fun _ h => absurd h List.not_mem_nil))) n k hend (by rw [← hbn]; exact hk)
    rw [← hbn, show k = cidx Bd (min (max off 0) ((s.size : Nat) : Int)) from (cut_count hk).symm] at h1
    exact h1.mono (fun e w' ⟨q1, q2⟩ => ⟨q1, Fr.of_below q2⟩)
  have HA := hid (HSN.out (min a b) false)
  have HB := hid (HSN.out (max a b) true)
  rw [← hxa] at HA
  rw [← hxb] at HB
  obtain ⟨f, hf⟩ : ∃ f, f = askd Bd ((s.size : Nat) : Int) a b := ⟨_, rfl⟩
  have HFF := hid (fun c (hc : c < V.length) => show f c = (decide (xa ≤ nth Bd c) && decide (nth Bd (c + 1) ≤ xb)) by rw [hf, hxa, hxb]; exact askd_iff hr a b (by omega))
  rw [← hf]
  obtain ⟨gL, cL, hvL⟩ := owns_shape hK0 h.ownL
  subst hvL
  have p0 := obj_cell h.obj (i := 0) (v := .string s) rfl
  have p2 := obj_cell h.obj (i := 2) (v := vC) rfl
  have p3 := obj_cell h.obj (i := 3) (v := .slice (some ⟨gL, 0, none⟩) Ls.length cL) rfl
  have HLC := hid (fun (i : Nat) (hi : i < Ls.length) => lnD h rfl hi (by have := (hlo _ (List.mem_of_getElem? (lnN_get hi))).2; omega))
  have HCC := hid (fun (c : Nat) (hc : c < V.length) => clD h.ownC hc)
  have HLO := hid (fun (i : Nat) (hi : i < Ls.length) => hlo _ (List.mem_of_getElem? (lnN_get hi)))
  have HLA := hid (show ∀ i, (lnN Ls i).o.length ≤ 1000 from fun i => by
    by_cases hi : i < Ls.length
    · exact (hlo _ (List.mem_of_getElem? (lnN_get hi))).1
    · unfold lnN; rw [List.getElem?_eq_none (by omega)]; exact Nat.zero_le _)
  have HON := hid (fun (i : Nat) (hi : i < Ls.length) (t : Nat) (ht : t < (lnN Ls i).o.length) => hon i hi _ (show nix (lnN Ls i).o t ∈ (lnN Ls i).o by unfold nix; rw [List.getElem?_eq_getElem ht]; exact List.getElem_mem _))
  obtain ⟨K, hKK⟩ : ∃ K, K = Ls.length := ⟨_, rfl⟩
  rw [← hKK] at hK0 hK p3 HLC HLO HON ⊢
  have HP := hid (fun (Y : World) (hf : Fr [] w Y) => show Y.cell? ⟨lb, 0, none⟩ = some (.string s) ∧ Y.cell? ⟨lb, 2, none⟩ = some vC ∧ Y.cell? ⟨lb, 3, none⟩ = some (.slice (some ⟨gL, 0, none⟩) K cL) from ⟨hf.cell p0 List.not_mem_nil, hf.cell p2 List.not_mem_nil, hf.cell p3 List.not_mem_nil⟩)
  obtain ⟨aC, cC, hvC⟩ := owns_slice h.ownC
  rw [clP_len] at hvC
  subst hvC
  generalize V.length = nV at *
  have hlbw : lb < w.heap.size := World.block_lt_of_cell? _ _ p0
  have hgLw : gL < w.heap.size := (owns_at h.ownL).2
  clear h hend hT hr hon hlo hxa hxb hf hKK hbn hbd HSN
  have p00 := p0
  by_cases hab : b < a
  case' pos =>
    have hgt : b < a := hab
    rw [show min a b = b by omega] at HA
    rw [show max a b = a by omega] at HB
  case' neg =>
    have hgt : ¬ b < a := hab
    rw [show min a b = a by omega] at HA
    rw [show max a b = b by omega] at HB
  all_goals (
    clear hab
    go_enter Tryz.func31, Tryz.ntmps31
    go_wp2_with fail
    refine (HA.out w (Fr.refl _ _)).mono ?_
    rintro e w3 ⟨rfl, hf3⟩
    have HF3 := hid hf3
    obtain ⟨p0, _, _⟩ := HP.out w3 hf3
    clear hf3 p00
    go_wp2_with fail
    refine (HB.out w3 HF3.out).mono ?_
    rintro e w4 ⟨rfl, hf4⟩
    have HF4 := hid (HF3.out.trans hf4)
    clear hf4 p0 p2 p3 hgt
    go_wp2_with fail
    go_loopw [7, 8] (fun vo iv wr => ∃ i : Nat, iv = .int .i64 i ∧ i ≤ K ∧ Hid (Fr [] w4 wr) ∧ Hid (wr.ownsRow w4.heap.size 119 5 vo (selL Ls f i).length (spCells (selL Ls f i)))) (fun _ iv _ => K - (intOf iv).toNat)
    case atStart => exact ⟨0, rfl, Nat.zero_le _, hid (Fr.refl _ _), hid (World.ownsRow_nil _ _ _ _)⟩
    case round =>
      obtain ⟨i, rfl, hiK, HFi, HOi⟩ := hrel
      have HWi := hid (HF4.out.trans HFi.out)
      obtain ⟨_, _, m3⟩ := HP.out wr HWi.out
      by_cases hiL : i < K
      · have hiI : (i : Int) < (K : Int) := by omega
        obtain ⟨aO, cO, gX, cX, hgX, hcell, hord⟩ := HLC.out i hiL
        obtain ⟨l2, l3, _⟩ := hcell wr HWi.out
        obtain ⟨hlo1, hlx1⟩ := HLO.out i hiL
        have HCE := hid hcell
        have HOR := hid hord
        have HONi := hid (HON.out i hiL)
        obtain ⟨lo, hlo⟩ : ∃ lo, lo = (lnN Ls i).o.length := ⟨_, rfl⟩
        rw [← hlo] at l2 hlo1 hlx1
        have HLOi := hid hlo
        obtain ⟨wo, hwo⟩ : ∃ wo, wo = wr := ⟨_, rfl⟩
        rw [← hwo] at HFi HOi HWi m3 l2 l3 ⊢
        clear hwo hcell hord hlo
        go_wp2_with fail
        clear m3 l2 l3
        go_loopw [7, 10] (fun vo kv wr => ∃ k : Nat, kv = .int .i64 k ∧ k ≤ lo + 1 ∧ Hid ((partsTo f (lnN Ls i).o k).2 = k) ∧ Hid (Fr [] w4 wr) ∧ Hid (wr.ownsRow w4.heap.size 119 5 vo (selK Ls f i k).length (spCells (selK Ls f i k)))) (fun _ kv _ => lo + 1 - (intOf kv).toNat)
        case atStart => exact ⟨0, rfl, Nat.zero_le _, hid rfl, HFi, hid (by rw [selK_zero]; exact HOi.out)⟩
        case round =>
          obtain ⟨k, rfl, hkl, HPk, HFk, HOk⟩ := hrel
          by_cases hk : k < lo
          · have hkI : (k : Int) < (lo : Int) := by omega
            obtain ⟨wp, hwp⟩ : ∃ wp, wp = wr := ⟨_, rfl⟩
            rw [← hwp] at HFk HOk ⊢
            clear hwp
            go_upto_block 4 with fail
            go_cut [11] from 53 to 88 (fun ev wx => ∃ e : Nat, ev = .int .i64 e ∧ k ≤ e ∧ e ≤ lo ∧ Hid (∀ g, k ≤ g → g < e → g < (lnN Ls i).o.length ∧ f (nix (lnN Ls i).o g) = true) ∧ Hid (¬ (e < (lnN Ls i).o.length ∧ f (nix (lnN Ls i).o e) = true)) ∧ Hid (Fr [] wp wx))
            case first =>
              go_wp2_with fail
              go_loopw [11] (fun ev wx => ∃ e : Nat, ev = .int .i64 e ∧ k ≤ e ∧ e ≤ lo ∧ Hid (∀ g, k ≤ g → g < e → g < (lnN Ls i).o.length ∧ f (nix (lnN Ls i).o g) = true) ∧ Hid (Fr [] wp wx)) (fun ev _ => lo - (intOf ev).toNat)
              case atStart => exact ⟨k, rfl, Nat.le_refl _, by omega, hid (fun g h1 h2 => by omega), hid (Fr.refl _ _)⟩
              case round =>
                obtain ⟨e, rfl, hke, hel, HRun, HFe⟩ := hrel
                have HWe := hid (HF4.out.trans (HFk.out.trans HFe.out))
                obtain ⟨_, n2, n3⟩ := HP.out wr HWe.out
                have hlxe : (lnN Ls i).x.length = lo + 1 := hlx1
                by_cases he : e < lo
                · have heI0 : (e : Int) < (lo : Int) := by omega
                  obtain ⟨gO, hgO, hoc⟩ := HOR.out e (by rw [← HLOi.out]; exact he)
                  subst hgO
                  have oc := hoc wr HWe.out
                  have hcV := HONi.out e (by rw [← HLOi.out]; exact he)
                  have HCS := hid (show f (nix (lnN Ls i).o e) = (decide (xa ≤ nth Bd (nix (lnN Ls i).o e)) && decide (nth Bd (nix (lnN Ls i).o e + 1) ≤ xb)) from HFF.out _ hcV)
                  obtain ⟨gC, cC', hvC, hcc⟩ := HCC.out _ hcV
                  cases hvC
                  obtain ⟨q0, q1⟩ := hcc wr HWe.out
                  have HEo := hid (show e < (lnN Ls i).o.length by rw [← HLOi.out]; exact he)
                  have HNX := hid (fun (h : f (nix (lnN Ls i).o e) = true) => show ∀ g, k ≤ g → g < e + 1 → g < (lnN Ls i).o.length ∧ f (nix (lnN Ls i).o g) = true from fun g h1 h2 => by
                    rcases Nat.lt_or_eq_of_le (Nat.le_of_lt_succ h2) with h3 | h3
                    · exact HRun.out g h1 h3
                    · rw [h3]; exact ⟨HEo.out, h⟩)
                  obtain ⟨c, hce⟩ : ∃ c, c = nix (lnN Ls i).o e := ⟨_, rfl⟩
                  rw [← hce] at oc hcV HCS q0 q1 HNX
                  have HCEQ := hid hce
                  clear hce
                  generalize nth Bd c = y0 at *
                  generalize nth Bd (c + 1) = y1 at *
                  have hcI : (c : Int) < (nV : Int) := by omega
                  clear hoc hcc
                  by_cases hy0 : xa ≤ y0
                  · by_cases hy1 : y1 ≤ xb
                    · have HRN := hid (HNX.out (by rw [HCS.out]; simp; exact ⟨hy0, hy1⟩))
                      go_wp2_with fail
                      go_quiet (fail)
                      go_wp2
                      go_roundw
                      case rel => exact ⟨e + 1, by go_num, by omega, by omega, HRN, hid (Fr.drewN HFe.out _)⟩
                      case measure => simp [intOf]; omega
                    · have hy1d : decide (y1 ≤ xb) = false := by simpa using hy1
                      have HST := hid (show ¬ (e < (lnN Ls i).o.length ∧ f (nix (lnN Ls i).o e) = true) from fun h => by rw [← HCEQ.out, HCS.out] at h; simp at h; omega)
                      go_wp2_with fail
                      go_quiet (fail)
                      obtain ⟨wd, hwd⟩ : ∃ wd, wd = wr.drewN nq := ⟨_, rfl⟩
                      have HFd := hid (show Fr [] wp wd by rw [hwd]; exact Fr.drewN HFe.out _)
                      rw [← hwd]
                      clear hwd oc q0 q1 n2 n3
                      go_wp2
                      go_meet
                      exact ⟨e, rfl, hke, hel, HRun, HST, HFd⟩
                  · have hy0d : decide (xa ≤ y0) = false := by simpa using hy0
                    have HST := hid (show ¬ (e < (lnN Ls i).o.length ∧ f (nix (lnN Ls i).o e) = true) from fun h => by rw [← HCEQ.out, HCS.out] at h; simp at h; omega)
                    go_wp2_with fail
                    go_quiet (fail)
                    obtain ⟨wd, hwd⟩ : ∃ wd, wd = wr.drewN nq := ⟨_, rfl⟩
                    have HFd := hid (show Fr [] wp wd by rw [hwd]; exact Fr.drewN HFe.out _)
                    rw [← hwd]
                    clear hwd oc q0 q1 n2 n3
                    go_wp2
                    go_meet
                    exact ⟨e, rfl, hke, hel, HRun, HST, HFd⟩
                · have heI0 : decide ((e : Int) < (lo : Int)) = false := by simp; omega
                  have HST := hid (show ¬ (e < (lnN Ls i).o.length ∧ f (nix (lnN Ls i).o e) = true) from fun h => by have := HLOi.out; omega)
                  go_wp2_with fail
                  go_quiet (fail)
                  obtain ⟨wd, hwd⟩ : ∃ wd, wd = wr.drewN nq := ⟨_, rfl⟩
                  have HFd := hid (show Fr [] wp wd by rw [hwd]; exact Fr.drewN HFe.out _)
                  rw [← hwd]
                  clear hwd n2 n3
                  go_wp2
                  go_meet
                  exact ⟨e, rfl, hke, hel, HRun, HST, HFd⟩
            case rest =>
              obtain ⟨e, rfl, hke, hel, HRun, HST, HFd⟩ := hcut
              obtain ⟨wd, hwd⟩ : ∃ wd, wd = wc := ⟨_, rfl⟩
              rw [← hwd] at HFd ⊢
              clear hwd
              have hlxe : (lnN Ls i).x.length = lo + 1 := hlx1
              have HWd := hid (HF4.out.trans (HFk.out.trans HFd.out))
              obtain ⟨_, _, n3⟩ := HP.out wd HWd.out
              have HOd := hid (owns_fr0 HOk.out HFd.out)
              by_cases hek : k < e
              · have hekI : (k : Int) < (e : Int) := by omega
                obtain ⟨_, l3, lx⟩ := HCE.out wd HWd.out
                rw [hlxe] at l3 lx
                have xk0 := lx k (by omega)
                have xe0 := lx e (by omega)
                have HAD := hid (selK_add HPk.out hek HRun.out HST.out)
                have hln := selK_len (f := f) HLA.out i k
                have hszd := HWd.out.size
                have hsz4 := HF4.out.size
                generalize nth (lnN Ls i).x k = xk at *
                generalize nth (lnN Ls i).x e = xe at *
                have heI : (e : Int) < ((lo + 1 : Nat) : Int) := by omega
                have hkI2 : (k : Int) < ((lo + 1 : Nat) : Int) := by omega
                have hiKI : (i : Int) < (K : Int) := by omega
                have hszw := HFd.out.size
                have hszp := HFk.out.size
                have HLT := hid (fun g (hg : u7.ownBlock = some g) => show w4.heap.size ≤ g ∧ g < wd.heap.size from HOd.out.lt g hg)
                have HKP := hid (fun (w1' w' : World) (hf : Fr [] wd w1') (hg : w1'.grownBy w' u7.ownBlock) => show w'.cell? ⟨lb, 3, none⟩ = some (.slice (some ⟨gL, 0, none⟩) K cL) ∧ w'.cell? ⟨gL, i * 4 + 3, none⟩ = some (.slice (some ⟨gX, 0, none⟩) (lo + 1) cX) ∧ w'.cell? ⟨gX, k, none⟩ = some (.int .i64 xk) ∧ w'.cell? ⟨gX, e, none⟩ = some (.int .i64 xe) from by
                  have hs := hf.size
                  have KK : ∀ (b o : Nat) (v : Value), b < w4.heap.size → wd.cell? ⟨b, o, none⟩ = some v → w'.cell? ⟨b, o, none⟩ = some v := fun b o v hb hc =>
                    (World.cell?_of_block (a := ⟨b, o, none⟩) (hg.block b (by omega) (fun e => by have := HLT.out b e.symm; omega))).trans (hf.cell hc List.not_mem_nil)
                  exact ⟨KK _ _ _ (by omega) n3, KK _ _ _ (by omega) l3, KK _ _ _ (by omega) xk0, KK _ _ _ (by omega) xe0⟩)
                have hb0 : lb < wd.heap.size := by omega
                have hb1 : gL < wd.heap.size := by omega
                have hb2 : gX < wd.heap.size := by omega
                clear lx
                go_wp2_with fail
                go_region_held_law (fun w' => w'.cell? ⟨lb, 3, none⟩ = some (.slice (some ⟨gL, 0, none⟩) K cL) ∧ w'.cell? ⟨gL, i * 4 + 3, none⟩ = some (.slice (some ⟨gX, 0, none⟩) (lo + 1) cX) ∧ w'.cell? ⟨gX, k, none⟩ = some (.int .i64 xk) ∧ w'.cell? ⟨gX, e, none⟩ = some (.int .i64 xe)) (first | exact HS1 | go_keep) ((refine step_app rfl (.tmp 92) (.tmp 119) 69 rfl w4.heap.size 119 i0 _ 5 40 Tryz.underlying69 hi hz0 hz1 hz2 rfl (by decide) u7 (selK Ls f i k).length (spCells (selK Ls f i k)) ?q1 ?q2 ⟨wd.heap.size, 0, none⟩ 1 1 [.int .i64 i, .int .i64 k, .int .i64 e, .int .i64 xk, .int .i64 xe] ?q3 rfl ?q4 (five_one _ _ _ _ _) (by unfold maxLen; omega) (by omega) ?q5 ?_; (case q1 => first | rfl | simp [Act.eval]); (case q2 => exact owns_fr0 HOd.out (frA _ _)); (case q3 => first | rfl | simp [Act.eval]); (case q4 => exact news_at _ _ _ _ (by simp)); (case q5 => simp; omega); intro v' w' hown hgrow; have HG1 := hid hown; have HG2 := hid hgrow; have HS1 := HKP.out _ _ (frA _ _) hgrow; clear hown hgrow))
                all_goals (
                  have HF9 := hid (show Fr [] w4 w' from Fr.grown ((HFk.out.trans HFd.out).trans (frA wd (.cells #[.int .i64 i, .int .i64 k, .int .i64 e, .int .i64 xk, .int .i64 xe] 119))) HG2.out (fun g hg => (HLT.out g hg).1))
                  have HO9 := hid (show w'.ownsRow w4.heap.size 119 5 v' (selK Ls f i (e + 1)).length (spCells (selK Ls f i (e + 1))) by rw [HAD.out.1, ← spCells_app, List.length_append]; exact HG1.out)
                  go_wp2
                  go_roundw
                  case rel => exact ⟨e + 1, by go_num, by omega, hid HAD.out.2, HF9, HO9⟩
                  case measure => simp [intOf]; omega)
              · have hek2 : e = k := by omega
                have hekI : decide ((k : Int) < (e : Int)) = false := by simp; omega
                have hekN : decide (k < e) = false := by simp; omega
                have hekP : ¬ k < e := by omega
                have HSK := hid (selK_skip HPk.out (by rw [← hek2]; exact HST.out))
                have HKE := hid hek2
                clear hek2 hek
                go_wp2
                go_roundw
                case rel => exact ⟨k + 1, by go_num, by omega, hid HSK.out.2, hid (HFk.out.trans HFd.out), hid (by rw [HSK.out.1]; exact HOd.out)⟩
                case measure => simp [intOf]; omega
          · have hkI : decide ((k : Int) < (lo : Int)) = false := by simp; omega
            have HDN := hid (selK_done HPk.out (by rw [← HLOi.out]; omega))
            go_wp2
            go_roundw
            case rel => exact ⟨i + 1, by go_num, by omega, HFk, hid (by rw [← HDN.out]; exact HOk.out)⟩
            case measure => simp [intOf]; omega
      · obtain rfl : i = K := by omega
        have hiI : decide ((i : Int) < (i : Int)) = false := by simp
        go_wp2
        go_ret
        exact ⟨_, rfl, owns_low HOi.out HF4.out.size, HWi.out⟩)
end Go.Proofs.YtnakejhohdbfdaaGreatDoor
