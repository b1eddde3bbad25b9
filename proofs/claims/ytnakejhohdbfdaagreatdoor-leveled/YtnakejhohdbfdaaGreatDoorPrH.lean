/- The program's EMBEDDING: what ends, what is held. -/
import Derived.Test.YtnakejhohdbfdaaGreatDoorPrG
namespace Go.Proofs.YtnakejhohdbfdaaGreatDoor
open Go.RowKit Lev

theorem ES.fr {T : List Nat} {w w' : World} {B E g cap : Nat} {st : List Ent} {mi me op : Nat} (h : ES w B E g cap st mi me op) (hf : Fr T w w') (hT : ∀ k ∈ T, k < B) : ES w' B E g cap st mi me op :=
  ⟨(hf.block E h.lt (fun hm => by have := hT E hm; have := h.le; omega)).trans h.o, owns_fr h.r hf (fun x hx hm => by have := (h.r.lt x hx).1; have := hT x hm; omega), h.le⟩
set_option linter.unusedSimpArgs false in
set_option maxRecDepth 10000 in
set_option maxHeartbeats 2000000 in
theorem fn47_any (w : World) (B E g cap : Nat) (st : List Ent) (mi me op m : Nat) (h : ES w B E g cap st mi me op) (hm : st.length = m + 1) (h1 : st.length ≤ 1000000) (hme : me ≤ 1000000) :
    Calls Tryz.prog 129 #[.pointer (some ⟨E, 0, none⟩)] w fun e w' => e = .returned (.tuple #[]) ∧ (∃ st' me', ES w' B E g cap st' mi me' op ∧ ((0 < mi ∧ st' = st ∧ me' = me) ∨ (mi = 0 ∧ 0 < me ∧ st' = st ∧ me' = me - 1) ∨ (mi = 0 ∧ me = 0 ∧ (top st).iso = false ∧ 1 < st.length ∧ st' = st.take m ∧ me' = me) ∨ (mi = 0 ∧ me = 0 ∧ ((top st).iso = true ∨ st.length ≤ 1) ∧ st' = st ∧ me' = me))) ∧ Below B w w' := by
  have HH := hid h
  have hB := h.sizeB
  have k1 := h.c1
  have k2 := h.c2
  have f2 := h.froz 2
  have HL := hid (fn87_any w B E g cap st mi me op h (by omega) (by omega))
  have HT := hid (fun w' (hf : Fr [] w w') => fn88_any w' B E g cap st mi me op m (HH.out.fr0 hf) hm (by omega))
  generalize hT : top st = T at *
  obtain ⟨lv, ov, iso⟩ := T
  dsimp only at HL
  have hfd := field2 lv ov iso
  clear h hT
  by_cases hmi : mi = 0
  · subst hmi
    by_cases hm0 : me = 0
    · subst hm0
      obtain ⟨n, hn⟩ : ∃ n, n = st.length := ⟨_, rfl⟩
      have HN := hid hn
      have hn1 : n ≤ 1000000 := by omega
      clear hn
      cases iso
      · by_cases h2 : 1 < n
        · have h2I : (1 : Int) < (n : Int) := by omega
          go_enter Tryz.func129, Tryz.ntmps129
          go_wp2_with (first | (go_at_call 186; refine HL.out.mono ?_; rintro e w1 ⟨rfl, hf1⟩; have HF1 := hid hf1; have HE1 := hid (HH.out.fr0 hf1); have k3 := HE1.out.c0; rw [← HN.out] at k3; clear hf1) | (go_at_call 187; refine (HT.out _ HF1.out).mono ?_; rintro e w2 ⟨rfl, he2, hf2⟩))
          go_end0
          exact ⟨rfl, ⟨_, 0, he2, by have h3 := HN.out; simp; omega⟩, below_trans (below_of_fr HF1.out hB) (hf2.below HE1.out.sizeB (fun k hk => by have h5 := List.mem_singleton.1 hk; rw [h5]; exact HH.out.le))⟩
        · have h2I : ¬ (1 : Int) < (n : Int) := by omega
          have h2d : decide ((1 : Int) < (n : Int)) = false := decide_eq_false h2I
          have h2e : decide (1 < n) = false := decide_eq_false h2
          go_enter Tryz.func129, Tryz.ntmps129
          go_wp2_with (first | (go_at_call 186; refine HL.out.mono ?_; rintro e w1 ⟨rfl, hf1⟩; have HF1 := hid hf1; have HE1 := hid (HH.out.fr0 hf1); have k3 := HE1.out.c0; rw [← HN.out] at k3; clear hf1))
          go_end0
          exact ⟨rfl, ⟨_, 0, HE1.out, by have h3 := HN.out; simp; omega⟩, below_of_fr HF1.out hB⟩
      · go_enter Tryz.func129, Tryz.ntmps129
        go_wp2_with (first | (go_at_call 186; refine HL.out.mono ?_; rintro e w1 ⟨rfl, hf1⟩; have HF1 := hid hf1; have HE1 := hid (HH.out.fr0 hf1); clear hf1))
        go_end0
        exact ⟨rfl, ⟨_, 0, HE1.out, by simp⟩, below_of_fr HF1.out hB⟩
    · have hmp : (0 : Int) < (me : Int) := by omega
      have hmc : (me : Int) - 1 = ((me - 1 : Nat) : Int) := by omega
      have HE2 := hid (HH.out.num 2 (me - 1) 0 (me - 1) op rfl)
      go_enter Tryz.func129, Tryz.ntmps129
      go_wp2
      go_end0
      exact ⟨rfl, ⟨_, me - 1, HE2.out, by simp; omega⟩, below_set (Below.refl _ _) HH.out.le⟩
  · have hmp : (0 : Int) < (mi : Int) := by omega
    go_enter Tryz.func129, Tryz.ntmps129
    go_wp2
    go_end0
    exact ⟨rfl, ⟨_, me, HH.out, by simp; omega⟩, Below.refl _ _⟩
set_option linter.unusedSimpArgs false in
set_option maxRecDepth 10000 in
set_option maxHeartbeats 2000000 in
theorem fn48_any (q : UH) (C L : List Int) (w : World) (B E g cap : Nat) (e : Emb) (i : Nat) (hC : e.C = C) (hL : e.L = L) (h : ES w B E g cap e.st e.mi e.me e.op) (h0 : 0 < e.st.length) (h1 : e.st.length ≤ 1000000) (hT : EntOk (top e.st)) (hu : US w q C L) (hi : i < q.n) (hU : q.U < B) :
    Calls Tryz.prog 130 #[.pointer (some ⟨E, 0, none⟩), .pointer (some ⟨q.U, i * 4, none⟩)] w fun x w' => x = .returned (.tuple #[]) ∧ US w' q (hold e i).C (hold e i).L ∧ ES w' B E g cap e.st e.mi e.me e.op ∧ Fr [q.U] w w' := by
  have HH := hid h
  have HU := hid hu
  have HHC := hid (hold_C' hT i)
  have HHL := hid (hold_L e i)
  have HL := hid (fn87_any w B E g cap e.st e.mi e.me e.op h h0 (by omega))
  have hov := hT.2.2
  rw [hC] at HHC
  rw [hL] at HHL
  generalize hTT : top e.st = T at *
  obtain ⟨lv, ov, iso⟩ := T
  dsimp only at HL HHC HHL hov
  have hUw : q.U < w.heap.size := World.block_lt_of_cell? _ _ (hu.r 0 (by omega))
  clear h hu hTT hC hL
  obtain ⟨Zc, hZc⟩ : ∃ Zc, Zc = (hold e i).C := ⟨_, rfl⟩
  obtain ⟨Zl, hZl⟩ : ∃ Zl, Zl = (hold e i).L := ⟨_, rfl⟩
  rw [← hZc] at HHC ⊢
  rw [← hZl] at HHL ⊢
  clear hZc hZl
  by_cases ho : ov = -1
  · subst ho
    go_enter Tryz.func130, Tryz.ntmps130
    go_wp2_with (first | (go_at_call 186; refine HL.out.mono ?_; rintro x w1 ⟨rfl, hf1⟩; have HF1 := hid hf1; have HE1 := hid (HH.out.fr0 hf1); have HU1 := hid (HU.out.fr hf1 List.not_mem_nil); have k1 := HU1.out.l i hi; have k2 := HU1.out.soft (i * 4 + 3) (by omega); have hU1 : q.U < w1.heap.size := Nat.lt_of_lt_of_le hUw hf1.size; clear hf1))
    go_end0
    refine ⟨rfl, ?_, ?_, ?_⟩
    · rw [HHC.out, HHL.out, if_neg (by omega)]
      exact (HU1.out.setL hi lv).fr (T := []) ((Fr.refl _ _).alloc _) List.not_mem_nil
    · exact (HE1.out.fr (T := [q.U]) (fr_set1 _ _ _ _) (fun k hk => by rw [List.mem_singleton.1 hk]; exact hU)).fr0 ((Fr.refl _ _).alloc _)
    · exact ((HF1.out.mono (fun _ h _ => absurd h List.not_mem_nil)).set (List.mem_singleton.2 rfl) _).alloc _
  · have hob : (ov == -1) = false := by simp [ho]
    have HZ2 := hid (show Zc = C.set i ov by rw [HHC.out, if_pos (by omega)])
    clear hov
    go_enter Tryz.func130, Tryz.ntmps130
    go_wp2_with (first | (go_at_call 186; refine HL.out.mono ?_; rintro x w1 ⟨rfl, hf1⟩; have HF1 := hid hf1; have HE1 := hid (HH.out.fr0 hf1); have HU1 := hid (HU.out.fr hf1 List.not_mem_nil); have k1 := HU1.out.l i hi; have k2 := HU1.out.soft (i * 4 + 3) (by omega); have k3 := HU1.out.c i hi; have k4 := HU1.out.soft (i * 4 + 2) (by omega); have hU1 : q.U < w1.heap.size := Nat.lt_of_lt_of_le hUw hf1.size; clear hf1))
    go_end0
    refine ⟨rfl, ?_, ?_, ?_⟩
    · rw [HZ2.out, HHL.out]
      exact ((HU1.out.setL hi lv).setC hi ov).fr (T := []) ((Fr.refl _ _).alloc _) List.not_mem_nil
    · exact ((HE1.out.fr (T := [q.U]) (fr_set1 _ _ _ _) (fun k hk => by rw [List.mem_singleton.1 hk]; exact hU)).fr (T := [q.U]) (fr_set1 _ _ _ _) (fun k hk => by rw [List.mem_singleton.1 hk]; exact hU)).fr0 ((Fr.refl _ _).alloc _)
    · exact (((HF1.out.mono (fun _ h _ => absurd h List.not_mem_nil)).set (List.mem_singleton.2 rfl) _).set (List.mem_singleton.2 rfl) _).alloc _
def muE (E : Nat) (w : World) : Nat := slLen ((w.cell? ⟨E, 0, none⟩).getD undef)
theorem muE_at {w : World} {B E g cap : Nat} {st : List Ent} {mi me op : Nat} (h : ES w B E g cap st mi me op) : muE E w = st.length := by rw [muE, h.c0]; rfl
set_option linter.unusedSimpArgs false in
set_option maxRecDepth 10000 in
set_option maxHeartbeats 2000000 in
theorem fn51_any (w : World) (B E g cap : Nat) (st : List Ent) (mi me op : Nat) (h : ES w B E g cap st mi me op) (h1 : st.length ≤ 1000000) (hmi : mi ≤ 1000000) (hop : op ≤ 1000000) (hiso : 0 < op → 0 < isoN st.reverse) :
    Calls Tryz.prog 133 #[.pointer (some ⟨E, 0, none⟩)] w fun e w' => e = .returned (.tuple #[]) ∧ (∃ st' mi' me' op', ES w' B E g cap st' mi' me' op' ∧ ((0 < mi ∧ st' = st ∧ mi' = mi - 1 ∧ me' = me ∧ op' = op) ∨ (mi = 0 ∧ 0 < op ∧ st' = popI st.length st ∧ mi' = 0 ∧ me' = 0 ∧ op' = op - 1) ∨ (mi = 0 ∧ op = 0 ∧ st' = st ∧ mi' = 0 ∧ me' = me ∧ op' = 0))) ∧ Below B w w' := by
  have HH := hid h
  have hB := h.sizeB
  have k1 := h.c1
  have k3 := h.c3
  have f1 := h.froz 1
  have f2 := h.froz 2
  have k2 := h.c2
  have HISO := hid hiso
  clear h hiso
  by_cases hm0 : mi = 0
  · subst hm0
    by_cases ho0 : op = 0
    · subst ho0
      go_enter Tryz.func133, Tryz.ntmps133
      go_wp2
      go_end0
      exact ⟨rfl, ⟨_, _, _, _, HH.out, by simp⟩, Below.refl _ _⟩
    · have hoI : (0 : Int) < (op : Int) := by omega
      have hopN : 0 < op := by omega
      have k1' : w.cell? ⟨E, 1, none⟩ = some (.int .i64 0) := k1
      clear k1
      have HE0 := hid (HH.out.num 2 0 0 0 op rfl)
      have HIS0 := hid (HISO.out (by omega))
      have HB0 := hid (below_set (i := 2) (v := .int .i64 0) (Below.refl B w) HH.out.le)
      clear f1 HISO
      go_enter Tryz.func133, Tryz.ntmps133
      go_wp2
      go_loopw [24] (fun _ wr => ∃ t : Nat, t ≤ st.length ∧ Hid (popI (st.take t).length (st.take t) = popI st.length st) ∧ Hid (0 < isoN (st.take t).reverse) ∧ Hid (ES wr B E g cap (st.take t) 0 0 op) ∧ Hid (Below B w wr)) (fun _ wr => muE E wr)
      case atStart => exact ⟨st.length, Nat.le_refl _, hid (by rw [List.take_length]), hid (by rw [List.take_length]; exact HIS0.out), hid (by rw [List.take_length]; exact HE0.out), HB0⟩
      case round =>
        obtain ⟨t, htn, HPOP, HIS, HEX, HBX⟩ := hrel
        have htl : (st.take t).length = t := by rw [List.length_take]; omega
        have ht0 : 0 < t := by have := iso_pos HIS.out; omega
        obtain ⟨m', hm'⟩ : ∃ m', t = m' + 1 := ⟨t - 1, by omega⟩
        have HPS2 := hid (pop_step (htl.trans hm'))
        have HTT2 := hid (show (st.take t).take m' = st.take m' by rw [List.take_take, Nat.min_eq_left (by omega)])
        rw [HTT2.out] at HPS2
        have HIT := hid (fun hh => iso_take (htl.trans hm') hh HIS.out)
        rw [HTT2.out] at HIT
        have HL := hid (fn87_any wr B E g cap (st.take t) 0 0 op HEX.out (by omega) (by omega))
        have HT := hid (fun w' (hf : Fr [] wr w') => fn88_any w' B E g cap (st.take t) 0 0 op m' (HEX.out.fr0 hf) (htl.trans hm') (by omega))
        rw [HTT2.out] at HT
        have HMU := hid (show muE E wr = t by rw [muE_at HEX.out, htl])
        have hm'l : (st.take m').length = m' := by rw [List.length_take]; omega
        have HML := hid hm'l
        have HM' := hid hm'
        generalize hT : top (st.take t) = T at *
        obtain ⟨lv, ov, iso⟩ := T
        dsimp only at HL HPS2 HIT
        have hfd := field2 lv ov iso
        clear hT htl hm' hm'l
        cases iso
        · have HPQ := hid ((HPS2.out.2 rfl).symm.trans HPOP.out)
          have HIQ := hid (HIT.out rfl)
          clear HPS2 HIT
          go_wp2_with (first | (go_at_call 186; refine HL.out.mono ?_; rintro e w1 ⟨rfl, hf1⟩; have HF1 := hid hf1; clear hf1) | (go_at_call 187; refine (HT.out _ HF1.out).mono ?_; rintro e w2 ⟨rfl, he2, hf2⟩; have HE2 := hid he2; have HF2 := hid hf2; clear he2 hf2))
          go_roundw
          case rel => exact ⟨m', by have := HM'.out; omega, HPQ, HIQ, HE2, hid (below_trans HBX.out (below_trans (below_of_fr HF1.out HEX.out.sizeB) (HF2.out.below (HEX.out.fr0 HF1.out).sizeB (fun k hk => by rw [List.mem_singleton.1 hk]; exact HH.out.le))))⟩
          case measure => have h5 := HM'.out; rw [HMU.out, muE_at HE2.out, HML.out]; omega
        · have HPQ := hid (show st.take m' = popI st.length st by rw [← HPOP.out]; exact (HPS2.out.1 rfl).symm)
          have hopc : (op : Int) - 1 = ((op - 1 : Nat) : Int) := by omega
          clear HPS2 HIT
          go_wp2_with (first | (go_at_call 186; refine HL.out.mono ?_; rintro e w1 ⟨rfl, hf1⟩; have HF1 := hid hf1; clear hf1) | (go_at_call 187; refine (HT.out _ HF1.out).mono ?_; rintro e w2 ⟨rfl, he2, hf2⟩; have HE2 := hid he2; have HF2 := hid hf2; have r3 := HE2.out.c3; have r4 := HE2.out.froz 3; clear he2 hf2))
          go_end0
          exact ⟨rfl, ⟨_, _, _, _, HE2.out.num 3 (op - 1) 0 0 (op - 1) rfl, by rw [HPQ.out]; simp; omega⟩, below_set (below_trans HBX.out (below_trans (below_of_fr HF1.out HEX.out.sizeB) (HF2.out.below (HEX.out.fr0 HF1.out).sizeB (fun k hk => by rw [List.mem_singleton.1 hk]; exact HH.out.le)))) HH.out.le⟩
  · have hmp : (0 : Int) < (mi : Int) := by omega
    have hmc : (mi : Int) - 1 = ((mi - 1 : Nat) : Int) := by omega
    have HE2 := hid (HH.out.num 1 (mi - 1) (mi - 1) me op rfl)
    go_enter Tryz.func133, Tryz.ntmps133
    go_wp2
    go_end0
    exact ⟨rfl, ⟨_, _, _, _, HE2.out, by simp; omega⟩, below_set (Below.refl _ _) HH.out.le⟩
end Go.Proofs.YtnakejhohdbfdaaGreatDoor
