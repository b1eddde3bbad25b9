/- Plainly: the law. -/
import Derived.Test.YtnakejhohdbfdabGreatDoorPlM
import Derived.Test.YtnakejhohdbfdabGreatDoorKpX
namespace Go.Proofs.YtnakejhohdbfdabGreatDoor
open Go.RowKit Lev Lay Bnd

theorem dec46 (s : ByteArray) (n : Nat) (w : World) (hend : Dec.Ends s n) (hs : s.size ≤ 1000000) : Calls Tryz.prog 46 #[.string s] w fun e w' => ∃ a c, e = .returned (.slice a n c) ∧ Fr [] w w' := by
  have H := hid (Cls.fn21_any s w hs)
  have HE := hid hend
  clear hend
  go_enter Tryz.func46, Tryz.ntmps46
  go_wp2_with fail
  refine H.out.mono ?_
  rintro e w1 ⟨n', v, he', rfl, own1, hb, _⟩
  have e := Dec.ends_unique he' HE.out
  subst e
  obtain ⟨a, c, rfl⟩ := owns_slice own1
  have HF := hid (Fr.of_below (S := []) hb)
  clear own1 hb he' H
  go_wp2
  go_ret
  exact ⟨_, _, rfl, HF.out⟩
theorem ord_fact {s : ByteArray} {odd : Bool} {n : Nat} {q : Nat → Nat} (h : LTx s odd n q) {Bd V : List Int} {bs : Int} {W : List Int} {Ls : List Ln} (F : Fine Bd V (s.size : Nat) Ls) (hK : Ls.length = 1) (hb : bs = 0 ∨ bs = 1) (hbn : 0 < V.length → Edges s n [] ∧ 0 < n ∧ (bs = 0 ∨ bs = 1) ∧ Bd = bnd s n ∧ V = lvE s n bs [] ∧ Ls = lns s n bs W [] (([] : List Int).length + 1)) : (lnN Ls 0).o = if odd then (List.range n).reverse else List.range n := by
  by_cases h0 : 0 < V.length
  · obtain ⟨_, hn, _, _, _, hL⟩ := hbn h0
    have e1 : eiOf s n [] 0 = 0 := rfl
    have e2 : eiOf s n [] 1 = n := by
      show cn s n = n
      unfold cn
      rw [bix_ltr (fun k hk => LTx.kf h hk)]
      simp
    rw [hL, lns_at (by simp), e1, show eiOf s n [] (0 + 1) = n from e2]
    exact line_odd h hb W
  · have hl := F.bd
    have e := rises_last F.rs
    rw [show Bd.length - 1 = 0 by omega, rises_first F.rs] at e
    have hs := h.sz
    have hn : n = 0 := by
      cases odd
      · simp only [Bool.false_eq_true, if_false] at hs; omega
      · simp only [if_true] at hs; omega
    subst hn
    have ho : (lnN Ls 0).o.length = 0 := by
      rcases Nat.eq_zero_or_pos (lnN Ls 0).o.length with h | h
      · exact h
      · have := (F.on 0 (by omega) (nix (lnN Ls 0).o 0) (nix_mem' h)).1
        omega
    rw [List.length_eq_zero_iff.1 ho]
    cases odd <;> rfl
theorem slAd_own {w : World} {B : Nat} {a : Option Addr} {n c : Nat} {l : List Int} (h : w.ownsRow B 3 1 (.slice a n c) n (ints64 l)) (hl : l.length = n) : slAd w (.slice a n c) l := by
  rcases h.2 with ⟨hv, h0⟩ | ⟨g, cap, cur, hv, _⟩
  · cases hv
    exact ⟨none, 0, by rw [hl], .inl ⟨rfl, rfl, by rw [hl]⟩⟩
  · cases hv
    refine ⟨some ⟨g, 0, none⟩, c, by rw [hl], .inr ⟨⟨g, 0, none⟩, rfl, fun i hi => ?_⟩⟩
    have e := h.cellAt i (by omega)
    rw [ints64_at hi] at e
    rcases Nat.eq_zero_or_pos i with h9 | h9
    · subst h9; exact e
    · simpa [Addr.add, show ¬ i = 0 by omega] using e
set_option maxRecDepth 10000 in
set_option maxHeartbeats 4000000 in
theorem plainly_any (t : ByteArray) (odd : Bool) (b : Int) (w : World) (hF : Floor w) (hb : -9223372036854775808 ≤ b ∧ b ≤ 9223372036854775807) :
    Calls Tryz.prog 11 #[.string t, .bool odd, .int .i64 b] w fun e w' => e = .returned (.bool true) ∧ Fr [] w w' := by
  have HL := hid (letters_any t odd w)
  have HFl := hid hF
  clear hF
  obtain ⟨b1, hb1, hb2⟩ : ∃ b1 : Int, (0 ≤ b1 ∧ b1 ≤ 9223372036854775807) ∧ ((b < 0 ∧ b1 = -(b + 1)) ∨ (¬ b < 0 ∧ b1 = b)) := by
    by_cases h : b < 0
    · exact ⟨-(b + 1), by omega, .inl ⟨h, rfl⟩⟩
    · exact ⟨b, by omega, .inr ⟨h, rfl⟩⟩
  have HB1 := hid hb1
  obtain ⟨i0, hi, hz0, hz1, hz2⟩ := info_parts info3
  rcases hb2 with ⟨hlt, e⟩ | ⟨hlt, e⟩
  case' inl => have hd : decide (b < 0) = true := by simpa using hlt
  case' inr => have hd : decide (b < 0) = false := by simpa using hlt
  all_goals (
    go_enter Tryz.func11, Tryz.ntmps11
    go_wp2_with fail
    refine HL.out.mono ?_
    rintro e w1 ⟨s, n, q, rfl, hn, hT, rfl⟩
    have HT := hid hT
    have hs4 : s.size ≤ 40 := by
      have hs := hT.sz
      cases odd
      · simp only [Bool.false_eq_true, if_false] at hs; omega
      · simp only [if_true] at hs; omega
    have HD := hid (dec46 s n w1 (LTx.ends hT) (by omega))
    clear hT HL
    try rw [← e]
    clear e hlt hd hb
    go_wp2_with fail
    refine HD.out.mono ?_
    rintro e w2 ⟨aR, cR, rfl, hf2⟩
    have HF2 := hid hf2
    clear hf2 HD
    go_wp2_with fail
    go_loopw [9, 10] (fun wv iv wr => ∃ i : Nat, iv = .int .i64 i ∧ i ≤ n ∧ Hid (wr.ownsRow w2.heap.size 3 1 wv i (ints64 (wds i))) ∧ Hid (Fr [] w2 wr)) (fun _ iv _ => n - (intOf iv).toNat)
    case atStart => exact ⟨0, rfl, Nat.zero_le _, hid (World.ownsRow_nil _ _ _ _), hid (Fr.refl _ _)⟩
    case round =>
      obtain ⟨i, rfl, hin, HO, HR⟩ := hrel
      by_cases hi' : i < n
      · have hiI : (i : Int) < (n : Int) := by omega
        have hsz := HR.out.size
        go_wp2_with (at_builtin; refine wpList_append_own _ rfl _ _ 41 rfl w2.heap.size 3 i0 _ 1 8 Tryz.underlying41 hi hz0 hz1 hz2 rfl (by decide) _ i (ints64 (wds i)) rfl ?own _ 1 1 [.int .i64 (i : Nat)] rfl rfl (news_at _ _ _ _ (by simp)) (one_cell _) (by unfold maxLen; omega) (by omega) ?szz ?_)
        case own => exact owns_fr0 HO.out (by first | exact (Fr.refl [] _).alloc _ | exact (fr_drewN _ _).alloc _)
        case szz => first | omega | (simp; omega)
        intro v' w3 own3 hgrow hnil
        have HF3 := hid (Fr.grown (by first | exact HR.out.alloc _ | exact (HR.out.drewN _).alloc _) hgrow (fun x h => (HO.out.lt x h).1))
        have HO3 := hid own3
        clear own3 hgrow hnil
        go_wp2
        exact ⟨⟨i + 1, by go_num, by omega, hid (by rw [wds_snoc, ← ints64_snoc]; exact HO3.out), HF3⟩, by simp [intOf]; omega⟩
      · obtain rfl : i = n := by omega
        have hiI : decide ((i : Int) < (i : Int)) = false := by simp
        obtain ⟨w3, hw3⟩ : ∃ w3, w3 = wr := ⟨_, rfl⟩
        rw [← hw3] at HO HR ⊢
        clear hw3
        have HOW := hid HO.out
        obtain ⟨aV, cV, hvV⟩ := owns_slice HOW.out
        subst hvV
        have HF3 := hid (HF2.out.trans HR.out)
        obtain ⟨b3, hb3⟩ : ∃ b3, b3 = b1 % 3 := ⟨_, rfl⟩
        have hb3r : 0 ≤ b3 ∧ b3 ≤ 2 := by omega
        obtain ⟨Bd, V, X, r, bs, Cs, Ls, T, TT, F, hbn, _, one, _, _, hbs, _, hKl⟩ := keep_four s b3 (wds i) [] i (LTx.ends HT.out) (by simp) (chk_ltr HT.out hn hb3r)
        have hWd : slAd w3 (.slice aV i cV) (wds i) := slAd_own HOW.out (wds_len i)
        have HWD := hid hWd
        have HN := hid (newC_good #[.string s, .int .i64 b3, .slice aV i cV, .slice none 0 0] s b3 aV none i cV 0 0 w3 rfl Bd V X r Ls (fun w' hf' => T.p w' _ _ (HFl.out.fr (HF3.out.trans hf')) ((HWD.out.fr hf').at) (show slAd w' (.slice none 0 0) [] from ⟨none, 0, rfl, .inl ⟨rfl, rfl, rfl⟩⟩)))
        have htm : b1.tmod 3 = b3 := by rw [hb3]; exact Int.tmod_eq_emod_of_nonneg HB1.out.1
        have HT2 := hid T
        have HTT := hid TT
        have HFF := hid F
        have HBN := hid hbn
        have HBS := hid hbs
        have HKL := hid hKl
        have HONE := hid one
        have HA := hid (fun (Z : World) (hf : Fr [] w1 Z) => alive_any Z (HFl.out.fr hf))
        clear hWd T TT F hbn hbs hKl one hb3
        go_wp2_with fail
        refine HN.out.mono ?_
        rintro e w4 ⟨Q, P, v0, v1, v2, vL, hs2, rfl, hQ, _, hLP, hf4⟩
        have HF4 := hid (HF3.out.trans hf4)
        have HQ := hid hQ
        have HLP := hid hLP
        clear hQ hLP hf4 HN htm
        go_wp2_with fail
        refine (HA.out w4 HF4.out).mono ?_
        rintro e w5 ⟨rfl, hf5⟩
        have HF5 := hid (HF4.out.trans hf5)
        have hK1 : Ls.length = 1 := HKL.out
        have H32 := hid (lay_lines Q P w5 (obj_cell (obj_fr HQ.out hf5 List.not_mem_nil) rfl) (fun v w' => ∃ hs', w'.ownsRow w5.heap.size 72 4 v 1 hs' ∧ lnsAt w' w5.heap.size w'.heap.size hs' Ls ∧ Fr [] w5 w') (by
          have hLP := HLP.out.fr hf5 (fun k hk => absurd hk List.not_mem_nil)
          obtain ⟨U, _, hn⟩ := hLP.n
          have hll := hLP.l
          rw [hK1] at hll
          refine (lines56_any P 1 _ U v0 v1 v2 vL _ hs2 _ w5 hLP.o hll hn (by decide) (by decide) hK1 HT2.out.ll).mono ?_
          rintro e w' ⟨v, hs', rfl, h1, h2, _, h4⟩
          exact ⟨v, rfl, hs', h1, h2, h4⟩))
        clear hf5 HA
        go_wp2_with fail
        refine H32.out.mono ?_
        rintro e w6 ⟨vN, rfl, hs', own6, hl6, hf6⟩
        obtain ⟨gN, cN, rfl⟩ := owns_shape (by decide) own6
        obtain ⟨aO, cO, gX, cX, hcell, hord⟩ := ln_cells own6 hl6 hK1 (Fr.refl [] w6) rfl (fun j hj => by rw [HTT.out.xl _ (lnN_mem (by omega))]; omega) (show 0 < 1 by decide)
        have HOF := hid (ord_fact HT.out HFF.out hK1 HBS.out HBN.out)
        have hol : (lnN Ls 0).o.length = i := by rw [HOF.out]; cases odd <;> simp
        rw [hol] at hcell hord
        have HCE := hid (fun (Y : World) (hf : Fr [] w6 Y) => (hcell Y (hf.mono (fun _ h _ => absurd h List.not_mem_nil))).2.2.1)
        have HOR := hid (fun (h0 : 0 < i) => hord h0)
        have HF6 := hid (HF5.out.trans hf6)
        have n2 := HCE.out w6 (Fr.refl _ _)
        clear own6 hl6 hf6 H32 hcell hord hol hK1
        go_wp2_with fail
        clear n2
        go_loopw [15] (fun kv wr => ∃ k : Nat, kv = .int .i64 k ∧ k ≤ i ∧ Hid (Fr [] w6 wr)) (fun kv _ => i - (intOf kv).toNat)
        case atStart => exact ⟨0, rfl, Nat.zero_le _, hid (Fr.refl _ _)⟩
        case round =>
          obtain ⟨k, rfl, hki, HFk⟩ := hrel
          by_cases hk : k < i
          · have hkI : (k : Int) < (i : Int) := by omega
            have HKk := hid hk
            obtain ⟨gO, hgO, horc⟩ := HOR.out (by omega)
            subst hgO
            have n2 := HCE.out wr HFk.out
            have oc := horc wr (HFk.out.mono (fun _ h _ => absurd h List.not_mem_nil)) k hk
            rw [HOF.out] at oc
            cases odd
            · rw [show nix (if false = true then (List.range i).reverse else List.range i) k = k by simp [nix, hk]] at oc
              clear horc
              go_wp2
              exact ⟨⟨k + 1, by go_num, HKk.out, hid HFk.out⟩, by simp [intOf]; have := HKk.out; omega⟩
            · obtain ⟨m, hm⟩ : ∃ m, m = i - 1 - k := ⟨_, rfl⟩
              rw [show nix (if true = true then (List.range i).reverse else List.range i) k = m by rw [hm]; simp [nix, hk]] at oc
              have hmI : (i : Int) - 1 - (k : Int) = (m : Int) := by omega
              clear horc hm
              go_wp2
              exact ⟨⟨k + 1, by go_num, HKk.out, hid HFk.out⟩, by simp [intOf]; have := HKk.out; omega⟩
          · obtain rfl : k = i := by omega
            have hkI : decide ((k : Int) < (k : Int)) = false := by simp
            go_wp2
            go_ret
            exact ⟨rfl, HF6.out.trans HFk.out⟩)
end Go.Proofs.YtnakejhohdbfdabGreatDoor
