/- Signed: the law. -/
import Derived.Test.YtnakejhohdbfdabGreatDoorSgA
namespace Go.Proofs.YtnakejhohdbfdabGreatDoor
open Go.RowKit Lev Lay Bnd

theorem sgL_odd (odd : Bool) {bs : Int} (hb : bs = 0 ∨ bs = 1) : ((sgL odd bs).tmod 2 == 1) = odd := by
  rcases hb with rfl | rfl <;> cases odd <;> rfl
set_option maxRecDepth 10000 in
set_option maxHeartbeats 8000000 in
theorem signed_any (a : Int) (odd : Bool) (b : Int) (w : World) (hF : Floor w) (ha : -9223372036854775808 ≤ a ∧ a ≤ 9223372036854775807) (hb : -9223372036854775808 ≤ b ∧ b ≤ 9223372036854775807) :
    Calls Tryz.prog 12 #[.int .i64 a, .bool odd, .int .i64 b] w fun e w' => e = .returned (.bool true) ∧ Fr [] w w' := by
  have HFl := hid hF
  clear hF
  obtain ⟨k0, hk0, b3, hb3, hka, hkb⟩ : ∃ k0 : Nat, k0 < 9 ∧ ∃ b3 : Int, (b3 = 0 ∨ b3 = 1) ∧ ((a < 0 ∧ (-(a + 1)).tmod 9 = (k0 : Int)) ∨ (¬ a < 0 ∧ a.tmod 9 = (k0 : Int))) ∧ ((b < 0 ∧ (-(b + 1)).tmod 2 = b3) ∨ (¬ b < 0 ∧ b.tmod 2 = b3)) := by
    have e1 : ∃ k0 : Nat, k0 < 9 ∧ ((a < 0 ∧ (-(a + 1)).tmod 9 = (k0 : Int)) ∨ (¬ a < 0 ∧ a.tmod 9 = (k0 : Int))) := by
      by_cases h : a < 0
      · exact ⟨((-(a + 1)) % 9).toNat, by omega, .inl ⟨h, by rw [Int.tmod_eq_emod_of_nonneg (by omega)]; omega⟩⟩
      · exact ⟨(a % 9).toNat, by omega, .inr ⟨h, by rw [Int.tmod_eq_emod_of_nonneg (by omega)]; omega⟩⟩
    have e2 : ∃ b3 : Int, (b3 = 0 ∨ b3 = 1) ∧ ((b < 0 ∧ (-(b + 1)).tmod 2 = b3) ∨ (¬ b < 0 ∧ b.tmod 2 = b3)) := by
      by_cases h : b < 0
      · exact ⟨(-(b + 1)) % 2, by omega, .inl ⟨h, Int.tmod_eq_emod_of_nonneg (by omega)⟩⟩
      · exact ⟨b % 2, by omega, .inr ⟨h, Int.tmod_eq_emod_of_nonneg (by omega)⟩⟩
    obtain ⟨k0, h1, h2⟩ := e1
    obtain ⟨b3, h3, h4⟩ := e2
    exact ⟨k0, h1, b3, h3, h2, h4⟩
  obtain ⟨k, hk⟩ : ∃ k : Nat, (k : Int) = (k0 : Int) + 1 := ⟨k0 + 1, by omega⟩
  have hk10 : k < 10 := by omega
  have HK := hid hk
  have HB3 := hid hb3
  have hbr : 0 ≤ b3 ∧ b3 ≤ 1 := by omega
  clear hk hb3
  obtain ⟨i0, hi, hz0, hz1, hz2⟩ := info_parts info3
  obtain ⟨n, hn⟩ : ∃ n : Nat, n = 2 * k + 3 := ⟨_, rfl⟩
  have HN3 := hid hn
  clear hn
  have hgs : ∀ j, (sgS odd j).size = (if odd then 2 else 1) + j := sgS_size odd
  have HSZ := hid hgs
  clear hgs
  obtain ⟨od, hod⟩ : ∃ od, od = odd := ⟨_, rfl⟩
  have HOD := hid hod
  rw [← hod] at HSZ
  clear hod
  rcases hka with ⟨hlt, e⟩ | ⟨hlt, e⟩
  case' inl => have hd : decide (a < 0) = true := by simpa using hlt
  case' inr => have hd : decide (a < 0) = false := by simpa using hlt
  all_goals (
    rcases hkb with ⟨hlt', e'⟩ | ⟨hlt', e'⟩
    case' inl => have hd' : decide (b < 0) = true := by simpa using hlt'
    case' inr => have hd' : decide (b < 0) = false := by simpa using hlt')
  all_goals (
    cases odd
    all_goals (
      go_enter Tryz.func12, Tryz.ntmps12
      go_wp2_with fail
      rw [← HK.out]
      clear e e' hd hd' hlt hlt'
      go_loopw [7, 9] (fun sv iv wr => ∃ i : Nat, iv = .int .i64 i ∧ i ≤ k ∧ sv = .string (sgS od i) ∧ wr = w) (fun _ iv _ => k - (intOf iv).toNat)
      case atStart => exact ⟨0, rfl, Nat.zero_le _, by rw [HOD.out]; rfl, rfl⟩
      case round =>
        obtain ⟨i, rfl, hik, rfl, rfl⟩ := hrel
        have hsz : (sgS od i).size ≤ 2 + i := by rw [HSZ.out]; split <;> omega
        by_cases hi' : i < k
        · have hiI : (i : Int) < (k : Int) := by omega
          have HSS := hid (show sgS od (i + 1) = sgS od i ++ ⟨#[32]⟩ from rfl)
          generalize sgS od i = si at *
          have hns : ¬ (9223372036854775807 < si.size + 1) := by omega
          go_wp2
          exact ⟨⟨i + 1, by go_num, by omega, by rw [HSS.out], trivial⟩, by simp [intOf]; omega⟩
        · obtain rfl : i = k := by omega
          have hiI : ¬ (i : Int) < (i : Int) := by omega
          have HT := hid (show sgT od i = sgS od i ++ ⟨#[9]⟩ ++ sgS od i from rfl)
          obtain ⟨si, hsi⟩ : ∃ si, si = sgS od i := ⟨_, rfl⟩
          rw [← hsi] at hsz HT ⊢
          clear hsi
          have hns : ¬ (9223372036854775807 < si.size + 1) := by omega
          have hns3 : ¬ (9223372036854775807 < si.size + 1 + si.size) := by omega
          go_wp2_with fail
          rw [← HT.out]
          obtain ⟨w2, hw2⟩ : ∃ w2, w2 = wr := ⟨_, rfl⟩
          rw [← hw2] at HFl ⊢
          have HW2 := hid hw2
          obtain ⟨q1, q2, q3, q4, q5, q6⟩ := sg_ok (odd := od) HB3.out hk10
          rw [← HN3.out] at q1 q2 q3 q4 q6
          have HQ1 := hid q1
          have HQ2 := hid q2
          have HQ3 := hid q3
          have HQ4 := hid q4
          have HQ5 := hid (show (bnd (sgT od i) n).length = n + 1 by rw [HN3.out]; exact q5)
          have HQ6 := hid q6
          have HSG := hid (show (sgT od i).size ≤ 400 by have := hsz; rw [HT.out, ByteArray.size_append, ByteArray.size_append, show (⟨#[9]⟩ : ByteArray).size = 1 from rfl]; omega)
          have hn30 : n ≤ 30 := by have := HN3.out; omega
          have hnI : 2 * (i : Int) + 3 = (n : Int) := by have := HN3.out; omega
          have HNI := hid hnI
          have HVA := hid (fun (j : Nat) (hj : j < n) => show nth (sgV od i b3) j = if j = 0 ∨ j = i + 2 then sgL od b3 else b3 from sgV_at (by rw [← HN3.out]; exact hj))
          have HLO := hid (sgL_odd od HB3.out)
          have HVL := hid (show (sgV od i b3).length = n by rw [HN3.out]; simp [sgV])
          generalize sgT od i = tx at *
          generalize sgV od i b3 = V at *
          generalize sgL od b3 = lv at *
          clear hw2 q1 q2 q3 q4 q5 q6 HT hns hns3 hsz HK hik hi' HSZ
          go_loopw [11, 12] (fun wv jv wr => ∃ j : Nat, jv = .int .i64 j ∧ j ≤ n ∧ Hid (wr.ownsRow w2.heap.size 3 1 wv j (ints64 (ones j))) ∧ Hid (Fr [] w2 wr)) (fun _ jv _ => n - (intOf jv).toNat)
          case atStart => exact ⟨0, rfl, Nat.zero_le _, hid (World.ownsRow_nil _ _ _ _), hid (Fr.refl _ _)⟩
          case round =>
            obtain ⟨j, rfl, hjn, HO, HR⟩ := hrel
            by_cases hj : j < n
            · have hjI : (j : Int) < (n : Int) := by omega
              have hszw := HR.out.size
              go_wp2_with (at_builtin; refine wpList_append_own _ rfl _ _ 41 rfl w2.heap.size 3 i0 _ 1 8 Tryz.underlying41 hi hz0 hz1 hz2 rfl (by decide) _ j (ints64 (ones j)) rfl ?own _ 1 1 [.int .i64 1] rfl rfl (news_at _ _ _ _ (by simp)) (one_cell _) (by unfold maxLen; omega) (by omega) ?szz ?_)
              case own => exact owns_fr0 HO.out (by first | exact (Fr.refl [] _).alloc _ | exact (fr_drewN _ _).alloc _)
              case szz => first | omega | (simp; omega)
              intro v' w3 own3 hgrow hnil
              have HF3 := hid (Fr.grown (by first | exact HR.out.alloc _ | exact (HR.out.drewN _).alloc _) hgrow (fun x h => (HO.out.lt x h).1))
              have HO3 := hid own3
              clear own3 hgrow hnil
              go_wp2
              exact ⟨⟨j + 1, by go_num, by omega, hid (by rw [ones_snoc, ← ints64_snoc]; exact HO3.out), HF3⟩, by simp [intOf]; omega⟩
            · obtain rfl : j = n := by omega
              have hjI : decide ((j : Int) < (j : Int)) = false := by simp
              obtain ⟨w3, hw3⟩ : ∃ w3, w3 = wr := ⟨_, rfl⟩
              rw [← hw3] at HO HR ⊢
              clear hw3
              have HOW := hid HO.out
              obtain ⟨aV, cV, hvV⟩ := owns_slice HOW.out
              subst hvV
              have HWD := hid (sg_slAd HOW.out (ones_len j))
              have HN := hid (newC_good #[.string tx, .int .i64 b3, .slice aV j cV, .slice none 0 0] tx b3 aV none j cV 0 0 w3 rfl _ _ _ _ _ (fun w' hf' => newP_pos tx b3 (.slice aV j cV) (.slice none 0 0) (ones j) [] j w' HSG.out (by have := HB3.out; omega) (HFl.out.fr (HR.out.trans hf')) HQ1.out (by have := HN3.out; omega) ((HWD.out.fr hf').at) (show slAd w' (.slice none 0 0) [] from ⟨none, 0, rfl, .inl ⟨rfl, rfl, rfl⟩⟩) (by simp) HQ2.out))
              rw [HQ3.out, HQ4.out] at HN
              go_wp2_with fail
              refine HN.out.mono ?_
              rintro e w4 ⟨Q, P, v0, v1, v2, vL, hs2, rfl, hQ, _, hLP, hf4⟩
              have HF4 := hid (HR.out.trans hf4)
              have q0 := obj_cell hQ (i := 0) (v := .pointer (some ⟨P, 0, none⟩)) rfl
              have H31 := hid (lay_clusters Q P w4 q0 (fun v w' => w'.ownsRow w4.heap.size 67 4 v j (clCells (clP (bnd tx j) V (wl tx (ones j) j) j)) ∧ Fr [] w4 w') (by
                refine (clusters_any P j _ v0 v1 v2 vL _ _ _ _ w4 hLP.o hLP.b hLP.v hLP.x HVL.out HQ6.out HQ5.out (by omega)).mono ?_
                rintro e w' ⟨v, rfl, h1, h2⟩
                exact ⟨v, rfl, h1, h2⟩))
              clear hQ hLP hf4 q0 HN
              go_wp2_with fail
              refine H31.out.mono ?_
              rintro e w5 ⟨vC, rfl, own5, hf5⟩
              have hj3 : 0 < j := by have := HN3.out; omega
              obtain ⟨gC, cC, rfl⟩ := owns_shape hj3 own5
              have HF5 := hid (HF4.out.trans hf5)
              have HC5 := hid own5
              clear own5 hf5 H31
              go_wp2_with fail
              go_loopw [16] (fun xv wr => ∃ x : Nat, xv = .int .i64 x ∧ x ≤ j ∧ Hid (Fr [] w5 wr)) (fun xv _ => j - (intOf xv).toNat)
              case atStart => exact ⟨0, rfl, Nat.zero_le _, hid (Fr.refl _ _)⟩
              case round =>
                obtain ⟨x, rfl, hxj, HFx⟩ := hrel
                by_cases hx : x < j
                · have hxI : (x : Int) < (j : Int) := by omega
                  have c2 := sg_cell (owns_fr0 HC5.out HFx.out) hx
                  rw [HVA.out x hx] at c2
                  have HXJ := hid hx
                  have hlo := HLO.out
                  rw [HOD.out] at hlo
                  by_cases h0 : x = 0
                  · rw [if_pos (.inl h0)] at c2
                    have hx0 : ((x : Int) == 0) = true := by simp; exact h0
                    clear h0
                    go_wp2
                    exact ⟨⟨x + 1, by go_num, HXJ.out, hid HFx.out⟩, by simp [intOf]; have := HXJ.out; omega⟩
                  · have hx0 : ((x : Int) == 0) = false := by simp; exact h0
                    by_cases h2 : x = i + 2
                    · rw [if_pos (.inr h2)] at c2
                      have hx2 : ((x : Int) == (i : Int) + 2) = true := by simp; omega
                      clear h0 h2
                      go_wp2
                      exact ⟨⟨x + 1, by go_num, HXJ.out, hid HFx.out⟩, by simp [intOf]; have := HXJ.out; omega⟩
                    · rw [if_neg (by omega)] at c2
                      have hx2 : ((x : Int) == (i : Int) + 2) = false := by simp; omega
                      clear h0 h2
                      go_wp2
                      exact ⟨⟨x + 1, by go_num, HXJ.out, hid HFx.out⟩, by simp [intOf]; have := HXJ.out; omega⟩
                · obtain rfl : x = j := by omega
                  have hxI : decide ((x : Int) < (x : Int)) = false := by simp
                  have HF6 := hid (HF5.out.trans HFx.out)
                  have HP := hid (sg_lev sgP 2 3 wr (HFl.out.fr HF6.out) sgP_ends (by decide) (by decide) (by decide) (.inr (.inr rfl)))
                  rw [sgP_base] at HP
                  have HQ := hid (fun (Z : World) (hf : Fr [] wr Z) => sg_lev sgQ 2 3 Z (HFl.out.fr (HF6.out.trans hf)) sgQ_ends (by decide) (by decide) (by decide) (.inr (.inr rfl)))
                  rw [sgQ_base] at HQ
                  go_wp2_with fail
                  refine HP.out.mono ?_
                  rintro e w7 ⟨g7, l7, c7, rfl, hf7⟩
                  have HF7 := hid hf7
                  clear hf7 HP
                  go_wp2_with fail
                  refine (HQ.out w7 HF7.out).mono ?_
                  rintro e w8 ⟨g8, l8, c8, rfl, hf8⟩
                  have HF8 := hid (HF6.out.trans (HF7.out.trans hf8))
                  clear hf8 HQ
                  go_wp2
                  go_ret
                  exact ⟨rfl, by rw [← HW2.out]; exact HF8.out⟩))
end Go.Proofs.YtnakejhohdbfdabGreatDoor
