/- The law Leveled: the program's levels are the document's. -/
import Derived.Test.YtnakejhohdbfdaaGreatDoorMm
import Derived.Test.YtnakejhohdbfdaaGreatDoorRsO
import Derived.Test.YtnakejhohdbfdaaGreatDoorMg
import Derived.Test.YtnakejhohdbfdaaGreatDoorMd
namespace Go.Proofs.YtnakejhohdbfdaaGreatDoor
open Go.RowKit Lev

open Dec in
theorem ends_all : ∀ (s : ByteArray), ∃ n, Dec.Ends s n := by
  intro s
  have key : ∀ f k, s.size - pos s k ≤ f → pos s k ≤ s.size → (∀ j, j < k → pos s j < s.size) → ∃ n, Dec.Ends s n := by
    intro f
    induction f with
    | zero => intro k h1 h2 h3; exact ⟨k, by omega, h3⟩
    | succ f ih =>
      intro k h1 h2 h3
      by_cases hlt : pos s k < s.size
      · have h4 := pos_lt_succ s k
        have h5 := width_le s (pos s k) hlt
        refine ih (k + 1) (by omega) h5 (fun j hj => ?_)
        rcases Nat.lt_or_eq_of_le (Nat.le_of_lt_succ hj) with h | h
        · exact h3 j h
        · rw [h]; exact hlt
      · exact ⟨k, by omega, h3⟩
  exact key s.size 0 (Nat.sub_le _ _) (Nat.zero_le _) (fun j hj => absurd hj (Nat.not_lt_zero _))
theorem look_in (P : Int → Prop) (h0 : P 0) : ∀ (l : List (Int × Int × Int)) (r : Int), (∀ x ∈ l, P x.2.2) → P (Tabs.look l r)
  | [], _, _ => h0
  | x :: l, r, h => by
    rw [Tabs.look]
    split
    · exact h x List.mem_cons_self
    · exact look_in P h0 l r (fun y hy => h y (List.mem_cons_of_mem _ hy))
theorem class_in (r : Int) : 0 ≤ Tabs.look Tabs.classTab r ∧ Tabs.look Tabs.classTab r ≤ 22 :=
  look_in (fun c => 0 ≤ c ∧ c ≤ 22) (by decide) Tabs.classTab r (by decide)
theorem Kl_in (s : ByteArray) (n : Nat) : ∀ i, 0 ≤ nth (Kl s n) i ∧ nth (Kl s n) i ≤ 22 := fun i => by
  by_cases h : i < n
  · have e : nth (Kl s n) i = Tabs.look Tabs.classTab (Dec.rune s i) := by simp [nth, Kl, h]
    rw [e]; exact class_in _
  · have e : nth (Kl s n) i = 0 := by simp [nth, Kl, h]
    rw [e]; decide
/-- What the law leans on in the world. -/
structure Ground (w : World) : Prop where
  u : Lib.Utf8Tabs 1 2 w
  t3 : Cls.TabAt w 3 Tabs.lowTab
  t4 : Cls.TabAt w 4 Tabs.highTab
  e : w.cell? ⟨0, 0, none⟩ = some (As.rty 86)
set_option maxRecDepth 10000 in
set_option maxHeartbeats 4000000 in
theorem leveled_bad (s : ByteArray) (b x : Int) (w : World) (hx : (400 < s.size ∧ x = 1) ∨ (s.size ≤ 400 ∧ x = 2 ∧ (b < 0 ∨ 2 < b))) (hs : s.size ≤ 4096)
    (hc : Calls Tryz.prog 10 #[.string s, .int .i64 b] w fun e w' => e = .returned (.tuple #[.slice none 0 0, .int .i64 0, .int .i64 x]) ∧ Fr [] w w') :
    Calls Tryz.prog 3 #[.string s, .int .i64 b] w fun e w' => e = .returned (.bool true) ∧ Fr [] w w' := by
  have HC := hid hc
  have d0 : decide ((4096 : Int) < (s.size : Int)) = false := decide_eq_false (by omega)
  have d0' : decide (4096 < s.size) = false := decide_eq_false (by omega)
  have n0 : ¬ (4096 : Int) < (s.size : Int) := by omega
  clear hc
  rcases hx with ⟨h1, rfl⟩ | ⟨h1, rfl, h2⟩
  · have d1 : decide ((400 : Int) < (s.size : Int)) = true := decide_eq_true (by omega)
    have d1' : decide (400 < s.size) = true := decide_eq_true (by omega)
    have n1 : (400 : Int) < (s.size : Int) := by omega
    go_enter Tryz.func3, Tryz.ntmps3
    go_wp2_with (first | (go_at_call 10; refine HC.out.mono ?_; rintro e w1 ⟨rfl, hf⟩; have HF := hid hf; clear hf))
    go_ret
    exact ⟨rfl, HF.out⟩
  · have d1 : decide ((400 : Int) < (s.size : Int)) = false := decide_eq_false (by omega)
    have d1' : decide (400 < s.size) = false := decide_eq_false (by omega)
    have n1 : ¬ (400 : Int) < (s.size : Int) := by omega
    by_cases hb0 : b < 0
    · have e1 : decide (b < 0) = true := decide_eq_true hb0
      go_enter Tryz.func3, Tryz.ntmps3
      go_wp2_with (first | (go_at_call 10; refine HC.out.mono ?_; rintro e w1 ⟨rfl, hf⟩; have HF := hid hf; clear hf))
      go_ret
      exact ⟨rfl, HF.out⟩
    · have e1 : decide (b < 0) = false := decide_eq_false hb0
      have hb2 : 2 < b := by omega
      have e2 : decide (2 < b) = true := decide_eq_true hb2
      go_enter Tryz.func3, Tryz.ntmps3
      go_wp2_with (first | (go_at_call 10; refine HC.out.mono ?_; rintro e w1 ⟨rfl, hf⟩; have HF := hid hf; clear hf))
      go_ret
      exact ⟨rfl, HF.out⟩
theorem rows_same (Z : List Int) (n ga ca gb cb : Nat) (w : World) (hn : n ≤ 1000000) (ha : rowAt w ga n Z) (hb : rowAt w gb n Z) :
    Calls Tryz.prog 12 #[.slice (some ⟨ga, 0, none⟩) n ca, .slice (some ⟨gb, 0, none⟩) n cb] w fun e w' => e = .returned (.bool true) ∧ ∃ q, w' = w.drewN q := by
  have hl : ((List.range n).map (nth Z)).length = n := by simp
  have hg : ∀ j, j < n → ((List.range n).map (nth Z)).getD j 0 = nth Z j := fun j hj => by simp [hj]
  have h := ints6_same ((List.range n).map (nth Z)) ga ca gb cb w (by rw [hl]; omega) (fun j hj => by rw [hl] at hj; rw [hg j hj]; exact ha j hj) (fun j hj => by rw [hl] at hj; rw [hg j hj]; exact hb j hj)
  rw [hl] at h
  exact h
set_option maxRecDepth 10000 in
set_option maxHeartbeats 4000000 in
theorem leveled_of (s : ByteArray) (b : Int) (w : World) (hs : s.size ≤ 400) (hb : b = 0 ∨ b = 1 ∨ b = 2) (n : Nat) (Z : List Int) (lv : Int) (hn : n ≤ 1000000)
    (h9 : Calls Tryz.prog 10 #[.string s, .int .i64 b] w fun e w' => ∃ g c, e = .returned (.tuple #[.slice (some ⟨g, 0, none⟩) n c, .int .i64 lv, .int .i64 0]) ∧ rowAt w' g n Z ∧ Fr [] w w')
    (h10 : ∀ w', Fr [] w w' → Calls Tryz.prog 11 #[.string s, .int .i64 b] w' fun e w2 => ∃ p bL cL, e = .returned (.pointer (some ⟨p, 0, none⟩)) ∧ w2.cell? ⟨p, 3, none⟩ = some (.slice (some ⟨bL, 0, none⟩) n cL) ∧ rowAt w2 bL n Z ∧ w2.cell? ⟨p, 6, none⟩ = some (.int .i64 lv) ∧ Fr [] w' w2) :
    Calls Tryz.prog 3 #[.string s, .int .i64 b] w fun e w' => e = .returned (.bool true) ∧ Fr [] w w' := by
  have H9 := hid h9
  have H10 := hid h10
  have d0 : decide ((4096 : Int) < (s.size : Int)) = false := decide_eq_false (by omega)
  have d0' : decide (4096 < s.size) = false := decide_eq_false (by omega)
  have n0 : ¬ (4096 : Int) < (s.size : Int) := by omega
  have d1 : decide ((400 : Int) < (s.size : Int)) = false := decide_eq_false (by omega)
  have d1' : decide (400 < s.size) = false := decide_eq_false (by omega)
  have n1 : ¬ (400 : Int) < (s.size : Int) := by omega
  have e1 : decide (b < 0) = false := decide_eq_false (by omega)
  have e2 : decide (2 < b) = false := decide_eq_false (by omega)
  clear h9 h10
  go_enter Tryz.func3, Tryz.ntmps3
  go_wp2_with fail
  refine H9.out.mono ?_
  rintro e w1 ⟨g, c, rfl, hr1, hf1⟩
  have HR1 := hid hr1
  have HF1 := hid hf1
  have H10b := hid (H10.out w1 hf1)
  clear hr1 hf1 H9 H10
  go_wp2_with fail
  refine H10b.out.mono ?_
  rintro e w2 ⟨p, bL, cL, rfl, c3, hr2, c6, hf2⟩
  have H11 := hid (rows_same Z n g c bL cL w2 hn (HR1.out.fr hf2 List.not_mem_nil) hr2)
  have HF2 := hid (HF1.out.trans hf2)
  clear hr2 hf2 H10b
  go_wp2_with fail
  refine H11.out.mono ?_
  rintro e w3 ⟨rfl, mm, rfl⟩
  clear H11
  go_wp2
  go_ret
  exact ⟨rfl, HF2.out.drewN _⟩
set_option maxRecDepth 10000 in
set_option maxHeartbeats 4000000 in
theorem leveled_great (s : ByteArray) (b : Int) (w : World) (hs : 4096 < s.size) : Calls Tryz.prog 3 #[.string s, .int .i64 b] w fun e w' => e = .returned (.bool true) ∧ Fr [] w w' := by
  have d0 : decide ((4096 : Int) < (s.size : Int)) = true := decide_eq_true (by omega)
  have d0' : decide (4096 < s.size) = true := decide_eq_true (by omega)
  have n0 : (4096 : Int) < (s.size : Int) := by omega
  go_enter Tryz.func3, Tryz.ntmps3
  go_wp2
  go_ret
  exact ⟨rfl, Fr.refl _ _⟩
/-- THE LAW Leveled, of any text and base. -/
theorem leveled_any (s : ByteArray) (b : Int) (w : World) (hg : Ground w) : Calls Tryz.prog 3 #[.string s, .int .i64 b] w fun e w' => e = .returned (.bool true) ∧ Fr [] w w' := by
  by_cases h0 : 4096 < s.size
  · exact leveled_great s b w h0
  by_cases h1 : 400 < s.size
  · exact leveled_bad s b 1 w (.inl ⟨h1, rfl⟩) (by omega) (levels_bad s b 1 w hg.e (check_long s b w h1))
  by_cases hb : b = 0 ∨ b = 1 ∨ b = 2
  · obtain ⟨n, hend⟩ := ends_all s
    have hn : n ≤ 400 := by have := Dec.le_pos s n; have := hend.1; omega
    have hT : ∀ w', Fr [] w w' → Lib.Utf8Tabs 1 2 w' := fun w' hf => Cls.tabs_below hg.u (hf.below (Nat.le_refl _) (fun _ hk => absurd hk List.not_mem_nil))
    rcases Nat.eq_zero_or_pos n with e | hn0
    · subst e
      have hz : s.size = 0 := by have := hend.1; simpa [Dec.pos] using this.symm
      refine leveled_of s b w (by omega) hb 0 [] (baseOf [] b) (by omega) ?_ (fun w' hf => (ref5_nil s b w' hz (hT w' hf) hb).mono ?_)
      · refine (levels_good s b w (by omega) hb (fun g l c p w' => ∃ g', g = some ⟨g', 0, none⟩ ∧ l = 0 ∧ p = baseOf [] b ∧ Fr [] w w') ((of_nil s b w hz hb).mono ?_)).mono ?_
        · rintro e w' ⟨g, rfl, hf⟩
          exact ⟨_, _, _, _, rfl, g, rfl, rfl, rfl, hf⟩
        · rintro e w' ⟨g, l, c, p, rfl, g', rfl, rfl, rfl, hf⟩
          exact ⟨g', c, rfl, fun i hi => absurd hi (Nat.not_lt_zero _), hf⟩
      · rintro e w2 ⟨p, bL, rfl, c3, c6, hf2⟩
        exact ⟨p, bL, 0, rfl, c3, fun i hi => absurd hi (Nat.not_lt_zero _), c6, hf2⟩
    · refine leveled_of s b w (by omega) hb n (levels (Rl s n) (Kl s n) (baseOf (Kl s n) b)) (baseOf (Kl s n) b) (by omega) ?_ (fun w' hf => ref5_any s b w' (by omega) (hT w' hf) n hend hn0 hb)
      refine (levels_good s b w (by omega) hb (fun g l c p w' => ∃ g', g = some ⟨g', 0, none⟩ ∧ l = n ∧ p = baseOf (Kl s n) b ∧ rowAt w' g' n (levels (Rl s n) (Kl s n) (baseOf (Kl s n) b)) ∧ Fr [] w w') ((of_any s b w (by omega) hb hg.t3 hg.t4 n hend hn0 (by omega) (Kl_in s n)).mono ?_)).mono ?_
      · rintro e w' ⟨g, rfl, hr, hf, _⟩
        exact ⟨_, _, _, _, rfl, g, rfl, rfl, rfl, hr, hf⟩
      · rintro e w' ⟨g, l, c, p, rfl, g', rfl, rfl, rfl, hr, hf⟩
        exact ⟨g', c, rfl, hr, hf⟩
  · exact leveled_bad s b 2 w (.inr ⟨by omega, rfl, by omega⟩) (by omega) (levels_bad s b 2 w hg.e (check_base s b w (by omega) (by omega) (by omega) (by omega)))
end Go.Proofs.YtnakejhohdbfdaaGreatDoor
