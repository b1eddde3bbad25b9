/- The document's two looks back, walked. -/
import Derived.Test.YtnakejhohdbfdabDoorKinWalk
namespace Go.Proofs.YtnakejhohdbfdabDoor
open Go.RowKit Kin
theorem hidf {p : Prop} (h : p) : Hid p := h

theorem par (c : Nat) : ((c : Int) % 2 == 1) = (c % 2 == 1) := by
  rw [Bool.eq_iff_iff]; simp; omega
theorem pref_succ (f : Nat → Int) (k : Nat) : pref f (k + 1) = f k :: pref f k := rfl

set_option maxHeartbeats 2000000 in
set_option maxRecDepth 100000 in
theorem join_pict (f : Nat → Int) (g n cap m : Nat) (w : World) (hm : m + 1 < n) (hn : n ≤ 1000000) (hc : ∀ j, j < n → w.cell? ⟨g, j, none⟩ = some (.int .i64 (f j))) (ha : f m = 5) (hb : f (m + 1) = 14) :
    Calls Tryd.prog 18 #[.slice (some ⟨g, 0, none⟩) n cap, .int .i64 ((m : Int) + 1)] w fun e w' => e = .returned (.bool (pictBack (pref f m))) ∧ w' = w := by
  have hm1 : (m : Int) + 1 < (n : Int) := by omega
  have ca := hc m (by omega)
  have cb := hc (m + 1) hm
  rw [ha] at ca
  rw [hb] at cb
  have HC := hidf hc
  clear hc ha hb
  generalize hv : pictBack (pref f m) = v
  have HV := hidf hv
  clear hv
  go_enter Tryd.func18, Tryd.ntmps18
  go_wp2
  go_loop [8] (fun s8 => ∃ q : Nat, q ≤ m ∧ s8 = .int .i64 ((q : Int) - 1) ∧ Hid (pictBack (pref f q) = v)) (fun s8 => (intOf s8 + 1).toNat)
  case atStart => exact ⟨m, Nat.le_refl _, by go_num, HV⟩
  case round =>
    obtain ⟨q, hq, rfl, HQ⟩ := hrel
    cases q with
    | zero =>
      have E : v = false := HQ.out.symm
      subst E
      go_wp2
      go_ret
      exact ⟨rfl, rfl⟩
    | succ r =>
      have hr := HC.out r (by omega)
      have HQ2 : Hid ((if f r == 4 then pictBack (pref f r) else f r == 14) = v) := HQ.out
      have hrn : (r : Int) < (n : Int) := by omega
      generalize f r = x at hr HQ2
      rw [show (((r + 1 : Nat) : Int) - 1) = (r : Int) by omega]
      by_cases h4 : x = 4
      · subst h4
        go_wp2
        go_round
        case rel => exact ⟨r, by omega, by go_num, HQ2⟩
        case measure => simp [intOf]
      · have h4b : (x == 4) = false := beq_eq_false_iff_ne.2 h4
        have E : (x == 14) = v := by have := HQ2.out; rw [h4b] at this; exact this
        subst E
        go_wp2
        go_ret
        exact ⟨rfl, rfl⟩

set_option maxHeartbeats 2000000 in
set_option maxRecDepth 100000 in
theorem join_flags (f : Nat → Int) (g n cap m : Nat) (w : World) (hm : m + 1 < n) (hn : n ≤ 1000000) (hc : ∀ j, j < n → w.cell? ⟨g, j, none⟩ = some (.int .i64 (f j))) (ha : f m = 6) (hb : f (m + 1) = 6) :
    Calls Tryd.prog 18 #[.slice (some ⟨g, 0, none⟩) n cap, .int .i64 ((m : Int) + 1)] w fun e w' => e = .returned (.bool (flags (pref f (m + 1)) % 2 == 1)) ∧ w' = w := by
  have hm1 : (m : Int) + 1 < (n : Int) := by omega
  have ca := hc m (by omega)
  have cb := hc (m + 1) hm
  rw [ha] at ca
  rw [hb] at cb
  have HC := hidf hc
  clear hc ha hb
  generalize hv : flags (pref f (m + 1)) = v
  have HV := hidf hv
  clear hv
  go_enter Tryd.func18, Tryd.ntmps18
  go_wp2
  go_loop [9, 10] (fun s9 s10 => ∃ c q : Nat, c + q ≤ m + 1 ∧ s9 = .int .i64 c ∧ s10 = .int .i64 ((q : Int) - 1) ∧ Hid (c + flags (pref f q) = v)) (fun _ s10 => (intOf s10 + 1).toNat)
  case atStart => exact ⟨0, m + 1, by omega, rfl, by go_num, hidf (by rw [Nat.zero_add]; exact HV.out)⟩
  case round =>
    obtain ⟨c, q, hq, rfl, rfl, HQ⟩ := hrel
    cases q with
    | zero =>
      have E : c = v := HQ.out
      subst E
      go_wp2
      go_ret
      refine ⟨retB ?_, rfl⟩
      exact par c
    | succ r =>
      have hr := HC.out r (by omega)
      have HQ2 : Hid (c + (if f r == 6 then flags (pref f r) + 1 else 0) = v) := HQ.out
      have hrn : (r : Int) < (n : Int) := by omega
      generalize f r = x at hr HQ2
      rw [show (((r + 1 : Nat) : Int) - 1) = (r : Int) by omega]
      by_cases h6 : x = 6
      · subst h6
        go_wp2
        go_round
        case rel => exact ⟨c + 1, r, by omega, by go_num, by go_num, hidf (by have : c + (flags (pref f r) + 1) = v := HQ2.out; omega)⟩
        case measure => simp [intOf]
      · have h6b : (x == 6) = false := beq_eq_false_iff_ne.2 h6
        have E : c = v := by have := HQ2.out; rw [h6b] at this; exact this
        subst E
        go_wp2
        go_ret
        refine ⟨retB ?_, rfl⟩
        exact par c
end Go.Proofs.YtnakejhohdbfdabDoor
