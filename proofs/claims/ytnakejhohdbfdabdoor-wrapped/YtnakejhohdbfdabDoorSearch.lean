/- sort.Search by a closure that only draws; the program's own look-ups in its tables. -/
import Derived.Test.YtnakejhohdbfdabDoorRows
import Derived.Test.YtnakejhohdbfdabDoorTabs
import Derived.WalkKit
import Derived.WalkSpells
import Derived.RegionTactic
import Derived.Deep.QuietTactic
import Derived.BigQuiet
import Derived.Shelf.Abstract
namespace Go.Proofs.YtnakejhohdbfdabDoor
open Go.RowKit Tabs
theorem hide {p : Prop} (h : p) : Hid p := h
theorem ret_int {k : IntKind} {a b : Int} (h : a = b) : Ending.returned (.int k a) = .returned (.int k b) := by rw [h]

/-- A table of rows of three cells lies in block g. -/
def TabAt (w : World) (g : Nat) (l : List (Int × Int × Int)) : Prop :=
  ∀ i, i < l.length → w.cell? ⟨g, i * 3, none⟩ = some (.int .i32 (frm l i)) ∧ w.cell? ⟨g, i * 3 + 1, none⟩ = some (.int .i32 (til l i)) ∧ w.cell? ⟨g, i * 3 + 2, none⟩ = some (.int .i64 (wht l i))
theorem TabAt.below {w w' : World} {g B : Nat} {l : List (Int × Int × Int)} (h : TabAt w g l) (hg : g < B) (hb : Below B w w') : TabAt w' g l := fun i hi =>
  ⟨(hb.cell (p := ⟨g, i * 3, none⟩) hg).trans (h i hi).1, (hb.cell (p := ⟨g, i * 3 + 1, none⟩) hg).trans (h i hi).2.1, (hb.cell (p := ⟨g, i * 3 + 2, none⟩) hg).trans (h i hi).2.2⟩
theorem TabAt.lt {w : World} {g : Nat} {l : List (Int × Int × Int)} (h : TabAt w g l) (hl : 0 < l.length) : g < w.heap.size := World.block_lt_of_cell? _ _ (h 0 hl).1
theorem below_drewN (B : Nat) (w : World) (q : Nat) : Below B w (w.drewN q) := ⟨rfl, rfl, rfl, Nat.le_refl _, fun _ _ => rfl⟩

set_option maxHeartbeats 400000 in
theorem closure36 (i : Nat) (hi : i < 35) (r z : Int) (b : Nat) (w : World) (hr : w.cell? ⟨b, 0, none⟩ = some (.int .i32 r)) (hz : w.cell? ⟨3, i * 3 + 1, none⟩ = some (.int .i32 z)) :
    Calls Tryd.prog 40 (#[.int .i64 i] ++ #[.pointer (some ⟨b, 0, none⟩)]) w fun e w' => e = .returned (.bool (decide (r ≤ z))) ∧ ∃ q, w' = w.drewN q := by
  have hi1 : (i : Int) < 35 := by omega
  go_enter Tryd.func40, Tryd.ntmps40
  go_wp2
  go_quiet (fail)
  go_wp2
  go_ret
  exact ⟨rfl, _, rfl⟩
theorem enters36 (args : Array Value) (w : World) : (callFunc 40 args).run Tryd.prog w = .ok (.enter 40 args) w := by kernel_rfl

set_option maxHeartbeats 400000 in
theorem closure37 (i : Nat) (hi : i < 31) (r z : Int) (b : Nat) (w : World) (hr : w.cell? ⟨b, 0, none⟩ = some (.int .i32 r)) (hz : w.cell? ⟨4, i * 3 + 1, none⟩ = some (.int .i32 z)) :
    Calls Tryd.prog 41 (#[.int .i64 i] ++ #[.pointer (some ⟨b, 0, none⟩)]) w fun e w' => e = .returned (.bool (decide (r ≤ z))) ∧ ∃ q, w' = w.drewN q := by
  have hi1 : (i : Int) < 31 := by omega
  go_enter Tryd.func41, Tryd.ntmps41
  go_wp2
  go_quiet (fail)
  go_wp2
  go_ret
  exact ⟨rfl, _, rfl⟩
theorem enters37 (args : Array Value) (w : World) : (callFunc 41 args).run Tryd.prog w = .ok (.enter 41 args) w := by kernel_rfl

set_option maxHeartbeats 400000 in
theorem closure32 (i : Nat) (hi : i < 33) (r z : Int) (b : Nat) (w : World) (hr : w.cell? ⟨b, 0, none⟩ = some (.int .i32 r)) (hz : w.cell? ⟨2, i * 3 + 1, none⟩ = some (.int .i32 z)) :
    Calls Tryd.prog 36 (#[.int .i64 i] ++ #[.pointer (some ⟨b, 0, none⟩)]) w fun e w' => e = .returned (.bool (decide (r ≤ z))) ∧ ∃ q, w' = w.drewN q := by
  have hi1 : (i : Int) < 33 := by omega
  go_enter Tryd.func36, Tryd.ntmps36
  go_wp2
  go_quiet (fail)
  go_wp2
  go_ret
  exact ⟨rfl, _, rfl⟩
theorem enters32 (args : Array Value) (w : World) : (callFunc 36 args).run Tryd.prog w = .ok (.enter 36 args) w := by kernel_rfl
set_option maxHeartbeats 1000000 in
theorem search_any (g : Nat) (cb : Array Value) (n : Nat) (p : Nat → Bool) (w : World) (eg : ∀ args w, (callFunc g args).run Tryd.prog w = .ok (.enter g args) w) (hsz : n < 1000000)
    (hf : ∀ (m : Nat) (i : Nat), i < n → Calls Tryd.prog g (#[.int .i64 i] ++ cb) (w.drewN m) fun e w' => e = .returned (.bool (p i)) ∧ ∃ q, w' = (w.drewN m).drewN q)
    (hmono : ∀ a b, a ≤ b → b < n → p a = true → p b = true) :
    Calls Tryd.prog 35 #[.int .i64 n, .func (.func g) #[] cb] w fun e w' => ∃ k : Nat, k ≤ n ∧ (∀ t, t < k → p t = false) ∧ (∀ t, k ≤ t → t < n → p t = true) ∧ e = .returned (.int .i64 k) ∧ ∃ q, w' = w.drewN q := by
  have HF : Hid _ := hf
  have M : Hid _ := hmono
  clear hf hmono
  go_enter Tryd.func35, Tryd.ntmps35
  go_wp2
  go_loopw [5, 6] (fun s5 s6 wr => ∃ (lo hi q : Nat), s5 = .int .i64 lo ∧ s6 = .int .i64 hi ∧ lo ≤ hi ∧ hi ≤ n ∧ wr = w.drewN q ∧
    Hid ((∀ t, t < lo → p t = false) ∧ (∀ t, hi ≤ t → t < n → p t = true))) (fun s5 s6 _ => (intOf s6 - intOf s5).toNat)
  case atStart => exact ⟨0, n, 0, rfl, rfl, Nat.zero_le _, Nat.le_refl _, rfl, hide ⟨fun t ht => absurd ht (Nat.not_lt_zero _), fun t h1 h2 => by omega⟩⟩
  case round =>
    obtain ⟨lo, hi, q, rfl, rfl, hlh, hin, rfl, I⟩ := hrel
    by_cases hlt : lo < hi
    · have hc := HF.out q ((lo + hi) / 2) (by omega)
      rw [show (((lo + hi) / 2 : Nat) : Int) = ((lo : Int) + (hi : Int)) / 2 by omega] at hc
      have hl2 : (lo + hi) / 2 < hi := by omega
      have hl3 : lo ≤ (lo + hi) / 2 := by omega
      cases hp : p ((lo + hi) / 2) <;> rw [hp] at hc
      · have HP : Hid (p ((lo + hi) / 2) = false) := hide hp
        clear hp
        go_wp2_with (go_at_fn g; refine hc.mono ?_; rintro e w' ⟨rfl, nq, rfl⟩)
        go_roundw
        case measure => simp [intOf]; omega
        case rel =>
          have I2 : (∀ t, t < (lo + hi) / 2 + 1 → p t = false) ∧ (∀ t, hi ≤ t → t < n → p t = true) := ⟨fun t ht => (by
            cases h : p t with
            | false => rfl
            | true => have := M.out t ((lo + hi) / 2) (by omega) (by omega) h; rw [HP.out] at this; cases this), I.out.2⟩
          exact ⟨(lo + hi) / 2 + 1, hi, q + nq, by rw [show ((lo : Int) + (hi : Int)) / 2 + 1 = (((lo + hi) / 2 + 1 : Nat) : Int) by omega], rfl, by omega, hin, rfl, hide I2⟩
      · have HP : Hid (p ((lo + hi) / 2) = true) := hide hp
        clear hp
        go_wp2_with (go_at_fn g; refine hc.mono ?_; rintro e w' ⟨rfl, nq, rfl⟩)
        go_roundw
        case measure => simp [intOf]; omega
        case rel =>
          have I2 : (∀ t, t < lo → p t = false) ∧ (∀ t, (lo + hi) / 2 ≤ t → t < n → p t = true) := ⟨I.out.1, fun t ht htn => M.out ((lo + hi) / 2) t ht htn HP.out⟩
          exact ⟨lo, (lo + hi) / 2, q + nq, rfl, by rw [show ((lo : Int) + (hi : Int)) / 2 = (((lo + hi) / 2 : Nat) : Int) by omega], by omega, by omega, rfl, hide I2⟩
    · obtain rfl : hi = lo := by omega
      go_wp2
      go_ret
      exact ⟨hi, hin, I.out.1, I.out.2, rfl, q, rfl⟩

/-- What the search hands back, at the table of block 3. -/
theorem found28 (r : Int) (b : Nat) (w : World) (ht : TabAt w 3 lowTab) (hr : w.cell? ⟨b, 0, none⟩ = some (.int .i32 r)) :
    Calls Tryd.prog 35 #[.int .i64 35, .func (.func 40) #[] #[.pointer (some ⟨b, 0, none⟩)]] w fun e w' => ∃ k : Nat, k ≤ 35 ∧ (∀ t, t < k → decide (r ≤ til lowTab t) = false) ∧ (∀ t, k ≤ t → t < 35 → decide (r ≤ til lowTab t) = true) ∧ e = .returned (.int .i64 k) ∧ ∃ q, w' = w.drewN q :=
  search_any 40 #[.pointer (some ⟨b, 0, none⟩)] 35 (fun i => decide (r ≤ til lowTab i)) w enters36 (by decide)
    (fun m i hi => closure36 i hi r (til lowTab i) b (w.drewN m) (by simpa using hr) (by simpa using (ht i (by rw [len_low]; exact hi)).2.1))
    (fun x y hxy hy h => til_mono lowTab (-1) rise_low r x y hxy (by rw [len_low]; exact hy) h)

/-- What the search hands back, at the table of block 4. -/
theorem found29 (r : Int) (b : Nat) (w : World) (ht : TabAt w 4 highTab) (hr : w.cell? ⟨b, 0, none⟩ = some (.int .i32 r)) :
    Calls Tryd.prog 35 #[.int .i64 31, .func (.func 41) #[] #[.pointer (some ⟨b, 0, none⟩)]] w fun e w' => ∃ k : Nat, k ≤ 31 ∧ (∀ t, t < k → decide (r ≤ til highTab t) = false) ∧ (∀ t, k ≤ t → t < 31 → decide (r ≤ til highTab t) = true) ∧ e = .returned (.int .i64 k) ∧ ∃ q, w' = w.drewN q :=
  search_any 41 #[.pointer (some ⟨b, 0, none⟩)] 31 (fun i => decide (r ≤ til highTab i)) w enters37 (by decide)
    (fun m i hi => closure37 i hi r (til highTab i) b (w.drewN m) (by simpa using hr) (by simpa using (ht i (by rw [len_high]; exact hi)).2.1))
    (fun x y hxy hy h => til_mono highTab (-1) rise_high r x y hxy (by rw [len_high]; exact hy) h)

/-- What the search hands back, at the table of block 0. -/
theorem found23 (r : Int) (b : Nat) (w : World) (ht : TabAt w 2 kindTab) (hr : w.cell? ⟨b, 0, none⟩ = some (.int .i32 r)) :
    Calls Tryd.prog 35 #[.int .i64 33, .func (.func 36) #[] #[.pointer (some ⟨b, 0, none⟩)]] w fun e w' => ∃ k : Nat, k ≤ 33 ∧ (∀ t, t < k → decide (r ≤ til kindTab t) = false) ∧ (∀ t, k ≤ t → t < 33 → decide (r ≤ til kindTab t) = true) ∧ e = .returned (.int .i64 k) ∧ ∃ q, w' = w.drewN q :=
  search_any 36 #[.pointer (some ⟨b, 0, none⟩)] 33 (fun i => decide (r ≤ til kindTab i)) w enters32 (by decide)
    (fun m i hi => closure32 i hi r (til kindTab i) b (w.drewN m) (by simpa using hr) (by simpa using (ht i (by rw [len_kind]; exact hi)).2.1))
    (fun x y hxy hy h => til_mono kindTab (-1) rise_kind r x y hxy (by rw [len_kind]; exact hy) h)

set_option maxHeartbeats 1000000 in
theorem fn28_any (r : Int) (w : World) (ht : TabAt w 3 lowTab) :
    Calls Tryd.prog 32 #[.int .i32 r] w fun e w' => e = .returned (.int .i64 (Tabs.look lowTab r)) ∧ Below w.heap.size w w' := by
  have hg := ht.lt (by rw [len_low]; decide)
  have hb1 : Below w.heap.size w (w.alloc (.cells #[.int .i32 r] 21)) := (Below.refl _ _).alloc (Nat.le_refl _) _
  have hs := found28 r w.heap.size (w.alloc (.cells #[.int .i32 r] 21)) (ht.below hg hb1) (by simp)
  have HT : Hid (TabAt w 3 lowTab) := ht
  clear ht
  generalize hv : Tabs.look lowTab r = v
  have HV : Hid (Tabs.look lowTab r = v) := hv
  clear hv
  go_enter Tryd.func32, Tryd.ntmps32
  go_wp2_with (go_at_call 35; refine hs.mono ?_; rintro e w' ⟨k, hk, hlo, hhi, rfl, q, rfl⟩)
  have LO : Hid _ := hlo
  clear hs hlo
  by_cases hkn : k < 35
  · obtain ⟨c0, c1, c2⟩ := (HT.out.below hg hb1) k (by rw [len_low]; exact hkn)
    clear c1
    have hr2 := hhi k (Nat.le_refl _) hkn
    clear hhi hb1
    have hkn1 : (k : Int) < 35 := by omega
    have hd : decide ((k : Int) < 35) = true := by simpa using hkn1
    by_cases hfr : frm lowTab k ≤ r
    · have E : wht lowTab k = v := (look_yes lowTab (-1) rise_low r k (by rw [len_low]; exact hkn) hfr hr2).symm.trans HV.out
      rw [E] at c2
      clear E
      generalize frm lowTab k = z at c0 hfr
      clear hr2
      go_quiet (fail)
      go_wp2
      go_ret
      exact ⟨rfl, ((Below.refl _ _).alloc (Nat.le_refl _) _).trans (below_drewN _ _ _)⟩
    · have E : (0 : Int) = v := (look_no lowTab (-1) rise_low r k LO.out (fun _ => by omega)).symm.trans HV.out
      have hfr2 : decide (frm lowTab k ≤ r) = false := by simpa using hfr
      subst E
      generalize frm lowTab k = z at c0 hfr hfr2
      clear hr2
      go_quiet (fail)
      go_wp2
      go_ret
      exact ⟨rfl, ((Below.refl _ _).alloc (Nat.le_refl _) _).trans (below_drewN _ _ _)⟩
  · have E : (0 : Int) = v := (look_no lowTab (-1) rise_low r k LO.out (fun h => by rw [len_low] at h; omega)).symm.trans HV.out
    subst E
    have hkn1 : ¬ (k : Int) < 35 := by omega
    have hd : decide ((k : Int) < 35) = false := by simpa using hkn1
    clear hhi hb1
    go_quiet (fail)
    go_wp2
    go_ret
    exact ⟨rfl, ((Below.refl _ _).alloc (Nat.le_refl _) _).trans (below_drewN _ _ _)⟩

set_option maxHeartbeats 1000000 in
theorem fn29_any (r : Int) (w : World) (ht : TabAt w 4 highTab) :
    Calls Tryd.prog 33 #[.int .i32 r] w fun e w' => e = .returned (.int .i64 (Tabs.look highTab r)) ∧ Below w.heap.size w w' := by
  have hg := ht.lt (by rw [len_high]; decide)
  have hb1 : Below w.heap.size w (w.alloc (.cells #[.int .i32 r] 21)) := (Below.refl _ _).alloc (Nat.le_refl _) _
  have hs := found29 r w.heap.size (w.alloc (.cells #[.int .i32 r] 21)) (ht.below hg hb1) (by simp)
  have HT : Hid (TabAt w 4 highTab) := ht
  clear ht
  generalize hv : Tabs.look highTab r = v
  have HV : Hid (Tabs.look highTab r = v) := hv
  clear hv
  go_enter Tryd.func33, Tryd.ntmps33
  go_wp2_with (go_at_call 35; refine hs.mono ?_; rintro e w' ⟨k, hk, hlo, hhi, rfl, q, rfl⟩)
  have LO : Hid _ := hlo
  clear hs hlo
  by_cases hkn : k < 31
  · obtain ⟨c0, c1, c2⟩ := (HT.out.below hg hb1) k (by rw [len_high]; exact hkn)
    clear c1
    have hr2 := hhi k (Nat.le_refl _) hkn
    clear hhi hb1
    have hkn1 : (k : Int) < 31 := by omega
    have hd : decide ((k : Int) < 31) = true := by simpa using hkn1
    by_cases hfr : frm highTab k ≤ r
    · have E : wht highTab k = v := (look_yes highTab (-1) rise_high r k (by rw [len_high]; exact hkn) hfr hr2).symm.trans HV.out
      rw [E] at c2
      clear E
      generalize frm highTab k = z at c0 hfr
      clear hr2
      go_quiet (fail)
      go_wp2
      go_ret
      exact ⟨rfl, ((Below.refl _ _).alloc (Nat.le_refl _) _).trans (below_drewN _ _ _)⟩
    · have E : (0 : Int) = v := (look_no highTab (-1) rise_high r k LO.out (fun _ => by omega)).symm.trans HV.out
      have hfr2 : decide (frm highTab k ≤ r) = false := by simpa using hfr
      subst E
      generalize frm highTab k = z at c0 hfr hfr2
      clear hr2
      go_quiet (fail)
      go_wp2
      go_ret
      exact ⟨rfl, ((Below.refl _ _).alloc (Nat.le_refl _) _).trans (below_drewN _ _ _)⟩
  · have E : (0 : Int) = v := (look_no highTab (-1) rise_high r k LO.out (fun h => by rw [len_high] at h; omega)).symm.trans HV.out
    subst E
    have hkn1 : ¬ (k : Int) < 31 := by omega
    have hd : decide ((k : Int) < 31) = false := by simpa using hkn1
    clear hhi hb1
    go_quiet (fail)
    go_wp2
    go_ret
    exact ⟨rfl, ((Below.refl _ _).alloc (Nat.le_refl _) _).trans (below_drewN _ _ _)⟩
end Go.Proofs.YtnakejhohdbfdabDoor
