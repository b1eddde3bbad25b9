/- ClassOf and KindOf, the program's and the document's; the law Known out of them. -/
import Derived.Test.YtnakejhohdbfdabDoorRef
namespace Go.Proofs.YtnakejhohdbfdabDoor
open Go.RowKit Tabs

theorem fn22_8234 (w : World) : Calls Tryd.prog 28 #[.int .i32 8234] w fun e w' => e = .returned (.int .i64 14) ∧ w' = w := by
  go_enter Tryd.func28, Tryd.ntmps28
  go_wp2
  go_ret
  exact ⟨rfl, rfl⟩

theorem fn22_8235 (w : World) : Calls Tryd.prog 28 #[.int .i32 8235] w fun e w' => e = .returned (.int .i64 16) ∧ w' = w := by
  go_enter Tryd.func28, Tryd.ntmps28
  go_wp2
  go_ret
  exact ⟨rfl, rfl⟩

theorem fn22_8236 (w : World) : Calls Tryd.prog 28 #[.int .i32 8236] w fun e w' => e = .returned (.int .i64 18) ∧ w' = w := by
  go_enter Tryd.func28, Tryd.ntmps28
  go_wp2
  go_ret
  exact ⟨rfl, rfl⟩

theorem fn22_8237 (w : World) : Calls Tryd.prog 28 #[.int .i32 8237] w fun e w' => e = .returned (.int .i64 15) ∧ w' = w := by
  go_enter Tryd.func28, Tryd.ntmps28
  go_wp2
  go_ret
  exact ⟨rfl, rfl⟩

theorem fn22_8238 (w : World) : Calls Tryd.prog 28 #[.int .i32 8238] w fun e w' => e = .returned (.int .i64 17) ∧ w' = w := by
  go_enter Tryd.func28, Tryd.ntmps28
  go_wp2
  go_ret
  exact ⟨rfl, rfl⟩

theorem fn22_8294 (w : World) : Calls Tryd.prog 28 #[.int .i32 8294] w fun e w' => e = .returned (.int .i64 19) ∧ w' = w := by
  go_enter Tryd.func28, Tryd.ntmps28
  go_wp2
  go_ret
  exact ⟨rfl, rfl⟩

theorem fn22_8295 (w : World) : Calls Tryd.prog 28 #[.int .i32 8295] w fun e w' => e = .returned (.int .i64 20) ∧ w' = w := by
  go_enter Tryd.func28, Tryd.ntmps28
  go_wp2
  go_ret
  exact ⟨rfl, rfl⟩

theorem fn22_8296 (w : World) : Calls Tryd.prog 28 #[.int .i32 8296] w fun e w' => e = .returned (.int .i64 21) ∧ w' = w := by
  go_enter Tryd.func28, Tryd.ntmps28
  go_wp2
  go_ret
  exact ⟨rfl, rfl⟩

theorem fn22_8297 (w : World) : Calls Tryd.prog 28 #[.int .i32 8297] w fun e w' => e = .returned (.int .i64 22) ∧ w' = w := by
  go_enter Tryd.func28, Tryd.ntmps28
  go_wp2
  go_ret
  exact ⟨rfl, rfl⟩

set_option maxHeartbeats 1000000 in
theorem fn22_low (r : Int) (w : World) (ht : TabAt w 3 lowTab) (hl : r < 256) :
    Calls Tryd.prog 28 #[.int .i32 r] w fun e w' => e = .returned (.int .i64 (Tabs.look lowTab r)) ∧ Below w.heap.size w w' := by
  have hc := fn28_any r w ht
  clear ht
  generalize Tabs.look lowTab r = v at hc ⊢
  have n8234 : (r == 8234) = false := beq_eq_false_iff_ne.2 (by omega)
  have n8235 : (r == 8235) = false := beq_eq_false_iff_ne.2 (by omega)
  have n8236 : (r == 8236) = false := beq_eq_false_iff_ne.2 (by omega)
  have n8237 : (r == 8237) = false := beq_eq_false_iff_ne.2 (by omega)
  have n8238 : (r == 8238) = false := beq_eq_false_iff_ne.2 (by omega)
  have n8294 : (r == 8294) = false := beq_eq_false_iff_ne.2 (by omega)
  have n8295 : (r == 8295) = false := beq_eq_false_iff_ne.2 (by omega)
  have n8296 : (r == 8296) = false := beq_eq_false_iff_ne.2 (by omega)
  have n8297 : (r == 8297) = false := beq_eq_false_iff_ne.2 (by omega)
  go_enter Tryd.func28, Tryd.ntmps28
  go_wp2_with (go_at_call 32; refine hc.mono ?_; rintro e w' ⟨rfl, hb⟩)
  go_ret
  exact ⟨rfl, hb⟩
set_option maxHeartbeats 1000000 in
theorem fn22_high (r : Int) (w : World) (ht : TabAt w 4 highTab) (hl : 256 ≤ r) (h9 : ∀ x ∈ nineTab, r ≠ x.1) :
    Calls Tryd.prog 28 #[.int .i32 r] w fun e w' => e = .returned (.int .i64 (Tabs.look highTab r)) ∧ Below w.heap.size w w' := by
  have hc := fn29_any r w ht
  clear ht
  generalize Tabs.look highTab r = v at hc ⊢
  have n8234 : (r == 8234) = false := beq_eq_false_iff_ne.2 (h9 (8234, 8234, 14) (by decide))
  have n8235 : (r == 8235) = false := beq_eq_false_iff_ne.2 (h9 (8235, 8235, 16) (by decide))
  have n8236 : (r == 8236) = false := beq_eq_false_iff_ne.2 (h9 (8236, 8236, 18) (by decide))
  have n8237 : (r == 8237) = false := beq_eq_false_iff_ne.2 (h9 (8237, 8237, 15) (by decide))
  have n8238 : (r == 8238) = false := beq_eq_false_iff_ne.2 (h9 (8238, 8238, 17) (by decide))
  have n8294 : (r == 8294) = false := beq_eq_false_iff_ne.2 (h9 (8294, 8294, 19) (by decide))
  have n8295 : (r == 8295) = false := beq_eq_false_iff_ne.2 (h9 (8295, 8295, 20) (by decide))
  have n8296 : (r == 8296) = false := beq_eq_false_iff_ne.2 (h9 (8296, 8296, 21) (by decide))
  have n8297 : (r == 8297) = false := beq_eq_false_iff_ne.2 (h9 (8297, 8297, 22) (by decide))
  clear h9
  go_enter Tryd.func28, Tryd.ntmps28
  go_wp2_with (go_at_call 33; refine hc.mono ?_; rintro e w' ⟨rfl, hb⟩)
  go_ret
  exact ⟨rfl, hb⟩
theorem fn22_any (r : Int) (w : World) (h3 : TabAt w 3 lowTab) (h4 : TabAt w 4 highTab) :
    Calls Tryd.prog 28 #[.int .i32 r] w fun e w' => e = .returned (.int .i64 (Tabs.look classTab r)) ∧ Below w.heap.size w w' := by
  by_cases hl : r < 256
  · rw [class_low r hl]; exact fn22_low r w h3 hl
  · by_cases h9 : ∀ x ∈ nineTab, r ≠ x.1
    · rw [class_high r (by omega) h9]; exact fn22_high r w h4 (by omega) h9
    · have hex : ∃ x ∈ nineTab, r = x.1 := by
        refine Classical.byContradiction fun h => h9 fun x hx e => h ⟨x, hx, e⟩
      obtain ⟨x, hx, rfl⟩ := hex
      simp only [nineTab, List.mem_cons, List.not_mem_nil, or_false] at hx
      rcases hx with rfl | rfl | rfl | rfl | rfl | rfl | rfl | rfl | rfl
      · rw [class_nine 8234 14 (by decide)]; exact (fn22_8234 w).mono fun e w' h => ⟨h.1, h.2 ▸ Below.refl _ _⟩
      · rw [class_nine 8235 16 (by decide)]; exact (fn22_8235 w).mono fun e w' h => ⟨h.1, h.2 ▸ Below.refl _ _⟩
      · rw [class_nine 8236 18 (by decide)]; exact (fn22_8236 w).mono fun e w' h => ⟨h.1, h.2 ▸ Below.refl _ _⟩
      · rw [class_nine 8237 15 (by decide)]; exact (fn22_8237 w).mono fun e w' h => ⟨h.1, h.2 ▸ Below.refl _ _⟩
      · rw [class_nine 8238 17 (by decide)]; exact (fn22_8238 w).mono fun e w' h => ⟨h.1, h.2 ▸ Below.refl _ _⟩
      · rw [class_nine 8294 19 (by decide)]; exact (fn22_8294 w).mono fun e w' h => ⟨h.1, h.2 ▸ Below.refl _ _⟩
      · rw [class_nine 8295 20 (by decide)]; exact (fn22_8295 w).mono fun e w' h => ⟨h.1, h.2 ▸ Below.refl _ _⟩
      · rw [class_nine 8296 21 (by decide)]; exact (fn22_8296 w).mono fun e w' h => ⟨h.1, h.2 ▸ Below.refl _ _⟩
      · rw [class_nine 8297 22 (by decide)]; exact (fn22_8297 w).mono fun e w' h => ⟨h.1, h.2 ▸ Below.refl _ _⟩

/-- A syllable's kind. -/
def sylB (r : Int) : Bool := decide ((r - 44032) % 28 = 0)
theorem syl_yes {r : Int} (h : sylB r = true) : ((r - 44032) % 28 == 0) = true := by simpa [sylB] using h
theorem syl_no {r : Int} (h : sylB r = false) : ((r - 44032) % 28 == 0) = false := by simpa [sylB] using h
theorem kind_yes {r : Int} (h1 : 44032 ≤ r) (h2 : r ≤ 55203) (h : sylB r = true) : kindOf r = 12 := by
  unfold kindOf; rw [if_pos ⟨h1, h2⟩, if_pos (by simpa [sylB] using h)]
theorem kind_no {r : Int} (h1 : 44032 ≤ r) (h2 : r ≤ 55203) (h : sylB r = false) : kindOf r = 13 := by
  unfold kindOf; rw [if_pos ⟨h1, h2⟩, if_neg (by simpa [sylB] using h)]
theorem kind_tab {r : Int} (h : ¬ (44032 ≤ r ∧ r ≤ 55203)) : kindOf r = Tabs.look kindTab r := by
  unfold kindOf; rw [if_neg h]

set_option maxHeartbeats 400000 in
theorem fn30_any (r : Int) (w : World) (h1 : 44032 ≤ r) (h2 : r ≤ 55203) :
    Calls Tryd.prog 34 #[.int .i32 r] w fun e w' => e = .returned (.int .i64 (kindOf r)) ∧ w' = w := by
  cases hs : sylB r
  · rw [kind_no h1 h2 hs]
    have hq := syl_no hs
    clear hs
    go_enter Tryd.func34, Tryd.ntmps34
    go_wp2
    go_ret
    exact ⟨rfl, rfl⟩
  · rw [kind_yes h1 h2 hs]
    have hq := syl_yes hs
    clear hs
    go_enter Tryd.func34, Tryd.ntmps34
    go_wp2
    go_ret
    exact ⟨rfl, rfl⟩
set_option maxHeartbeats 400000 in
theorem ref12_syl (r : Int) (w : World) (h1 : 44032 ≤ r) (h2 : r ≤ 55203) :
    Calls Tryd.prog 17 #[.int .i32 r] w fun e w' => e = .returned (.int .i64 (kindOf r)) ∧ w' = w := by
  cases hs : sylB r
  · rw [kind_no h1 h2 hs]
    have hq := syl_no hs
    clear hs
    go_enter Tryd.func17, Tryd.ntmps17
    go_wp2
    go_ret
    exact ⟨rfl, rfl⟩
  · rw [kind_yes h1 h2 hs]
    have hq := syl_yes hs
    clear hs
    go_enter Tryd.func17, Tryd.ntmps17
    go_wp2
    go_ret
    exact ⟨rfl, rfl⟩
theorem ref12_any (r : Int) (w : World) :
    Calls Tryd.prog 17 #[.int .i32 r] w fun e w' => e = .returned (.int .i64 (kindOf r)) ∧ Below w.heap.size w w' := by
  by_cases h : 44032 ≤ r ∧ r ≤ 55203
  · exact (ref12_syl r w h.1 h.2).mono fun e w' h => ⟨h.1, h.2 ▸ Below.refl _ _⟩
  · rw [kind_tab h]; exact ref12_tab r w h

set_option maxHeartbeats 400000 in
theorem fn23_syl (r : Int) (w : World) (h1 : 44032 ≤ r) (h2 : r ≤ 55203) :
    Calls Tryd.prog 29 #[.int .i32 r] w fun e w' => e = .returned (.int .i64 (kindOf r)) ∧ Below w.heap.size w w' := by
  have hc := fun w => fn30_any r w h1 h2
  generalize kindOf r = v at hc ⊢
  go_enter Tryd.func29, Tryd.ntmps29
  go_wp2_with (go_at_call 34; refine (hc _).mono ?_; rintro e w' ⟨rfl, rfl⟩)
  go_ret
  exact ⟨rfl, (Below.refl _ _).alloc (Nat.le_refl _) _⟩

set_option maxHeartbeats 1000000 in
theorem fn23_tab (r : Int) (w : World) (ht : TabAt w 2 kindTab) (hns : ¬ (44032 ≤ r ∧ r ≤ 55203)) :
    Calls Tryd.prog 29 #[.int .i32 r] w fun e w' => e = .returned (.int .i64 (Tabs.look kindTab r)) ∧ Below w.heap.size w w' := by
  have hg := ht.lt (by rw [len_kind]; decide)
  have hb1 : Below w.heap.size w (w.alloc (.cells #[.int .i32 r] 21)) := (Below.refl _ _).alloc (Nat.le_refl _) _
  have hs := found23 r w.heap.size (w.alloc (.cells #[.int .i32 r] 21)) (ht.below hg hb1) (by simp)
  have HT : Hid (TabAt w 2 kindTab) := ht
  clear ht
  generalize hv : Tabs.look kindTab r = v
  have HV : Hid (Tabs.look kindTab r = v) := hv
  clear hv
  by_cases hs1 : 44032 ≤ r
  all_goals
    first
    | (have hs2 : ¬ r ≤ 55203 := fun h => hns ⟨hs1, h⟩)
    | (have hs1' : decide (44032 ≤ r) = false := by simpa using hs1)
    clear hns
    go_enter Tryd.func29, Tryd.ntmps29
    go_wp2_with (go_at_call 35; refine hs.mono ?_; rintro e w' ⟨k, hk, hlo, hhi, rfl, q, rfl⟩)
    have LO : Hid _ := hlo
    clear hs hlo
    by_cases hkn : k < 33
    · obtain ⟨c0, c1, c2⟩ := (HT.out.below hg hb1) k (by rw [len_kind]; exact hkn)
      clear c1
      have hr2 := hhi k (Nat.le_refl _) hkn
      clear hhi hb1
      have hkn1 : (k : Int) < 33 := by omega
      have hd : decide ((k : Int) < 33) = true := by simpa using hkn1
      by_cases hfr : frm kindTab k ≤ r
      · have E : wht kindTab k = v := (look_yes kindTab (-1) rise_kind r k (by rw [len_kind]; exact hkn) hfr hr2).symm.trans HV.out
        rw [E] at c2
        clear E
        generalize frm kindTab k = z at c0 hfr
        clear hr2
        go_quiet (fail)
        go_wp2
        go_ret
        exact ⟨rfl, ((Below.refl _ _).alloc (Nat.le_refl _) _).trans (below_drewN _ _ _)⟩
      · have E : (0 : Int) = v := (look_no kindTab (-1) rise_kind r k LO.out (fun _ => by omega)).symm.trans HV.out
        have hfr2 : decide (frm kindTab k ≤ r) = false := by simpa using hfr
        subst E
        generalize frm kindTab k = z at c0 hfr hfr2
        clear hr2
        go_quiet (fail)
        go_wp2
        go_ret
        exact ⟨rfl, ((Below.refl _ _).alloc (Nat.le_refl _) _).trans (below_drewN _ _ _)⟩
    · have E : (0 : Int) = v := (look_no kindTab (-1) rise_kind r k LO.out (fun h => by rw [len_kind] at h; omega)).symm.trans HV.out
      subst E
      have hkn1 : ¬ (k : Int) < 33 := by omega
      have hd : decide ((k : Int) < 33) = false := by simpa using hkn1
      clear hhi hb1
      go_quiet (fail)
      go_wp2
      go_ret
      exact ⟨rfl, ((Below.refl _ _).alloc (Nat.le_refl _) _).trans (below_drewN _ _ _)⟩

theorem fn23_any (r : Int) (w : World) (ht : TabAt w 2 kindTab) :
    Calls Tryd.prog 29 #[.int .i32 r] w fun e w' => e = .returned (.int .i64 (kindOf r)) ∧ Below w.heap.size w w' := by
  by_cases h : 44032 ≤ r ∧ r ≤ 55203
  · exact fn23_syl r w h.1 h.2
  · rw [kind_tab h]; exact fn23_tab r w ht h
end Go.Proofs.YtnakejhohdbfdabDoor
