/- The document's own tables, as its answer lays them, and its look-ups in them. -/
import Derived.Test.YtnakejhohdbfdabDoorSearch
namespace Go.Proofs.YtnakejhohdbfdabDoor
open Go.RowKit Tabs
def rowAgg (x : Int × Int × Int) : Value := .agg #[.int .i32 x.1, .int .i32 x.2.1, .int .i64 x.2.2]
def rowCells : List (Int × Int × Int) → List Value
  | [] => []
  | x :: l => .int .i32 x.1 :: .int .i32 x.2.1 :: .int .i64 x.2.2 :: rowCells l
/-- A list of plain operations, run one behind the other. -/
def runList (P : Program) (ops : Array Oper) : List Oper → Act → World → Option (Act × World)
  | [], a, w => some (a, w)
  | o :: rest, a, w =>
    if Region.wanted o (yielded ops a.tmps) then
      match (execOp a.eval o).run P w with
      | .ok (.value v) w' => runList P ops rest (a.put o.dst v) w'
      | _ => none
    else runList P ops rest (a.put o.dst undef) w
theorem wpList_of_run {P : Program} {ops : Array Oper} {Q : Exit → Act → World → Prop} : ∀ {rest : List Oper} {a : Act} {w : World} (a' : Act) (w' : World), runList P ops rest a w = some (a', w') → Q .normal a' w' → wpList P ops Q rest a w
  | [], a, w, a', w', h, hq => by
    simp only [runList, Option.some.injEq, Prod.mk.injEq] at h
    obtain ⟨rfl, rfl⟩ := h
    exact hq
  | o :: rest, a, w, a', w', h, hq => by
    unfold runList at h
    unfold wpList
    split
    · rename_i hw
      rw [if_pos hw] at h
      refine .inl ?_
      unfold Oper.wp
      split at h
      · rename_i v w1 he
        rw [he]
        exact wpList_of_run a' w' h hq
      · cases h
    · rename_i hw
      rw [if_neg hw] at h
      exact wpList_of_run a' w' h hq
def tabAct (l : List (Int × Int × Int)) (b n : Nat) : Act := { tmps := (Value.slice (some ⟨b, 0, none⟩) n n :: l.map rowAgg ++ [Value.slice (some ⟨b, 0, none⟩) n n]).toArray, defers := [] }
def tabObj (l : List (Int × Int × Int)) : Obj := .cells (rowCells l).toArray 58
def tab0 (n : Nat) : Act := { tmps := (Value.slice none 0 0 :: List.replicate n undef ++ [undef]).toArray, defers := [] }
set_option maxRecDepth 100000 in
theorem kinds_any (w : World) :
    Calls Tryd.prog 24 #[] w fun e w' => e = .returned (.slice (some ⟨w.heap.size, 0, none⟩) 33 33) ∧ w' = w.alloc (tabObj kindTab) := by
  refine calls_of_wp Tryd.func24 rfl ?_
  refine wp_seq (wp_region_list (wpList_of_run (tab0 33) w (by kernel_rfl) ?_))
  refine wp_seq (wp_region_list (wpList_of_run (tabAct kindTab w.heap.size 33) (w.alloc (tabObj kindTab)) (by kernel_rfl) ?_))
  refine wp_ret ?_
  exact bodyPost_ret (v := Value.slice (some ⟨w.heap.size, 0, none⟩) 33 33) (by kernel_rfl) (by kernel_rfl) ⟨rfl, rfl⟩
set_option maxRecDepth 100000 in
theorem classes_any (w : World) :
    Calls Tryd.prog 25 #[] w fun e w' => e = .returned (.slice (some ⟨w.heap.size, 0, none⟩) 75 75) ∧ w' = w.alloc (tabObj classTab) := by
  refine calls_of_wp Tryd.func25 rfl ?_
  refine wp_seq (wp_region_list (wpList_of_run (tab0 75) w (by kernel_rfl) ?_))
  refine wp_seq (wp_region_list (wpList_of_run (tabAct classTab w.heap.size 75) (w.alloc (tabObj classTab)) (by kernel_rfl) ?_))
  refine wp_ret ?_
  exact bodyPost_ret (v := Value.slice (some ⟨w.heap.size, 0, none⟩) 75 75) (by kernel_rfl) (by kernel_rfl) ⟨rfl, rfl⟩

theorem rowCells_get : ∀ (l : List (Int × Int × Int)) (i : Nat), i < l.length →
    (rowCells l)[i * 3]? = some (.int .i32 (frm l i)) ∧ (rowCells l)[i * 3 + 1]? = some (.int .i32 (til l i)) ∧ (rowCells l)[i * 3 + 2]? = some (.int .i64 (wht l i))
  | [], i, h => by simp at h
  | x :: l, 0, _ => ⟨rfl, rfl, rfl⟩
  | x :: l, i + 1, h => by
    have ih := rowCells_get l i (by simpa using h)
    rw [show (i + 1) * 3 = i * 3 + 1 + 1 + 1 by omega, show i * 3 + 1 + 1 + 1 + 1 = i * 3 + 1 + 1 + 1 + 1 from rfl]
    exact ih
theorem tabObj_at (w : World) (l : List (Int × Int × Int)) : TabAt (w.alloc (tabObj l)) w.heap.size l := fun i hi => by
  obtain ⟨h0, h1, h2⟩ := rowCells_get l i hi
  have key : ∀ o, (w.alloc (tabObj l)).cell? ⟨w.heap.size, o, none⟩ = (rowCells l)[o]? := fun o => by
    show World.cell? { w with heap := w.heap.push (tabObj l) } _ = _
    simp [World.cell?, tabObj]
  exact ⟨(key _).trans h0, (key _).trans h1, (key _).trans h2⟩
theorem hit_true {l : List (Int × Int × Int)} {r : Int} {k : Nat} (h1 : frm l k ≤ r) (h2 : r ≤ til l k) : hit r (frm l k, til l k, wht l k) = true := by
  show (decide (frm l k ≤ r) && decide (r ≤ til l k)) = true
  rw [decide_eq_true h1, decide_eq_true h2]; rfl
theorem hit_false {l : List (Int × Int × Int)} {r : Int} {k : Nat} (h : r < frm l k ∨ til l k < r) : hit r (frm l k, til l k, wht l k) = false := by
  show (decide (frm l k ≤ r) && decide (r ≤ til l k)) = false
  rcases h with h | h
  · rw [decide_eq_false (by omega : ¬ frm l k ≤ r)]; rfl
  · rw [decide_eq_false (by omega : ¬ r ≤ til l k), Bool.and_false]
theorem look_out {l : List (Int × Int × Int)} {r : Int} (h : ∀ t, t < l.length → hit r (frm l t, til l t, wht l t) = false) : Tabs.look l r = 0 :=
  look_none l r fun x hx => by obtain ⟨i, hi, rfl⟩ := lt_of_mem hx; exact h i hi
theorem misses_succ {l : List (Int × Int × Int)} {r : Int} {k : Nat} (h : ∀ t, t < k → hit r (frm l t, til l t, wht l t) = false) (hk : hit r (frm l k, til l k, wht l k) = false) : ∀ t, t < k + 1 → hit r (frm l t, til l t, wht l t) = false := fun t ht => by
  rcases Nat.lt_or_eq_of_le (Nat.le_of_lt_succ ht) with h1 | h1
  · exact h t h1
  · subst h1; exact hk

set_option maxHeartbeats 1000000 in
theorem ref10_any (r : Int) (w : World) :
    Calls Tryd.prog 19 #[.int .i32 r] w fun e w' => e = .returned (.int .i64 (Tabs.look classTab r)) ∧ Below w.heap.size w w' := by
  generalize hv : Tabs.look classTab r = v
  have HV : Hid (Tabs.look classTab r = v) := hv
  clear hv
  have HT : Hid (TabAt (w.alloc (tabObj classTab)) w.heap.size classTab) := tabObj_at w classTab
  have hbel : Below w.heap.size w (w.alloc (tabObj classTab)) := (Below.refl _ _).alloc (Nat.le_refl _) _
  go_enter Tryd.func19, Tryd.ntmps19
  go_wp2_with (go_at_call 25; refine (classes_any _).mono ?_; rintro e w' ⟨rfl, rfl⟩)
  go_loop [4] (fun s4 => ∃ k : Nat, k ≤ 75 ∧ s4 = .int .i64 k ∧ Hid (∀ t, t < k → hit r (frm classTab t, til classTab t, wht classTab t) = false)) (fun s4 => 75 - (intOf s4).toNat)
  case atStart => exact ⟨0, Nat.zero_le _, rfl, hide (fun t ht => absurd ht (Nat.not_lt_zero _))⟩
  case round =>
    obtain ⟨k, hk, rfl, HM⟩ := hrel
    by_cases hlt : k < 75
    · obtain ⟨c0, c1, c2⟩ := HT.out k (by rw [len_class]; exact hlt)
      by_cases h1 : frm classTab k ≤ r
      · by_cases h2 : r ≤ til classTab k
        · have E : wht classTab k = v := (look_mem classTab (-1) r rise_class _ (mem_of_lt classTab k (by rw [len_class]; exact hlt)) (hit_true h1 h2)).symm.trans HV.out
          rw [E] at c2
          clear E
          generalize frm classTab k = z0 at c0 h1
          generalize til classTab k = z1 at c1 h2
          go_wp2
          go_ret
          exact ⟨rfl, hbel⟩
        · have HN : Hid _ := misses_succ HM.out (hit_false (k := k) (.inr (by omega)))
          generalize frm classTab k = z0 at c0 h1
          generalize til classTab k = z1 at c1 h2
          clear c2
          go_wp2
          go_round
          case rel => exact ⟨k + 1, by omega, by go_num, HN⟩
          case measure => simp [intOf]; omega
      · have HN : Hid _ := misses_succ HM.out (hit_false (k := k) (.inl (by omega)))
        have h1' : decide (frm classTab k ≤ r) = false := by simpa using h1
        generalize frm classTab k = z0 at c0 h1 h1'
        clear c1 c2
        go_wp2
        go_round
        case rel => exact ⟨k + 1, by omega, by go_num, HN⟩
        case measure => simp [intOf]; omega
    · obtain rfl : k = 75 := by omega
      have E : (0 : Int) = v := (look_out (l := classTab) (by rw [len_class]; exact HM.out)).symm.trans HV.out
      subst E
      go_wp2
      go_ret
      exact ⟨rfl, hbel⟩

set_option maxHeartbeats 1000000 in
theorem ref12_tab (r : Int) (w : World) (hns : ¬ (44032 ≤ r ∧ r ≤ 55203)) :
    Calls Tryd.prog 17 #[.int .i32 r] w fun e w' => e = .returned (.int .i64 (Tabs.look kindTab r)) ∧ Below w.heap.size w w' := by
  generalize hv : Tabs.look kindTab r = v
  have HV : Hid (Tabs.look kindTab r = v) := hv
  clear hv
  have HT : Hid (TabAt (w.alloc (tabObj kindTab)) w.heap.size kindTab) := tabObj_at w kindTab
  have hbel : Below w.heap.size w (w.alloc (tabObj kindTab)) := (Below.refl _ _).alloc (Nat.le_refl _) _
  by_cases hs1 : 44032 ≤ r
  all_goals
    first
    | (have hs2 : ¬ r ≤ 55203 := fun h => hns ⟨hs1, h⟩)
    | (have hs1' : decide (44032 ≤ r) = false := by simpa using hs1)
    clear hns
    go_enter Tryd.func17, Tryd.ntmps17
    go_wp2_with (go_at_call 24; refine (kinds_any _).mono ?_; rintro e w' ⟨rfl, rfl⟩)
    go_loop [4] (fun s4 => ∃ k : Nat, k ≤ 33 ∧ s4 = .int .i64 k ∧ Hid (∀ t, t < k → hit r (frm kindTab t, til kindTab t, wht kindTab t) = false)) (fun s4 => 33 - (intOf s4).toNat)
    case atStart => exact ⟨0, Nat.zero_le _, rfl, hide (fun t ht => absurd ht (Nat.not_lt_zero _))⟩
    case round =>
      obtain ⟨k, hk, rfl, HM⟩ := hrel
      by_cases hlt : k < 33
      · obtain ⟨c0, c1, c2⟩ := HT.out k (by rw [len_kind]; exact hlt)
        by_cases h1 : frm kindTab k ≤ r
        · by_cases h2 : r ≤ til kindTab k
          · have E : wht kindTab k = v := (look_mem kindTab (-1) r rise_kind _ (mem_of_lt kindTab k (by rw [len_kind]; exact hlt)) (hit_true h1 h2)).symm.trans HV.out
            rw [E] at c2
            clear E
            generalize frm kindTab k = z0 at c0 h1
            generalize til kindTab k = z1 at c1 h2
            go_wp2
            go_ret
            exact ⟨rfl, hbel⟩
          · have HN : Hid _ := misses_succ HM.out (hit_false (k := k) (.inr (by omega)))
            generalize frm kindTab k = z0 at c0 h1
            generalize til kindTab k = z1 at c1 h2
            clear c2
            go_wp2
            go_round
            case rel => exact ⟨k + 1, by omega, by go_num, HN⟩
            case measure => simp [intOf]; omega
        · have HN : Hid _ := misses_succ HM.out (hit_false (k := k) (.inl (by omega)))
          have h1' : decide (frm kindTab k ≤ r) = false := by simpa using h1
          generalize frm kindTab k = z0 at c0 h1 h1'
          clear c1 c2
          go_wp2
          go_round
          case rel => exact ⟨k + 1, by omega, by go_num, HN⟩
          case measure => simp [intOf]; omega
      · obtain rfl : k = 33 := by omega
        have E : (0 : Int) = v := (look_out (l := kindTab) (by rw [len_kind]; exact HM.out)).symm.trans HV.out
        subst E
        go_wp2
        go_ret
        exact ⟨rfl, hbel⟩

end Go.Proofs.YtnakejhohdbfdabDoor
