import Derived.Test.YtnakejhohdbfdabGreatDoorKQcI
import Derived.Test.YtnakejhohdbfdabGreatDoorSpA
import Derived.Test.YtnakejhohdbfdabGreatDoorKQdG
namespace Go.Proofs.YtnakejhohdbfdabGreatDoor
open Go.RowKit Lev Lay Bnd

abbrev opV (d : Int) (ext : Bool) (a x : Int) (bk : Bool) (t : ByteArray) : Value := .agg #[.int .i64 d, .bool ext, .int .i64 a, .int .i64 x, .bool bk, .string t]
theorem deed_step (d a x : Int) (ext bk : Bool) (t : ByteArray) (w : World) (hd : d = 0 ∨ d = 1 ∨ d = 2 ∨ d = 3 ∨ d = 4 ∨ d = 5) :
    Calls Tryz.prog 165 #[opV d ext a x bk t] w fun e w' => e = .returned (.iface 345 (.int .i64 d)) ∧ Fr [] w w' := by
  rcases hd with rfl | rfl | rfl | rfl | rfl | rfl
  all_goals (
    go_enter Tryz.func165, Tryz.ntmps165
    go_wp2
    go_ret
    exact ⟨rfl, (Fr.refl [] w).alloc _⟩)
theorem deed_cross (d a x : Int) (ext bk : Bool) (t : ByteArray) (w : World) (hd : d = 6 ∨ d = 7) :
    Calls Tryz.prog 165 #[opV d ext a x bk t] w fun e w' => e = .returned (.iface 346 (.int .i64 d)) ∧ Fr [] w w' := by
  rcases hd with rfl | rfl
  all_goals (
    go_enter Tryz.func165, Tryz.ntmps165
    go_wp2
    go_ret
    exact ⟨rfl, (Fr.refl [] w).alloc _⟩)
theorem deed_click (a x : Int) (ext bk : Bool) (t : ByteArray) (w : World) :
    Calls Tryz.prog 165 #[opV 8 ext a x bk t] w fun e w' => e = .returned (.iface 348 (.agg #[.int .i64 a, .int .i64 x])) ∧ Fr [] w w' := by
  go_enter Tryz.func165, Tryz.ntmps165
  go_wp2
  go_ret
  exact ⟨rfl, (Fr.refl [] w).alloc _⟩
theorem deed_jump (a x : Int) (ext bk : Bool) (t : ByteArray) (w : World) :
    Calls Tryz.prog 165 #[opV 9 ext a x bk t] w fun e w' => e = .returned (.iface 349 (.agg #[.int .i64 a, .bool bk])) ∧ Fr [] w w' := by
  go_enter Tryz.func165, Tryz.ntmps165
  go_wp2
  go_ret
  exact ⟨rfl, (Fr.refl [] w).alloc _⟩
theorem deed_none (d a x : Int) (ext bk : Bool) (t : ByteArray) (w : World) (hd : d < 0 ∨ 9 < d) :
    Calls Tryz.prog 165 #[opV d ext a x bk t] w fun e w' => e = .returned .nilIface ∧ Fr [] w w' := by
  have h0 : (d == 0) = false := by simp; omega
  have h1 : (d == 1) = false := by simp; omega
  have h2 : (d == 2) = false := by simp; omega
  have h3 : (d == 3) = false := by simp; omega
  have h4 : (d == 4) = false := by simp; omega
  have h5 : (d == 5) = false := by simp; omega
  have h6 : (d == 6) = false := by simp; omega
  have h7 : (d == 7) = false := by simp; omega
  have h8 : (d == 8) = false := by simp; omega
  have h9 : (d == 9) = false := by simp; omega
  go_enter Tryz.func165, Tryz.ntmps165
  go_wp2
  go_ret
  exact ⟨rfl, (Fr.refl [] w).alloc _⟩
theorem aims_step (d : Int) (w : World) : Calls Tryz.prog 375 #[.int .i64 d] w fun e w' => e = .returned (.bool false) ∧ Fr [] w w' := by
  go_enter Tryz.func375, Tryz.ntmps375
  go_wp2
  go_ret
  exact ⟨rfl, Fr.refl [] w⟩
theorem aims_cross (d : Int) (w : World) : Calls Tryz.prog 376 #[.int .i64 d] w fun e w' => e = .returned (.bool true) ∧ Fr [] w w' := by
  go_enter Tryz.func376, Tryz.ntmps376
  go_wp2
  go_ret
  exact ⟨rfl, Fr.refl [] w⟩
theorem aims_click (a x : Int) (w : World) : Calls Tryz.prog 377 #[.agg #[.int .i64 a, .int .i64 x]] w fun e w' => e = .returned (.bool false) ∧ Fr [] w w' := by
  go_enter Tryz.func377, Tryz.ntmps377
  go_wp2
  go_ret
  exact ⟨rfl, by first | exact Fr.refl [] w | exact (Fr.refl [] w).alloc _⟩
theorem aims_jump (a : Int) (b : Bool) (w : World) : Calls Tryz.prog 378 #[.agg #[.int .i64 a, .bool b]] w fun e w' => e = .returned (.bool false) ∧ Fr [] w w' := by
  go_enter Tryz.func378, Tryz.ntmps378
  go_wp2
  go_ret
  exact ⟨rfl, by first | exact Fr.refl [] w | exact (Fr.refl [] w).alloc _⟩
/-- A session in memory: its layout, the anchor, the focus, the goal. -/
abbrev sesC (P : Nat) (ao : Int) (ab : Bool) (fo : Int) (fb aim : Bool) (goal : Int) : Array Value := #[.pointer (some ⟨P, 0, none⟩), .int .i64 ao, .bool ab, .int .i64 fo, .bool fb, .bool aim, .int .i64 goal]
set_option maxHeartbeats 4000000 in
theorem aim_any (Z P : Nat) (ao fo goal gx : Int) (ab fb aim aims : Bool) (w : World) (hZ : w.heap[Z]? = some (.cells (sesC P ao ab fo fb aim goal) 240 (0, 0)))
    (hX : ∀ Y, Fr [] w Y → Calls Tryz.prog 89 #[.pointer (some ⟨P, 0, none⟩), .agg #[.int .i64 fo, .bool fb]] Y fun e w' => e = .returned (.int .i64 gx) ∧ Fr [] Y w') :
    Calls Tryz.prog 166 #[.pointer (some ⟨Z, 0, none⟩), .bool aims] w fun e w' => e = .returned (.tuple #[]) ∧ w'.heap[Z]? = some (.cells (sesC P ao ab fo fb aims (if aims && !aim then gx else goal)) 240 (0, 0)) ∧ Fr [Z] w w' := by
  have HZ := hid hZ
  have HX := hid hX
  have z0 := obj_cell hZ (i := 0) (v := .pointer (some ⟨P, 0, none⟩)) rfl
  have z3 := obj_cell hZ (i := 3) (v := .int .i64 fo) rfl
  have z4 := obj_cell hZ (i := 4) (v := .bool fb) rfl
  have z5 := obj_cell hZ (i := 5) (v := .bool aim) rfl
  have f5 := obj_froz hZ 5
  have f6 := obj_froz hZ 6
  clear hZ hX
  cases aims
  · go_enter Tryz.func166, Tryz.ntmps166
    go_wp2
    go_end0
    exact ⟨rfl, obj_set HZ.out 5 _, (Fr.refl [Z] w).set (List.mem_singleton.2 rfl) _⟩
  · cases aim
    · go_enter Tryz.func166, Tryz.ntmps166
      go_wp2_with fail
      go_region_held (fun wz => wz.cell? ⟨Z, 0, none⟩ = some (.pointer (some ⟨P, 0, none⟩)) ∧ wz.cell? ⟨Z, 3, none⟩ = some (.int .i64 fo) ∧ wz.cell? ⟨Z, 4, none⟩ = some (.bool fb)) (first | exact HS1 | exact And.intro (obj_cell HZ6.out (i := 0) rfl) (And.intro (obj_cell HZ6.out (i := 3) rfl) (obj_cell HZ6.out (i := 4) rfl)) | go_keep)
        (first
          | (go_at_call 89; refine (HX.out _ ?fa).mono ?_; (case fa => exact (Fr.refl [] w).drew); rintro e w1 ⟨rfl, hf1⟩; have HG1 := hid (show Fr [] w w1 from Fr.trans (Fr.refl [] w).drew hf1); have HZ1 := hid (obj_fr HZ.out HG1.out List.not_mem_nil); have y5 := obj_cell HZ1.out (i := 5) (v := .bool false) rfl; have y6 := obj_cell HZ1.out (i := 6) (v := .int .i64 goal) rfl; have g5 := obj_froz HZ1.out 5; have g6 := obj_froz HZ1.out 6; have HZ6 := hid (obj_set HZ1.out 6 (.int .i64 gx)); have HS1 := And.intro (HG1.out.cell z0 List.not_mem_nil) (And.intro (HG1.out.cell z3 List.not_mem_nil) (HG1.out.cell z4 List.not_mem_nil)); clear hf1))
      all_goals (
        go_wp2
        go_end0
        exact ⟨rfl, obj_set (obj_set HZ1.out 6 _) 5 _, ((HG1.out.mono (fun _ h _ => absurd h List.not_mem_nil) : Fr [Z] w w1).set (List.mem_singleton.2 rfl) _).set (List.mem_singleton.2 rfl) _⟩)
    · go_enter Tryz.func166, Tryz.ntmps166
      go_wp2
      go_end0
      exact ⟨rfl, obj_set HZ.out 5 _, (Fr.refl [Z] w).set (List.mem_singleton.2 rfl) _⟩
end Go.Proofs.YtnakejhohdbfdabGreatDoor
namespace Go.Proofs.YtnakejhohdbfdabGreatDoor
open Go.RowKit Lev Lay Bnd

/-- A state's cells. -/
abbrev stC (ao : Int) (ab : Bool) (fo : Int) (fb : Bool) (a1 a2 gx b1 b2 c1 c2 : Int) (v : Value) (moved : Bool) : Array Value := #[.int .i64 ao, .bool ab, .int .i64 fo, .bool fb, .int .i64 a1, .int .i64 a2, .int .i64 gx, .int .i64 b1, .int .i64 b2, .int .i64 c1, .int .i64 c2, v, .bool moved]
set_option maxRecDepth 10000 in
set_option maxHeartbeats 4000000 in
theorem state_any (Z P : Nat) (ao fo goal a1 a2 gx b1 b2 c1 c2 : Int) (ab fb aim moved : Bool) (M : List Spn) (w : World) (hZ : w.heap[Z]? = some (.cells (sesC P ao ab fo fb aim goal) 240 (0, 0)))
    (hG : ∀ Y, Fr [] w Y → Calls Tryz.prog 84 #[.pointer (some ⟨P, 0, none⟩), .agg #[.int .i64 fo, .bool fb]] Y fun e w' => e = .returned (.agg #[.int .i64 a1, .int .i64 a2]) ∧ Fr [] Y w')
    (hX : ∀ Y, Fr [] w Y → Calls Tryz.prog 89 #[.pointer (some ⟨P, 0, none⟩), .agg #[.int .i64 fo, .bool fb]] Y fun e w' => e = .returned (.int .i64 gx) ∧ Fr [] Y w')
    (hB : ∀ Y, Fr [] w Y → Calls Tryz.prog 84 #[.pointer (some ⟨P, 0, none⟩), .agg #[.int .i64 fo, .bool true]] Y fun e w' => e = .returned (.agg #[.int .i64 b1, .int .i64 b2]) ∧ Fr [] Y w')
    (hC : ∀ Y, Fr [] w Y → Calls Tryz.prog 84 #[.pointer (some ⟨P, 0, none⟩), .agg #[.int .i64 fo, .bool false]] Y fun e w' => e = .returned (.agg #[.int .i64 c1, .int .i64 c2]) ∧ Fr [] Y w')
    (hS : ∀ Y, Fr [] w Y → Calls Tryz.prog 90 #[.pointer (some ⟨P, 0, none⟩), .int .i64 ao, .int .i64 fo] Y fun e w' => ∃ v, e = .returned v ∧ w'.ownsRow Y.heap.size 90 5 v M.length (spCells M) ∧ Fr [] Y w') :
    Calls Tryz.prog 108 #[.pointer (some ⟨Z, 0, none⟩), .bool moved] w fun e w' => ∃ v, e = .returned (.agg (stC ao ab fo fb a1 a2 gx b1 b2 c1 c2 v moved)) ∧ w'.ownsRow w.heap.size 90 5 v M.length (spCells M) ∧ Fr [] w w' := by
  have HZ := hid hZ
  have HG := hid hG
  have HX := hid hX
  have HB := hid hB
  have HC := hid hC
  have HS := hid hS
  have z0 := obj_cell hZ (i := 0) (v := .pointer (some ⟨P, 0, none⟩)) rfl
  have z1 := obj_cell hZ (i := 1) (v := .int .i64 ao) rfl
  have z2 := obj_cell hZ (i := 2) (v := .bool ab) rfl
  have z3 := obj_cell hZ (i := 3) (v := .int .i64 fo) rfl
  have z4 := obj_cell hZ (i := 4) (v := .bool fb) rfl
  have hZl := obj_lt hZ
  clear hZ hG hX hB hC hS
  obtain ⟨wb, hwb⟩ : ∃ wb, wb = w.alloc (.cells #[.int .i64 0, .bool false, .int .i64 0, .bool false, .int .i64 0, .int .i64 0, .int .i64 0, .int .i64 0, .int .i64 0, .int .i64 0, .int .i64 0, .slice none 0 0, .bool false] 40) := ⟨_, rfl⟩
  have HFb := hid (show Fr [] w wb by rw [hwb]; exact (Fr.refl [] w).alloc _)
  have HRb := hid (show wb.heap[w.heap.size]? = some (.cells #[.int .i64 0, .bool false, .int .i64 0, .bool false, .int .i64 0, .int .i64 0, .int .i64 0, .int .i64 0, .int .i64 0, .int .i64 0, .int .i64 0, .slice none 0 0, .bool false] 40 (0, 0)) by rw [hwb]; exact obj_new w _)
  have HWB := hid hwb
  clear hwb
  go_enter Tryz.func108, Tryz.ntmps108
  go_wp2_with fail
  rw [← HWB.out]
  have y0 := HFb.out.cell z0 List.not_mem_nil
  have y3 := HFb.out.cell z3 List.not_mem_nil
  go_quiet (fail)
  obtain ⟨w1, hw1⟩ : ∃ w1, w1 = wb.drewN nq := ⟨_, rfl⟩
  have HF1 := hid (show Fr [] wb w1 by rw [hw1]; exact fr_drewN _ _)
  rw [← hw1]
  clear hw1 y0 y3
  have HG1 := hid (HFb.out.trans HF1.out)
  have x0 := HG1.out.cell z0 List.not_mem_nil
  have x1 := HG1.out.cell z1 List.not_mem_nil
  have x2 := HG1.out.cell z2 List.not_mem_nil
  have x3 := HG1.out.cell z3 List.not_mem_nil
  have x4 := HG1.out.cell z4 List.not_mem_nil
  clear z0 z1 z2 z3 z4
  go_wp2_with fail
  have HKF := hid (fun (wz : World) (hf : Fr [] w1 wz) => show wz.cell? ⟨Z, 0, none⟩ = some (.pointer (some ⟨P, 0, none⟩)) ∧ wz.cell? ⟨Z, 1, none⟩ = some (.int .i64 ao) ∧ wz.cell? ⟨Z, 2, none⟩ = some (.bool ab) ∧ wz.cell? ⟨Z, 3, none⟩ = some (.int .i64 fo) ∧ wz.cell? ⟨Z, 4, none⟩ = some (.bool fb) from ⟨hf.cell x0 List.not_mem_nil, hf.cell x1 List.not_mem_nil, hf.cell x2 List.not_mem_nil, hf.cell x3 List.not_mem_nil, hf.cell x4 List.not_mem_nil⟩)
  have HZ1 := hid (obj_fr HZ.out HG1.out List.not_mem_nil)
  have HKZ := hid (fun (wz : World) (hf : Fr [] w wz) => show wz.cell? ⟨Z, 0, none⟩ = some (.pointer (some ⟨P, 0, none⟩)) ∧ wz.cell? ⟨Z, 1, none⟩ = some (.int .i64 ao) ∧ wz.cell? ⟨Z, 2, none⟩ = some (.bool ab) ∧ wz.cell? ⟨Z, 3, none⟩ = some (.int .i64 fo) ∧ wz.cell? ⟨Z, 4, none⟩ = some (.bool fb) from
    have hz := obj_fr HZ.out hf List.not_mem_nil
    ⟨obj_cell hz (i := 0) rfl, obj_cell hz (i := 1) rfl, obj_cell hz (i := 2) rfl, obj_cell hz (i := 3) rfl, obj_cell hz (i := 4) rfl⟩)
  go_region_held (fun wz => wz.cell? ⟨Z, 0, none⟩ = some (.pointer (some ⟨P, 0, none⟩)) ∧ wz.cell? ⟨Z, 1, none⟩ = some (.int .i64 ao) ∧ wz.cell? ⟨Z, 2, none⟩ = some (.bool ab) ∧ wz.cell? ⟨Z, 3, none⟩ = some (.int .i64 fo) ∧ wz.cell? ⟨Z, 4, none⟩ = some (.bool fb)) (first | with_reducible exact HS1 | with_reducible exact HKZ.out _ HKK.out | go_keep)
    (first
      | (go_at_call 84; have hq := Hw4; clear hq; refine (HC.out _ ?fa).mono ?_; (case fa => exact HG1.out.trans Hw4.out); rintro e w5 ⟨rfl, hf⟩; have Hw5 := hid (show Fr [] w1 w5 from Hw4.out.trans hf); have HS1 := HKF.out _ Hw5.out; clear hf)
      | (go_at_call 84; have hq := Hw3; clear hq; refine (HB.out _ ?fa).mono ?_; (case fa => exact HG1.out.trans Hw3.out); rintro e w4 ⟨rfl, hf⟩; have Hw4 := hid (show Fr [] w1 w4 from Hw3.out.trans hf); have HS1 := HKF.out _ Hw4.out; clear hf)
      | (go_at_call 84; refine (HG.out _ ?fa).mono ?_; (case fa => exact HG1.out.drew); rintro e w2 ⟨rfl, hf⟩; have Hw2 := hid (show Fr [] w1 w2 from Fr.trans (Fr.refl [] w1).drew hf); have HS1 := HKF.out _ Hw2.out; clear hf)
      | (go_at_call 89; refine (HX.out _ ?fa).mono ?_; (case fa => exact HG1.out.trans Hw2.out); rintro e w3 ⟨rfl, hf⟩; have Hw3 := hid (show Fr [] w1 w3 from Hw2.out.trans hf); have HS1 := HKF.out _ Hw3.out; clear hf)
      | (go_at_call 90; refine (HS.out _ ?fa).mono ?_; (case fa => exact HG1.out.trans Hw5.out); rintro e w6 ⟨vS, rfl, own6, hf⟩; obtain ⟨aS, cS, hvS⟩ := owns_slice own6; subst hvS; have HW6 := hid (show Fr [] w1 w6 from Hw5.out.trans hf); have HG6 := hid (HG1.out.trans HW6.out); have HO6 := hid own6; have HS1 := HKF.out _ HW6.out; have HR6 := hid (obj_fr HRb.out (HF1.out.trans HW6.out) List.not_mem_nil); have r0 := obj_cell HR6.out (i := 0) (v := .int .i64 0) rfl; have k0 := obj_froz HR6.out 0; have r1 := obj_cell HR6.out (i := 1) (v := .bool false) rfl; have k1 := obj_froz HR6.out 1; have r2 := obj_cell HR6.out (i := 2) (v := .int .i64 0) rfl; have k2 := obj_froz HR6.out 2; have r3 := obj_cell HR6.out (i := 3) (v := .bool false) rfl; have k3 := obj_froz HR6.out 3; have r4 := obj_cell HR6.out (i := 4) (v := .int .i64 0) rfl; have k4 := obj_froz HR6.out 4; have r5 := obj_cell HR6.out (i := 5) (v := .int .i64 0) rfl; have k5 := obj_froz HR6.out 5; have r6 := obj_cell HR6.out (i := 6) (v := .int .i64 0) rfl; have k6 := obj_froz HR6.out 6; have r7 := obj_cell HR6.out (i := 7) (v := .int .i64 0) rfl; have k7 := obj_froz HR6.out 7; have r8 := obj_cell HR6.out (i := 8) (v := .int .i64 0) rfl; have k8 := obj_froz HR6.out 8; have r9 := obj_cell HR6.out (i := 9) (v := .int .i64 0) rfl; have k9 := obj_froz HR6.out 9; have r10 := obj_cell HR6.out (i := 10) (v := .int .i64 0) rfl; have k10 := obj_froz HR6.out 10; have r11 := obj_cell HR6.out (i := 11) (v := .slice none 0 0) rfl; have k11 := obj_froz HR6.out 11; have r12 := obj_cell HR6.out (i := 12) (v := .bool false) rfl; have k12 := obj_froz HR6.out 12; have HKK := hid (Fr.set_new (b := w.heap.size) (i := 12) (v := .bool moved) (Fr.set_new (b := w.heap.size) (i := 11) (v := .slice aS M.length cS) (Fr.set_new (b := w.heap.size) (i := 10) (v := .int .i64 c2) (Fr.set_new (b := w.heap.size) (i := 9) (v := .int .i64 c1) (Fr.set_new (b := w.heap.size) (i := 8) (v := .int .i64 b2) (Fr.set_new (b := w.heap.size) (i := 7) (v := .int .i64 b1) (Fr.set_new (b := w.heap.size) (i := 6) (v := .int .i64 gx) (Fr.set_new (b := w.heap.size) (i := 5) (v := .int .i64 a2) (Fr.set_new (b := w.heap.size) (i := 4) (v := .int .i64 a1) (Fr.set_new (b := w.heap.size) (i := 3) (v := .bool fb) (Fr.set_new (b := w.heap.size) (i := 2) (v := .int .i64 fo) (Fr.set_new (b := w.heap.size) (i := 1) (v := .bool ab) (Fr.set_new (b := w.heap.size) (i := 0) (v := .int .i64 ao) HG6.out (Nat.le_refl _)) (Nat.le_refl _)) (Nat.le_refl _)) (Nat.le_refl _)) (Nat.le_refl _)) (Nat.le_refl _)) (Nat.le_refl _)) (Nat.le_refl _)) (Nat.le_refl _)) (Nat.le_refl _)) (Nat.le_refl _)) (Nat.le_refl _)) (Nat.le_refl _)); have HSF := hid (Fr.set (b := w.heap.size) (i := 12) (Fr.set (b := w.heap.size) (i := 11) (Fr.set (b := w.heap.size) (i := 10) (Fr.set (b := w.heap.size) (i := 9) (Fr.set (b := w.heap.size) (i := 8) (Fr.set (b := w.heap.size) (i := 7) (Fr.set (b := w.heap.size) (i := 6) (Fr.set (b := w.heap.size) (i := 5) (Fr.set (b := w.heap.size) (i := 4) (Fr.set (b := w.heap.size) (i := 3) (Fr.set (b := w.heap.size) (i := 2) (Fr.set (b := w.heap.size) (i := 1) (Fr.set (b := w.heap.size) (i := 0) (Fr.refl [w.heap.size] w6) (List.mem_singleton.2 rfl) (.int .i64 ao)) (List.mem_singleton.2 rfl) (.bool ab)) (List.mem_singleton.2 rfl) (.int .i64 fo)) (List.mem_singleton.2 rfl) (.bool fb)) (List.mem_singleton.2 rfl) (.int .i64 a1)) (List.mem_singleton.2 rfl) (.int .i64 a2)) (List.mem_singleton.2 rfl) (.int .i64 gx)) (List.mem_singleton.2 rfl) (.int .i64 b1)) (List.mem_singleton.2 rfl) (.int .i64 b2)) (List.mem_singleton.2 rfl) (.int .i64 c1)) (List.mem_singleton.2 rfl) (.int .i64 c2)) (List.mem_singleton.2 rfl) (.slice aS M.length cS)) (List.mem_singleton.2 rfl) (.bool moved)); have hlow := obj_lt (obj_fr HRb.out (HF1.out.trans Hw5.out) List.not_mem_nil); have HO7 := hid (owns_low (owns_fr HO6.out HSF.out (fun g hg hm => by have h2 := List.mem_singleton.1 hm; have h3 := (HO6.out.lt g hg).1; omega)) (Nat.le_of_lt hlow)); clear hf own6 hlow))
  all_goals (
    go_wp2
    refine bodyPost_ret (results_cell_row (t := 40) (fr := (0, 0)) rfl _ _ w.heap.size _ _ rfl (obj_set (obj_set (obj_set (obj_set (obj_set (obj_set (obj_set (obj_set (obj_set (obj_set (obj_set (obj_set (obj_set HR6.out 0 _) 1 _) 2 _) 3 _) 4 _) 5 _) 6 _) 7 _) 8 _) 9 _) 10 _) 11 _) 12 _) Tryz.underlying40 rfl (by kernel_rfl)) rfl ?_
    refine ⟨.slice aS M.length cS, by simp, HO7.out, HKK.out⟩)
end Go.Proofs.YtnakejhohdbfdabGreatDoor
namespace Go.Proofs.YtnakejhohdbfdabGreatDoor
open Go.RowKit Lev Lay Bnd

theorem ta1 (d : Int) (w : World) : (Instr.typeAssert (.iface 345 (.int .i64 d)) 242 345 true).run Tryz.prog w = .ok (.tuple #[.int .i64 d, .bool true]) w := by kernel_rfl
theorem ta2 (d : Int) (w : World) : (Instr.typeAssert (.iface 346 (.int .i64 d)) 242 345 true).run Tryz.prog w = .ok (.tuple #[.int .i64 0, .bool false]) w := by kernel_rfl
theorem ta3 (d : Int) (w : World) : (Instr.typeAssert (.iface 346 (.int .i64 d)) 242 346 true).run Tryz.prog w = .ok (.tuple #[.int .i64 d, .bool true]) w := by kernel_rfl
theorem ta4 (v : Value) (w : World) : (Instr.typeAssert (.iface 348 v) 242 345 true).run Tryz.prog w = .ok (.tuple #[.int .i64 0, .bool false]) w := by kernel_rfl
theorem ta5 (v : Value) (w : World) : (Instr.typeAssert (.iface 348 v) 242 346 true).run Tryz.prog w = .ok (.tuple #[.int .i64 0, .bool false]) w := by kernel_rfl
theorem ta6 (v : Value) (w : World) : (Instr.typeAssert (.iface 348 v) 242 348 true).run Tryz.prog w = .ok (.tuple #[v, .bool true]) w := by kernel_rfl
theorem ta7 (v : Value) (w : World) : (Instr.typeAssert (.iface 349 v) 242 345 true).run Tryz.prog w = .ok (.tuple #[.int .i64 0, .bool false]) w := by kernel_rfl
theorem ta8 (v : Value) (w : World) : (Instr.typeAssert (.iface 349 v) 242 346 true).run Tryz.prog w = .ok (.tuple #[.int .i64 0, .bool false]) w := by kernel_rfl
theorem ta9 (v : Value) (w : World) : (Instr.typeAssert (.iface 349 v) 242 348 true).run Tryz.prog w = .ok (.tuple #[.agg #[.int .i64 0, .int .i64 0], .bool false]) w := by kernel_rfl
theorem ta10 (v : Value) (w : World) : (Instr.typeAssert (.iface 349 v) 242 349 true).run Tryz.prog w = .ok (.tuple #[v, .bool true]) w := by kernel_rfl
set_option maxRecDepth 10000 in
set_option maxHeartbeats 2000000 in
theorem targ_step (Z P : Nat) (ao fo goal d ta : Int) (ab fb aim tb m : Bool) (w : World) (hZ : w.heap[Z]? = some (.cells (sesC P ao ab fo fb aim goal) 240 (0, 0)))
    (hM : ∀ Y, Fr [] w Y → Calls Tryz.prog 85 #[.pointer (some ⟨P, 0, none⟩), .int .i64 d, .agg #[.int .i64 fo, .bool fb], .int .i64 0] Y fun e w' => e = .returned (.tuple #[.agg #[.int .i64 ta, .bool tb], .bool m]) ∧ Fr [] Y w') :
    Calls Tryz.prog 167 #[.pointer (some ⟨Z, 0, none⟩), .iface 345 (.int .i64 d)] w fun e w' => e = .returned (.tuple #[.agg #[.int .i64 ta, .bool tb], .bool m]) ∧ Fr [] w w' := by
  have HZ := hid hZ
  have HM := hid hM
  have hZl := obj_lt hZ
  obtain ⟨w2, hw2⟩ : ∃ w2, w2 = (w.alloc (.cells #[.int .i64 0, .bool false] 35)).alloc (.cells #[.int .i64 fo, .bool fb] 35) := ⟨_, rfl⟩
  have HF2 := hid (show Fr [] w w2 by rw [hw2]; exact ((Fr.refl [] w).alloc _).alloc _)
  have HR2 := hid (show w2.heap[w.heap.size]? = some (.cells #[.int .i64 0, .bool false] 35 (0, 0)) by rw [hw2]; exact obj_fr (obj_new w _) ((Fr.refl [] _).alloc _) List.not_mem_nil)
  have HT2 := hid (show w2.heap[w.heap.size + 1]? = some (.cells #[.int .i64 fo, .bool fb] 35 (0, 0)) by
    have hs : (w.alloc (.cells #[.int .i64 0, .bool false] 35)).heap.size = w.heap.size + 1 := by simp
    have h0 := obj_new (w.alloc (.cells #[.int .i64 0, .bool false] 35)) (.cells #[.int .i64 fo, .bool fb] 35)
    rw [hs] at h0
    rw [hw2]; exact h0)
  have z0 := obj_cell hZ (i := 0) (v := .pointer (some ⟨P, 0, none⟩)) rfl
  have z3 := obj_cell hZ (i := 3) (v := .int .i64 fo) rfl
  have z4 := obj_cell hZ (i := 4) (v := .bool fb) rfl
  have t1 := ta1 d
  clear hZ hM
  go_enter Tryz.func167, Tryz.ntmps167
  go_wp2_with fail
  rw [← hw2]
  clear hw2
  have y0 := HF2.out.cell z0 List.not_mem_nil
  have y3 := HF2.out.cell z3 List.not_mem_nil
  have y4 := HF2.out.cell z4 List.not_mem_nil
  go_region_held (fun wz => wz.cell? ⟨Z, 0, none⟩ = some (.pointer (some ⟨P, 0, none⟩)) ∧ wz.cell? ⟨Z, 3, none⟩ = some (.int .i64 fo) ∧ wz.cell? ⟨Z, 4, none⟩ = some (.bool fb)) (first | with_reducible exact HS1 | with_reducible exact HS2 | go_keep)
    (first
      | (go_at_call 85; refine (HM.out _ ?fa).mono ?_; (case fa => exact HF2.out.drew); rintro e w4 ⟨rfl, hf4⟩; have HF4 := hid (show Fr [] w2 w4 from Fr.trans (Fr.refl [] w2).drew hf4); have HG4 := hid (HF2.out.trans HF4.out); have HR4 := hid (obj_fr HR2.out HF4.out List.not_mem_nil); have r0 := obj_cell HR4.out (i := 0) (v := .int .i64 0) rfl; have r1 := obj_cell HR4.out (i := 1) (v := .bool false) rfl; have g0 := obj_froz HR4.out 0; have g1 := obj_froz HR4.out 1; have HS1 := And.intro (HG4.out.cell z0 List.not_mem_nil) (And.intro (HG4.out.cell z3 List.not_mem_nil) (HG4.out.cell z4 List.not_mem_nil)); have HKK := hid (Fr.set_new (b := w.heap.size) (i := 1) (v := .bool tb) (Fr.set_new (b := w.heap.size) (i := 0) (v := .int .i64 ta) HG4.out (Nat.le_refl _)) (Nat.le_refl _)); have HS2 := And.intro (HKK.out.cell z0 List.not_mem_nil) (And.intro (HKK.out.cell z3 List.not_mem_nil) (HKK.out.cell z4 List.not_mem_nil)); clear hf4))
  all_goals (
    go_wp2
    refine bodyPost_ret (results_row_tmp (t := 35) (fr := (0, 0)) rfl _ _ w.heap.size _ _ rfl (obj_set (obj_set HR4.out 0 _) 1 _) Tryz.underlying35 rfl (by kernel_rfl)) rfl ?_
    exact ⟨rfl, HKK.out⟩)
set_option maxRecDepth 10000 in
set_option maxHeartbeats 2000000 in
theorem targ_cross (Z P : Nat) (ao fo goal d ta : Int) (ab fb aim tb m : Bool) (w : World) (hZ : w.heap[Z]? = some (.cells (sesC P ao ab fo fb aim goal) 240 (0, 0)))
    (hM : ∀ Y, Fr [] w Y → Calls Tryz.prog 85 #[.pointer (some ⟨P, 0, none⟩), .int .i64 d, .agg #[.int .i64 fo, .bool fb], .int .i64 goal] Y fun e w' => e = .returned (.tuple #[.agg #[.int .i64 ta, .bool tb], .bool m]) ∧ Fr [] Y w') :
    Calls Tryz.prog 167 #[.pointer (some ⟨Z, 0, none⟩), .iface 346 (.int .i64 d)] w fun e w' => e = .returned (.tuple #[.agg #[.int .i64 ta, .bool tb], .bool m]) ∧ Fr [] w w' := by
  have HZ := hid hZ
  have HM := hid hM
  have hZl := obj_lt hZ
  obtain ⟨w2, hw2⟩ : ∃ w2, w2 = (w.alloc (.cells #[.int .i64 0, .bool false] 35)).alloc (.cells #[.int .i64 fo, .bool fb] 35) := ⟨_, rfl⟩
  have HF2 := hid (show Fr [] w w2 by rw [hw2]; exact ((Fr.refl [] w).alloc _).alloc _)
  have HR2 := hid (show w2.heap[w.heap.size]? = some (.cells #[.int .i64 0, .bool false] 35 (0, 0)) by rw [hw2]; exact obj_fr (obj_new w _) ((Fr.refl [] _).alloc _) List.not_mem_nil)
  have HT2 := hid (show w2.heap[w.heap.size + 1]? = some (.cells #[.int .i64 fo, .bool fb] 35 (0, 0)) by
    have hs : (w.alloc (.cells #[.int .i64 0, .bool false] 35)).heap.size = w.heap.size + 1 := by simp
    have h0 := obj_new (w.alloc (.cells #[.int .i64 0, .bool false] 35)) (.cells #[.int .i64 fo, .bool fb] 35)
    rw [hs] at h0
    rw [hw2]; exact h0)
  have z0 := obj_cell hZ (i := 0) (v := .pointer (some ⟨P, 0, none⟩)) rfl
  have z3 := obj_cell hZ (i := 3) (v := .int .i64 fo) rfl
  have z4 := obj_cell hZ (i := 4) (v := .bool fb) rfl
  have z6 := obj_cell hZ (i := 6) (v := .int .i64 goal) rfl
  have t2 := ta2 d
  have t3 := ta3 d
  clear hZ hM
  go_enter Tryz.func167, Tryz.ntmps167
  go_wp2_with fail
  rw [← hw2]
  clear hw2
  have y0 := HF2.out.cell z0 List.not_mem_nil
  have y3 := HF2.out.cell z3 List.not_mem_nil
  have y4 := HF2.out.cell z4 List.not_mem_nil
  have y6 := HF2.out.cell z6 List.not_mem_nil
  go_region_held (fun wz => wz.cell? ⟨Z, 0, none⟩ = some (.pointer (some ⟨P, 0, none⟩)) ∧ wz.cell? ⟨Z, 3, none⟩ = some (.int .i64 fo) ∧ wz.cell? ⟨Z, 4, none⟩ = some (.bool fb) ∧ wz.cell? ⟨Z, 6, none⟩ = some (.int .i64 goal)) (first | with_reducible exact HS1 | with_reducible exact HS2 | go_keep)
    (first
      | (go_at_call 85; refine (HM.out _ ?fa).mono ?_; (case fa => exact HF2.out.drew); rintro e w4 ⟨rfl, hf4⟩; have HF4 := hid (show Fr [] w2 w4 from Fr.trans (Fr.refl [] w2).drew hf4); have HG4 := hid (HF2.out.trans HF4.out); have HR4 := hid (obj_fr HR2.out HF4.out List.not_mem_nil); have r0 := obj_cell HR4.out (i := 0) (v := .int .i64 0) rfl; have r1 := obj_cell HR4.out (i := 1) (v := .bool false) rfl; have g0 := obj_froz HR4.out 0; have g1 := obj_froz HR4.out 1; have HS1 := And.intro (HG4.out.cell z0 List.not_mem_nil) (And.intro (HG4.out.cell z3 List.not_mem_nil) (And.intro (HG4.out.cell z4 List.not_mem_nil) (HG4.out.cell z6 List.not_mem_nil))); have HKK := hid (Fr.set_new (b := w.heap.size) (i := 1) (v := .bool tb) (Fr.set_new (b := w.heap.size) (i := 0) (v := .int .i64 ta) HG4.out (Nat.le_refl _)) (Nat.le_refl _)); have HS2 := And.intro (HKK.out.cell z0 List.not_mem_nil) (And.intro (HKK.out.cell z3 List.not_mem_nil) (And.intro (HKK.out.cell z4 List.not_mem_nil) (HKK.out.cell z6 List.not_mem_nil))); clear hf4))
  all_goals (
    go_wp2
    refine bodyPost_ret (results_row_tmp (t := 35) (fr := (0, 0)) rfl _ _ w.heap.size _ _ rfl (obj_set (obj_set HR4.out 0 _) 1 _) Tryz.underlying35 rfl (by kernel_rfl)) rfl ?_
    exact ⟨rfl, HKK.out⟩)
set_option maxRecDepth 10000 in
set_option maxHeartbeats 2000000 in
theorem targ_click (Z P : Nat) (ao fo goal a x ra : Int) (ab fb aim rb : Bool) (w : World) (hZ : w.heap[Z]? = some (.cells (sesC P ao ab fo fb aim goal) 240 (0, 0)))
    (hM : ∀ Y, Fr [] w Y → Calls Tryz.prog 88 #[.pointer (some ⟨P, 0, none⟩), .int .i64 a, .int .i64 x] Y fun e w' => e = .returned (.agg #[.int .i64 ra, .bool rb]) ∧ Fr [] Y w') :
    Calls Tryz.prog 167 #[.pointer (some ⟨Z, 0, none⟩), .iface 348 (.agg #[.int .i64 a, .int .i64 x])] w fun e w' => e = .returned (.tuple #[.agg #[.int .i64 ra, .bool rb], .bool (!(decide (ra = fo) && rb == fb))]) ∧ Fr [] w w' := by
  have HZ := hid hZ
  have HM := hid hM
  have hZl := obj_lt hZ
  obtain ⟨w2, hw2⟩ : ∃ w2, w2 = ((w.alloc (.cells #[.int .i64 0, .bool false] 35)).alloc (.cells #[.int .i64 fo, .bool fb] 35)).alloc (.cells #[.int .i64 a, .int .i64 x] 348) := ⟨_, rfl⟩
  have HF2 := hid (show Fr [] w w2 by rw [hw2]; exact (((Fr.refl [] w).alloc _).alloc _).alloc _)
  have HR2 := hid (show w2.heap[w.heap.size]? = some (.cells #[.int .i64 0, .bool false] 35 (0, 0)) by rw [hw2]; exact obj_fr (obj_new w _) (((Fr.refl [] _).alloc _).alloc _) List.not_mem_nil)
  have HT2 := hid (show w2.heap[w.heap.size + 1]? = some (.cells #[.int .i64 fo, .bool fb] 35 (0, 0)) by
    have hs : (w.alloc (.cells #[.int .i64 0, .bool false] 35)).heap.size = w.heap.size + 1 := by simp
    have h0 := obj_new (w.alloc (.cells #[.int .i64 0, .bool false] 35)) (.cells #[.int .i64 fo, .bool fb] 35)
    rw [hs] at h0
    rw [hw2]; exact obj_fr h0 ((Fr.refl [] _).alloc _) List.not_mem_nil)
  have HV2 := hid (show w2.heap[w.heap.size + 1 + 1]? = some (.cells #[.int .i64 a, .int .i64 x] 348 (0, 0)) by
    have hs : ((w.alloc (.cells #[.int .i64 0, .bool false] 35)).alloc (.cells #[.int .i64 fo, .bool fb] 35)).heap.size = w.heap.size + 1 + 1 := by simp
    have h0 := obj_new ((w.alloc (.cells #[.int .i64 0, .bool false] 35)).alloc (.cells #[.int .i64 fo, .bool fb] 35)) (.cells #[.int .i64 a, .int .i64 x] 348)
    rw [hs] at h0
    rw [hw2]; exact h0)
  have z0 := obj_cell hZ (i := 0) (v := .pointer (some ⟨P, 0, none⟩)) rfl
  have z3 := obj_cell hZ (i := 3) (v := .int .i64 fo) rfl
  have z4 := obj_cell hZ (i := 4) (v := .bool fb) rfl
  have t4 := ta4 (.agg #[.int .i64 a, .int .i64 x])
  have t5 := ta5 (.agg #[.int .i64 a, .int .i64 x])
  have t6 := ta6 (.agg #[.int .i64 a, .int .i64 x])
  clear hZ hM
  go_enter Tryz.func167, Tryz.ntmps167
  go_wp2_with fail
  rw [← hw2]
  clear hw2
  have y0 := HF2.out.cell z0 List.not_mem_nil
  have y3 := HF2.out.cell z3 List.not_mem_nil
  have y4 := HF2.out.cell z4 List.not_mem_nil
  have y8 := obj_cell HV2.out (i := 0) (v := .int .i64 a) rfl
  have y9 := obj_cell HV2.out (i := 1) (v := .int .i64 x) rfl
  have HV8 := hid (And.intro y8 y9)
  go_region_held (fun wz => wz.cell? ⟨Z, 0, none⟩ = some (.pointer (some ⟨P, 0, none⟩)) ∧ wz.cell? ⟨w.heap.size + 1 + 1, 0, none⟩ = some (.int .i64 a) ∧ wz.cell? ⟨w.heap.size + 1 + 1, 1, none⟩ = some (.int .i64 x)) (first | with_reducible exact HS1 | with_reducible exact HS2 | go_keep)
    (first
      | (go_at_call 88; refine (HM.out _ ?fa).mono ?_; (case fa => exact HF2.out.drew); rintro e w4 ⟨rfl, hf4⟩; have HF4 := hid (show Fr [] w2 w4 from Fr.trans (Fr.refl [] w2).drew hf4); have HG4 := hid (HF2.out.trans HF4.out); have HT4 := hid (obj_fr HT2.out HF4.out List.not_mem_nil); have r0 := obj_cell HT4.out (i := 0) (v := .int .i64 fo) rfl; have r1 := obj_cell HT4.out (i := 1) (v := .bool fb) rfl; have g0 := obj_froz HT4.out 0; have g1 := obj_froz HT4.out 1; have HS1 := And.intro (HF4.out.cell y0 (by first | (simp; done) | (simp; omega))) (And.intro (HF4.out.cell y8 (by first | (simp; done) | (simp; omega))) (HF4.out.cell y9 (by first | (simp; done) | (simp; omega)))); have HK0 := hid (Fr.set (b := w.heap.size + 1) (i := 1) (Fr.set (b := w.heap.size + 1) (i := 0) (HF4.out.mono (fun _ h _ => absurd h List.not_mem_nil) : Fr [w.heap.size + 1] w2 w4) (List.mem_singleton.2 rfl) (.int .i64 ra)) (List.mem_singleton.2 rfl) (.bool rb)); have HKK := hid (Fr.set_new (b := w.heap.size + 1) (i := 1) (v := .bool rb) (Fr.set_new (b := w.heap.size + 1) (i := 0) (v := .int .i64 ra) HG4.out (Nat.le_succ _)) (Nat.le_succ _)); have HS2 := And.intro (HK0.out.cell y0 (by first | (simp; done) | (simp; omega))) (And.intro (HK0.out.cell y8 (by first | (simp; done) | (simp; omega))) (HK0.out.cell y9 (by first | (simp; done) | (simp; omega)))); clear hf4))
  all_goals (
    obtain ⟨w5, hw5⟩ : ∃ w5, w5 = (w4.setCell ⟨w.heap.size + 1, 0, none⟩ (.int .i64 ra)).setCell ⟨w.heap.size + 1, 1, none⟩ (.bool rb) := ⟨_, rfl⟩
    have HT5 := hid (show w5.heap[w.heap.size + 1]? = some (.cells #[.int .i64 ra, .bool rb] 35 (0, 0)) by rw [hw5]; exact obj_set (obj_set HT4.out 0 _) 1 _)
    have HG5 := hid (show Fr [] w w5 by rw [hw5]; exact HKK.out)
    have HR5 := hid (show w5.heap[w.heap.size]? = some (.cells #[.int .i64 0, .bool false] 35 (0, 0)) by rw [hw5]; exact obj_fr HR2.out HK0.out (by simp))
    rw [← hw5]
    clear hw5
    have x0 := obj_cell HT5.out (i := 0) (v := .int .i64 ra) rfl
    have x1 := obj_cell HT5.out (i := 1) (v := .bool rb) rfl
    have x3 := HG5.out.cell z3 List.not_mem_nil
    have x4 := HG5.out.cell z4 List.not_mem_nil
    have u0 := obj_cell HR5.out (i := 0) (v := .int .i64 0) rfl
    have u1 := obj_cell HR5.out (i := 1) (v := .bool false) rfl
    have l0 := obj_froz HR5.out 0
    have l1 := obj_froz HR5.out 1
    have HK9 := hid (Fr.set (b := w.heap.size) (i := 1) (Fr.set (b := w.heap.size) (i := 0) (Fr.refl [w.heap.size] w5) (List.mem_singleton.2 rfl) (.int .i64 ra)) (List.mem_singleton.2 rfl) (.bool rb)).drew
    have HS9 := And.intro (HK9.out.cell x0 (by simp)) (And.intro (HK9.out.cell x1 (by simp)) (And.intro (HK9.out.cell x3 (by simp; omega)) (HK9.out.cell x4 (by simp; omega))))
    have HKL := hid (Fr.set_new (b := w.heap.size) (i := 1) (v := .bool rb) (Fr.set_new (b := w.heap.size) (i := 0) (v := .int .i64 ra) HG5.out (Nat.le_refl _)) (Nat.le_refl _)).drew
    by_cases hro : ra = fo
    · subst hro
      cases rb
      · cases fb
        · go_wp2_with fail
          go_region_held (fun wz => wz.cell? ⟨w.heap.size + 1, 0, none⟩ = some (.int .i64 ra) ∧ wz.cell? ⟨w.heap.size + 1, 1, none⟩ = some (.bool false) ∧ wz.cell? ⟨Z, 3, none⟩ = some (.int .i64 ra) ∧ wz.cell? ⟨Z, 4, none⟩ = some (.bool false)) (first | with_reducible exact HS9 | go_keep) (fail)
          all_goals (
            go_wp2
            refine bodyPost_ret (results_row_tmp (t := 35) (fr := (0, 0)) rfl _ _ w.heap.size _ _ rfl (obj_set (obj_set HR5.out 0 _) 1 _) Tryz.underlying35 rfl (by kernel_rfl)) rfl ?_
            exact ⟨by simp, HKL.out⟩)
        · go_wp2_with fail
          go_region_held (fun wz => wz.cell? ⟨w.heap.size + 1, 0, none⟩ = some (.int .i64 ra) ∧ wz.cell? ⟨w.heap.size + 1, 1, none⟩ = some (.bool false) ∧ wz.cell? ⟨Z, 3, none⟩ = some (.int .i64 ra) ∧ wz.cell? ⟨Z, 4, none⟩ = some (.bool true)) (first | with_reducible exact HS9 | go_keep) (fail)
          all_goals (
            go_wp2
            refine bodyPost_ret (results_row_tmp (t := 35) (fr := (0, 0)) rfl _ _ w.heap.size _ _ rfl (obj_set (obj_set HR5.out 0 _) 1 _) Tryz.underlying35 rfl (by kernel_rfl)) rfl ?_
            exact ⟨by simp, HKL.out⟩)
      · cases fb
        · go_wp2_with fail
          go_region_held (fun wz => wz.cell? ⟨w.heap.size + 1, 0, none⟩ = some (.int .i64 ra) ∧ wz.cell? ⟨w.heap.size + 1, 1, none⟩ = some (.bool true) ∧ wz.cell? ⟨Z, 3, none⟩ = some (.int .i64 ra) ∧ wz.cell? ⟨Z, 4, none⟩ = some (.bool false)) (first | with_reducible exact HS9 | go_keep) (fail)
          all_goals (
            go_wp2
            refine bodyPost_ret (results_row_tmp (t := 35) (fr := (0, 0)) rfl _ _ w.heap.size _ _ rfl (obj_set (obj_set HR5.out 0 _) 1 _) Tryz.underlying35 rfl (by kernel_rfl)) rfl ?_
            exact ⟨by simp, HKL.out⟩)
        · go_wp2_with fail
          go_region_held (fun wz => wz.cell? ⟨w.heap.size + 1, 0, none⟩ = some (.int .i64 ra) ∧ wz.cell? ⟨w.heap.size + 1, 1, none⟩ = some (.bool true) ∧ wz.cell? ⟨Z, 3, none⟩ = some (.int .i64 ra) ∧ wz.cell? ⟨Z, 4, none⟩ = some (.bool true)) (first | with_reducible exact HS9 | go_keep) (fail)
          all_goals (
            go_wp2
            refine bodyPost_ret (results_row_tmp (t := 35) (fr := (0, 0)) rfl _ _ w.heap.size _ _ rfl (obj_set (obj_set HR5.out 0 _) 1 _) Tryz.underlying35 rfl (by kernel_rfl)) rfl ?_
            exact ⟨by simp, HKL.out⟩)
    · have hrb : (ra == fo) = false := by simpa using hro
      go_wp2_with fail
      go_region_held (fun wz => wz.cell? ⟨w.heap.size + 1, 0, none⟩ = some (.int .i64 ra) ∧ wz.cell? ⟨w.heap.size + 1, 1, none⟩ = some (.bool rb) ∧ wz.cell? ⟨Z, 3, none⟩ = some (.int .i64 fo) ∧ wz.cell? ⟨Z, 4, none⟩ = some (.bool fb)) (first | with_reducible exact HS9 | go_keep) (fail)
      all_goals (
        go_wp2
        refine bodyPost_ret (results_row_tmp (t := 35) (fr := (0, 0)) rfl _ _ w.heap.size _ _ rfl (obj_set (obj_set HR5.out 0 _) 1 _) Tryz.underlying35 rfl (by kernel_rfl)) rfl ?_
        exact ⟨by simp [hro], HKL.out⟩))
set_option maxRecDepth 10000 in
set_option maxHeartbeats 2000000 in
theorem targ_jump (Z P : Nat) (ao fo goal a ra : Int) (ab fb aim bk rb : Bool) (w : World) (hZ : w.heap[Z]? = some (.cells (sesC P ao ab fo fb aim goal) 240 (0, 0)))
    (hM : ∀ Y, Fr [] w Y → Calls Tryz.prog 87 #[.pointer (some ⟨P, 0, none⟩), .agg #[.int .i64 a, .bool bk]] Y fun e w' => e = .returned (.agg #[.int .i64 ra, .bool rb]) ∧ Fr [] Y w') :
    Calls Tryz.prog 167 #[.pointer (some ⟨Z, 0, none⟩), .iface 349 (.agg #[.int .i64 a, .bool bk])] w fun e w' => e = .returned (.tuple #[.agg #[.int .i64 ra, .bool rb], .bool (!(decide (ra = fo) && rb == fb))]) ∧ Fr [] w w' := by
  have HZ := hid hZ
  have HM := hid hM
  have hZl := obj_lt hZ
  obtain ⟨w2, hw2⟩ : ∃ w2, w2 = ((w.alloc (.cells #[.int .i64 0, .bool false] 35)).alloc (.cells #[.int .i64 fo, .bool fb] 35)).alloc (.cells #[.int .i64 a, .bool bk] 349) := ⟨_, rfl⟩
  have HF2 := hid (show Fr [] w w2 by rw [hw2]; exact (((Fr.refl [] w).alloc _).alloc _).alloc _)
  have HR2 := hid (show w2.heap[w.heap.size]? = some (.cells #[.int .i64 0, .bool false] 35 (0, 0)) by rw [hw2]; exact obj_fr (obj_new w _) (((Fr.refl [] _).alloc _).alloc _) List.not_mem_nil)
  have HT2 := hid (show w2.heap[w.heap.size + 1]? = some (.cells #[.int .i64 fo, .bool fb] 35 (0, 0)) by
    have hs : (w.alloc (.cells #[.int .i64 0, .bool false] 35)).heap.size = w.heap.size + 1 := by simp
    have h0 := obj_new (w.alloc (.cells #[.int .i64 0, .bool false] 35)) (.cells #[.int .i64 fo, .bool fb] 35)
    rw [hs] at h0
    rw [hw2]; exact obj_fr h0 ((Fr.refl [] _).alloc _) List.not_mem_nil)
  have HV2 := hid (show w2.heap[w.heap.size + 1 + 1]? = some (.cells #[.int .i64 a, .bool bk] 349 (0, 0)) by
    have hs : ((w.alloc (.cells #[.int .i64 0, .bool false] 35)).alloc (.cells #[.int .i64 fo, .bool fb] 35)).heap.size = w.heap.size + 1 + 1 := by simp
    have h0 := obj_new ((w.alloc (.cells #[.int .i64 0, .bool false] 35)).alloc (.cells #[.int .i64 fo, .bool fb] 35)) (.cells #[.int .i64 a, .bool bk] 349)
    rw [hs] at h0
    rw [hw2]; exact h0)
  have z0 := obj_cell hZ (i := 0) (v := .pointer (some ⟨P, 0, none⟩)) rfl
  have z3 := obj_cell hZ (i := 3) (v := .int .i64 fo) rfl
  have z4 := obj_cell hZ (i := 4) (v := .bool fb) rfl
  have t7 := ta7 (.agg #[.int .i64 a, .bool bk])
  have t8 := ta8 (.agg #[.int .i64 a, .bool bk])
  have t9 := ta9 (.agg #[.int .i64 a, .bool bk])
  have t10 := ta10 (.agg #[.int .i64 a, .bool bk])
  clear hZ hM
  go_enter Tryz.func167, Tryz.ntmps167
  go_wp2_with fail
  rw [← hw2]
  clear hw2
  have y0 := HF2.out.cell z0 List.not_mem_nil
  have y3 := HF2.out.cell z3 List.not_mem_nil
  have y4 := HF2.out.cell z4 List.not_mem_nil
  have y8 := obj_cell HV2.out (i := 0) (v := .int .i64 a) rfl
  have y9 := obj_cell HV2.out (i := 1) (v := .bool bk) rfl
  have HV8 := hid (And.intro y8 y9)
  go_region_held (fun wz => wz.cell? ⟨Z, 0, none⟩ = some (.pointer (some ⟨P, 0, none⟩)) ∧ wz.cell? ⟨w.heap.size + 1 + 1, 0, none⟩ = some (.int .i64 a) ∧ wz.cell? ⟨w.heap.size + 1 + 1, 1, none⟩ = some (.bool bk)) (first | with_reducible exact HS1 | with_reducible exact HS2 | go_keep)
    (first
      | (go_at_call 87; refine (HM.out _ ?fa).mono ?_; (case fa => exact HF2.out.drew); rintro e w4 ⟨rfl, hf4⟩; have HF4 := hid (show Fr [] w2 w4 from Fr.trans (Fr.refl [] w2).drew hf4); have HG4 := hid (HF2.out.trans HF4.out); have HT4 := hid (obj_fr HT2.out HF4.out List.not_mem_nil); have r0 := obj_cell HT4.out (i := 0) (v := .int .i64 fo) rfl; have r1 := obj_cell HT4.out (i := 1) (v := .bool fb) rfl; have g0 := obj_froz HT4.out 0; have g1 := obj_froz HT4.out 1; have HS1 := And.intro (HF4.out.cell y0 (by first | (simp; done) | (simp; omega))) (And.intro (HF4.out.cell y8 (by first | (simp; done) | (simp; omega))) (HF4.out.cell y9 (by first | (simp; done) | (simp; omega)))); have HK0 := hid (Fr.set (b := w.heap.size + 1) (i := 1) (Fr.set (b := w.heap.size + 1) (i := 0) (HF4.out.mono (fun _ h _ => absurd h List.not_mem_nil) : Fr [w.heap.size + 1] w2 w4) (List.mem_singleton.2 rfl) (.int .i64 ra)) (List.mem_singleton.2 rfl) (.bool rb)); have HKK := hid (Fr.set_new (b := w.heap.size + 1) (i := 1) (v := .bool rb) (Fr.set_new (b := w.heap.size + 1) (i := 0) (v := .int .i64 ra) HG4.out (Nat.le_succ _)) (Nat.le_succ _)); have HS2 := And.intro (HK0.out.cell y0 (by first | (simp; done) | (simp; omega))) (And.intro (HK0.out.cell y8 (by first | (simp; done) | (simp; omega))) (HK0.out.cell y9 (by first | (simp; done) | (simp; omega)))); clear hf4))
  all_goals (
    obtain ⟨w5, hw5⟩ : ∃ w5, w5 = (w4.setCell ⟨w.heap.size + 1, 0, none⟩ (.int .i64 ra)).setCell ⟨w.heap.size + 1, 1, none⟩ (.bool rb) := ⟨_, rfl⟩
    have HT5 := hid (show w5.heap[w.heap.size + 1]? = some (.cells #[.int .i64 ra, .bool rb] 35 (0, 0)) by rw [hw5]; exact obj_set (obj_set HT4.out 0 _) 1 _)
    have HG5 := hid (show Fr [] w w5 by rw [hw5]; exact HKK.out)
    have HR5 := hid (show w5.heap[w.heap.size]? = some (.cells #[.int .i64 0, .bool false] 35 (0, 0)) by rw [hw5]; exact obj_fr HR2.out HK0.out (by simp))
    rw [← hw5]
    clear hw5
    have x0 := obj_cell HT5.out (i := 0) (v := .int .i64 ra) rfl
    have x1 := obj_cell HT5.out (i := 1) (v := .bool rb) rfl
    have x3 := HG5.out.cell z3 List.not_mem_nil
    have x4 := HG5.out.cell z4 List.not_mem_nil
    have u0 := obj_cell HR5.out (i := 0) (v := .int .i64 0) rfl
    have u1 := obj_cell HR5.out (i := 1) (v := .bool false) rfl
    have l0 := obj_froz HR5.out 0
    have l1 := obj_froz HR5.out 1
    have HK9 := hid (Fr.set (b := w.heap.size) (i := 1) (Fr.set (b := w.heap.size) (i := 0) (Fr.refl [w.heap.size] w5) (List.mem_singleton.2 rfl) (.int .i64 ra)) (List.mem_singleton.2 rfl) (.bool rb)).drew
    have HS9 := And.intro (HK9.out.cell x0 (by simp)) (And.intro (HK9.out.cell x1 (by simp)) (And.intro (HK9.out.cell x3 (by simp; omega)) (HK9.out.cell x4 (by simp; omega))))
    have HKL := hid (Fr.set_new (b := w.heap.size) (i := 1) (v := .bool rb) (Fr.set_new (b := w.heap.size) (i := 0) (v := .int .i64 ra) HG5.out (Nat.le_refl _)) (Nat.le_refl _)).drew
    by_cases hro : ra = fo
    · subst hro
      cases rb
      · cases fb
        · go_wp2_with fail
          go_region_held (fun wz => wz.cell? ⟨w.heap.size + 1, 0, none⟩ = some (.int .i64 ra) ∧ wz.cell? ⟨w.heap.size + 1, 1, none⟩ = some (.bool false) ∧ wz.cell? ⟨Z, 3, none⟩ = some (.int .i64 ra) ∧ wz.cell? ⟨Z, 4, none⟩ = some (.bool false)) (first | with_reducible exact HS9 | go_keep) (fail)
          all_goals (
            go_wp2
            refine bodyPost_ret (results_row_tmp (t := 35) (fr := (0, 0)) rfl _ _ w.heap.size _ _ rfl (obj_set (obj_set HR5.out 0 _) 1 _) Tryz.underlying35 rfl (by kernel_rfl)) rfl ?_
            exact ⟨by simp, HKL.out⟩)
        · go_wp2_with fail
          go_region_held (fun wz => wz.cell? ⟨w.heap.size + 1, 0, none⟩ = some (.int .i64 ra) ∧ wz.cell? ⟨w.heap.size + 1, 1, none⟩ = some (.bool false) ∧ wz.cell? ⟨Z, 3, none⟩ = some (.int .i64 ra) ∧ wz.cell? ⟨Z, 4, none⟩ = some (.bool true)) (first | with_reducible exact HS9 | go_keep) (fail)
          all_goals (
            go_wp2
            refine bodyPost_ret (results_row_tmp (t := 35) (fr := (0, 0)) rfl _ _ w.heap.size _ _ rfl (obj_set (obj_set HR5.out 0 _) 1 _) Tryz.underlying35 rfl (by kernel_rfl)) rfl ?_
            exact ⟨by simp, HKL.out⟩)
      · cases fb
        · go_wp2_with fail
          go_region_held (fun wz => wz.cell? ⟨w.heap.size + 1, 0, none⟩ = some (.int .i64 ra) ∧ wz.cell? ⟨w.heap.size + 1, 1, none⟩ = some (.bool true) ∧ wz.cell? ⟨Z, 3, none⟩ = some (.int .i64 ra) ∧ wz.cell? ⟨Z, 4, none⟩ = some (.bool false)) (first | with_reducible exact HS9 | go_keep) (fail)
          all_goals (
            go_wp2
            refine bodyPost_ret (results_row_tmp (t := 35) (fr := (0, 0)) rfl _ _ w.heap.size _ _ rfl (obj_set (obj_set HR5.out 0 _) 1 _) Tryz.underlying35 rfl (by kernel_rfl)) rfl ?_
            exact ⟨by simp, HKL.out⟩)
        · go_wp2_with fail
          go_region_held (fun wz => wz.cell? ⟨w.heap.size + 1, 0, none⟩ = some (.int .i64 ra) ∧ wz.cell? ⟨w.heap.size + 1, 1, none⟩ = some (.bool true) ∧ wz.cell? ⟨Z, 3, none⟩ = some (.int .i64 ra) ∧ wz.cell? ⟨Z, 4, none⟩ = some (.bool true)) (first | with_reducible exact HS9 | go_keep) (fail)
          all_goals (
            go_wp2
            refine bodyPost_ret (results_row_tmp (t := 35) (fr := (0, 0)) rfl _ _ w.heap.size _ _ rfl (obj_set (obj_set HR5.out 0 _) 1 _) Tryz.underlying35 rfl (by kernel_rfl)) rfl ?_
            exact ⟨by simp, HKL.out⟩)
    · have hrb : (ra == fo) = false := by simpa using hro
      go_wp2_with fail
      go_region_held (fun wz => wz.cell? ⟨w.heap.size + 1, 0, none⟩ = some (.int .i64 ra) ∧ wz.cell? ⟨w.heap.size + 1, 1, none⟩ = some (.bool rb) ∧ wz.cell? ⟨Z, 3, none⟩ = some (.int .i64 fo) ∧ wz.cell? ⟨Z, 4, none⟩ = some (.bool fb)) (first | with_reducible exact HS9 | go_keep) (fail)
      all_goals (
        go_wp2
        refine bodyPost_ret (results_row_tmp (t := 35) (fr := (0, 0)) rfl _ _ w.heap.size _ _ rfl (obj_set (obj_set HR5.out 0 _) 1 _) Tryz.underlying35 rfl (by kernel_rfl)) rfl ?_
        exact ⟨by simp [hro], HKL.out⟩))
end Go.Proofs.YtnakejhohdbfdabGreatDoor
