/- The program's look ahead of a bracket: a range backward over a sequence's units, walked. -/
import Derived.Test.YtnakejhohdbfdaaGreatDoorMk
import Derived.Test.YtnakejhohdbfdaaGreatDoorPrV
namespace Go.Proofs.YtnakejhohdbfdaaGreatDoor
open Go.RowKit Lev Go.Shelf
attribute [local go_sem] Oper.semAt_some

theorem Fr.behind {T T' : List Nat} {w w1 w2 : World} (h : Fr T w w1) (k : Fr T' w1 w2) (hT : ∀ b ∈ T', w.heap.size ≤ b) : Fr T w w2 :=
  ⟨k.os.trans h.os, k.tape.trans h.tape, k.output.trans h.output, Nat.le_trans h.size k.size, fun b hb hs => (k.block b (Nat.lt_of_lt_of_le hb h.size) (fun hm => by have := hT b hm; omega)).trans (h.block b hb hs)⟩
/-- What the range reads. -/
structure VB (q : UH) (C L : List Int) (S Q cQ : Nat) (s : Sq) (lv : Int) (bx i : Nat) (W : World) : Prop where
  u : US W q C L
  s : SS W q S Q cQ s lv
  b : W.cell? ⟨bx, 0, none⟩ = some (.slice (some ⟨Q, 0, none⟩) i cQ)
theorem ahead_none {s : Sq} {C : List Int} {k : Nat} (h : side (cl s.I C k) = -1) : aheadTo s C (k + 1) = aheadTo s C k := by
  rw [aheadTo, if_neg (by omega)]
theorem ahead_some {s : Sq} {C : List Int} {k : Nat} (h : side (cl s.I C k) ≠ -1) : aheadTo s C (k + 1) = side (cl s.I C k) := by
  have := side_cases (cl s.I C k)
  rw [aheadTo, if_pos (by omega)]
set_option maxRecDepth 100000 in
set_option maxHeartbeats 4000000 in
theorem back_in (q : UH) (C L : List Int) (S Q cQ : Nat) (s : Sq) (lv : Int) (bx i : Nat) (hi : i ≤ s.I.length) (n l : Nat) (V' : Nat → World → Prop) (Vx' : World → Prop) (hVB : ∀ j A, V' j A → VB q C L S Q cQ s lv bx i A) (_ : ∀ C A B, V' C A → Fr [] A B → V' C B)
    (hY : ∀ j (x : Nat) A, V' j A → (j = x + 1 ∧ x < i) → YieldAt Fence.wide (n - 1) Tryz.prog l #[.int .i64 x, .pointer (some ⟨q.U, nix s.I x * 4, none⟩)] A fun e B => (e = .returned (.bool true) ∧ V' x B) ∨ (e = .returned (.bool false) ∧ Vx' B)) (W : World) (h0 : V' i W) :
    CallsIn Fence.wide n Tryz.prog 219 (#[.func (.yield l) #[] #[]] ++ #[.pointer (some ⟨bx, 0, none⟩)]) W fun e B => (∃ v, e = .returned v) ∧ (V' 0 B ∨ Vx' B) := by
  have b := (hVB _ _ h0).b
  have sm := (hVB _ _ h0).s.sm
  have HVB := hid hVB
  have HY := hid hY
  have H0 := hid h0
  have hib : i ≤ 1000000 := by omega
  clear hVB hY h0
  refine callsIn_of_wp Tryz.func219 rfl trivial ?_ rfl
  simp only [Tryz.ntmps219, List.size_toArray, List.length_cons, List.length_nil, Nat.reduceAdd, Nat.reduceSub, Array.replicate_succ, Array.replicate_zero, List.push_toArray, List.append_toArray, List.nil_append, List.cons_append]
  have hw0 : IntKind.i64.wrap ((i : Int) - 1) = (i : Int) - 1 := by rw [IntKind.wrap_i64]; omega
  gi_wp2
  clear b hw0
  gi_loopw [3] (fun a wr => ∃ (j : Nat), a = .int .i64 ((j : Int) - 1) ∧ j ≤ i ∧ Hid (V' j wr)) (fun a _ => (intOf a + 1).toNat)
  case atStart => exact ⟨i, rfl, Nat.le_refl _, H0⟩
  case round =>
    obtain ⟨j, rfl, hj, HV⟩ := hrel
    rcases Nat.eq_zero_or_pos j with hj0 | hj0
    · subst hj0
      gi_wp2
      go_end0
      exact ⟨⟨_, rfl⟩, .inl HV.out⟩
    · obtain ⟨x, rfl⟩ : ∃ x, j = x + 1 := ⟨j - 1, by omega⟩
      have hx : ((x + 1 : Nat) : Int) - 1 = (x : Int) := by omega
      rw [hx]
      have b := (HVB.out _ _ HV.out).b
      have p := (HVB.out _ _ HV.out).s.p x (by omega)
      have hxi : (x : Int) < (i : Int) := by omega
      have hx0 : (0 : Int) ≤ (x : Int) := by omega
      have hw0 : IntKind.i64.wrap ((x : Int) - 1) = (x : Int) - 1 := by rw [IntKind.wrap_i64]; omega
      obtain ⟨fn, tmps, assign, body, hyy, hR⟩ := HY.out (x + 1) x wr HV.out ⟨rfl, by omega⟩
      generalize nix s.I x = y at *
      clear HVB HY hx
      gi_wp2
      refine ⟨fun hd => absurd hd (by decide), hR.mono ?_⟩
      rintro e W3 (⟨rfl, hV3⟩ | ⟨rfl, hx3⟩)
      · have HV3 := hid hV3
        clear hV3
        gi_wp2
        go_roundw
        case rel => exact ⟨x, by simp, by omega, HV3⟩
        case measure => simp [intOf]
      · have HX3 := hid hx3
        clear hx3
        gi_wp2
        refine bodyPost_ret (results_none rfl _ _ _) rfl ?_
        exact ⟨⟨_, rfl⟩, .inr HX3.out⟩
theorem fn171_any (Q i c : Nat) (w : World) : Calls Tryz.prog 198 #[.slice (some ⟨Q, 0, none⟩) i c] w fun e w' =>
    e = .returned (.func (.func 219) #[] #[.pointer (some ⟨w.heap.size, 0, none⟩)]) ∧ w' = w.alloc (.cells #[.slice (some ⟨Q, 0, none⟩) i c] 221) := by
  go_enter Tryz.func198, Tryz.ntmps198
  go_wp2
  go_ret
  exact ⟨by simp, rfl⟩
/-- What holds between two rounds. -/
structure VA (w : World) (n : Nat) (q : UH) (C L : List Int) (S Q cQ : Nat) (s : Sq) (lv : Int) (i j : Nat) (A : World) : Prop where
  v : VB q C L S Q cQ s lv (w.heap.size + 1) i A
  r : A.cell? ⟨w.heap.size, 0, none⟩ = some (.int .i64 0)
  rf : A.frozen? ⟨w.heap.size, 0, none⟩ = false
  f : Fr [] w A
  n : n ≤ A.heap.size
  e : aheadTo s C i = aheadTo s C j
theorem VA.below {w : World} {n : Nat} {q : UH} {C L : List Int} {S Q cQ : Nat} {s : Sq} {lv : Int} {i j : Nat} {A B : World} (h : VA w n q C L S Q cQ s lv i j A) (hn : n = w.heap.size + 2) (hU : q.U < w.heap.size) (hS : S < w.heap.size) (hQ : 0 < s.I.length → Q < w.heap.size) (hb : Below n A B) : VA w n q C L S Q cQ s lv i j B := by
  have hf := fr_of_below hb
  have z : ∀ {k}, k < w.heap.size → k ∉ (List.range A.heap.size).filter (fun k => decide (n ≤ k)) := fun hk => not_late (by omega)
  refine ⟨⟨h.v.u.fr hf (z hU), ⟨hf.cell h.v.s.c0 (z hS), hf.cell h.v.s.c1 (z hS), hf.cell h.v.s.c2 (z hS), hf.cell h.v.s.c3 (z hS), fun k hk => hf.cell (h.v.s.p k hk) (z (hQ (by omega))), h.v.s.lt, h.v.s.ne, h.v.s.sm, h.v.s.cp⟩, hf.cell h.v.b (not_late (by omega))⟩, hf.cell h.r (not_late (by omega)), hf.froz h.r (not_late (by omega)) h.rf, ?_, by have := h.n; have := hb.size; omega, h.e⟩
  exact ⟨hb.os.trans h.f.os, hb.tape.trans h.f.tape, hb.output.trans h.f.output, Nat.le_trans h.f.size hb.size, fun k hk hm => (hb.block k (by omega)).trans (h.f.block k hk hm)⟩
theorem fr_below_late {w A B : World} {n : Nat} (h : Fr [] w A) (hb : Below n A B) (hn : w.heap.size ≤ n) : Fr [] w B :=
  ⟨hb.os.trans h.os, hb.tape.trans h.tape, hb.output.trans h.output, Nat.le_trans h.size hb.size, fun k hk hm => (hb.block k (by omega)).trans (h.block k hk hm)⟩
set_option maxRecDepth 100000 in
set_option maxHeartbeats 4000000 in
theorem ahd_any (q : UH) (C L : List Int) (S Q cQ : Nat) (s : Sq) (lv : Int) (i : Nat) (w : World) (hu : US w q C L) (hs : SS w q S Q cQ s lv) (hi : i < s.I.length) (hb : s.bef = 0 ∨ s.bef = 1) :
    Calls Tryz.prog 152 #[.pointer (some ⟨S, 0, none⟩), .int .i64 i] w fun e w' => e = .returned (.int .i64 (aheadTo s C i)) ∧ Fr [] w w' := by
  have hUw : q.U < w.heap.size := World.block_lt_of_cell? _ _ (hu.r _ (hs.lt 0 (by omega)))
  have hSw : S < w.heap.size := World.block_lt_of_cell? _ _ hs.c0
  have hQw : Q < w.heap.size := World.block_lt_of_cell? _ _ (hs.p 0 (by omega))
  have HU := hid hu
  have HS := hid hs
  have c0 := hs.c0
  have cp := hs.cp
  have sm := hs.sm
  have HST := hid (fun w => fn171_any Q i cQ w)
  have HB := hid (show aheadTo s C 0 = s.bef by rw [aheadTo]; rcases hb with e | e <;> rw [e] <;> rfl)
  obtain ⟨Z, hZ⟩ : ∃ Z, Z = aheadTo s C i := ⟨_, rfl⟩
  rw [← hZ]
  have HZ := hid hZ
  obtain ⟨m, hm⟩ : ∃ m, m = s.I.length := ⟨_, rfl⟩
  have HM := hid hm
  rw [← hm] at c0 sm hi cp
  have hi1 : (i : Int) ≤ (cQ : Int) := by omega
  have hi2 : (0 : Int) ≤ (i : Int) := by omega
  clear hu hs hZ hb hm
  refine (callsIn_wide (n := 3)).1 ?_
  refine callsIn_of_wp_marks Tryz.func152 rfl trivial ?_ rfl
  simp only [Tryz.ntmps152, List.size_toArray, List.length_cons, List.length_nil, Nat.reduceAdd, Nat.reduceSub, Array.replicate_succ, Array.replicate_zero, List.push_toArray, List.append_toArray, List.nil_append, List.cons_append]
  gi_wp2_with (refine ⟨trivial, ?_⟩; gi_at_call 198; refine (callsIn_wide.2 (HST.out _)).mono ?_; rintro e w' ⟨rfl, rfl⟩)
  obtain ⟨W0, hW0⟩ : ∃ W0, (w.alloc (.cells #[.int .i64 0] 199)).alloc (.cells #[.slice (some ⟨Q, 0, none⟩) i cQ] 221) = W0 := ⟨_, rfl⟩
  have hsz : W0.heap.size = w.heap.size + 2 := by rw [← hW0]; simp
  have hV0 : VA w W0.heap.size q C L S Q cQ s lv i i W0 := by
    have hf : Fr [] w W0 := by rw [← hW0]; exact ((Fr.refl [] w).alloc _).alloc _
    have k1 : (w.alloc (.cells #[.int .i64 0] 199)).cell? ⟨w.heap.size, 0, none⟩ = some (.int .i64 0) := by rw [World.cell?_alloc_at (hn := rfl)]; rfl
    refine ⟨⟨HU.out.fr hf List.not_mem_nil, HS.out.fr hf List.not_mem_nil List.not_mem_nil, ?_⟩, ?_, ?_, hf, Nat.le_refl _, rfl⟩
    · rw [← hW0, World.cell?_alloc_at (hn := by simp)]; rfl
    · rw [← hW0, World.cell?_alloc_past (hn := by simp)]; exact k1
    · rw [← hW0]; exact ((Fr.refl [] (w.alloc (.cells #[.int .i64 0] 199))).alloc _).froz k1 List.not_mem_nil (by simp)
  rw [hW0]
  refine wpIn_range_rt rfl (by omega) (gf := 219) (lb := #[.pointer (some ⟨w.heap.size + 1, 0, none⟩)]) rfl trivial (enters_of Tryz.func219 (by kernel_rfl) rfl)
    (encs := fun x : Nat => #[.int .i64 x, .pointer (some ⟨q.U, nix s.I x * 4, none⟩)]) (fun _ => rfl)
    (VA w W0.heap.size q C L S Q cQ s lv i) (fun A => A.cell? ⟨w.heap.size, 0, none⟩ = some (.int .i64 Z) ∧ Fr [] w A) (fun _ _ h => h.n) (fun _ _ _ h hb => h.below hsz hUw hSw (fun _ => hQw) hb)
    (fun A B h hb => ⟨(fr_of_below hb).cell h.1 (not_late (by omega)), fr_below_late h.2 hb (by omega)⟩)
    (fun j x => j = x + 1 ∧ x < i) (fun _ x => x) i 0
    (fun l V' Vx' W h1 h2 h3 h4 => back_in q C L S Q cQ s lv _ i (by rw [← HM.out]; omega) _ l V' Vx' (fun C A h => (h1 C A h).v) h2 h3 W h4)
    (fun x => { tmps := #[.pointer (some ⟨S, 0, none⟩), .int .i64 i, undef, undef, .pointer (some ⟨w.heap.size, 0, none⟩), undef, .pointer (some ⟨q.U, nix s.I x * 4, none⟩), undef, .pointer (some ⟨S, 0, none⟩), .pointer (some ⟨S, 0, none⟩), .pointer (some ⟨S, 0, none⟩), .slice (some ⟨Q, 0, none⟩) m cQ, .int .i64 i, .slice (some ⟨Q, 0, none⟩) i cQ, .func (.func 219) #[] #[.pointer (some ⟨w.heap.size + 1, 0, none⟩)], .int .i64 x, .pointer (some ⟨q.U, nix s.I x * 4, none⟩), undef, undef, undef, undef, undef, undef, undef, undef, undef, undef, undef, undef], defers := [] })
    hV0 ?assign ?body ?done ?stop
  case assign =>
    intro l x W K hK
    gi_wp2
    exact hK
  case body =>
    rintro l j x A hV ⟨rfl, hx⟩
    have HV := hid hV
    have p2 := hV.v.u.c _ (hV.v.s.lt x (by rw [← HM.out]; omega))
    have r0 := hV.r
    have rf := hV.rf
    have HS1 := hid (fn67_any (cl s.I C x))
    have HE0 := hid (fun h => ahead_none (s := s) (C := C) (k := x) h)
    have HE1 := hid (fun h => ahead_some (s := s) (C := C) (k := x) h)
    have HEE := hid (HZ.out.trans hV.e)
    dsimp only [cl] at *
    generalize nix s.I x = y at *
    generalize nth C y = c at *
    generalize hz : side c = z at *
    clear hz hV hV0 hW0 HST c0
    by_cases e1 : z = -1
    · have HE2 := hid (HE0.out e1)
      subst e1
      gi_wp2_with (refine ⟨trivial, ?_⟩; gi_at_call 149; refine (CallsIn.inRound l (callsIn_wide.2 (HS1.out _))).mono ?_; rintro e w' ⟨rfl, rfl⟩)
      exact ⟨fun _ _ _ => rfl, ⟨HV.out.v, HV.out.r, HV.out.rf, HV.out.f, HV.out.n, HV.out.e.trans HE2.out⟩⟩
    · have HE2 := hid (HEE.out.trans (HE1.out e1))
      have e1' : (z == -1) = false := by simp [e1]
      gi_wp2_with (refine ⟨trivial, ?_⟩; gi_at_call 149; refine (CallsIn.inRound l (callsIn_wide.2 (HS1.out _))).mono ?_; rintro e w' ⟨rfl, rfl⟩)
      refine ⟨fun k hk hk2 => Below.heap_setCell _ _ _ _ (by dsimp only; omega), ?_, ?_⟩
      · rw [HE2.out]; exact World.cell?_setCell_same' _ _ _ (by rw [r0]; rfl)
      · exact HV.out.f.behind (fr_set1 _ _ _ _) (fun b hb => by rw [List.mem_singleton.1 hb]; exact Nat.le_refl _)
  case done =>
    rintro D A hV hD hK
    have HV := hid hV
    have c2 := hV.v.s.c2
    have r0 := hV.r
    have rf := hV.rf
    have hZb : s.bef = Z := by rw [HZ.out, hV.e, HB.out]
    rw [hZb] at c2
    clear hV hV0 hW0 hZb
    gi_wp2
    have hK' : (A.setCell ⟨w.heap.size, 0, none⟩ (.int .i64 Z)).heap[D]? = some (.deferred (some [])) := (Below.heap_setCell _ _ _ _ (by dsimp only; omega)).trans hK
    refine ⟨by simp, .inl ⟨_, _, rfl, run_takeDeferred hK', ?_⟩⟩
    have hc5 : ((A.setCell ⟨w.heap.size, 0, none⟩ (.int .i64 Z)).putObj D (.deferred none)).cell? ⟨w.heap.size, 0, none⟩ = some (.int .i64 Z) := (fr_of_below (below_put (B := W0.heap.size) hD (.deferred none))).cell (World.cell?_setCell_same' _ _ _ (by rw [r0]; rfl)) (not_late (by omega))
    refine ⟨.int .i64 Z, ?_, rfl, fr_below_late (HV.out.f.behind (fr_set1 _ _ _ _) (fun b hb => by rw [List.mem_singleton.1 hb]; exact Nat.le_refl _)) (below_put (B := W0.heap.size) hD (.deferred none)) (by omega)⟩
    simp [results, Tryz.f152, go_sem, hc5]
  case stop =>
    rintro D A ⟨hc, hf⟩ hD hK
    clear hV0 hW0
    gi_wp2
    refine ⟨by simp, .inl ⟨_, _, rfl, run_takeDeferred hK, ?_⟩⟩
    have hc5 : (A.putObj D (.deferred none)).cell? ⟨w.heap.size, 0, none⟩ = some (.int .i64 Z) := (fr_of_below (below_put (B := W0.heap.size) hD (.deferred none))).cell hc (not_late (by omega))
    refine ⟨.int .i64 Z, ?_, rfl, fr_below_late hf (below_put (B := W0.heap.size) hD (.deferred none)) (by omega)⟩
    simp [results, Tryz.f152, go_sem, hc5]
end Go.Proofs.YtnakejhohdbfdaaGreatDoor
