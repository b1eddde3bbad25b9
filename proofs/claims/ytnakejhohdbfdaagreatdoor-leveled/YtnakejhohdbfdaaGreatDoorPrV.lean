/- The program's terminators and neutrals: the callers of the stretches, walked. -/
import Derived.Test.YtnakejhohdbfdaaGreatDoorPrU
namespace Go.Proofs.YtnakejhohdbfdaaGreatDoor
open Go.RowKit Lev Go.Shelf
attribute [local go_sem] Oper.semAt_some

theorem fr_of_below {n : Nat} {A B : World} (h : Below n A B) : Fr ((List.range A.heap.size).filter (fun k => decide (n ≤ k))) A B :=
  ⟨h.os, h.tape, h.output, h.size, fun k hk hn => h.block k (Nat.lt_of_not_le (fun hle => hn (List.mem_filter.2 ⟨List.mem_range.2 hk, decide_eq_true hle⟩)))⟩
theorem not_late {n k : Nat} {A : World} (h : k < n) : k ∉ (List.range A.heap.size).filter (fun k => decide (n ≤ k)) := fun hm => by
  have := of_decide_eq_true (List.mem_filter.1 hm).2
  omega
theorem Fr.of_drewN {T : List Nat} {w w' : World} {n : Nat} (h : Fr T (w.drewN n) w') : Fr T w w' := ⟨h.os, h.tape, h.output, h.size, h.block⟩
/-- What holds between two rounds. -/
structure VS (w : World) (n : Nat) (q : UH) (L : List Int) (S Q cQ : Nat) (s : Sq) (lv : Int) (ff : Nat) (C : List Int) (A : World) : Prop where
  v : VP q L S Q cQ s lv (w.heap.size + 1) (w.heap.size + 2) ff C A
  b0 : A.cell? ⟨w.heap.size, 0, none⟩ = some (.pointer (some ⟨S, 0, none⟩))
  f : Fr [q.U] w A
  n : n ≤ A.heap.size
theorem VS.below {w : World} {n : Nat} {q : UH} {L : List Int} {S Q cQ : Nat} {s : Sq} {lv : Int} {ff : Nat} {C : List Int} {A B : World} (h : VS w n q L S Q cQ s lv ff C A) (hn : n = w.heap.size + 3) (hU : q.U < w.heap.size) (hS : S < w.heap.size) (hQ : 0 < s.I.length → Q < w.heap.size) (hb : Below n A B) : VS w n q L S Q cQ s lv ff C B := by
  have hf := fr_of_below hb
  have z : ∀ {k}, k < w.heap.size → k ∉ (List.range A.heap.size).filter (fun k => decide (n ≤ k)) := fun hk => not_late (by omega)
  refine ⟨⟨h.v.u.fr hf (z hU), ⟨hf.cell h.v.s.c0 (z hS), hf.cell h.v.s.c1 (z hS), hf.cell h.v.s.c2 (z hS), hf.cell h.v.s.c3 (z hS), fun k hk => hf.cell (h.v.s.p k hk) (z (hQ (by omega))), h.v.s.lt, h.v.s.ne, h.v.s.sm, h.v.s.cp⟩, hf.cell h.v.b1 (not_late (by omega)), hf.cell h.v.b2 (not_late (by omega))⟩, hf.cell h.b0 (not_late (by omega)), ?_, by have := h.n; have := hb.size; omega⟩
  exact ⟨hb.os.trans h.f.os, hb.tape.trans h.f.tape, hb.output.trans h.f.output, Nat.le_trans h.f.size hb.size, fun k hk hm => (hb.block k (by omega)).trans (h.f.block k hk hm)⟩
/-- A round that writes the units alone. -/
theorem VS.next {w : World} {n : Nat} {q : UH} {L : List Int} {S Q cQ : Nat} {s : Sq} {lv : Int} {ff : Nat} {C C' : List Int} {A B : World} (h : VS w n q L S Q cQ s lv ff C A) (hU : q.U < w.heap.size) (hu : US B q C' L) (hf : Fr [q.U] A B) : VS w n q L S Q cQ s lv ff C' B := by
  have z : ∀ {k}, k ≠ q.U → k ∉ [q.U] := fun hk hm => hk (List.mem_singleton.1 hm)
  exact ⟨⟨hu, h.v.s.fr hf (z h.v.s.ne.1) (z h.v.s.ne.2), hf.cell h.v.b1 (z (by omega)), hf.cell h.v.b2 (z (by omega))⟩, hf.cell h.b0 (z (by omega)), h.f.trans hf, Nat.le_trans h.n hf.size⟩
theorem VS.late {n : Nat} {q : UH} {A B : World} (hU : q.U < n) (hf : Fr [q.U] A B) : ∀ k, n ≤ k → k < A.heap.size → B.heap[k]? = A.heap[k]? := fun k h1 h2 => hf.block k h2 (fun hm => by have := List.mem_singleton.1 hm; omega)
theorem fn126_any (S ff : Nat) (w : World) : Calls Tryz.prog 153 #[.pointer (some ⟨S, 0, none⟩), .func (.func ff) #[] #[]] w fun e w' =>
    e = .returned (.func (.func 199) #[] #[.pointer (some ⟨w.heap.size, 0, none⟩), .pointer (some ⟨w.heap.size + 1, 0, none⟩)]) ∧ w' = (w.alloc (.cells #[.pointer (some ⟨S, 0, none⟩)] 140)).alloc (.cells #[.func (.func ff) #[] #[]] 238) := by
  go_enter Tryz.func153, Tryz.ntmps153
  go_wp2
  go_ret
  exact ⟨by simp, rfl⟩
set_option maxRecDepth 100000 in
set_option maxHeartbeats 4000000 in
theorem term_any (q : UH) (C L : List Int) (S Q cQ : Nat) (s : Sq) (lv : Int) (w : World) (hu : US w q C L) (hs : SS w q S Q cQ s lv) (h0 : 0 < s.I.length) :
    Calls Tryz.prog 144 #[.pointer (some ⟨S, 0, none⟩)] w fun e w' => e = .returned (.tuple #[]) ∧ US w' q (scan s.I isET (etAct s) C) L ∧ Fr [q.U] w w' := by
  have hUw : q.U < w.heap.size := World.block_lt_of_cell? _ _ (hu.r _ (hs.lt 0 h0))
  have hSw : S < w.heap.size := World.block_lt_of_cell? _ _ hs.c0
  have hQw : Q < w.heap.size := World.block_lt_of_cell? _ _ (hs.p 0 h0)
  have HU := hid hu
  have HS := hid hs
  have HST := hid (fun w => fn126_any S 189 w)
  have HFI := hid fn90_any
  obtain ⟨Z, hZ⟩ : ∃ Z, Z = scan s.I isET (etAct s) C := ⟨_, rfl⟩
  rw [← hZ]
  have HZ := hid hZ
  clear hu hs hZ
  refine (callsIn_wide (n := 3)).1 ?_
  refine callsIn_of_wp_marks Tryz.func144 rfl trivial ?_ rfl
  simp only [Tryz.ntmps144, List.size_toArray, List.length_cons, List.length_nil, Nat.reduceAdd, Nat.reduceSub, Array.replicate_succ, Array.replicate_zero, List.push_toArray, List.append_toArray, List.nil_append, List.cons_append]
  gi_wp2_with (refine ⟨trivial, ?_⟩; gi_at_call 153; refine (callsIn_wide.2 (HST.out _)).mono ?_; rintro e w' ⟨rfl, rfl⟩)
  obtain ⟨W0, hW0⟩ : ∃ W0, ((w.alloc (.cells #[.pointer (some ⟨S, 0, none⟩)] 140)).alloc (.cells #[.pointer (some ⟨S, 0, none⟩)] 140)).alloc (.cells #[.func (.func 189) #[] #[]] 238) = W0 := ⟨_, rfl⟩
  have hsz : W0.heap.size = w.heap.size + 3 := by rw [← hW0]; simp
  have hV0 : VS w W0.heap.size q L S Q cQ s lv 189 C W0 := by
    have hf : Fr [] w W0 := by rw [← hW0]; exact (((Fr.refl [] w).alloc _).alloc _).alloc _
    refine ⟨⟨HU.out.fr hf List.not_mem_nil, HS.out.fr hf List.not_mem_nil List.not_mem_nil, ?_, ?_⟩, ?_, ⟨hf.os, hf.tape, hf.output, hf.size, fun k hk _ => hf.block k hk List.not_mem_nil⟩, Nat.le_refl _⟩
    · rw [← hW0, World.cell?_alloc_past (hn := by simp), World.cell?_alloc_at (hn := by simp)]; rfl
    · rw [← hW0, World.cell?_alloc_at (hn := by simp)]; rfl
    · rw [← hW0, World.cell?_alloc_past (hn := by simp; omega), World.cell?_alloc_past (hn := by simp), World.cell?_alloc_at (hn := by simp)]; rfl
  rw [hW0]
  refine wpIn_range_st rfl (by omega) (gf := 199) (lb := #[.pointer (some ⟨w.heap.size + 1, 0, none⟩), .pointer (some ⟨w.heap.size + 1 + 1, 0, none⟩)]) rfl trivial (enters_of Tryz.func199 (by kernel_rfl) rfl)
    (encs := fun x : Nat × Nat => #[.int .i64 x.1, .int .i64 x.2]) (fun _ => rfl)
    (VS w W0.heap.size q L S Q cQ s lv 189) (fun _ _ h => h.n) (fun _ _ _ h hb => h.below hsz hUw hSw (fun _ => hQw) hb)
    (fun _ x => x.1 < x.2 ∧ x.2 ≤ s.I.length) (fun C x => etAct s x.1 x.2 C) C Z
    (fun l V' W h1 h2 h3 h4 => by rw [HZ.out]; exact stretch_in q L S Q cQ s lv _ _ isET (etAct s) 189 (.inl rfl) HFI.out _ l V' (fun C A h => (h1 C A h).v) h2 h3 C W h4)
    (fun x => { tmps := #[.pointer (some ⟨S, 0, none⟩), .pointer (some ⟨w.heap.size, 0, none⟩), .int .i64 x.1, .int .i64 x.2, .pointer (some ⟨S, 0, none⟩), .func (.func 199) #[] #[.pointer (some ⟨w.heap.size + 1, 0, none⟩), .pointer (some ⟨w.heap.size + 1 + 1, 0, none⟩)], .int .i64 x.1, .int .i64 x.2, undef, undef, undef, undef, undef, undef, undef, undef, undef, undef, undef, undef, undef, undef], defers := [] })
    hV0 ?assign ?body ?done
  case assign =>
    intro l x W K hK
    gi_wp2
    exact hK
  case body =>
    rintro l C1 ⟨a, b⟩ A hV ⟨hab, hbm⟩
    dsimp only at hab hbm ⊢
    have HV := hid hV
    have b0 := hV.b0
    have H144 := hid (fun B (hf : Fr [] A B) => fn73_any q C1 L S Q cQ s lv a B (HV.out.v.u.fr hf List.not_mem_nil) (HV.out.v.s.fr hf List.not_mem_nil List.not_mem_nil) (by omega))
    have H145 := hid (fun B (hf : Fr [] A B) => fn74_any q C1 L S Q cQ s lv b B (HV.out.v.u.fr hf List.not_mem_nil) (HV.out.v.s.fr hf List.not_mem_nil List.not_mem_nil) hbm)
    have H146 := hid (fun B (hf : Fr [] A B) => fn75_any q C1 L S Q cQ s lv a b 3 B (HV.out.v.u.fr hf List.not_mem_nil) (HV.out.v.s.fr hf List.not_mem_nil List.not_mem_nil) hab hbm)
    have HE := hid (show etAct s a b C1 = if ah s C1 a = 3 ∨ att s C1 b = 3 then fillTo s.I a 3 (b - a) C1 else C1 from rfl)
    generalize etAct s a b C1 = E at *
    generalize ah s C1 a = y1 at *
    generalize att s C1 b = y2 at *
    clear hV hV0 hW0 HFI HST
    by_cases e1 : y1 = 3
    · have HE2 := hid (show E = fillTo s.I a 3 (b - a) C1 by rw [HE.out, if_pos (.inl e1)])
      subst e1
      gi_wp2_with (refine ⟨trivial, ?_⟩; first | (gi_at_call 155; refine (CallsIn.inRound l (callsIn_wide.2 (H144.out _ (Fr.refl _ _)))).mono ?_; rintro e w' ⟨rfl, rfl⟩) | (gi_at_call 156; refine (CallsIn.inRound l (callsIn_wide.2 (H145.out _ (Fr.refl _ _)))).mono ?_; rintro e w' ⟨rfl, rfl⟩) | (gi_at_call 157; refine (CallsIn.inRound l (callsIn_wide.2 (H146.out _ (Fr.refl _ _)))).mono ?_; rintro e w' ⟨rfl, hu', hf'⟩; have HU2 := hid hu'; have HF2 := hid hf'; clear hu' hf') | skip)
      exact ⟨VS.late (by omega) HF2.out, HV.out.next hUw (by rw [HE2.out]; exact HU2.out) HF2.out⟩
    · have e1' : (y1 == 3) = false := by simp [e1]
      by_cases e2 : y2 = 3
      · have HE2 := hid (show E = fillTo s.I a 3 (b - a) C1 by rw [HE.out, if_pos (.inr e2)])
        subst e2
        gi_wp2_with (refine ⟨trivial, ?_⟩; first | (gi_at_call 155; refine (CallsIn.inRound l (callsIn_wide.2 (H144.out _ (Fr.refl _ _)))).mono ?_; rintro e w' ⟨rfl, rfl⟩) | (gi_at_call 156; refine (CallsIn.inRound l (callsIn_wide.2 (H145.out _ (Fr.refl _ _)))).mono ?_; rintro e w' ⟨rfl, rfl⟩) | (gi_at_call 157; refine (CallsIn.inRound l (callsIn_wide.2 (H146.out _ (Fr.refl _ _)))).mono ?_; rintro e w' ⟨rfl, hu', hf'⟩; have HU2 := hid hu'; have HF2 := hid hf'; clear hu' hf') | skip)
        exact ⟨VS.late (by omega) HF2.out, HV.out.next hUw (by rw [HE2.out]; exact HU2.out) HF2.out⟩
      · have HE2 := hid (show E = C1 by rw [HE.out, if_neg (by omega)])
        have e2' : (y2 == 3) = false := by simp [e2]
        gi_wp2_with (refine ⟨trivial, ?_⟩; first | (gi_at_call 155; refine (CallsIn.inRound l (callsIn_wide.2 (H144.out _ (Fr.refl _ _)))).mono ?_; rintro e w' ⟨rfl, rfl⟩) | (gi_at_call 156; refine (CallsIn.inRound l (callsIn_wide.2 (H145.out _ (Fr.refl _ _)))).mono ?_; rintro e w' ⟨rfl, rfl⟩) | (gi_at_call 157; refine (CallsIn.inRound l (callsIn_wide.2 (H146.out _ (Fr.refl _ _)))).mono ?_; rintro e w' ⟨rfl, hu', hf'⟩; have HU2 := hid hu'; have HF2 := hid hf'; clear hu' hf') | skip)
        exact ⟨fun _ _ _ => rfl, by rw [HE2.out]; exact HV.out⟩
  case done =>
    rintro D A hV hD hK
    have HV := hid hV
    clear hV
    gi_wp2
    refine ⟨by simp, .inl ⟨_, _, rfl, run_takeDeferred hK, ?_⟩⟩
    refine ⟨_, results_none rfl _ _ _, rfl, ?_, ?_⟩
    · exact ((HV.out.below hsz hUw hSw (fun _ => hQw) (below_put hD _)).v).u
    · exact (HV.out.below hsz hUw hSw (fun _ => hQw) (below_put hD _)).f
set_option maxRecDepth 100000 in
set_option maxHeartbeats 4000000 in
theorem neut_any (q : UH) (C L : List Int) (S Q cQ : Nat) (s : Sq) (lv : Int) (w : World) (hu : US w q C L) (hs : SS w q S Q cQ s lv) (h0 : 0 < s.I.length) (hl : 0 ≤ lv) (ho : s.own = way lv) :
    Calls Tryz.prog 78 #[.pointer (some ⟨S, 0, none⟩)] w fun e w' => e = .returned (.tuple #[]) ∧ US w' q (scan s.I isNd (neAct s) C) L ∧ Fr [q.U] w w' := by
  have hUw : q.U < w.heap.size := World.block_lt_of_cell? _ _ (hu.r _ (hs.lt 0 h0))
  have hSw : S < w.heap.size := World.block_lt_of_cell? _ _ hs.c0
  have hQw : Q < w.heap.size := World.block_lt_of_cell? _ _ (hs.p 0 h0)
  have HU := hid hu
  have HS := hid hs
  have HST := hid (fun w => fn126_any S 154 w)
  have HFI := hid fn72_any
  have HO := hid ho
  obtain ⟨Z, hZ⟩ : ∃ Z, Z = scan s.I isNd (neAct s) C := ⟨_, rfl⟩
  rw [← hZ]
  have HZ := hid hZ
  clear hu hs hZ ho
  refine (callsIn_wide (n := 3)).1 ?_
  refine callsIn_of_wp_marks Tryz.func78 rfl trivial ?_ rfl
  simp only [Tryz.ntmps78, List.size_toArray, List.length_cons, List.length_nil, Nat.reduceAdd, Nat.reduceSub, Array.replicate_succ, Array.replicate_zero, List.push_toArray, List.append_toArray, List.nil_append, List.cons_append]
  gi_wp2_with (refine ⟨trivial, ?_⟩; gi_at_call 153; refine (callsIn_wide.2 (HST.out _)).mono ?_; rintro e w' ⟨rfl, rfl⟩)
  obtain ⟨W0, hW0⟩ : ∃ W0, ((w.alloc (.cells #[.pointer (some ⟨S, 0, none⟩)] 140)).alloc (.cells #[.pointer (some ⟨S, 0, none⟩)] 140)).alloc (.cells #[.func (.func 154) #[] #[]] 238) = W0 := ⟨_, rfl⟩
  have hsz : W0.heap.size = w.heap.size + 3 := by rw [← hW0]; simp
  have hV0 : VS w W0.heap.size q L S Q cQ s lv 154 C W0 := by
    have hf : Fr [] w W0 := by rw [← hW0]; exact (((Fr.refl [] w).alloc _).alloc _).alloc _
    refine ⟨⟨HU.out.fr hf List.not_mem_nil, HS.out.fr hf List.not_mem_nil List.not_mem_nil, ?_, ?_⟩, ?_, ⟨hf.os, hf.tape, hf.output, hf.size, fun k hk _ => hf.block k hk List.not_mem_nil⟩, Nat.le_refl _⟩
    · rw [← hW0, World.cell?_alloc_past (hn := by simp), World.cell?_alloc_at (hn := by simp)]; rfl
    · rw [← hW0, World.cell?_alloc_at (hn := by simp)]; rfl
    · rw [← hW0, World.cell?_alloc_past (hn := by simp; omega), World.cell?_alloc_past (hn := by simp), World.cell?_alloc_at (hn := by simp)]; rfl
  rw [hW0]
  refine wpIn_range_st rfl (by omega) (gf := 199) (lb := #[.pointer (some ⟨w.heap.size + 1, 0, none⟩), .pointer (some ⟨w.heap.size + 1 + 1, 0, none⟩)]) rfl trivial (enters_of Tryz.func199 (by kernel_rfl) rfl)
    (encs := fun x : Nat × Nat => #[.int .i64 x.1, .int .i64 x.2]) (fun _ => rfl)
    (VS w W0.heap.size q L S Q cQ s lv 154) (fun _ _ h => h.n) (fun _ _ _ h hb => h.below hsz hUw hSw (fun _ => hQw) hb)
    (fun _ x => x.1 < x.2 ∧ x.2 ≤ s.I.length) (fun C x => neAct s x.1 x.2 C) C Z
    (fun l V' W h1 h2 h3 h4 => by rw [HZ.out]; exact stretch_in q L S Q cQ s lv _ _ isNd (neAct s) 154 (.inr rfl) HFI.out _ l V' (fun C A h => (h1 C A h).v) h2 h3 C W h4)
    (fun x => { tmps := #[.pointer (some ⟨S, 0, none⟩), .pointer (some ⟨w.heap.size, 0, none⟩), .int .i64 x.1, .int .i64 x.2, undef, .pointer (some ⟨S, 0, none⟩), .func (.func 199) #[] #[.pointer (some ⟨w.heap.size + 1, 0, none⟩), .pointer (some ⟨w.heap.size + 1 + 1, 0, none⟩)], .int .i64 x.1, .int .i64 x.2, undef, undef, undef, undef, undef, undef, undef, undef, undef, undef, undef, undef, undef, undef, undef, undef, undef], defers := [] })
    hV0 ?assign ?body ?done
  case assign =>
    intro l x W K hK
    gi_wp2
    exact hK
  case body =>
    rintro l C1 ⟨a, b⟩ A hV ⟨hab, hbm⟩
    dsimp only at hab hbm ⊢
    have HV := hid hV
    have b0 := hV.b0
    have H144 := hid (fun B (hf : Fr [] A B) => fn73_any q C1 L S Q cQ s lv a B (HV.out.v.u.fr hf List.not_mem_nil) (HV.out.v.s.fr hf List.not_mem_nil List.not_mem_nil) (by omega))
    have H145 := hid (fun B (hf : Fr [] A B) => fn74_any q C1 L S Q cQ s lv b B (HV.out.v.u.fr hf List.not_mem_nil) (HV.out.v.s.fr hf List.not_mem_nil List.not_mem_nil) hbm)
    have H146 := hid (fun v B (hf : Fr [] A B) => fn75_any q C1 L S Q cQ s lv a b v B (HV.out.v.u.fr hf List.not_mem_nil) (HV.out.v.s.fr hf List.not_mem_nil List.not_mem_nil) hab hbm)
    have H139 := hid (fun B (hf : Fr [] A B) => fn68_any q S Q cQ s lv B (HV.out.v.s.fr hf List.not_mem_nil List.not_mem_nil) hl)
    have HE := hid (show neAct s a b C1 = fillTo s.I a (if side (ah s C1 a) = side (att s C1 b) then side (ah s C1 a) else way lv) (b - a) C1 by rw [neAct, HO.out])
    have HS1 := hid (fn67_any (ah s C1 a))
    have HS2 := hid (fn67_any (att s C1 b))
    generalize neAct s a b C1 = E at *
    generalize ah s C1 a = y1 at *
    generalize att s C1 b = y2 at *
    generalize side y1 = z1 at *
    generalize side y2 = z2 at *
    generalize way lv = z3 at *
    clear hV hV0 hW0 HFI HST
    by_cases e1 : z1 = z2
    · have HE2 := hid (show E = fillTo s.I a z1 (b - a) C1 by rw [HE.out, if_pos e1])
      subst e1
      gi_wp2_with (refine ⟨trivial, ?_⟩; first | (gi_at_call 155; refine (CallsIn.inRound l (callsIn_wide.2 (H144.out _ (Fr.refl _ _)))).mono ?_; rintro e w' ⟨rfl, rfl⟩) | (gi_at_call 156; refine (CallsIn.inRound l (callsIn_wide.2 (H145.out _ (Fr.refl _ _)))).mono ?_; rintro e w' ⟨rfl, rfl⟩) | (gi_at_call 149; refine (CallsIn.inRound l (callsIn_wide.2 (HS1.out _))).mono ?_; clear HS1; rintro e w' ⟨rfl, rfl⟩) | (gi_at_call 149; refine (CallsIn.inRound l (callsIn_wide.2 (HS2.out _))).mono ?_; clear HS2; rintro e w' ⟨rfl, rfl⟩) | (gi_at_call 157; refine (CallsIn.inRound l (callsIn_wide.2 (H146.out _ _ (Fr.refl _ _)))).mono ?_; rintro e w' ⟨rfl, hu', hf'⟩; have HU2 := hid hu'; have HF2 := hid hf'; clear hu' hf'))
      exact ⟨VS.late (by omega) HF2.out, HV.out.next hUw (by rw [HE2.out]; exact HU2.out) HF2.out⟩
    · have HE2 := hid (show E = fillTo s.I a z3 (b - a) C1 by rw [HE.out, if_neg e1])
      have e1' : (z1 == z2) = false := by simp [e1]
      gi_wp2_with (refine ⟨trivial, ?_⟩; first | (gi_at_call 155; refine (CallsIn.inRound l (callsIn_wide.2 (H144.out _ (Fr.refl _ _)))).mono ?_; rintro e w' ⟨rfl, rfl⟩) | (gi_at_call 156; refine (CallsIn.inRound l (callsIn_wide.2 (H145.out _ (Fr.refl _ _)))).mono ?_; rintro e w' ⟨rfl, rfl⟩) | (gi_at_call 149; refine (CallsIn.inRound l (callsIn_wide.2 (HS1.out _))).mono ?_; clear HS1; rintro e w' ⟨rfl, rfl⟩) | (gi_at_call 149; refine (CallsIn.inRound l (callsIn_wide.2 (HS2.out _))).mono ?_; clear HS2; rintro e w' ⟨rfl, rfl⟩) | (gi_at_call 150; refine (CallsIn.inRound l (callsIn_wide.2 (H139.out _ (Fr.refl _ _)))).mono ?_; rintro e w' ⟨rfl, mm, rfl⟩) | (gi_at_call 157; refine (CallsIn.inRound l (callsIn_wide.2 (H146.out _ _ ((Fr.refl [] _).drewN _)))).mono ?_; rintro e w' ⟨rfl, hu', hf'⟩; have HU2 := hid hu'; have HF2 := hid hf'.of_drewN; clear hu' hf'))
      exact ⟨VS.late (by omega) HF2.out, HV.out.next hUw (by rw [HE2.out]; exact HU2.out) HF2.out⟩
  case done =>
    rintro D A hV hD hK
    have HV := hid hV
    clear hV
    gi_wp2
    refine ⟨by simp, .inl ⟨_, _, rfl, run_takeDeferred hK, ?_⟩⟩
    refine ⟨_, results_none rfl _ _ _, rfl, ?_, ?_⟩
    · exact ((HV.out.below hsz hUw hSw (fun _ => hQw) (below_put hD _)).v).u
    · exact (HV.out.below hsz hUw hSw (fun _ => hQw) (below_put hD _)).f
end Go.Proofs.YtnakejhohdbfdaaGreatDoor
