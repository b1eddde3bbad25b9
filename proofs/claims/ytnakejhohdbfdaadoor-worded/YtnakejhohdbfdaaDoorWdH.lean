/- Words: the program's list, walked. -/
import Derived.Test.YtnakejhohdbfdaaDoorWdG
namespace Go.Proofs.YtnakejhohdbfdaaDoor
open Go.RowKit Dec Kin Bnd Lay Go.Shelf
attribute [local go_sem] Oper.semAt_some

theorem fn42_any (s : ByteArray) (w : World) : Calls Tryd.prog 42 #[.string s] w fun e w' =>
    e = .returned (.func (.func 50) #[] #[.pointer (some ⟨w.heap.size, 0, none⟩)]) ∧ w' = w.alloc (.cells #[.string s] 9) := by
  go_enter Tryd.func42, Tryd.ntmps42
  go_wp2
  go_ret
  exact ⟨by simp, rfl⟩
theorem cell_of_obj {A : World} {b : Nat} {x : Value} {t : TypeId} (h : A.heap[b]? = some (.cells #[x] t (0, 0))) : A.cell? ⟨b, 0, none⟩ = some x := by simp [World.cell?, h]
theorem wdP_zero {s : ByteArray} {n : Nat} (h : Dec.Ends s n) : wdP s n (0 + 1) = wdP s n 0 := by
  show wdTo s n (0 + 1) = [0]
  rw [wdTo_add (fun h => absurd h.1 (Nat.lt_irrefl 0)), bnd_get h (Nat.zero_le _), bix_zero]; rfl
theorem wdP_skip {s : ByteArray} {n i : Nat} (h : Dec.Ends s n) (h0 : 0 < i) (hi : i < cn s n) (he : ltr s n i = ahd s n i) : wdP s n (i + 1) = wdP s n i := by
  unfold wdP
  rw [if_neg (Nat.succ_ne_zero i), if_neg (by omega)]
  unfold ahd at he
  rw [if_neg (by omega)] at he
  exact wdTo_skip ⟨h0, by rw [bnd_len h]; omega, he.symm⟩
theorem wdP_add {s : ByteArray} {n i : Nat} (h : Dec.Ends s n) (h0 : 0 < i) (hi : i < cn s n) (he : ltr s n i ≠ ahd s n i) : wdP s n (i + 1) = wdP s n i ++ [((pos s (nix (bix s n) i) : Nat) : Int)] := by
  unfold wdP
  rw [if_neg (Nat.succ_ne_zero i), if_neg (by omega), ← bnd_get h (by omega)]
  unfold ahd at he
  rw [if_neg (by omega)] at he
  exact wdTo_add (fun hh => he hh.2.2.symm)
theorem wdP_end {s : ByteArray} {n : Nat} (h : Dec.Ends s n) (hn : 0 < n) : wd s n = wdP s n (cn s n) ++ [((s.size : Nat) : Int)] := by
  have hc : 0 < cn s n := by have := (bix_len s n).2.2 hn; unfold cn; omega
  rw [wd, bnd_len h, wdTo_add (by rw [bnd_len h]; omega), bnd_get h (Nat.le_refl _), bix_last, h.1]
  unfold wdP
  rw [if_neg (by omega)]
theorem wdP_len (s : ByteArray) (n i : Nat) : (wdP s n i).length ≤ i + 1 := by
  unfold wdP
  split
  · simp
  · have := wdTo_len s n i; omega
theorem wdP_nil {s : ByteArray} (h : Dec.Ends s 0) : wd s 0 = wdP s 0 (cn s 0) := by
  have hc : cn s 0 = 0 := rfl
  rw [wd, bnd_len h, hc]
  exact wdP_zero h
theorem ws_end {w A A2 : World} {s : ByteArray} {n i : Nat} {v v' : Value} {ob d : Obj} {L : Nat} {xs : List Value} (h : WS w s n i A) (hv : A.heap[w.heap.size + 1]? = some (.cells #[v] 38 (0, 0))) (hown : A.ownsRow w.heap.size 3 1 v (wdP s n i).length (ints64 (wdP s n i))) (hv3 : ∀ g, v.ownBlock = some g → g ≠ w.heap.size + 4 ∧ g ≠ w.heap.size + 4 + 1)
    (hg : (A.alloc ob).grownBy A2 v.ownBlock) (own : A2.ownsRow w.heap.size 3 1 v' L xs) (hor : v'.ownBlock = v.ownBlock ∨ v'.ownBlock = some (A.alloc ob).heap.size) (hD : A.heap[w.heap.size + 4]? = some d) :
    (A2.setCell ⟨w.heap.size + 1, 0, none⟩ v').heap[w.heap.size + 4]? = some d ∧ ∀ o, ((A2.setCell ⟨w.heap.size + 1, 0, none⟩ v').putObj (w.heap.size + 4) o).ownsRow w.heap.size 3 1 v' L xs ∧ Below w.heap.size w ((A2.setCell ⟨w.heap.size + 1, 0, none⟩ v').putObj (w.heap.size + 4) o) := by
  have hs2 := hg.size
  have hA := lt_of_blk hD
  rw [World.size_alloc] at hs2 hor
  have h2 : ∀ k, k < A.heap.size → v.ownBlock ≠ some k → A2.heap[k]? = A.heap[k]? := fun k hk hne => (hg.block k (by rw [World.size_alloc]; omega) (fun e => hne e.symm)).trans (Below.heap_alloc _ _ _ (by omega))
  have n1 : v.ownBlock ≠ some (w.heap.size + 1) := fun e => own_ne hown hv (fun c f hc => by cases hc) e.symm
  have n4 : v.ownBlock ≠ some (w.heap.size + 4) := fun e => (hv3 _ e).1 rfl
  have hlow : ∀ k, k < w.heap.size → v.ownBlock ≠ some k := fun k hk e => by have := (hown.lt k e).1; omega
  have m1 : ∀ g, v'.ownBlock = some g → g ≠ w.heap.size + 1 ∧ g ≠ w.heap.size + 4 := fun g hgb => by
    rcases hor with e | e
    · rw [e] at hgb
      exact ⟨fun q => n1 (q ▸ hgb), fun q => n4 (q ▸ hgb)⟩
    · rw [hgb] at e
      have := Option.some.inj e
      omega
  refine ⟨((Below.heap_setCell _ _ _ _ (by show w.heap.size + 4 ≠ w.heap.size + 1; omega)).trans (h2 _ hA n4)).trans hD, fun o => ⟨own_blk own (fun g hgb => (World.putObj_heap_other (m1 g hgb).2).trans (Below.heap_setCell _ _ _ _ (m1 g hgb).1)), hg.os.trans h.b.os, hg.tape.trans h.b.tape, hg.output.trans h.b.output, by rw [World.putObj_size, World.size_setCell]; have := h.b.size; omega, fun k hk => ?_⟩⟩
  rw [World.putObj_heap_other (by omega), Below.heap_setCell _ _ _ _ (by show k ≠ w.heap.size + 1; omega), h2 k (by omega) (hlow k hk)]
  exact h.b.block k hk
set_option maxRecDepth 100000 in
set_option maxHeartbeats 4000000 in
theorem fn32_any (s : ByteArray) (w : World) (hs : s.size ≤ 1000000) (n : Nat) (hend : Dec.Ends s n) (hT : Lib.Utf8Tabs 1 2 w) (h0 : TabAt w 0 Tabs.kindTab) (h3 : TabAt w 3 Tabs.lowTab) (h4 : TabAt w 4 Tabs.highTab) :
    Calls Tryd.prog 32 #[.string s] w fun e w' => ∃ v, e = .returned v ∧ w'.ownsRow w.heap.size 3 1 v (wd s n).length (ints64 (wd s n)) ∧ Below w.heap.size w w' := by
  obtain ⟨i0, hi, hz0, hz1, hz2⟩ := info_parts info3
  have H42 := hid (fun w => fn42_any s w)
  have HE := hid hend
  have HT0 := hid (fun (A : World) (hb : Below w.heap.size w A) => h0.below (h0.lt (by decide)) hb)
  have HT3 := hid (fun (A : World) (hb : Below w.heap.size w A) => h3.below (h3.lt (by decide)) hb)
  have HT4 := hid (fun (A : World) (hb : Below w.heap.size w A) => h4.below (h4.lt (by decide)) hb)
  have HTU := hid (fun (A : World) (hb : Below w.heap.size w A) => tabs_below hT hb)
  have hcs : cn s n ≤ 1000000 := by
    have h1 := (bix_len s n).1
    have h2 := le_pos s n
    have h3 := hend.1
    unfold cn; omega
  clear hend hT h0 h3 h4
  refine (callsIn_wide (n := 3)).1 ?_
  refine callsIn_of_wp_marks Tryd.func32 rfl trivial ?_ rfl
  simp only [Tryd.ntmps32, List.size_toArray, List.length_cons, List.length_nil, Nat.reduceAdd, Nat.reduceSub, Array.replicate_succ, Array.replicate_zero, List.push_toArray, List.append_toArray, List.nil_append, List.cons_append]
  gi_wp2_with (refine ⟨trivial, ?_⟩; gi_at_call 42; refine (callsIn_wide.2 (H42.out _)).mono ?_; rintro e w' ⟨rfl, rfl⟩)
  obtain ⟨W0, hW0⟩ : ∃ W0, (((w.alloc (.cells #[.int .i64 0] 3)).alloc (.cells #[.slice (some ⟨w.heap.size, 0, none⟩) 1 1] 38)).alloc (.cells #[.bool false] 4)).alloc (.cells #[.string s] 9) = W0 := ⟨_, rfl⟩
  have hsz : W0.heap.size = w.heap.size + 4 := by rw [← hW0]; simp only [World.size_alloc]
  have hV0 : WS w s n 0 W0 := by
    rw [← hW0]
    refine ⟨((((Below.refl _ w).alloc (Nat.le_refl _) _).alloc (by simp only [World.size_alloc]; omega) _).alloc (by simp only [World.size_alloc]; omega) _).alloc (by simp only [World.size_alloc]; omega) _, ?_, ?_, .slice (some ⟨w.heap.size, 0, none⟩) 1 1, ?_, ?_, ?_⟩
    · have h := World.alloc_heap_new (((w.alloc (.cells #[.int .i64 0] 3)).alloc (.cells #[.slice (some ⟨w.heap.size, 0, none⟩) 1 1] 38)).alloc (.cells #[.bool false] 4)) (.cells #[.string s] 9)
      simp only [World.size_alloc] at h
      exact h
    · have h := World.alloc_heap_new ((w.alloc (.cells #[.int .i64 0] 3)).alloc (.cells #[.slice (some ⟨w.heap.size, 0, none⟩) 1 1] 38)) (.cells #[.bool false] 4)
      rw [Below.heap_alloc _ _ _ (by simp only [World.size_alloc]; omega)]
      simp only [World.size_alloc] at h
      exact h
    · have h := World.alloc_heap_new (w.alloc (.cells #[.int .i64 0] 3)) (.cells #[.slice (some ⟨w.heap.size, 0, none⟩) 1 1] 38)
      rw [Below.heap_alloc _ _ _ (by simp only [World.size_alloc]; omega), Below.heap_alloc _ _ _ (by simp only [World.size_alloc]; omega)]
      simp only [World.size_alloc] at h
      exact h
    · have h := World.ownsRow_lit (base := w.heap.size) (e := 3) (size := 1) w #[.int .i64 0] 1 (Nat.le_refl _) (by decide) rfl
      exact ((h.alloc _).alloc _).alloc _
    · intro g hg
      have : g = w.heap.size := by simpa [Value.ownBlock] using hg.symm
      omega
  rw [hW0]
  refine wpIn_range_kp rfl (by omega) (gf := 50) (lb := #[.pointer (some ⟨w.heap.size + 1 + 1 + 1, 0, none⟩)]) rfl trivial (enters_of Tryd.func50 (by kernel_rfl) rfl)
    (encs := fun x : Nat => #[.int .i64 ((pos s (nix (bix s n) x) : Nat) : Int), .string (s.extract (pos s (nix (bix s n) x)) (pos s (nix (bix s n) (x + 1))))]) (fun _ => rfl)
    (WS w s n) (Fgn w) (fun i A B h hk => h.kp (by rw [hsz] at hk; exact hk)) (fun i A B k h hk hf => Fgn.kp h (by rw [hsz] at hk; exact hk) hf) id (cn s n)
    (fun l V' W q1 q2 q3 q4 => all1_in s n (w.heap.size + 1 + 1 + 1) hs HE.out (Fgn w) _ l V' (fun i A h => ⟨cell_of_obj (q1 i A h).t, HT0.out A (q1 i A h).b⟩) (fun i A B k h hb hk => Fgn.new (q1 i A h) hb hk) q2 (fun i A k _ hf => hf) q3 W q4)
    (fun x => { tmps := #[.string s, undef, .slice none 0 0, .pointer (some ⟨w.heap.size + 1, 0, none⟩), .pointer (some ⟨w.heap.size + 1 + 1, 0, none⟩), .int .i64 ((pos s (nix (bix s n) x) : Nat) : Int), .string (s.extract (pos s (nix (bix s n) x)) (pos s (nix (bix s n) (x + 1)))), undef, .slice (some ⟨w.heap.size, 0, none⟩) 1 1, .string s, .func (.func 50) #[] #[.pointer (some ⟨w.heap.size + 1 + 1 + 1, 0, none⟩)], .int .i64 ((pos s (nix (bix s n) x) : Nat) : Int), .string (s.extract (pos s (nix (bix s n) x)) (pos s (nix (bix s n) (x + 1)))), undef, undef, undef, undef, undef, undef, undef, undef, undef, undef, undef, undef, undef, undef, undef, undef, undef, undef, undef, undef, undef, undef, undef], defers := [] })
    hV0 ?assign ?body ?done
  case assign =>
    intro l x W K hK
    gi_wp2
    exact hK
  case body =>
    intro l i A hV hic hAs
    rw [hsz] at hAs ⊢
    obtain ⟨v, v1, v2, v3⟩ := hV.v
    have HV := hid hV
    have HV1 := hid v1
    have HV2 := hid v2
    have HV3 := hid v3
    have H43 := hid (show Calls Tryd.prog 43 #[.string (s.extract (pos s (nix (bix s n) i)) (pos s (nix (bix s n) (i + 1))))] A fun e w' => e = .returned (.bool (ahd s n (i + 1))) ∧ Below A.heap.size A w' by
      have h := fn43_any (s.extract (pos s (nix (bix s n) i)) (pos s (nix (bix s n) (i + 1)))) A (HTU.out A hV.b) (HT3.out A hV.b) (HT4.out A hV.b)
      rw [cluster_first HE.out hic] at h
      exact h)
    have HVA := hid hV.a
    have HSK := hid (fun (h0 : 0 < i) (he : ahd s n (i + 1) = ahd s n i) => wdP_skip HE.out h0 hic he)
    have HAD := hid (fun (h0 : 0 < i) (he : ahd s n (i + 1) ≠ ahd s n i) => wdP_add HE.out h0 hic he)
    have HP0 := hid (show i = 0 → pos s (nix (bix s n) i) = 0 from fun e => by rw [e, bix_zero]; rfl)
    have HP1 := hid (show 0 < i → 0 < pos s (nix (bix s n) i) from fun e => by
      have h1 := nix_lt (bix_sorted s n) (i := 0) (j := i) e (by unfold cn at hic; omega)
      have h2 := pos_mono s _ _ h1
      omega)
    have hlen := wdP_len s n i
    have hs1 := hV.b.size
    dsimp only [id]
    generalize s.extract (pos s (nix (bix s n) i)) (pos s (nix (bix s n) (i + 1))) = sub at *
    generalize pos s (nix (bix s n) i) = p at *
    obtain ⟨x, hx⟩ : ∃ x, x = ahd s n (i + 1) := ⟨_, rfl⟩
    obtain ⟨y, hy⟩ : ∃ y, y = ahd s n i := ⟨_, rfl⟩
    have HXX := hid hx
    have HYY := hid hy
    rw [← hx] at H43
    rw [← hy] at HVA
    clear hx hy hV v1 v2 v3 hV0 hW0
    by_cases hi0 : i = 0
    · have hp0 := HP0.out hi0
      subst hp0
      have HEQ := hid (show wdP s n (i + 1) = wdP s n i by rw [hi0]; exact wdP_zero HE.out)
      clear hi0
      gi_wp2_with (refine ⟨trivial, ?_⟩; first | (gi_at_call 43; refine (CallsIn.inRound l (callsIn_wide.2 H43.out)).mono ?_; rintro e A1 ⟨rfl, hb1⟩; have HB1 := hid hb1; have a0 : A1.cell? ⟨w.heap.size + 1 + 1, 0, none⟩ = some (.bool y) := cell_of_row A1 (w.heap.size + 1 + 1) 0 _ _ _ ((hb1.block _ (by omega)).trans HVA.out); have f0 : A1.frozen? ⟨w.heap.size + 1 + 1, 0, none⟩ = false := frozen_of_row A1 (w.heap.size + 1 + 1) 0 _ _ ((hb1.block _ (by omega)).trans HVA.out); have b0 : A1.cell? ⟨w.heap.size + 1, 0, none⟩ = some v := cell_of_row A1 (w.heap.size + 1) 0 _ _ _ ((hb1.block _ (by omega)).trans HV1.out); have f1 : A1.frozen? ⟨w.heap.size + 1, 0, none⟩ = false := frozen_of_row A1 (w.heap.size + 1) 0 _ _ ((hb1.block _ (by omega)).trans HV1.out); clear hb1) | skip)
      rw [HXX.out]
      exact ws_skip _ HV.out HB1.out HEQ.out hAs
    · have hp1 := HP1.out (by omega)
      have hp1I : (0 : Int) < (p : Int) := by omega
      by_cases hxy : x = y
      · have HEQ := hid (HSK.out (by omega) (by rw [← HXX.out, ← HYY.out]; exact hxy))
        obtain rfl : y = x := hxy.symm
        gi_wp2_with (refine ⟨trivial, ?_⟩; first | (gi_at_call 43; refine (CallsIn.inRound l (callsIn_wide.2 H43.out)).mono ?_; rintro e A1 ⟨rfl, hb1⟩; have HB1 := hid hb1; have a0 : A1.cell? ⟨w.heap.size + 1 + 1, 0, none⟩ = some (.bool y) := cell_of_row A1 (w.heap.size + 1 + 1) 0 _ _ _ ((hb1.block _ (by omega)).trans HVA.out); have f0 : A1.frozen? ⟨w.heap.size + 1 + 1, 0, none⟩ = false := frozen_of_row A1 (w.heap.size + 1 + 1) 0 _ _ ((hb1.block _ (by omega)).trans HVA.out); have b0 : A1.cell? ⟨w.heap.size + 1, 0, none⟩ = some v := cell_of_row A1 (w.heap.size + 1) 0 _ _ _ ((hb1.block _ (by omega)).trans HV1.out); have f1 : A1.frozen? ⟨w.heap.size + 1, 0, none⟩ = false := frozen_of_row A1 (w.heap.size + 1) 0 _ _ ((hb1.block _ (by omega)).trans HV1.out); clear hb1) | skip)
        rw [HXX.out]
        exact ws_skip _ HV.out HB1.out HEQ.out hAs
      · have HEQ := hid (HAD.out (by omega) (by rw [← HXX.out, ← HYY.out]; exact hxy))
        have hxyb : (x == y) = false := by simpa using hxy
        have NE1 := hid (own_ne HV2.out HV1.out (fun c f hc => by cases hc))
        have NE2 := hid (own_ne HV2.out HVA.out (fun c f hc => by cases hc))
        gi_wp2_with (first
          | (gi_at_builtin; refine wpListIn_append_at _ rfl _ _ 38 rfl w.heap.size 3 i0 _ 1 8 Tryd.underlying38 hi hz0 hz1 hz2 rfl (by decide) _ _ _ rfl HOW.out ⟨A1.heap.size, 0, none⟩ 1 1 [.int .i64 (p : Nat)] rfl rfl (cell_one_new _ _ _) (one_cell _) (by unfold maxLen; omega) (by omega) (by rw [World.size_alloc]; omega) ?_; intro v' A2 own2 hgr hor; obtain ⟨g2, c2, hv2⟩ := owns_shape_pos (by omega) own2; subst hv2; have HG2 := hid hgr; have HO2 := hid own2; have HOR := hid hor; have hszl := hgr.size; rw [World.size_alloc] at hszl; have e0 : A2.cell? ⟨w.heap.size + 1 + 1, 0, none⟩ = some (.bool y) := cell_of_row A2 (w.heap.size + 1 + 1) 0 _ _ _ ((hgr.block _ (by rw [World.size_alloc]; omega) NE2.out).trans ((Below.heap_alloc _ _ _ (by omega)).trans K2.out)); have g0 : A2.frozen? ⟨w.heap.size + 1 + 1, 0, none⟩ = false := frozen_of_row A2 (w.heap.size + 1 + 1) 0 _ _ ((hgr.block _ (by rw [World.size_alloc]; omega) NE2.out).trans ((Below.heap_alloc _ _ _ (by omega)).trans K2.out)); have e1 : A2.cell? ⟨w.heap.size + 1, 0, none⟩ = some v := cell_of_row A2 (w.heap.size + 1) 0 _ _ _ ((hgr.block _ (by rw [World.size_alloc]; omega) NE1.out).trans ((Below.heap_alloc _ _ _ (by omega)).trans K1.out)); have g1 : A2.frozen? ⟨w.heap.size + 1, 0, none⟩ = false := frozen_of_row A2 (w.heap.size + 1) 0 _ _ ((hgr.block _ (by rw [World.size_alloc]; omega) NE1.out).trans ((Below.heap_alloc _ _ _ (by omega)).trans K1.out)); clear own2 hgr hor a0 f0 b0 f1)
          | (refine ⟨trivial, ?_⟩; gi_at_call 43; refine (CallsIn.inRound l (callsIn_wide.2 H43.out)).mono ?_; rintro e A1 ⟨rfl, hb1⟩; have HB1 := hid hb1; have a0 : A1.cell? ⟨w.heap.size + 1 + 1, 0, none⟩ = some (.bool y) := cell_of_row A1 (w.heap.size + 1 + 1) 0 _ _ _ ((hb1.block _ (by omega)).trans HVA.out); have f0 : A1.frozen? ⟨w.heap.size + 1 + 1, 0, none⟩ = false := frozen_of_row A1 (w.heap.size + 1 + 1) 0 _ _ ((hb1.block _ (by omega)).trans HVA.out); have b0 : A1.cell? ⟨w.heap.size + 1, 0, none⟩ = some v := cell_of_row A1 (w.heap.size + 1) 0 _ _ _ ((hb1.block _ (by omega)).trans HV1.out); have f1 : A1.frozen? ⟨w.heap.size + 1, 0, none⟩ = false := frozen_of_row A1 (w.heap.size + 1) 0 _ _ ((hb1.block _ (by omega)).trans HV1.out); have HOW := hid ((owns_below HV2.out hb1).alloc (.cells #[.int .i64 (p : Nat)] 3)); have hsA : w.heap.size ≤ A1.heap.size := Nat.le_trans hs1 hb1.size; have K1 := hid ((hb1.block (w.heap.size + 1) (by omega)).trans HV1.out); have K2 := hid ((hb1.block (w.heap.size + 1 + 1) (by omega)).trans HVA.out); have hsB : A.heap.size ≤ A1.heap.size := hb1.size; clear hb1))
        rw [HXX.out]
        exact ws_add _ HV.out HB1.out HV1.out HV2.out HV3.out HG2.out (by rw [HEQ.out, len_snoc, ← ints_snoc]; exact HO2.out) HOR.out hAs
  case done =>
    intro D A hV hD hK
    rw [hsz] at hD
    obtain ⟨v, v1, v2, v3⟩ := hV.v
    have HV := hid hV
    have HV1 := hid v1
    have HV2 := hid v2
    have HV3 := hid v3
    have b0 : A.cell? ⟨w.heap.size + 1, 0, none⟩ = some v := cell_of_row A (w.heap.size + 1) 0 _ _ _ v1
    have f0 : A.frozen? ⟨w.heap.size + 1, 0, none⟩ = false := frozen_of_row A (w.heap.size + 1) 0 _ _ v1
    have hlen := wdP_len s n (cn s n)
    have hs1 := hV.b.size
    have hAt := lt_of_blk hV.t
    clear hV v1 v2 v3 hV0 hW0
    by_cases hn : 0 < n
    · have hs0 : (0 : Int) < (s.size : Int) := by have := le_pos s n; have := HE.out.1; omega
      have HWE := hid (wdP_end HE.out hn)
      have HOW := hid (HV2.out.alloc (.cells #[.int .i64 (s.size : Nat)] 3))
      have NE1 := hid (own_ne HV2.out HV1.out (fun c f hc => by cases hc))
      gi_wp2_with (first
        | (gi_at_builtin; refine wpListIn_append_at _ rfl _ _ 38 rfl w.heap.size 3 i0 _ 1 8 Tryd.underlying38 hi hz0 hz1 hz2 rfl (by decide) _ _ _ rfl HOW.out ⟨A.heap.size, 0, none⟩ 1 1 [.int .i64 (s.size : Nat)] rfl rfl (cell_one_new _ _ _) (one_cell _) (by unfold maxLen; omega) (by omega) (by rw [World.size_alloc]; omega) ?_; intro v' A2 own2 hgr hor; obtain ⟨g2, c2, hv2⟩ := owns_shape_pos (by omega) own2; subst hv2; have HG2 := hid hgr; have HO2 := hid own2; have HOR := hid hor; have hszl := hgr.size; rw [World.size_alloc] at hszl; have K1 := (hgr.block _ (by rw [World.size_alloc]; omega) NE1.out).trans ((Below.heap_alloc _ _ _ (by omega)).trans HV1.out); have e1 : A2.cell? ⟨w.heap.size + 1, 0, none⟩ = some v := cell_of_row A2 (w.heap.size + 1) 0 _ _ _ K1; have g1 : A2.frozen? ⟨w.heap.size + 1, 0, none⟩ = false := frozen_of_row A2 (w.heap.size + 1) 0 _ _ K1; clear own2 hgr hor b0 f0 K1))
      subst hD
      obtain ⟨q1, q2⟩ := ws_end HV.out HV1.out HV2.out HV3.out HG2.out HO2.out HOR.out hK
      refine ⟨by simp, .inl ⟨_, _, rfl, run_takeDeferred q1, ?_⟩⟩
      refine ⟨_, results_tmp rfl _ _ _, _, rfl, ?_, (q2 _).2⟩
      rw [HWE.out, len_snoc, ← ints_snoc]
      exact (q2 _).1
    · obtain rfl : n = 0 := by omega
      have hs0 : s.size = 0 := HE.out.1.symm
      have hs0I : ¬ (0 : Int) < (s.size : Int) := by omega
      have HWN := hid (wdP_nil HE.out)
      gi_wp2
      subst hD
      refine ⟨by simp, .inl ⟨_, _, rfl, run_takeDeferred hK, ?_⟩⟩
      have hk := HV.out.kp (kp_put (A := A) (.inl rfl) (.deferred none))
      refine ⟨_, results_tmp rfl _ _ _, _, rfl, ?_, hk.b⟩
      rw [HWN.out]
      exact own_blk HV2.out (fun g hg => World.putObj_heap_other (HV3.out g hg).1)
end Go.Proofs.YtnakejhohdbfdaaDoor
