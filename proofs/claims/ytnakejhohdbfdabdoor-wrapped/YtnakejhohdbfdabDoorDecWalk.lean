/- The two readings of a text: the document's and the program's. -/
import Derived.Test.YtnakejhohdbfdabDoorShelf
import Derived.Test.YtnakejhohdbfdabDoorRows
import Derived.Test.YtnakejhohdbfdabDoorDec
import Derived.WalkKit
import Derived.WalkSpells
import Derived.WalkSmall
import Derived.Lib.OthersKept
import Derived.RegionTactic
import Derived.Deep.QuietTactic
import Derived.BigQuiet
namespace Go.Proofs.YtnakejhohdbfdabDoor
open Go.RowKit Dec
theorem hid {p : Prop} (h : p) : Hid p := h

theorem tabs_below {g3 g4 : Nat} {w w' : World} (h : Lib.Utf8Tabs g3 g4 w) (hb : Below w.heap.size w w') : Lib.Utf8Tabs g3 g4 w' := by
  refine ⟨fun c hc => ?_, fun i hi => ?_⟩
  · have h1 := h.1 c hc
    exact (hb.cell (p := ⟨g3, c, none⟩) (World.block_lt_of_cell? _ _ h1)).trans h1
  · have h1 := h.2 i hi
    exact ⟨(hb.cell (p := ⟨g4, 2 * i, none⟩) (World.block_lt_of_cell? _ _ h1.1)).trans h1.1, (hb.cell (p := ⟨g4, 2 * i + 1, none⟩) (World.block_lt_of_cell? _ _ h1.2)).trans h1.2⟩
theorem decode20_at (s : ByteArray) (p : Nat) (w : World) (h : p < s.size) (hT : Lib.Utf8Tabs 0 1 w) :
    Calls Tryd.prog 9 #[.string (s.extract p s.size)] w fun e w' => e = .returned (.tuple #[.int .i32 ((Utf8.decode s p).1 : Nat), .int .i64 ((Utf8.decode s p).2 : Nat)]) ∧ Below w.heap.size w w' := by
  have := Tryd.decode20 (s.extract p s.size) w hT
  have e : Lib.decodeGo (s.extract p s.size) = Utf8.decode s p := by
    unfold Lib.decodeGo
    rw [if_neg (by rw [Lib.tail_size]; omega), decodeGo_tail]
  rwa [e] at this
theorem info25 : (Tryd.prog.info? 31).map (fun i => (i.zero, i.size, i.bytes)) = some (some (.agg #[.int .i32 0, .int .i64 0, .int .i64 0]), 3, 24) := by kernel_rfl
theorem new3_cells (w : World) (a b c : Value) (t : TypeId) : ∀ j u, [a, b, c][j]? = some u → (w.alloc (.cells #[a, b, c] t)).cell? ((⟨w.heap.size, 0, none⟩ : Addr).add j) = some u := by
  intro j u hj
  rw [Addr.add_lit, Nat.zero_add, World.cell?_alloc_at _ _ _ _ rfl]
  simpa using hj

theorem new3_one (r a b : Int) : ∀ u ∈ [Value.int .i32 r, .int .i64 a, .int .i64 b], u.oneCell' = true := by
  intro u hu
  simp only [List.mem_cons, List.not_mem_nil, or_false] at hu
  rcases hu with rfl | rfl | rfl <;> rfl

set_option maxHeartbeats 2000000 in
theorem ref7_any (s : ByteArray) (w : World) (hs : s.size ≤ 1000000) (hT : Lib.Utf8Tabs 0 1 w) :
    Calls Tryd.prog 6 #[.string s] w fun e w' => ∃ n v, Dec.Ends s n ∧ e = .returned v ∧ w'.ownsRow w.heap.size 31 3 v n (Dec.cells (lst s n)) ∧ Below w.heap.size w w' ∧ (n = 0 → v = .slice none 0 0) := by
  have TT := hid hT
  clear hT
  obtain ⟨i0, hi, hz0, hz1, hz2⟩ := info_parts info25
  go_enter Tryd.func6, Tryd.ntmps6
  go_wp2
  go_loopw [3, 4] (fun v i wr => ∃ k p : Nat, p ≤ s.size ∧ k ≤ p ∧ i = .int .i64 p ∧ Hid (p = pos s k) ∧ Hid (∀ j, j < k → pos s j < s.size) ∧ Hid (wr.ownsRow w.heap.size 31 3 v k (Dec.cells (lst s k))) ∧ Hid (Below w.heap.size w wr) ∧ Hid (k = 0 → v = .slice none 0 0)) (fun _ i _ => s.size - (intOf i).toNat)
  case atStart => exact ⟨0, 0, Nat.zero_le _, Nat.le_refl _, rfl, hid rfl, hid (fun j hj => absurd hj (Nat.not_lt_zero _)), hid (World.ownsRow_nil _ _ _ _), hid (Below.refl _ _), hid (fun _ => rfl)⟩
  case round =>
    obtain ⟨k, p, hp, hkp, rfl, HP, HJ, HO, HB, HN⟩ := hrel
    by_cases hlt : p < s.size
    · have hw1 := width_pos s p
      have hw2 := width_le s p hlt
      have HC := hid (decode20_at s p _ hlt (tabs_below TT.out HB.out))
      have HR : Hid (((Utf8.decode s p).1 : Nat) = rune s k) := by rw [HP.out]; rfl
      have HQ : Hid (p + (Utf8.decode s p).2 = pos s (k + 1)) := by rw [HP.out]; rfl
      generalize (Utf8.decode s p).1 = r at HC HR
      generalize (Utf8.decode s p).2 = n at HC HQ hw1 hw2
      go_wp2_with fail
      refine HC.out.mono ?_
      rintro e w1 ⟨rfl, hb1⟩
      have HO1 := hid ((owns_below HO.out hb1).alloc (.cells #[.int .i32 r, .int .i64 p, .int .i64 ((p : Int) + n)] 31))
      have HB1 := hid ((HB.out.trans (hb1.mono HB.out.size)).alloc (by have := HB.out.size; have := hb1.size; omega) (.cells #[.int .i32 r, .int .i64 p, .int .i64 ((p : Int) + n)] 31))
      have hsz : w.heap.size ≤ w1.heap.size := by have := HB.out.size; have := hb1.size; omega
      clear HC hb1
      go_wp2_with (at_builtin; refine wpList_append_own _ rfl _ _ 25 rfl w.heap.size 31 i0 _ 3 24 Tryd.underlying25 hi hz0 hz1 hz2 rfl (by decide) _ _ _ rfl HO1.out ⟨w1.heap.size, 0, none⟩ 1 1 [.int .i32 r, .int .i64 p, .int .i64 ((p : Int) + n)] rfl rfl (new3_cells _ _ _ _ _) (new3_one _ _ _) (by unfold maxLen; omega) (by omega) (by simp; omega) ?_)
      intro v' w2 own2 hgrow hnil
      have HO2 : Hid (w2.ownsRow w.heap.size 31 3 v' (k + 1) (Dec.cells (lst s (k + 1)))) := by
        rw [← cells_snoc, ← HR.out, ← HP.out, ← HQ.out]
        exact hid (by simpa using own2)
      have HB2 : Hid (Below w.heap.size w w2) := HB1.out.grown hgrow (by simp; omega) (by intro g hg; exact (HO1.out.lt g hg).1)
      clear own2 hgrow hnil HO1 HB1
      go_wp2
      go_roundw
      case rel =>
        refine ⟨k + 1, p + n, by omega, by omega, by go_num, HQ, ?_, HO2, HB2, hid (fun h => by omega)⟩
        intro j hj
        rcases Nat.lt_or_eq_of_le (Nat.le_of_lt_succ hj) with h1 | h1
        · exact HJ.out j h1
        · rw [h1, ← HP.out]; exact hlt
      case measure => simp [intOf]; omega
    · go_wp2
      go_ret
      exact ⟨k, _, ⟨by rw [← HP.out]; omega, HJ.out⟩, rfl, HO.out, HB.out, HN.out⟩

theorem new3_cells_at (w : World) (n : Nat) (h : w.heap.size = n) (a b c : Value) (t : TypeId) : ∀ j u, [a, b, c][j]? = some u → (w.alloc (.cells #[a, b, c] t)).cell? ((⟨n, 0, none⟩ : Addr).add j) = some u := by
  subst h; exact new3_cells w a b c t
/-- A store into the row that is owned turns no block but that. -/
theorem iter_setCell {w : World} {it g j : Nat} {s : ByteArray} {p : Nat} {v : Value} (h : w.heap[it]? = some (.stringIter s p)) (hne : g ≠ it) : (w.setCell ⟨g, j, none⟩ v).heap[it]? = some (.stringIter s p) := by
  rw [Below.heap_setCell _ _ _ _ (fun e => hne e.symm)]; exact h

end Go.Proofs.YtnakejhohdbfdabDoor
