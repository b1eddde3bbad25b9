/- Wrapping: the program's pieces: what holds between two rounds. -/
import Derived.Shelf.Utf8.RuneCount
import Derived.Test.YtnakejhohdbfdabDoorWrD
namespace Go.Proofs
open Go.Shelf Go.RowKit
def Tryd.lays195_ren : Go.Shelf.Ren := ⟨fun | 195 => 13 | n => n, fun | 9 => 9 | 3 => 3 | 0 => 0 | 4 => 4 | n => n, fun | n => n⟩
theorem Tryd.lays195 : Go.Proofs.Lays.n195 Tryd.prog Tryd.lays195_ren := {
  mixed := by kernel_rfl
  f195 := Tryd.func13.trans (congrArg some (by kernel_rfl))
  t0 := Tryd.underlying0
  a0 := Tryd.isAgg0
  z0 := Tryd.sizeOf0
  v0 := Tryd.zeroValue0
  t3 := Tryd.underlying3
  a3 := Tryd.isAgg3
  z3 := Tryd.sizeOf3
  v3 := Tryd.zeroValue3
  t4 := Tryd.underlying4
  a4 := Tryd.isAgg4
  z4 := Tryd.sizeOf4
  v4 := Tryd.zeroValue4
  t9 := Tryd.underlying9
  a9 := Tryd.isAgg9
  z9 := Tryd.sizeOf9
  v9 := Tryd.zeroValue9 }
theorem Tryd.utf8_RuneCountInString (s : ByteArray) (w : World) (hs : s.size < 9223372036854775807) :
    Calls Tryd.prog 13 #[.string s] w fun e w' => e = .returned (.int .i64 (Lib.runeCount s)) ∧ ∃ pos, w' = w.iter s pos := Any.utf8_RuneCountInString Tryd.lays195 s w hs
end Go.Proofs
namespace Go.Proofs.YtnakejhohdbfdabDoor
open Go.RowKit Dec Kin Bnd Lay Go.Shelf
attribute [local go_sem] Oper.semAt_some

theorem count_any (t : ByteArray) (w : World) (ht : t.size ≤ 4096) : Calls Tryd.prog 13 #[.string t] w fun e w' => e = .returned (.int .i64 (Lib.runeCount t : Nat)) ∧ Below w.heap.size w w' :=
  (Tryd.utf8_RuneCountInString t w (by omega)).mono (by
    rintro e w' ⟨rfl, q, rfl⟩
    exact ⟨rfl, (Below.refl _ w).alloc (Nat.le_refl _) _⟩)
/-- A piece's cells. -/
def pc (s : ByteArray) (n g o cW i : Nat) : List Value := [.int .i64 ((pos s (nix (bix s n) i) : Nat) : Int), .bool (blk s n i), .slice (some ⟨g, o + nix (bix s n) i, none⟩) (nix (bix s n) (i + 1) - nix (bix s n) i) (cW - nix (bix s n) i)]
def pcl (s : ByteArray) (n g o cW : Nat) : Nat → List Value
  | 0 => []
  | i + 1 => pcl s n g o cW i ++ pc s n g o cW i
theorem pcl_len (s : ByteArray) (n g o cW : Nat) : ∀ i, (pcl s n g o cW i).length = i * 3
  | 0 => rfl
  | i + 1 => by rw [pcl, List.length_append, pcl_len s n g o cW i]; simp [pc]; omega
theorem pcl_at (s : ByteArray) (n g o cW : Nat) : ∀ c i, i < c → ∀ j, j < 3 → (pcl s n g o cW c)[i * 3 + j]? = (pc s n g o cW i)[j]?
  | 0, i, h, _, _ => absurd h (Nat.not_lt_zero _)
  | c + 1, i, h, j, hj => by
    have hl := pcl_len s n g o cW c
    rw [pcl]
    rcases Nat.lt_or_eq_of_le (Nat.le_of_lt_succ h) with h1 | h1
    · rw [List.getElem?_append_left (by omega)]
      exact pcl_at s n g o cW c i h1 j hj
    · subst h1
      rw [List.getElem?_append_right (by omega), hl, show i * 3 + j - i * 3 = j by omega]
structure PS (w : World) (s : ByteArray) (n g o cW i : Nat) (A : World) : Prop where
  b : Below w.heap.size w A
  t : A.heap[w.heap.size + 1 + 1]? = some (.cells #[.string s] 9 (0, 0))
  a : ∃ aw, A.heap[w.heap.size]? = some (.cells #[.slice aw (n - nix (bix s n) i) (cW - nix (bix s n) i)] 22 (0, 0)) ∧ (nix (bix s n) i < n → aw = some ⟨g, o + nix (bix s n) i, none⟩)
  v : ∃ v, A.heap[w.heap.size + 1]? = some (.cells #[v] 36 (0, 0)) ∧ A.ownsRow w.heap.size 40 3 v i (pcl s n g o cW i) ∧ ∀ g', v.ownBlock = some g' → g' ≠ w.heap.size + 3 ∧ g' ≠ w.heap.size + 3 + 1
def Fgn (w A : World) (k : Nat) : Prop := k ≠ w.heap.size ∧ k ≠ w.heap.size + 1 ∧ ∀ v, A.heap[w.heap.size + 1]? = some (.cells #[v] 36 (0, 0)) → v.ownBlock ≠ some k
theorem PS.kp {w A B : World} {s : ByteArray} {n g o cW i : Nat} (h : PS w s n g o cW i A) (hk : Kp (w.heap.size + 3) A B) : PS w s n g o cW i B := by
  obtain ⟨v, v1, v2, v3⟩ := h.v
  obtain ⟨aw, a1, a2⟩ := h.a
  have hA := lt_of_blk h.t
  refine ⟨⟨hk.os.trans h.b.os, hk.tape.trans h.b.tape, hk.output.trans h.b.output, Nat.le_trans h.b.size hk.size, fun k hk1 => (hk.block k (by omega) (by omega) (by omega)).trans (h.b.block k hk1)⟩, ?_, ⟨aw, ?_, a2⟩, v, ?_, ?_, v3⟩
  · rw [hk.block _ (by omega) (by omega) (by omega)]; exact h.t
  · rw [hk.block _ (by omega) (by omega) (by omega)]; exact a1
  · rw [hk.block _ (by omega) (by omega) (by omega)]; exact v1
  · exact own_blk v2 (fun g hg => hk.block g (v2.lt g hg).2 (v3 g hg).1 (v3 g hg).2)
theorem Fgn.kp {w A B : World} {s : ByteArray} {n g o cW i k : Nat} (h : PS w s n g o cW i A) (hk : Kp (w.heap.size + 3) A B) (hf : Fgn w A k) : Fgn w B k := by
  have hA := lt_of_blk h.t
  refine ⟨hf.1, hf.2.1, fun v hv => hf.2.2 v ?_⟩
  rw [hk.block _ (by omega) (by omega) (by omega)] at hv
  exact hv
theorem Fgn.new {w A B : World} {s : ByteArray} {n g o cW i k : Nat} (h : PS w s n g o cW i A) (hb : Below A.heap.size A B) (hk : A.heap.size ≤ k) : Fgn w B k := by
  have hA := lt_of_blk h.t
  obtain ⟨v, v1, v2, _⟩ := h.v
  refine ⟨by omega, by omega, fun u hu e => ?_⟩
  rw [hb.block _ (by omega), v1] at hu
  cases hu
  have := (v2.lt k e).2
  omega
theorem ps_add {w A A1 A2 : World} {s : ByteArray} {n g o cW i : Nat} {v v' : Value} {ob : Obj} (act : Act) (h : PS w s n g o cW i A) (hb : Below A.heap.size A A1) (hv : A.heap[w.heap.size + 1]? = some (.cells #[v] 36 (0, 0))) (hown : A.ownsRow w.heap.size 40 3 v i (pcl s n g o cW i)) (hv3 : ∀ g, v.ownBlock = some g → g ≠ w.heap.size + 3 ∧ g ≠ w.heap.size + 3 + 1)
    (hg : (A1.alloc ob).grownBy A2 v.ownBlock) (own : A2.ownsRow w.heap.size 40 3 v' (i + 1) (pcl s n g o cW (i + 1))) (hor : v'.ownBlock = v.ownBlock ∨ v'.ownBlock = some (A1.alloc ob).heap.size) (hsz : w.heap.size + 3 + 1 < A.heap.size) (aw : Option Addr) (haw : nix (bix s n) (i + 1) < n → aw = some ⟨g, o + nix (bix s n) (i + 1), none⟩) :
    kpPost (w.heap.size + 3) (PS w s n g o cW) (Fgn w) (i + 1) A .normal act ((A2.setCell ⟨w.heap.size + 1, 0, none⟩ v').setCell ⟨w.heap.size, 0, none⟩ (.slice aw (n - nix (bix s n) (i + 1)) (cW - nix (bix s n) (i + 1)))) := by
  have hs1 := hb.size
  have hs2 := hg.size
  rw [World.size_alloc] at hs2 hor
  obtain ⟨aw0, a1, _⟩ := h.a
  generalize hva : Value.slice aw (n - nix (bix s n) (i + 1)) (cW - nix (bix s n) (i + 1)) = va
  have h2 : ∀ k, k < A.heap.size → v.ownBlock ≠ some k → A2.heap[k]? = A.heap[k]? := fun k hk hne => ((hg.block k (by rw [World.size_alloc]; omega) (fun e => hne e.symm)).trans (Below.heap_alloc _ _ _ (by omega))).trans (hb.block k hk)
  have ho : ∀ k, k < A.heap.size → v.ownBlock ≠ some k → k ≠ w.heap.size + 1 → k ≠ w.heap.size → ((A2.setCell ⟨w.heap.size + 1, 0, none⟩ v').setCell ⟨w.heap.size, 0, none⟩ va).heap[k]? = A.heap[k]? := fun k q1 q2 q3 q4 => ((Below.heap_setCell _ _ _ _ q4).trans (Below.heap_setCell _ _ _ _ q3)).trans (h2 k q1 q2)
  have n1 : v.ownBlock ≠ some (w.heap.size + 1) := fun e => own_ne hown hv (fun c f hc => by cases hc) e.symm
  have n2 : v.ownBlock ≠ some w.heap.size := fun e => own_ne hown a1 (fun c f hc => by cases hc) e.symm
  have n3 : v.ownBlock ≠ some (w.heap.size + 1 + 1) := fun e => own_ne hown h.t (fun c f hc => by cases hc) e.symm
  have n4 : v.ownBlock ≠ some (w.heap.size + 3) := fun e => (hv3 _ e).1 rfl
  have n5 : v.ownBlock ≠ some (w.heap.size + 3 + 1) := fun e => (hv3 _ e).2 rfl
  have hlow : ∀ k, k < w.heap.size → v.ownBlock ≠ some k := fun k hk e => by have := (hown.lt k e).1; omega
  have m1 : ∀ g, v'.ownBlock = some g → g ≠ w.heap.size + 1 ∧ g ≠ w.heap.size ∧ g ≠ w.heap.size + 3 ∧ g ≠ w.heap.size + 3 + 1 := fun g hgb => by
    rcases hor with e | e
    · rw [e] at hgb
      exact ⟨fun q => n1 (q ▸ hgb), fun q => n2 (q ▸ hgb), fun q => n4 (q ▸ hgb), fun q => n5 (q ▸ hgb)⟩
    · rw [hgb] at e
      have := Option.some.inj e
      omega
  have k1 := heap_setCell_same A2 (w.heap.size + 1) 0 _ 36 v' ((h2 _ (by omega) n1).trans hv)
  have k2 := heap_setCell_same (A2.setCell ⟨w.heap.size + 1, 0, none⟩ v') w.heap.size 0 _ 22 va (((Below.heap_setCell _ _ _ _ (by show w.heap.size ≠ w.heap.size + 1; omega)).trans (h2 _ (by omega) n2)).trans a1)
  have hbx : ((A2.setCell ⟨w.heap.size + 1, 0, none⟩ v').setCell ⟨w.heap.size, 0, none⟩ va).heap[w.heap.size + 1]? = some (.cells #[v'] 36 (0, 0)) := (Below.heap_setCell _ _ _ _ (by show w.heap.size + 1 ≠ w.heap.size; omega)).trans k1
  refine ⟨ho _ (by omega) n4 (by omega) (by omega), ho _ (by omega) n5 (by omega) (by omega), by rw [World.size_setCell, World.size_setCell]; omega, ⟨?_, ?_, ⟨aw, by rw [hva]; exact k2, haw⟩, v', hbx, ?_, fun g hgb => (m1 g hgb).2.2⟩, fun k hk hf => ⟨ho k hk (hf.2.2 v hv) hf.2.1 hf.1, hf.1, hf.2.1, fun u hu e => ?_⟩⟩
  · exact ⟨(hg.os.trans hb.os).trans h.b.os, (hg.tape.trans hb.tape).trans h.b.tape, (hg.output.trans hb.output).trans h.b.output, by rw [World.size_setCell, World.size_setCell]; have := h.b.size; omega, fun k hk => (ho k (by omega) (hlow k hk) (by omega) (by omega)).trans (h.b.block k hk)⟩
  · rw [ho _ (by omega) n3 (by omega) (by omega)]; exact h.t
  · exact own_blk own (fun g hgb => (Below.heap_setCell _ _ _ _ (m1 g hgb).2.1).trans (Below.heap_setCell _ _ _ _ (m1 g hgb).1))
  · rw [hbx] at hu
    cases hu
    rcases hor with q | q
    · exact hf.2.2 v hv (q ▸ e)
    · rw [e] at q
      have := Option.some.inj q
      omega
end Go.Proofs.YtnakejhohdbfdabDoor
