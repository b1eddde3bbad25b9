/- Words: what holds between two rounds of the program's loop. -/
import Derived.Maps.AppendAt
import Derived.Test.YtnakejhohdbfdaaDoorWdF
namespace Go.Proofs.YtnakejhohdbfdaaDoor
open Go.RowKit Dec Kin Bnd Lay Go.Shelf
attribute [local go_sem] Oper.semAt_some

theorem wpListIn_append_at {F : Fence} {n : Nat} {P : Program} (w : World) {ops : Array Oper} {rest : List Oper} {o : Oper} {a : Act} {Q : Exit → Act → World → Prop}
    (hg : o.guard = none) (s x : Operand) (t : TypeId) (hop : o.op = Op.call { callee := Callee.builtin Builtin.append, args := #[s, x], argTypes := #[t, t] })
    (base : Nat) (e : TypeId) (i : TypeInfo) (z : Value) (size bytes : Nat) (h1 : P.underlying t = some (.slice e)) (h2 : P.info? e = some i) (h3 : i.zero = some z) (h4 : i.size = size) (h5 : i.bytes = bytes) (h6 : z.cells.size = size) (h7 : 0 < size)
    (v : Value) (k : Nat) (xs : List Value) (hs : a.eval s = v) (hown : w.ownsRow base e size v k xs) (ad : Addr) (m c : Nat) (news : List Value) (hx : a.eval x = .slice (some ad) m c) (hn : news.length = m * size)
    (hc : ∀ j u, news[j]? = some u → w.cell? (ad.add j) = some u) (h1c : ∀ u ∈ news, u.oneCell' = true) (b1 : k + m ≤ maxLen) (b2 : (k + m) * bytes ≤ 140737488355328) (b3 : base ≤ w.heap.size)
    (hK : ∀ v' w', w'.ownsRow base e size v' (k + m) (xs ++ news) → w.grownBy w' v.ownBlock → (v'.ownBlock = v.ownBlock ∨ v'.ownBlock = some w.heap.size) → wpListIn F n P ops Q rest (a.put o.dst v') w') :
    wpListIn F n P ops Q (o :: rest) a w := by
  refine wpListIn_plain hg fun K hK' => ?_
  obtain ⟨v', w', hrun, r1, r2, _, r4⟩ := run_append_own_at (P := P) (w := w) base t o.type e i z size bytes h1 h2 h3 h4 h5 h6 h7 v k xs hown ad m c news hn hc h1c b1 b2 b3
  unfold Oper.wpIn
  refine ⟨?_, ?_⟩
  · simp [Oper.about, hop, resolve, Target.leads, Sem.run_pure]
  · rw [Oper.semAt_plain F _ _ (by rw [hop]; intro c hc'; cases hc')]
    simp [execOp, hop, resolve, invoke, builtin, hs, hx, hrun, Result.andThen]
    exact hK' _ _ (hK v' w' r1 r2 r4)
theorem own_blk {w w' : World} {base : Nat} {e : TypeId} {size : Nat} {v : Value} {n : Nat} {xs : List Value} (h : w.ownsRow base e size v n xs) (hb : ∀ g, v.ownBlock = some g → w'.heap[g]? = w.heap[g]?) : w'.ownsRow base e size v n xs := by
  refine ⟨h.1, ?_⟩
  rcases h.2 with h1 | ⟨g, cap, cur, hv, hg, hh, r⟩
  · exact .inl h1
  · exact .inr ⟨g, cap, cur, hv, hg, by rw [hb g (by rw [hv]; rfl)]; exact hh, r⟩
/-- The words so far, when i clusters are passed. -/
def wdP (s : ByteArray) (n i : Nat) : List Int := if i = 0 then [0] else wdTo s n i
def ahd (s : ByteArray) (n i : Nat) : Bool := if i = 0 then false else ltr s n (i - 1)
structure WS (w : World) (s : ByteArray) (n i : Nat) (A : World) : Prop where
  b : Below w.heap.size w A
  t : A.heap[w.heap.size + 1 + 1 + 1]? = some (.cells #[.string s] 9 (0, 0))
  a : A.heap[w.heap.size + 1 + 1]? = some (.cells #[.bool (ahd s n i)] 4 (0, 0))
  v : ∃ v, A.heap[w.heap.size + 1]? = some (.cells #[v] 38 (0, 0)) ∧ A.ownsRow w.heap.size 3 1 v (wdP s n i).length (ints64 (wdP s n i)) ∧ ∀ g, v.ownBlock = some g → g ≠ w.heap.size + 4 ∧ g ≠ w.heap.size + 4 + 1
def Fgn (w A : World) (k : Nat) : Prop := k ≠ w.heap.size + 1 ∧ k ≠ w.heap.size + 1 + 1 ∧ ∀ v, A.heap[w.heap.size + 1]? = some (.cells #[v] 38 (0, 0)) → v.ownBlock ≠ some k
theorem lt_of_blk {A : World} {k : Nat} {o : Obj} (h : A.heap[k]? = some o) : k < A.heap.size := (Array.getElem?_eq_some_iff.1 h).1
theorem WS.kp {w A B : World} {s : ByteArray} {n i : Nat} (h : WS w s n i A) (hk : Kp (w.heap.size + 4) A B) : WS w s n i B := by
  obtain ⟨v, v1, v2, v3⟩ := h.v
  have hA := lt_of_blk h.t
  refine ⟨⟨hk.os.trans h.b.os, hk.tape.trans h.b.tape, hk.output.trans h.b.output, Nat.le_trans h.b.size hk.size, fun k hk1 => (hk.block k (by omega) (by omega) (by omega)).trans (h.b.block k hk1)⟩, ?_, ?_, v, ?_, ?_, v3⟩
  · rw [hk.block _ (by omega) (by omega) (by omega)]; exact h.t
  · rw [hk.block _ (by omega) (by omega) (by omega)]; exact h.a
  · rw [hk.block _ (by omega) (by omega) (by omega)]; exact v1
  · exact own_blk v2 (fun g hg => hk.block g (v2.lt g hg).2 (v3 g hg).1 (v3 g hg).2)
theorem Fgn.kp {w A B : World} {s : ByteArray} {n i k : Nat} (h : WS w s n i A) (hk : Kp (w.heap.size + 4) A B) (hf : Fgn w A k) : Fgn w B k := by
  have hA := lt_of_blk h.t
  refine ⟨hf.1, hf.2.1, fun v hv => hf.2.2 v ?_⟩
  rw [hk.block _ (by omega) (by omega) (by omega)] at hv
  exact hv
theorem Fgn.new {w A B : World} {s : ByteArray} {n i k : Nat} (h : WS w s n i A) (hb : Below A.heap.size A B) (hk : A.heap.size ≤ k) : Fgn w B k := by
  have hA := lt_of_blk h.t
  obtain ⟨v, v1, v2, _⟩ := h.v
  refine ⟨by omega, by omega, fun u hu e => ?_⟩
  rw [hb.block _ (by omega), v1] at hu
  cases hu
  have := (v2.lt k e).2
  omega
theorem ws_skip {w A A1 : World} {s : ByteArray} {n i : Nat} (act : Act) (h : WS w s n i A) (hb : Below A.heap.size A A1) (he : wdP s n (i + 1) = wdP s n i) (hsz : w.heap.size + 4 + 1 < A.heap.size) :
    kpPost (w.heap.size + 4) (WS w s n) (Fgn w) (i + 1) A .normal act (A1.setCell ⟨w.heap.size + 1 + 1, 0, none⟩ (.bool (ahd s n (i + 1)))) := by
  obtain ⟨v, v1, v2, v3⟩ := h.v
  have ho : ∀ k, k < A.heap.size → k ≠ w.heap.size + 1 + 1 → (A1.setCell ⟨w.heap.size + 1 + 1, 0, none⟩ (.bool (ahd s n (i + 1)))).heap[k]? = A.heap[k]? := fun k h1 h2 => (Below.heap_setCell _ _ _ _ h2).trans (hb.block k h1)
  have hn2 : ∀ g, v.ownBlock = some g → g ≠ w.heap.size + 1 + 1 := fun g hg e => own_ne v2 h.a (fun c f hc => by cases hc) (by rw [← e, hg])
  refine ⟨ho _ (by omega) (by omega), ho _ (by omega) (by omega), by rw [World.size_setCell]; exact hb.size, ⟨?_, ?_, ?_, v, ?_, ?_, v3⟩, fun k hk hf => ⟨ho k hk hf.2.1, hf.1, hf.2.1, fun u hu => hf.2.2 u ?_⟩⟩
  · exact ⟨hb.os.trans h.b.os, hb.tape.trans h.b.tape, hb.output.trans h.b.output, by rw [World.size_setCell]; exact Nat.le_trans h.b.size hb.size, fun k hk => (ho k (by omega) (by omega)).trans (h.b.block k hk)⟩
  · rw [ho _ (by omega) (by omega)]; exact h.t
  · have := heap_setCell_same A1 (w.heap.size + 1 + 1) 0 _ 4 (.bool (ahd s n (i + 1))) ((hb.block _ (by omega)).trans h.a)
    exact this
  · rw [ho _ (by omega) (by omega)]; exact v1
  · rw [he]; exact own_blk v2 (fun g hg => ho g (v2.lt g hg).2 (hn2 g hg))
  · rw [ho _ (by omega) (by omega)] at hu; exact hu
theorem ws_add {w A A1 A2 : World} {s : ByteArray} {n i : Nat} {v v' : Value} {ob : Obj} (act : Act) (h : WS w s n i A) (hb : Below A.heap.size A A1) (hv : A.heap[w.heap.size + 1]? = some (.cells #[v] 38 (0, 0))) (hown : A.ownsRow w.heap.size 3 1 v (wdP s n i).length (ints64 (wdP s n i))) (hv3 : ∀ g, v.ownBlock = some g → g ≠ w.heap.size + 4 ∧ g ≠ w.heap.size + 4 + 1)
    (hg : (A1.alloc ob).grownBy A2 v.ownBlock) (own : A2.ownsRow w.heap.size 3 1 v' (wdP s n (i + 1)).length (ints64 (wdP s n (i + 1)))) (hor : v'.ownBlock = v.ownBlock ∨ v'.ownBlock = some (A1.alloc ob).heap.size) (hsz : w.heap.size + 4 + 1 < A.heap.size) :
    kpPost (w.heap.size + 4) (WS w s n) (Fgn w) (i + 1) A .normal act ((A2.setCell ⟨w.heap.size + 1, 0, none⟩ v').setCell ⟨w.heap.size + 1 + 1, 0, none⟩ (.bool (ahd s n (i + 1)))) := by
  have hs1 := hb.size
  have hs2 := hg.size
  rw [World.size_alloc] at hs2 hor
  have h2 : ∀ k, k < A.heap.size → v.ownBlock ≠ some k → A2.heap[k]? = A.heap[k]? := fun k hk hne => ((hg.block k (by rw [World.size_alloc]; omega) (fun e => hne e.symm)).trans (Below.heap_alloc _ _ _ (by omega))).trans (hb.block k hk)
  have ho : ∀ k, k < A.heap.size → v.ownBlock ≠ some k → k ≠ w.heap.size + 1 → k ≠ w.heap.size + 1 + 1 → ((A2.setCell ⟨w.heap.size + 1, 0, none⟩ v').setCell ⟨w.heap.size + 1 + 1, 0, none⟩ (.bool (ahd s n (i + 1)))).heap[k]? = A.heap[k]? := fun k q1 q2 q3 q4 => ((Below.heap_setCell _ _ _ _ q4).trans (Below.heap_setCell _ _ _ _ q3)).trans (h2 k q1 q2)
  have n1 : v.ownBlock ≠ some (w.heap.size + 1) := fun e => own_ne hown hv (fun c f hc => by cases hc) e.symm
  have n2 : v.ownBlock ≠ some (w.heap.size + 1 + 1) := fun e => own_ne hown h.a (fun c f hc => by cases hc) e.symm
  have n3 : v.ownBlock ≠ some (w.heap.size + 1 + 1 + 1) := fun e => own_ne hown h.t (fun c f hc => by cases hc) e.symm
  have n4 : v.ownBlock ≠ some (w.heap.size + 4) := fun e => (hv3 _ e).1 rfl
  have n5 : v.ownBlock ≠ some (w.heap.size + 4 + 1) := fun e => (hv3 _ e).2 rfl
  have hlow : ∀ k, k < w.heap.size → v.ownBlock ≠ some k := fun k hk e => by have := (hown.lt k e).1; omega
  have m1 : ∀ g, v'.ownBlock = some g → g ≠ w.heap.size + 1 ∧ g ≠ w.heap.size + 1 + 1 ∧ g ≠ w.heap.size + 4 ∧ g ≠ w.heap.size + 4 + 1 := fun g hgb => by
    rcases hor with e | e
    · rw [e] at hgb
      exact ⟨fun q => n1 (q ▸ hgb), fun q => n2 (q ▸ hgb), fun q => n4 (q ▸ hgb), fun q => n5 (q ▸ hgb)⟩
    · rw [hgb] at e
      have := Option.some.inj e
      omega
  have k1 := heap_setCell_same A2 (w.heap.size + 1) 0 _ 38 v' ((h2 _ (by omega) n1).trans hv)
  have k2 := heap_setCell_same (A2.setCell ⟨w.heap.size + 1, 0, none⟩ v') (w.heap.size + 1 + 1) 0 _ 4 (.bool (ahd s n (i + 1))) (((Below.heap_setCell _ _ _ _ (by show w.heap.size + 1 + 1 ≠ w.heap.size + 1; omega)).trans (h2 _ (by omega) n2)).trans h.a)
  have hbx : ((A2.setCell ⟨w.heap.size + 1, 0, none⟩ v').setCell ⟨w.heap.size + 1 + 1, 0, none⟩ (.bool (ahd s n (i + 1)))).heap[w.heap.size + 1]? = some (.cells #[v'] 38 (0, 0)) := (Below.heap_setCell _ _ _ _ (by show w.heap.size + 1 ≠ w.heap.size + 1 + 1; omega)).trans k1
  refine ⟨ho _ (by omega) n4 (by omega) (by omega), ho _ (by omega) n5 (by omega) (by omega), by rw [World.size_setCell, World.size_setCell]; omega, ⟨?_, ?_, k2, v', hbx, ?_, fun g hgb => (m1 g hgb).2.2⟩, fun k hk hf => ⟨ho k hk (hf.2.2 v hv) hf.1 hf.2.1, hf.1, hf.2.1, fun u hu e => ?_⟩⟩
  · exact ⟨(hg.os.trans hb.os).trans h.b.os, (hg.tape.trans hb.tape).trans h.b.tape, (hg.output.trans hb.output).trans h.b.output, by rw [World.size_setCell, World.size_setCell]; have := h.b.size; omega, fun k hk => (ho k (by omega) (hlow k hk) (by omega) (by omega)).trans (h.b.block k hk)⟩
  · rw [ho _ (by omega) n3 (by omega) (by omega)]; exact h.t
  · exact own_blk own (fun g hgb => (Below.heap_setCell _ _ _ _ (m1 g hgb).2.1).trans (Below.heap_setCell _ _ _ _ (m1 g hgb).1))
  · rw [hbx] at hu
    cases hu
    rcases hor with q | q
    · exact hf.2.2 v hv (q ▸ e)
    · rw [e] at q
      have := Option.some.inj q
      omega
end Go.Proofs.YtnakejhohdbfdaaDoor
