/- The parts of a line without clusters; an append of a row that may be empty. -/
import Derived.Test.YtnakejhohdbfdabGreatDoorSpB
namespace Go.Proofs.YtnakejhohdbfdabGreatDoor
open Go.RowKit Lev Lay

theorem step_appo {P : Program} {ops : Array Oper} {o : Oper} {a : Act} {w : World} {K : Act → World → Prop} {Q : Exit → Act → World → Prop} {X : Prop}
    (hg : o.guard = none) (s x : Operand) (t : TypeId) (hop : o.op = Op.call { callee := Callee.builtin Builtin.append, args := #[s, x], argTypes := #[t, t] })
    (base : Nat) (e : TypeId) (i : TypeInfo) (z : Value) (size bytes : Nat) (h1 : P.underlying t = some (.slice e)) (h2 : P.info? e = some i) (h3 : i.zero = some z) (h4 : i.size = size) (h5 : i.bytes = bytes) (h6 : z.cells.size = size) (h7 : 0 < size)
    (v : Value) (n : Nat) (xs : List Value) (hs : a.eval s = v) (hown : w.ownsRow base e size v n xs)
    (B' : Nat) (vx : Value) (m : Nat) (news : List Value) (hx : a.eval x = vx) (hnx : w.ownsRow B' e size vx m news) (h1c : ∀ u ∈ news, u.oneCell' = true)
    (b1 : n + m ≤ maxLen) (b2 : (n + m) * bytes ≤ 140737488355328) (b3 : base ≤ w.heap.size)
    (hK : ∀ v' w', w'.ownsRow base e size v' (n + m) (xs ++ news) → w.grownBy w' v.ownBlock → K (a.put o.dst v') w') :
    if Region.wanted o (yielded ops a.tmps) = true then Oper.wp P o a w K Q else X := by
  have hl := hnx.1
  rcases hnx.2 with ⟨hv, hm⟩ | ⟨g, cap, cur, hv, _⟩
  · have hw : Region.wanted o (yielded ops a.tmps) = true := by simp [Region.wanted, hg]
    rw [if_pos hw]
    have hnil : news = [] := List.length_eq_zero_iff.1 (by rw [hl, hm, Nat.zero_mul])
    have hrun := run_append_owned_none (P := P) (w := w) base t o.type e i size h1 h2 v n xs hown
    subst hnil
    subst hm
    have hk := hK v w (by simpa using hown) ⟨rfl, rfl, rfl, Nat.le_refl _, fun _ _ _ => rfl⟩
    unfold Oper.wp
    simp [execOp, hop, resolve, invoke, builtin, hs, hx, hv, hrun, Result.andThen]
    exact hk
  · exact step_app hg s x t hop base e i z size bytes h1 h2 h3 h4 h5 h6 h7 v n xs hs hown ⟨g, 0, none⟩ m cap news (hx.trans hv) hl (fun j u hu => by
      rw [hv] at hnx
      have hj : j < news.length := (List.getElem?_eq_some_iff.1 hu).1
      have h := hnx.cellAt j (by omega)
      rw [hu] at h
      rcases Nat.eq_zero_or_pos j with h9 | h9
      · subst h9; exact h
      · simpa [Addr.add, show ¬ j = 0 by omega] using h) h1c b1 b2 b3 hK
set_option maxHeartbeats 1000000 in
theorem parts_nil (F : Nat) (caps : Array Value) (w : World) :
    Calls Tryz.prog 162 #[.slice none 0 0, .func (.func F) #[] caps] w fun e w' => e = .returned (.slice none 0 0) ∧ w' = w := by
  go_enter Tryz.func162, Tryz.ntmps162
  go_wp2_with fail
  go_loopw [5, 6, 11] (fun vo ff gg wr => ∃ k : Nat, gg = .int .i64 k ∧ k ≤ 1 ∧ ff = .int .i64 k ∧ vo = .slice none 0 0 ∧ wr = w) (fun _ _ gg _ => 1 - (intOf gg).toNat)
  case atStart => exact ⟨0, rfl, Nat.zero_le _, rfl, by simp⟩
  case round =>
    obtain ⟨k, rfl, hk, rfl, rfl, rfl⟩ := hrel
    by_cases h : k < 1
    · obtain rfl : k = 0 := by omega
      go_wp2
      go_roundw
      case rel => exact ⟨1, rfl, Nat.le_refl _, rfl, by simp⟩
      case measure => simp [intOf]
    · obtain rfl : k = 1 := by omega
      go_wp2
      go_ret
      exact ⟨rfl, rfl⟩
theorem parts_gen (F : Nat) (caps : Array Value) (p : Nat → Bool) (o : List Nat) (B : Nat) (v : Value) (w : World) (hl : o.length ≤ 1000) (hO : w.ownsRow B 3 1 v o.length (intsN o)) (eg : ∀ args w, (callFunc F args).run Tryz.prog w = .ok (.enter F args) w)
    (hf : ∀ X, Fr [] w X → ∀ i, i < o.length → Calls Tryz.prog F (#[.int .i64 (nix o i : Nat)] ++ caps) X fun e w' => e = .returned (.bool (p (nix o i))) ∧ ∃ q, w' = X.drewN q) :
    Calls Tryz.prog 162 #[v, .func (.func F) #[] caps] w fun e w' => ∃ v, e = .returned v ∧ w'.ownsRow w.heap.size 337 2 v (Lay.parts p o).length (ptCells (Lay.parts p o)) ∧ Fr [] w w' := by
  rcases hO.2 with ⟨hv, h0⟩ | ⟨g, cap, cur, hv, _⟩
  · rw [hv]
    refine (parts_nil F caps w).mono ?_
    rintro e w' ⟨rfl, rfl⟩
    have : Lay.parts p o = [] := by rw [List.length_eq_zero_iff.1 h0]; rfl
    rw [this]
    exact ⟨_, rfl, World.ownsRow_nil _ _ _ _, Fr.refl _ _⟩
  · rw [hv] at hO ⊢
    exact parts_any F caps p o g cap w hl (owns_rowN hO rfl) eg hf
end Go.Proofs.YtnakejhohdbfdabGreatDoor
