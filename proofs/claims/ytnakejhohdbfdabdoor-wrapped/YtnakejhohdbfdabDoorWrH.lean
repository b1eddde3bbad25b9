/- Wrapping: both lists, held against each other; the law. -/
import Derived.Laws.AppendOwnNone
import Derived.Test.YtnakejhohdbfdabDoorWrG
namespace Go.Proofs.YtnakejhohdbfdabDoor
open Go.RowKit Dec Kin Bnd Lay

/-- A list of numbers, in one world. -/
def lst1 (w : World) (a : Option Addr) (l : List Int) : Prop := ∀ j, j < l.length → ∃ g o, a = some ⟨g, o, none⟩ ∧ w.cell? ⟨g, o + j, none⟩ = some (.int .i64 (nth l j))
set_option maxHeartbeats 2000000 in
theorem ints_same (l : List Int) (a b : Option Addr) (ca cb : Nat) (w : World) (hl : l.length ≤ 1000000) (ha : lst1 w a l) (hb : lst1 w b l) :
    Calls Tryd.prog 5 #[.slice a l.length ca, .slice b l.length cb] w fun e w' => e = .returned (.bool true) ∧ Below w.heap.size w w' := by
  have HA := hide ha
  have HB := hide hb
  clear ha hb
  generalize hn : l.length = n at *
  have HN := hide hn
  clear hn
  go_enter Tryd.func5, Tryd.ntmps5
  go_wp2_with fail
  go_loopw [5] (fun i wr => ∃ j q : Nat, j ≤ n ∧ i = .int .i64 j ∧ wr = w.drewN q) (fun i _ => n - (intOf i).toNat)
  case atStart => exact ⟨0, 0, Nat.zero_le _, rfl, rfl⟩
  case round =>
    obtain ⟨j, q, hj, rfl, rfl⟩ := hrel
    by_cases hjn : j < n
    · obtain ⟨ga, oa, ha1, d1⟩ := HA.out j (by rw [HN.out]; exact hjn)
      obtain ⟨gb, ob, hb1, d2⟩ := HB.out j (by rw [HN.out]; exact hjn)
      subst ha1 hb1
      have c1 : (w.drewN q).cell? ⟨ga, oa + j, none⟩ = some (.int .i64 (nth l j)) := d1
      have c2 : (w.drewN q).cell? ⟨gb, ob + j, none⟩ = some (.int .i64 (nth l j)) := d2
      have hjI : (j : Int) < (n : Int) := by omega
      generalize nth l j = y at c1 c2 d1 d2
      go_wp2_with fail
      go_quiet (fail)
      go_wp2
      go_roundw
      case rel => exact ⟨j + 1, _, by omega, by go_num, rfl⟩
      case measure => simp [intOf]; omega
    · go_wp2
      go_ret
      exact ⟨rfl, below_draws _ _ _⟩
theorem nth_at {l : List Int} {j : Nat} (h : j < l.length) : (ints64 l)[j]? = some (.int .i64 (nth l j)) := by simp [ints64, nth, h]
theorem own_lst {w : World} {B : Nat} {a : Option Addr} {n c : Nat} {l : List Int} (h : w.ownsRow B 3 1 (.slice a n c) n (ints64 l)) (hl : l.length = n) : lst1 w a l := fun j hj => by
  obtain ⟨g, cap, hv⟩ := owns_shape_pos (by omega) h
  cases hv
  exact ⟨g, 0, rfl, by rw [Nat.zero_add]; exact (h.cellAt j (by omega)).trans (nth_at hj)⟩
theorem owns_any {w : World} {B : Nat} {e : TypeId} {v : Value} {n : Nat} {xs : List Value} {k : Nat} (h : w.ownsRow B e k v n xs) : ∃ a c, v = .slice a n c ∧ n ≤ c := by
  rcases h.2 with ⟨h1, h0⟩ | ⟨g, cap, cur, h1, _, _, h2, _⟩
  · exact ⟨_, _, by rw [h1, h0], by omega⟩
  · exact ⟨_, _, h1, h2⟩
theorem wrapP_bad (s : ByteArray) (w : World) (hs : s.size ≤ 4096) (n : Nat) (hend : Dec.Ends s n) (a : Option Addr) (m cW : Nat) (hm : m ≠ n) (R : Int) :
    Calls Tryd.prog 8 #[.string s, .slice a m cW, .int .i64 R] w fun e w' => e = .returned (.slice none 0 0) ∧ Below w.heap.size w w' := by
  have C13 := hide (count_any s w hs)
  rw [count_ends hend] at C13
  have hmb : ((m : Int) == (n : Int)) = false := by simp; omega
  have hns : n ≤ 4096 := by have := le_pos s n; have := hend.1; omega
  clear hend
  go_enter Tryd.func8, Tryd.ntmps8
  go_wp2_with fail
  refine C13.out.mono ?_
  rintro e w1 ⟨rfl, hb1⟩
  have HB1 := hide hb1
  clear hb1 C13
  go_wp2
  go_ret
  exact ⟨rfl, HB1.out⟩
theorem wrap4 (s : ByteArray) (v : Value) (R : Int) (w : World) (P : Value → World → Prop) (h : Calls Tryd.prog 8 #[.string s, v, .int .i64 R] w fun e w' => ∃ u, e = .returned u ∧ P u w') :
    Calls Tryd.prog 4 #[.string s, v, .int .i64 R] w fun e w' => ∃ u, e = .returned u ∧ P u w' := by
  have H := hide h
  clear h
  go_enter Tryd.func4, Tryd.ntmps4
  go_wp2_with fail
  refine H.out.mono ?_
  rintro e w1 ⟨u, rfl, hp⟩
  have HP := hide hp
  clear hp H
  go_wp2
  go_ret
  exact ⟨_, rfl, HP.out⟩
end Go.Proofs.YtnakejhohdbfdabDoor
