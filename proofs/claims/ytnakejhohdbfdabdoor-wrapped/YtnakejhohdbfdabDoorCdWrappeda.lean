/- The card of the law Wrapped. -/
import Derived.Test.YtnakejhohdbfdabDoorCards
import Derived.Test.YtnakejhohdbfdabDoorTie
import Derived.Test.YtnakejhohdbfdabDoorWrI
import Derived.Test.YtnakejhohdbfdabDoorLaid
import Derived.Test.YtnakejhohdbfdabDoorUtf
import Derived.ProofKit
import Derived.OpenShut
import Derived.Deep.DeepHandedRow
import Derived.Carry
import Derived.Lib.SmallJoins
import Derived.ChangeSlices
namespace Go.Proofs.YtnakejhohdbfdabDoor.wrapped
open Go.ChangeShapes Go.WideShapes Go.ChangeAt Go.RowKit
open Go.ChangeMaps (open_string shut_string)

theorem own : ownKnob Tryd.prog.godebug = none := by kernel_rfl

theorem tables {W : World} (h : laidMetH Tryd.prog Rows.wrappedRow.laid W) : Lib.Utf8Tabs 0 1 W ∧ TabAt W 2 Tabs.kindTab ∧ TabAt W 3 Tabs.lowTab ∧ TabAt W 4 Tabs.highTab := by
  have h1 : laidMet Tryd.prog Rows.wrappedRow.laid W := h
  exact ⟨utf8Tabs_of_reads Tryd.lays260 extra (Lib.laidMet.reads h1 (by rw [← dataFirst]; exact .tail _ (.tail _ (.tail _ (.tail _ (.head _)))))) (Lib.laidMet.reads h1 (by rw [← dataAccept]; exact .head _)), kinds_of_head h1.tail.tail.tail (by kernel_rfl), low_of_head h1.tail (by kernel_rfl), high_of_head h1.tail.tail (by kernel_rfl)⟩

theorem laidOut : laidOutB Tryd.prog = true := by kernel_rfl
theorem cells3 : Tryd.prog.cellsOf 3 = 1 := by kernel_rfl
/-- A list of numbers that comes in. -/
theorem ints_in {H : Type} {enc : TypeId × Value → H} {W : World} {sp : Nat → Bool} {held : Bool} {n : Nat} {v : Value} {y : DataW H × List MemPlace} (h : DataW.trod enc Tryd.prog W 0 sp held n 22 [v] = some y) : ∃ l, slAd W v l := by
  rcases open_ints Tryd.underlying22 Tryd.underlying3 cells3 h with ⟨e, _⟩ | ⟨a, len, cap, zs, e, _, hlc, _, hz, _, hc, _⟩
  · cases e
    exact ⟨[], none, 0, rfl, .inl ⟨rfl, rfl, rfl⟩⟩
  · cases e
    have hlz : len ≤ zs.length := by rw [hz]; split <;> omega
    have hl : (zs.take len).length = len := by simp; omega
    refine ⟨zs.take len, some a, cap, by rw [hl], .inr ⟨a, rfl, fun i hi => ?_⟩⟩
    rw [hl] at hi
    rw [hc i (by omega)]
    simp [nth, List.getD, hi]
set_option maxRecDepth 100000 in
theorem contract (H : Type) (enc : TypeId × Value → H) (W : World) (base : Nat) (args : Array Value) (ds gs : List (DataW H)) (before : List MemPlace)
    (hval : ∀ (j : Nat) t v, Tryd.f3.params[j]? = some t → args[j]? = some v → Value.okWide Tryd.prog W .any base t v)
    (hW : DataW.Whole enc Tryd.prog Tryd.f3.params.toList Rows.wrappedSpec.vars false W args.toList ds gs before) (hL : laidMetH Tryd.prog Rows.wrappedRow.laid W) :
    Calls Tryd.prog 3 args W fun e W' => ∃ v, e = .returned v ∧ Rows.wrappedSpec.post enc Tryd.prog Tryd.f3 false true false false W args v W' := by
  have hW' := hW
  obtain ⟨p, q, hA0, hV, rfl, hfz, hnd⟩ := hW
  have hA : DataW.TrodAll enc Tryd.prog W 0 (fun _ => true) true Tryd.f3.params.toList args.toList ds p := hA0
  rw [Tryd.params3] at hA hval
  obtain ⟨v0, vs0, d0, ds0, p0, q0, hargs, rfl, rfl, h0, r0⟩ := trodAll_cons hA
  obtain ⟨u1, vs1, d1, ds1, p1, q1, rfl, rfl, rfl, h1, r1⟩ := trodAll_cons r0
  obtain ⟨u2, vs2, d2, ds2, p2, q2, rfl, rfl, rfl, h2, r2⟩ := trodAll_cons r1
  obtain ⟨rfl, rfl, rfl⟩ := trodAll_nil r2
  obtain rfl : args = #[v0, u1, u2] := by cases args; simp_all
  obtain ⟨rfl, rfl⟩ := trodVars_none hV
  have h1k := h1
  obtain ⟨x, rfl, rfl, rfl, hx⟩ := open_string Tryd.underlying9 (hval 0 9 v0 rfl rfl) h0
  obtain ⟨z, rfl, rfl, rfl, wz⟩ := open_int Tryd.underlying3 (hval 2 3 u2 rfl rfl) h2
  obtain ⟨a1, len1, cap1, rfl⟩ := okWide_slice Tryd.underlying22 (hval 1 22 u1 rfl rfl)
  obtain ⟨f1, h1f⟩ := h1
  obtain ⟨Wd, hWd⟩ := ints_in (v := .slice a1 len1 cap1) h1f
  clear hA0
  simp only [List.append_nil] at hW'
  have hlt : ∀ y ∈ p1, y.block < W.heap.size := fun y hy => hW'.lt y (by simpa using hy)
  have hz : -9223372036854775808 ≤ z ∧ z ≤ 9223372036854775807 := by
    have h := wz
    rw [Lit.wf, Bool.and_eq_true, show IntKind.i64.min = -9223372036854775808 by decide, show IntKind.i64.max = 9223372036854775807 by decide] at h
    exact ⟨of_decide_eq_true h.1, of_decide_eq_true h.2⟩
  refine (wrapped_any x _ Wd z W hWd hz (tables hL).1 (tables hL).2.1 (tables hL).2.2.1 (tables hL).2.2.2).mono fun e W' ⟨he, hb⟩ => ?_
  subst he
  refine ⟨_, rfl, _, _, _, [], [] ++ (p1 ++ ([] ++ [])), [], hW', ?_, ?_, ?_, hb.frame _, fun h => by cases h⟩
  · exact trodAll_cons_mk (shut_bool Tryd.underlying4 _) trodAll_mk0
  · exact trodAll_cons_mk (shut_string Tryd.underlying9 hx) (trodAll_cons_mk (Below.trod laidOut (by kernel_rfl) (of_decide_eq_true (by kernel_rfl)) h1k hb hlt) (trodAll_cons_mk (shut_int Tryd.underlying3 wz) trodAll_mk0))
  · exact rfl

end Go.Proofs.YtnakejhohdbfdabDoor.wrapped
