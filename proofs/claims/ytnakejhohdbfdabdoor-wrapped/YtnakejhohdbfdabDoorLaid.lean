/- From the listed variables to the tables' cells. -/
import Derived.Test.YtnakejhohdbfdabDoorSearch
import Derived.Test.YtnakejhohdbfdabDoorRows
import Derived.ProofKit
import Derived.OpenShut
import Derived.Deep.Strs
import Derived.Lib.LaidTab
import Derived.Stop.LaidErr
namespace Go.Proofs.YtnakejhohdbfdabDoor
open Go.RowKit Tabs

def rowData {H : Type} (x : Int × Int × Int) : DataW H := .agg [.lit (.int .i32 x.1), .lit (.int .i32 x.2.1), .lit (.int .i64 x.2.2)]

theorem one_of {k : IntKind} {cs : List Value} {o : Nat} {z : Int} (h : (cs.drop o).take 1 = [Value.int k z]) : cs[o]? = some (.int k z) := by
  have := congrArg (·[0]?) h
  simpa [List.getElem?_take, List.getElem?_drop] using this

/-- An array of rows of three integers, read as data, holds them cell for cell. -/
theorem cells_of_rows {H : Type} {enc : TypeId × Value → H} {P : Program} {w : World} {base : Nat} {sp : Nat → Bool} {held : Bool} {fuel : Nat} {t e : TypeId} {n : Nat} {f0 f1 f2 : Field} {cs : List Value} {l : List (Int × Int × Int)} {p : List MemPlace}
    (ht : P.underlying t = some (.array n e)) (he : P.underlying e = some (.struct #[f0, f1, f2])) (hce : P.cellsOf e = 3)
    (o0 : f0.offset = 0) (o1 : f1.offset = 1) (o2 : f2.offset = 2) (u0 : P.underlying f0.type = some (.int .i32)) (u1 : P.underlying f1.type = some (.int .i32)) (u2 : P.underlying f2.type = some (.int .i64))
    (s0 : P.cellsOf f0.type = 1) (s1 : P.cellsOf f1.type = 1) (s2 : P.cellsOf f2.type = 1) (hn : n = l.length)
    (h : DataW.trod enc P w base sp held fuel t cs = some (.agg (l.map rowData), p)) (i : Nat) (hi : i < l.length) :
    cs[i * 3]? = some (.int .i32 (frm l i)) ∧ cs[i * 3 + 1]? = some (.int .i32 (til l i)) ∧ cs[i * 3 + 2]? = some (.int .i64 (wht l i)) := by
  cases fuel with
  | zero => simp [DataW.trod] at h
  | succ fuel =>
    simp only [DataW.trod, ht, hce] at h
    split at h
    · obtain ⟨xs, hm, hx⟩ := Option.map_eq_some_iff.1 h
      have hxs : xs.map (·.1) = l.map (rowData (H := H)) := by
        have := congrArg Prod.fst hx
        simpa using this
      obtain ⟨b, hb, hf⟩ := Lib.mapM_at hm i i (by simp [hn, hi])
      obtain ⟨y0, y1, y2, m, hy, _, t0, t1, t2⟩ := Deep.trod_struct3 he hf
      rw [o0, s0] at t0
      rw [o1, s1] at t1
      rw [o2, s2] at t2
      obtain ⟨z0, c0, e0, _⟩ := DataW.trod_int u0 t0
      obtain ⟨z1, c1, e1, _⟩ := DataW.trod_int u1 t1
      obtain ⟨z2, c2, e2, _⟩ := DataW.trod_int u2 t2
      subst e0 e1 e2 hy
      have hb1 : (xs.map (·.1))[i]? = some (DataW.agg [.lit (.int .i32 z0), .lit (.int .i32 z1), .lit (.int .i64 z2)]) := by simp [hb]
      rw [hxs] at hb1
      have hr : (l.map (rowData (H := H)))[i]? = some (rowData (l[i])) := by simp [hi]
      rw [hr] at hb1
      simp only [rowData, Option.some.injEq, DataW.agg.injEq, List.cons.injEq, DataW.lit.injEq, Lit.int.injEq, true_and, and_true] at hb1
      have hg : l.getD i (0, 0, 0) = l[i] := by simp [List.getD, hi]
      unfold frm til wht
      rw [hg, hb1.1, hb1.2.1, hb1.2.2]
      have k0 := one_of c0
      have k1 := one_of c1
      have k2 := one_of c2
      simp only [List.getElem?_take, List.getElem?_drop] at k0 k1 k2
      exact ⟨by simpa using k0, by simpa using k1, by simpa using k2⟩
    · cases h

/-- The head of a list of variables: a table of rows. -/
theorem tabAt_of_head {P : Program} {W : World} {name : String} {l : List (Int × Int × Int)} {rest : List (String × DataW Unit)} {g : Nat} {t e : TypeId} {n : Nat} {f0 f1 f2 : Field}
    (hg : P.globalNamed name = some g) (hty : (P.globals[g]?).map (·.type) = some t) (ht : P.underlying t = some (.array n e)) (he : P.underlying e = some (.struct #[f0, f1, f2])) (hce : P.cellsOf e = 3)
    (o0 : f0.offset = 0) (o1 : f1.offset = 1) (o2 : f2.offset = 2) (u0 : P.underlying f0.type = some (.int .i32)) (u1 : P.underlying f1.type = some (.int .i32)) (u2 : P.underlying f2.type = some (.int .i64))
    (s0 : P.cellsOf f0.type = 1) (s1 : P.cellsOf f1.type = 1) (s2 : P.cellsOf f2.type = 1) (hn : n = l.length)
    (h : laidMet P ((name, .agg (l.map rowData)) :: rest) W) : TabAt W g l := by
  obtain ⟨ps, ⟨g', t', cs, fuel, p, q, hg', ht', hvar, hd, _, _⟩, _⟩ := h
  obtain rfl := Option.some.inj (hg.symm.trans hg')
  obtain rfl := Option.some.inj (hty.symm.trans ht')
  intro i hi
  obtain ⟨c0, c1, c2⟩ := cells_of_rows ht he hce o0 o1 o2 u0 u1 u2 s0 s1 s2 hn hd i hi
  have v := World.var?_cell hg hvar
  simp only [Array.getElem?_toList] at c0 c1 c2
  exact ⟨(v _).trans c0, (v _).trans c1, (v _).trans c2⟩

theorem tKinds : (Tryd.prog.globals[2]?).map (·.type) = some 70 := by kernel_rfl
theorem tLow : (Tryd.prog.globals[3]?).map (·.type) = some 77 := by kernel_rfl
theorem tHigh : (Tryd.prog.globals[4]?).map (·.type) = some 78 := by kernel_rfl
theorem cells48 : Tryd.prog.cellsOf 69 = 3 := by kernel_rfl
theorem cells63 : Tryd.prog.cellsOf 76 = 3 := by kernel_rfl
theorem cells21 : Tryd.prog.cellsOf 21 = 1 := by kernel_rfl
theorem cells27 : Tryd.prog.cellsOf 47 = 1 := by kernel_rfl
theorem cells30 : Tryd.prog.cellsOf 61 = 1 := by kernel_rfl
theorem dataKinds : (Rows.laid_caret_runes_kinds : DataW Unit) = .agg (kindTab.map rowData) := by kernel_rfl
theorem dataLow : (Rows.laid_caret_runes_lowClasses : DataW Unit) = .agg (lowTab.map rowData) := by kernel_rfl
theorem dataHigh : (Rows.laid_caret_runes_highClasses : DataW Unit) = .agg (highTab.map rowData) := by kernel_rfl

theorem kinds_of_head {W : World} {n : String} {rest : List (String × DataW Unit)} (h : laidMet Tryd.prog ((n, Rows.laid_caret_runes_kinds) :: rest) W) (hn : Tryd.prog.globalNamed n = some 2) : TabAt W 2 kindTab := by
  rw [dataKinds] at h
  exact tabAt_of_head hn tKinds Tryd.underlying70 Tryd.underlying69 cells48 rfl rfl rfl Tryd.underlying21 Tryd.underlying21 Tryd.underlying61 cells21 cells21 cells30 len_kind.symm h
theorem low_of_head {W : World} {n : String} {rest : List (String × DataW Unit)} (h : laidMet Tryd.prog ((n, Rows.laid_caret_runes_lowClasses) :: rest) W) (hn : Tryd.prog.globalNamed n = some 3) : TabAt W 3 lowTab := by
  rw [dataLow] at h
  exact tabAt_of_head hn tLow Tryd.underlying77 Tryd.underlying76 cells63 rfl rfl rfl Tryd.underlying21 Tryd.underlying21 Tryd.underlying47 cells21 cells21 cells27 len_low.symm h
theorem high_of_head {W : World} {n : String} {rest : List (String × DataW Unit)} (h : laidMet Tryd.prog ((n, Rows.laid_caret_runes_highClasses) :: rest) W) (hn : Tryd.prog.globalNamed n = some 4) : TabAt W 4 highTab := by
  rw [dataHigh] at h
  exact tabAt_of_head hn tHigh Tryd.underlying78 Tryd.underlying76 cells63 rfl rfl rfl Tryd.underlying21 Tryd.underlying21 Tryd.underlying47 cells21 cells21 cells27 len_high.symm h
end Go.Proofs.YtnakejhohdbfdabDoor
