/- The card of the law Selects. -/
import Derived.Test.YtnakejhohdbfdaaGreatDoorCards
import Derived.Test.YtnakejhohdbfdaaGreatDoorTie
import Derived.Test.YtnakejhohdbfdaaGreatDoorSlB
import Derived.Test.YtnakejhohdbfdaaGreatDoorXLaidK
import Derived.ProofKit
import Derived.OpenShut
import Derived.Deep.DeepHandedRow
import Derived.LaidHandle
import Derived.Carry
import Derived.Lib.SmallJoins
import Derived.ChangeSlices
import Derived.Stop.LaidErr
namespace Go.Proofs.YtnakejhohdbfdaaGreatDoor.selects
open Go.ChangeShapes Go.WideShapes Go.ChangeAt Go.RowKit Cls
open Go.ChangeMaps (open_string shut_string)

theorem own : ownKnob Tryz.prog.godebug = none := by kernel_rfl
theorem et : Tryz.prog.globalNamed "errors.errorType" = some 0 := by kernel_rfl
theorem rt : (Tryz.prog.cutTypes.find? (·.1 == "internal/reflectlite.rtype")).map (·.2) = some 257 := by kernel_rfl
theorem oneRow : ((List.range 376).filter fun t => Tryz.prog.rowNamed t [101, 114, 114, 111, 114]) = [86] := by kernel_rfl
theorem size : Tryz.prog.types.size = 376 := by kernel_rfl
theorem laidOut : laidOutB Tryz.prog = true := by kernel_rfl
theorem one35 : Go.Deep.oneCellFields Tryz.prog (Tryz.prog.fieldsOf 35) = true := by kernel_rfl
theorem cells35 : Tryz.prog.cellsOf 35 = 4 := by kernel_rfl
theorem cells3 : Tryz.prog.cellsOf 3 = 1 := by kernel_rfl
theorem cells9 : Tryz.prog.cellsOf 9 = 1 := by kernel_rfl
theorem cells363 : Tryz.prog.cellsOf 364 = 1 := by kernel_rfl
theorem star : "*" ++ "errors.errorString" = "*errors.errorString" := by decide
theorem row343 (u : TypeId) (h : Tryz.prog.typeName? 3 u = some "*errors.errorString") : u = 344 :=
  typeName_ptr_named (nm := "errors.errorString") (by rw [star]; kernel_rfl) (by kernel_rfl) (by decide) u (by rw [star]; exact h)
theorem sent {W : World} {n : String} {text : List UInt8} {r : List (String × DataW Unit)} {g : Nat} (h : laidMet Tryz.prog ((n, .iface "*errors.errorString" (.ptr (.agg [.lit (.string text)]))) :: r) W) (hg : Tryz.prog.globalNamed n = some g) (ht : (Tryz.prog.globals[g]?).map (·.type) = some 86) : errAt W g := by
  obtain ⟨a, s, hv, _⟩ := laid_sentinel h hg ht Tryz.underlying86 row343 Tryz.underlying344 Tryz.underlying364 rfl rfl Tryz.underlying9 cells363 cells9
  exact ⟨_, _, by simpa using World.var?_cell hg hv 0⟩

theorem parts {W : World} (h : laidMetH Tryz.prog Rows.selectsRow.laid W) : laidMet Tryz.prog [("unicode/utf8.acceptRanges", Rows.laid_unicode_utf8_acceptRanges), ("caret/runes.lowClasses", Rows.laid_caret_runes_lowClasses), ("caret/runes.highClasses", Rows.laid_caret_runes_highClasses), ("caret/runes.kinds", Rows.laid_caret_runes_kinds), ("caret/setups.errCount", Rows.laid_caret_setups_errCount), ("caret/setups.errRange", Rows.laid_caret_setups_errRange), ("caret/setups.errPlace", Rows.laid_caret_setups_errPlace), ("caret/setups.errRising", Rows.laid_caret_setups_errRising), ("unicode/utf8.first", Rows.laid_unicode_utf8_first)] W ∧ handlesMet Tryz.prog [("errors.errorType", Rows.laid_errors_errorType)] W := h
theorem handle {W : World} (h : handlesMet Tryz.prog [("errors.errorType", Rows.laid_errors_errorType)] W) : W.cell? ⟨0, 0, none⟩ = some (As.rty 86) := by
  obtain ⟨name, u, ty, e1, e2, e3, e4, e5⟩ := h _ (List.mem_singleton.2 rfl)
  have en : name = [101, 114, 114, 111, 114] := (Option.some.inj e1).symm
  subst en
  obtain rfl := Option.some.inj (rt.symm.trans e2)
  have hm : ty ∈ (List.range 376).filter fun t => Tryz.prog.rowNamed t [101, 114, 114, 111, 114] := List.mem_filter.2 ⟨List.mem_range.2 (by rw [← size]; exact e3), e4⟩
  rw [oneRow] at hm
  obtain rfl := List.mem_singleton.1 hm
  have hh : typeHandle Tryz.prog 86 = .pointer (some ⟨10, 86, none⟩) := by kernel_rfl
  rw [hh] at e5
  simpa using World.var?_cell et e5 0
theorem ground {W : World} (h : laidMetH Tryz.prog Rows.selectsRow.laid W) : Floor W := by
  obtain ⟨h1, h2⟩ := parts h
  exact ⟨utf8Tabs_of_reads Tryz.lays260 extra (Lib.laidMet.reads h1 (by rw [← dataFirst]; exact .tail _ (.tail _ (.tail _ (.tail _ (.tail _ (.tail _ (.tail _ (.tail _ (.head _)))))))))) (Lib.laidMet.reads h1 (by rw [← dataAccept]; exact .head _)), low_of_head h1.tail (by kernel_rfl), high_of_head h1.tail.tail (by kernel_rfl), kinds_of_head h1.tail.tail.tail (by kernel_rfl), handle h2,
    sent h1.tail.tail.tail.tail (by kernel_rfl) (by kernel_rfl), sent h1.tail.tail.tail.tail.tail (by kernel_rfl) (by kernel_rfl), sent h1.tail.tail.tail.tail.tail.tail (by kernel_rfl) (by kernel_rfl), sent h1.tail.tail.tail.tail.tail.tail.tail (by kernel_rfl) (by kernel_rfl)⟩

/-- A list of numbers that comes in. -/
theorem ints_in {H : Type} {enc : TypeId × Value → H} {W : World} {sp : Nat → Bool} {held : Bool} {n : Nat} {v : Value} {y : DataW H × List MemPlace} (h : DataW.trod enc Tryz.prog W 0 sp held n 22 [v] = some y) : ∃ l, slAd W v l := by
  rcases open_ints Tryz.underlying22 Tryz.underlying3 cells3 h with ⟨e, _⟩ | ⟨a, len, cap, zs, e, _, hlc, _, hz, _, hc, _⟩
  · cases e
    exact ⟨[], none, 0, rfl, .inl ⟨rfl, rfl, rfl⟩⟩
  · cases e
    have hlz : len ≤ zs.length := by rw [hz]; split <;> omega
    have hl : (zs.take len).length = len := by simp; omega
    refine ⟨zs.take len, some a, cap, by rw [hl], .inr ⟨a, rfl, fun i hi => ?_⟩⟩
    rw [hl] at hi
    rw [hc i (by omega)]
    simp [Lev.nth, List.getD, hi]

set_option maxRecDepth 100000 in
theorem contract (H : Type) (enc : TypeId × Value → H) (W : World) (base : Nat) (args : Array Value) (ds gs : List (DataW H)) (before : List MemPlace)
    (hval : ∀ (j : Nat) t v, Tryz.f8.params[j]? = some t → args[j]? = some v → Value.okWide Tryz.prog W .any base t v)
    (hW : DataW.Whole enc Tryz.prog Tryz.f8.params.toList Rows.selectsSpec.vars false W args.toList ds gs before) (hL : laidMetH Tryz.prog Rows.selectsRow.laid W) :
    Calls Tryz.prog 8 args W fun e W' => ∃ v, e = .returned v ∧ Rows.selectsSpec.post enc Tryz.prog Tryz.f8 false true false false W args v W' := by
  have hW' := hW
  obtain ⟨p, q, hA0, hV, rfl, hfz, hnd⟩ := hW
  have hA : DataW.TrodAll enc Tryz.prog W 0 (fun _ => true) true Tryz.f8.params.toList args.toList ds p := hA0
  rw [Tryz.params8] at hA hval
  obtain ⟨v0, vs0, d0, ds0, p0, q0, hargs, rfl, rfl, h0, r0⟩ := trodAll_cons hA
  obtain ⟨u1, vs1, d1, ds1, p1, q1, rfl, rfl, rfl, h1, r1⟩ := trodAll_cons r0
  obtain ⟨u2, vs2, d2, ds2, p2, q2, rfl, rfl, rfl, h2, r2⟩ := trodAll_cons r1
  obtain ⟨rfl, rfl, rfl⟩ := trodAll_nil r2
  obtain rfl : args = #[v0, u1, u2] := by cases args; simp_all
  obtain ⟨rfl, rfl⟩ := trodVars_none hV
  have h0k := h0
  obtain ⟨x0, x1, x2, x3, y0, y1, y2, y3, n, rfl, rfl, rfl, t0, t1, t2, t3⟩ := Go.Joins.open_agg4 Tryz.underlying35 one35 cells35 (hval 0 35 v0 rfl rfl) h0
  obtain ⟨line, rfl, rfl, rfl, wl1⟩ := open_int Tryz.underlying3 (hval 1 3 u1 rfl rfl) h1
  obtain ⟨x, rfl, rfl, rfl, wx1⟩ := open_int Tryz.underlying3 (hval 2 3 u2 rfl rfl) h2
  obtain ⟨s, e0, _⟩ := DataW.trod_string Tryz.underlying9 t0
  obtain ⟨b, e1, _⟩ := DataW.trod_int Tryz.underlying3 t1
  cases e0
  cases e1
  obtain ⟨Wd, hWd⟩ := ints_in t2
  obtain ⟨Br, hBr⟩ := ints_in t3
  clear hA0
  simp only [List.append_nil] at hW'
  have hlt : ∀ x ∈ y0.2 ++ (y1.2 ++ (y2.2 ++ y3.2)), x.block < W.heap.size := fun x hx => by simpa using hW'.lt x hx
  refine (selects_any s b x2 x3 Wd Br line x W (ground hL) hWd hBr).mono fun e W' ⟨he, hf⟩ => ?_
  have hb : Below W.heap.size W W' := hf.below (Nat.le_refl _) (fun _ hk => absurd hk List.not_mem_nil)
  subst he
  refine ⟨_, rfl, _, _, _, [], y0.2 ++ (y1.2 ++ (y2.2 ++ y3.2)) ++ [], [], hW', ?_, ?_, ?_, hb.frame _, fun h => by cases h⟩
  · exact trodAll_cons_mk (shut_bool Tryz.underlying4 _) trodAll_mk0
  · exact trodAll_cons_mk (Below.trod laidOut (by kernel_rfl) (of_decide_eq_true (by kernel_rfl)) h0k hb hlt) (trodAll_cons_mk (shut_int Tryz.underlying3 wl1) (trodAll_cons_mk (shut_int Tryz.underlying3 wx1) trodAll_mk0))
  · exact rfl

end Go.Proofs.YtnakejhohdbfdaaGreatDoor.selects
