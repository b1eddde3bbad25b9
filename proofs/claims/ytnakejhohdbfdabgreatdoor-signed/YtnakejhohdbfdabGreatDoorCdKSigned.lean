/- The card of the keep Signed. -/
import Derived.Test.YtnakejhohdbfdabGreatDoorCdKSigneda
namespace Go.Proofs.YtnakejhohdbfdabGreatDoor.signed
open Go.ChangeShapes Go.WideShapes Go.ChangeAt Go.RowKit Cls
open Go.ChangeMaps (open_string shut_string)

def layRow (cs : Array Value) : Obj → Obj
  | .cells _ t frozen => .cells cs t frozen
  | o => o
abbrev sents : Array Obj := #[.cells #[.string ⟨#[110, 111, 116, 32, 111, 110, 101, 32, 102, 111, 114, 32, 101, 97, 99, 104, 32, 114, 117, 110, 101]⟩] 460, .cells #[.string ⟨#[111, 110, 101, 32, 105, 115, 32, 116, 111, 111, 32, 115, 109, 97, 108, 108, 32, 111, 114, 32, 116, 111, 111, 32, 103, 114, 101, 97, 116]⟩] 460, .cells #[.string ⟨#[111, 110, 101, 32, 105, 115, 32, 110, 111, 116, 32, 98, 101, 116, 119, 101, 101, 110, 32, 116, 119, 111, 32, 99, 108, 117, 115, 116, 101, 114, 115]⟩] 460, .cells #[.string ⟨#[111, 110, 101, 32, 105, 115, 32, 110, 111, 116, 32, 97, 98, 111, 118, 101, 32, 116, 104, 101, 32, 111, 110, 101, 32, 97, 104, 101, 97, 100, 32, 111, 102, 32, 105, 116]⟩] 460]
noncomputable abbrev low : Nat := (World.holding Tryz.prog default ⟨#[], #[], []⟩).heap.size
noncomputable abbrev start (os : Os) : World := { World.holding Tryz.prog os ⟨sents, #[], []⟩ with heap := ((((((((World.holding Tryz.prog os ⟨sents, #[], []⟩).heap.modify 5 (layRow (rowCells Tabs.lowTab).toArray)).modify 6 (layRow (rowCells Tabs.highTab).toArray)).modify 1 (layRow (rowCells Tabs.kindTab).toArray)).modify 7 (layRow #[.iface 442 (.pointer (some ⟨low, 0, none⟩))])).modify 2 (layRow #[.iface 442 (.pointer (some ⟨low + 1, 0, none⟩))])).modify 8 (layRow #[.iface 442 (.pointer (some ⟨low + 2, 0, none⟩))])).modify 9 (layRow #[.iface 442 (.pointer (some ⟨low + 3, 0, none⟩))])).modify 0 (layRow #[As.rty 103]) }
abbrev none0 : Array Value := #[.int .i64 0, .bool false, .int .i64 0]
theorem laid_met (os : Os) : laidMetH Tryz.prog Rows.signedRow.laid ((start os).forCall (fun _ _ => 0) ⟨#[], none0, []⟩).memory :=
  laidMetH_of_parts (laidMet_of_run' 8 (by kernel_rfl) (by kernel_rfl)) (by kernel_rfl)
theorem reads (os : Os) {H : Type} (enc : TypeId × Value → H) : ∃ places, DataW.whole enc Tryz.prog ((start os).forCall (fun _ _ => 0) ⟨#[], none0, []⟩).memory Tryz.f12.params.toList Rows.signedSpec.vars false none0.toList 8 = some ([.lit (.int .i64 0), .lit (.bool false), .lit (.int .i64 0)], [], places) :=
  ⟨[], by kernel_rfl⟩

set_option maxRecDepth 100000 in
theorem lifted (os : Os) (started : os.Started) (H : Type) (enc : TypeId × Value → H) (F : Stop.Interp) :
    ReturnsInHanded {} Tryz.checked os 12 .any ((OpenSpec.ofChange Rows.signedSpec).preRow enc Tryz.prog Tryz.f12 Rows.signedRow.domain false Rows.signedRow.laid) (((OpenSpec.ofChange Rows.signedSpec).at F).post enc Tryz.prog Tryz.f12 false true false false) := by
  obtain ⟨places, hx⟩ := reads os enc
  refine returnsInHanded_of_row (C := Tryz.checked) (s := OpenSpec.ofChange Rows.signedSpec) own started (by kernel_rfl) Tryz.func12
    (witness_row_at (enc := enc) (C := Tryz.checked) false (start os) none0 rfl (by kernel_rfl) (by kernel_rfl) (by kernel_rfl)
      (OpenSpec.preRow_of_cond 8 hx (by kernel_rfl) (fun k hk => by cases hk) (by kernel_rfl) (laid_met os))) ?_
  intro W base args ds gs before hval hW _ _ _ hL _ _
  exact contract H enc W base args ds gs before hval hW hL


theorem j1 : Tryz.prog.inPlace 12 = Rows.signedRow.inPlace := by kernel_rfl
theorem j2 : Tryz.prog.unfollowed 12 = Rows.signedRow.unfollowed := by kernel_rfl
theorem j3 : Tryz.prog.recurses 12 = Rows.signedRow.recurses := by kernel_rfl
theorem j4 : Tryz.prog.varsNamed 12 = Rows.signedRow.named := by kernel_rfl
theorem closed : joinedFacts Tryz.prog 12 Tryz.f12 (OpenSpec.ofChange Rows.signedSpec).bare Rows.signedRow = true := by
  unfold joinedFacts
  rw [j1, j2, j3, j4]
  kernel_rfl
theorem said : Rows.SignedSaid :=
  OpenClaim.holds_of_cond 12 Tryz.f12 rfl rfl rfl rfl rfl rfl rfl ⟨rfl, rfl, rfl, rfl, rfl⟩ rfl rfl rfl rfl rfl (by kernel_rfl) Tryz.func12 closed
    (of_decide_eq_true (by kernel_rfl)) (by unfold Func.isWrapper; first | (rw [if_pos (by decide +kernel)]; kernel_rfl) | (rw [if_neg (by decide +kernel)]; exact ⟨rfl, rfl⟩))
    (fun os started H enc _ F => by rw [OpenClaim.pre_eq_preRow]; exact lifted os started H enc F)
theorem plain (f : FuncId) (fn : Func) (hf : Tryz.pinned.checked.prog.funcNamed Rows.signedRow.func = some f) (hfn : Tryz.pinned.checked.prog.funcs[f]? = some fn) :
    true = Tryz.pinned.checked.prog.looks [] ∧ ∀ (j : Nat) t, fn.params[j]? = some t → Tryz.pinned.checked.prog.wantsStandIn t = false := by
  obtain rfl : f = 12 := Option.some.inj ((show Tryz.prog.funcNamed Rows.signedRow.func = some 12 by kernel_rfl).symm.trans hf) |>.symm
  obtain rfl : fn = Tryz.f12 := (Option.some.inj (Tryz.func12.symm.trans hfn)).symm
  refine ⟨by kernel_rfl, fun j t ht => ?_⟩
  rw [Tryz.params12] at ht
  have hm : t = 3 ∨ t = 4 := by
    have h := Array.mem_of_getElem? ht
    simp only [List.mem_toArray, List.mem_cons, List.not_mem_nil, or_false] at h
    rcases h with h | h | h
    · exact .inl h
    · exact .inr h
    · exact .inl h
  rcases hm with rfl | rfl
  · exact (show Tryz.prog.wantsStandIn 3 = false by kernel_rfl)
  · exact (show Tryz.prog.wantsStandIn 4 = false by kernel_rfl)
/-- THE CARD. -/
theorem card : Rows.SignedCardSaid :=
  Claim7.holds_tied_plain_at .later [] _ _ _ _ said (fun _ h => by cases h) (by kernel_rfl) (fun _ h => by cases h) signed_row_tie rfl ⟨rfl, rfl⟩ (by kernel_rfl) rfl plain (by kernel_rfl)
end Go.Proofs.YtnakejhohdbfdabGreatDoor.signed
