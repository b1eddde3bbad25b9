import Derived.Test.YtnakejhohdbfdacGreatDoorKCdTypeda
namespace Go.Proofs.YtnakejhohdbfdacGreatDoor.typed
open Go.ChangeShapes Go.WideShapes Go.ChangeAt Go.RowKit Cls
open Go.ChangeMaps (open_string shut_string)
def rowCells:List (Int × Int × Int)→List Value
 | []=>[]
 | x :: l=>.int .i32 x.1 :: .int .i32 x.2.1 :: .int .i64 x.2.2 :: rowCells l
def layRow (cs:Array Value):Obj→Obj
 | .cells _ t frozen=>.cells cs t frozen
 | o=>o
abbrev sents:Array Obj:=#[.cells #[.string ⟨#[111,110,101,32,105,115,32,116,111,111,32,115,109,97,108,108,32,111,114,32,116,111,111,32,103,114,101,97,116]⟩] 374]
noncomputable abbrev low:Nat:=(World.holding Tryz.prog default ⟨#[],#[],[]⟩).heap.size
noncomputable abbrev start (os:Os):World:={ World.holding Tryz.prog os ⟨sents,#[],[]⟩with heap:=(((((((World.holding Tryz.prog os ⟨sents,#[],[]⟩).heap.modify 8 (layRow utfFirst)).modify 9 (layRow utfAccept)).modify 1 (layRow (rowCells Tabs.lowTab).toArray)).modify 2 (layRow (rowCells Tabs.highTab).toArray)).modify 0 (layRow (rowCells Tabs.kindTab).toArray)).modify 4 (layRow #[.iface 355 (.pointer (some ⟨low,0,none⟩))])).modify 3 (layRow #[As.rty 71]) }
abbrev none0:Array Value:=#[.string ByteArray.empty]
theorem laid_met (os:Os):laidMetH Tryz.prog Rows.typedRow.laid ((start os).forCall (fun _ _=>0) ⟨#[],none0,[]⟩).memory :=
 laidMetH_of_parts (laidMet_of_run' 8 (by kernel_rfl) (by kernel_rfl)) (by kernel_rfl)
theorem reads (os:Os){H:Type}(enc:TypeId × Value→H):∃places,DataW.whole enc Tryz.prog ((start os).forCall (fun _ _=>0) ⟨#[],none0,[]⟩).memory Tryz.f4.params.toList Rows.typedSpec.vars false none0.toList 8=some ([.lit (.string [])],[],places) :=
 ⟨[],by kernel_rfl⟩
set_option maxRecDepth 100000 in
theorem lifted (os:Os)(started:os.Started)(H:Type)(enc:TypeId × Value→H)(F:Stop.Interp) :
 ReturnsInHanded {} Tryz.checked os 4 .any ((OpenSpec.ofChange Rows.typedSpec).preRow enc Tryz.prog Tryz.f4 Rows.typedRow.domain false Rows.typedRow.laid) (((OpenSpec.ofChange Rows.typedSpec).at F).post enc Tryz.prog Tryz.f4 false true false false):=by
 obtain⟨places,hx⟩:=reads os enc;refine returnsInHanded_of_row (C:=Tryz.checked) (s:=OpenSpec.ofChange Rows.typedSpec) own started (by kernel_rfl) Tryz.func4
  (witness_row_at (enc:=enc) (C:=Tryz.checked) false (start os) none0 rfl (by kernel_rfl) (by kernel_rfl) (by kernel_rfl)
    (OpenSpec.preRow_of_cond 8 hx (by kernel_rfl) (fun k hk=>by cases hk) (by kernel_rfl) (laid_met os))) ?_
 intro W base args ds gs before hval hW _ _ _ hL _ _;exact contract H enc W base args ds gs before hval hW hL
theorem j1:Tryz.prog.inPlace 4=Rows.typedRow.inPlace:=by kernel_rfl
theorem j2:Tryz.prog.unfollowed 4=Rows.typedRow.unfollowed:=by kernel_rfl
theorem j3:Tryz.prog.recurses 4=Rows.typedRow.recurses:=by kernel_rfl
theorem j4:Tryz.prog.varsNamed 4=Rows.typedRow.named:=by kernel_rfl
theorem closed:joinedFacts Tryz.prog 4 Tryz.f4 (OpenSpec.ofChange Rows.typedSpec).bare Rows.typedRow=true:=by
 unfold joinedFacts;rw[j1,j2,j3,j4]
 kernel_rfl
theorem said:Rows.TypedSaid :=
 OpenClaim.holds_of_cond 4 Tryz.f4 rfl rfl rfl rfl rfl rfl rfl ⟨rfl,rfl,rfl,rfl,rfl⟩ rfl rfl rfl rfl rfl (by kernel_rfl) Tryz.func4 closed
  (of_decide_eq_true (by kernel_rfl)) (by unfold Func.isWrapper;first | (rw[if_pos (by decide +kernel)];kernel_rfl) | (rw[if_neg (by decide +kernel)];exact⟨rfl,rfl⟩))
  (fun os started H enc _ F=>by rw[OpenClaim.pre_eq_preRow];exact lifted os started H enc F)
theorem plain (f:FuncId)(fn:Func)(hf:Tryz.pinned.checked.prog.funcNamed Rows.typedRow.func=some f)(hfn:Tryz.pinned.checked.prog.funcs[f]?=some fn) :
 true=Tryz.pinned.checked.prog.looks []∧∀(j:Nat) t,fn.params[j]?=some t→Tryz.pinned.checked.prog.wantsStandIn t=false:=by
 obtain rfl:f=4:=Option.some.inj ((show Tryz.prog.funcNamed Rows.typedRow.func=some 4 by kernel_rfl).symm.trans hf) |>.symm
 obtain rfl:fn=Tryz.f4:=(Option.some.inj (Tryz.func4.symm.trans hfn)).symm;refine⟨by kernel_rfl,fun j t ht=>?_⟩;rw[Tryz.params4]at ht;obtain rfl:t=9:=by simpa using Array.mem_of_getElem? ht
 exact(show Tryz.prog.wantsStandIn 9=false by kernel_rfl)
theorem card:Rows.TypedCardSaid :=
 Claim7.holds_tied_plain_at .later [] _ _ _ _ said (fun _ h=>by cases h) (by kernel_rfl) (fun _ h=>by cases h) typed_row_tie rfl ⟨rfl,rfl⟩ (by kernel_rfl) rfl plain (by kernel_rfl)
end Go.Proofs.YtnakejhohdbfdacGreatDoor.typed
