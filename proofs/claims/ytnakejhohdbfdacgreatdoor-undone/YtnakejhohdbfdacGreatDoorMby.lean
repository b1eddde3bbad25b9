import Derived.Test.YtnakejhohdbfdacGreatDoorMbx
set_option maxRecDepth 100000
namespace Go.Proofs.YtnakejhohdbfdacGreatDoor.undone
open Go.ChangeShapes Go.WideShapes Go.ChangeAt Go.RowKit Cls Go.Proofs.Tryz
open Go.ChangeMaps (open_string shut_string)
def yE:List (Int × Int × Int)->List Value
 | []=>[]
 | x :: l=>.int .i32 x.1 :: .int .i32 x.2.1 :: .int .i64 x.2.2 :: yE l
def wV (cs:Array Value):Obj->Obj
 | .cells _ t frozen=>.cells cs t frozen
 | o=>o
abbrev WZ:Array Obj:=#[.cells #[.string ⟨#[111,110,101,32,105,115,32,116,111,111,32,115,109,97,108,108,32,111,114,32,116,111,111,32,103,114,101,97,116]⟩] 374]
noncomputable abbrev low:Nat:=(World.holding prog default ⟨#[],#[],[]⟩).heap.size
noncomputable abbrev start (os:Os):World:={ World.holding prog os ⟨WZ,#[],[]⟩with heap:=(((((((World.holding prog os ⟨WZ,#[],[]⟩).heap.modify 8 (wV Oh)).modify 9 (wV Lu)).modify 1 (wV (yE jg.jv).toArray)).modify 2 (wV (yE jg.jh).toArray)).modify 0 (wV (yE jg.jr).toArray)).modify 4 (wV #[.iface 355 (.pointer (some ⟨low,0,none⟩))])).modify 3 (wV #[As.rty 71]) }
abbrev none0:Array Value:=#[.string ByteArray.empty,.int .i64 0,.slice none 0 0]
theorem Sr (os:Os):laidMetH prog Rows.undoneRow.laid ((start os).forCall (fun _ _=>0) ⟨#[],none0,[]⟩).memory :=
 laidMetH_of_parts (laidMet_of_run' 8 (by kernel_rfl) (by kernel_rfl)) (by kernel_rfl)
theorem reads (os:Os){H:Type}(enc:TypeId × Value->H):∃places,DataW.whole enc prog ((start os).forCall (fun _ _=>0) ⟨#[],none0,[]⟩).memory Tryz.f3.params.toList Rows.undoneSpec.vars false none0.toList 8=some ([.lit (.string []),.lit (.int .i64 0),.nil],[],places) :=
 ⟨[],by kernel_rfl⟩
theorem lifted (os:Os)(started:os.Started)(H:Type)(enc:TypeId × Value->H)(F:Stop.Interp) :
 ReturnsInHanded {} Tryz.checked os 3 .any ((OpenSpec.ofChange Rows.undoneSpec).preRow enc prog Tryz.f3 Rows.undoneRow.domain false Rows.undoneRow.laid) (((OpenSpec.ofChange Rows.undoneSpec).at F).post enc prog Tryz.f3 false true false false):=by
 obtain⟨places,hx⟩:=reads os enc;refine returnsInHanded_of_row (C:=Tryz.checked) (s:=OpenSpec.ofChange Rows.undoneSpec) own started (by kernel_rfl) func3
  (witness_row_at (enc:=enc) (C:=Tryz.checked) false (start os) none0 rfl (by kernel_rfl) (by kernel_rfl) (by kernel_rfl)
    (OpenSpec.preRow_of_cond 8 hx (by kernel_rfl) (fun k hk=>by cases hk) (by kernel_rfl) (Sr os))) ?_
 intro W base args ds gs before hval hW _ _ _ hL _ _;exact contract H enc W base args ds gs before hval hW hL
theorem j1:Tryz.prog.inPlace 3=Rows.undoneRow.inPlace:=by kernel_rfl
theorem j2:Tryz.prog.unfollowed 3=Rows.undoneRow.unfollowed:=by kernel_rfl
theorem j3:Tryz.prog.recurses 3=Rows.undoneRow.recurses:=by kernel_rfl
theorem j4:Tryz.prog.varsNamed 3=Rows.undoneRow.named:=by kernel_rfl
theorem closed:joinedFacts prog 3 Tryz.f3 (OpenSpec.ofChange Rows.undoneSpec).bare Rows.undoneRow=true:=by
 unfold joinedFacts;rw[j1,j2,j3,j4]
 kernel_rfl
theorem said:Rows.UndoneSaid :=
 OpenClaim.holds_of_cond 3 Tryz.f3 rfl rfl rfl rfl rfl rfl rfl ⟨rfl,rfl,rfl,rfl,rfl⟩ rfl rfl rfl rfl rfl (by kernel_rfl) func3 closed
  (dD (by kernel_rfl)) (by unfold Func.isWrapper;first | (rw[aE (by decide +kernel)];kernel_rfl) | (rw[ay (by decide +kernel)];exact⟨rfl,rfl⟩))
  (fun os started H enc _ F=>by rw[OpenClaim.pre_eq_preRow];exact lifted os started H enc F)
theorem plain (f:FuncId)(fn:Func)(hf:Tryz.pinned.checked.prog.funcNamed Rows.undoneRow.func=some f)(hfn:Tryz.pinned.checked.prog.funcs[f]?=some fn) :
 true=Tryz.pinned.checked.prog.looks []/\∀(j:Nat) t,fn.params[j]?=some t->Tryz.pinned.checked.prog.wantsStandIn t=false:=by
 obtain rfl:f=3:=aZ ((show Tryz.prog.funcNamed Rows.undoneRow.func=some 3 by kernel_rfl).symm.trans hf) |>.symm
 obtain rfl:fn=Tryz.f3:=(aZ (Tryz.func3.symm.trans hfn)).symm;refine⟨by kernel_rfl,fun j t ht=>?_⟩;rw[Tryz.params3]at ht;have hm:t=9\/t=3\/t=22:=by simpa using Array.mem_of_getElem? ht
 rcases hm with rfl | rfl | rfl
 ·exact(show Tryz.prog.wantsStandIn 9=false by kernel_rfl)
 ·exact(show Tryz.prog.wantsStandIn 3=false by kernel_rfl)
 ·exact(show Tryz.prog.wantsStandIn 22=false by kernel_rfl)
theorem card:Rows.UndoneCardSaid :=
 Claim7.holds_tied_plain_at .later [] _ _ _ _ said (fun _ h=>by cases h) (by kernel_rfl) (fun _ h=>by cases h) undone_row_tie rfl ⟨rfl,rfl⟩ (by kernel_rfl) rfl plain (by kernel_rfl)
end Go.Proofs.YtnakejhohdbfdacGreatDoor.undone
