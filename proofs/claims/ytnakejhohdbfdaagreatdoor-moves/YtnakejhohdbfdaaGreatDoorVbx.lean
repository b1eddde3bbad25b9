import Derived.Test.YtnakejhohdbfdaaGreatDoorVbw
set_option maxRecDepth 100000
namespace Go.Proofs.YtnakejhohdbfdaaGreatDoor.moves
open Go.ChangeShapes Go.WideShapes Go.ChangeAt Go.RowKit mE Go.Proofs.Tryz
open Go.ChangeMaps (open_string shut_string)
def qY (cs:Array Value):Obj->Obj
 | .cells _ t frozen=>.cells cs t frozen
 | o=>o
abbrev Xh:Array Obj:=#[.cells #[.string ⟨#[110,111,116,32,111,110,101,32,102,111,114,32,101,97,99,104,32,114,117,110,101]⟩] 364,.cells #[.string ⟨#[111,110,101,32,105,115,32,116,111,111,32,115,109,97,108,108,32,111,114,32,116,111,111,32,103,114,101,97,116]⟩] 364,.cells #[.string ⟨#[111,110,101,32,105,115,32,110,111,116,32,98,101,116,119,101,101,110,32,116,119,111,32,99,108,117,115,116,101,114,115]⟩] 364,.cells #[.string ⟨#[111,110,101,32,105,115,32,110,111,116,32,97,98,111,118,101,32,116,104,101,32,111,110,101,32,97,104,101,97,100,32,111,102,32,105,116]⟩] 364]
noncomputable abbrev low:Nat:=(World.holding prog default ⟨#[],#[],[]⟩).heap.size
noncomputable abbrev start (os:Os):World:={ World.holding prog os ⟨Xh,#[],[]⟩with heap:=((((((((((World.holding prog os ⟨Xh,#[],[]⟩).heap.modify 1 (qY Pk)).modify 2 (qY LZ)).modify 3 (qY (nO iK.iN).toArray)).modify 4 (qY (nO iK.g_).toArray)).modify 9 (qY (nO iK.gD).toArray)).modify 5 (qY #[.iface 344 (.pointer (some ⟨low,0,none⟩))])).modify 6 (qY #[.iface 344 (.pointer (some ⟨low+1,0,none⟩))])).modify 7 (qY #[.iface 344 (.pointer (some ⟨low+2,0,none⟩))])).modify 8 (qY #[.iface 344 (.pointer (some ⟨low+3,0,none⟩))])).modify 0 (qY #[As.KU 86]) }
abbrev none0:Array Value:=#[.agg #[.string ByteArray.empty,.int .i64 0,.slice none 0 0,.slice none 0 0],.agg #[.int .i64 0,.bool false],.int .i64 0,.int .i64 0]
theorem Tc (os:Os):laidMetH prog Rows.movesRow.laid ((start os).forCall (fun _ _=>0) ⟨#[],none0,[]⟩).memory :=
 laidMetH_of_parts (laidMet_of_run' 8 (by kernel_rfl) (by kernel_rfl)) (by kernel_rfl)
theorem reads (os:Os){H:Type}(enc:TypeId × Value->H):∃places,DataW.whole enc prog ((start os).forCall (fun _ _=>0) ⟨#[],none0,[]⟩).memory Tryz.f7.params.toList Rows.movesSpec.vars false none0.toList 8=some ([.agg [.lit (.string []),.lit (.int .i64 0),.nil,.nil],.agg [.lit (.int .i64 0),.lit (.bool false)],.lit (.int .i64 0),.lit (.int .i64 0)],[],places) :=
 ⟨[],by kernel_rfl⟩
theorem lifted (os:Os)(started:os.Started)(H:Type)(enc:TypeId × Value->H)(F:Stop.Interp) :
 ReturnsInHanded {} Tryz.checked os 7 .any ((OpenSpec.ofChange Rows.movesSpec).preRow enc prog Tryz.f7 Rows.movesRow.domain false Rows.movesRow.laid) (((OpenSpec.ofChange Rows.movesSpec).at F).post enc prog Tryz.f7 false true false false):=by
 obtain⟨places,hx⟩:=reads os enc;refine returnsInHanded_of_row (C:=Tryz.checked) (s:=OpenSpec.ofChange Rows.movesSpec) own started (by kernel_rfl) func7
  (witness_row_at (enc:=enc) (C:=Tryz.checked) false (start os) none0 rfl (by kernel_rfl) (by kernel_rfl) (by kernel_rfl)
    (OpenSpec.preRow_of_cond 8 hx (by kernel_rfl) (fun k hk=>by cases hk) (by kernel_rfl) (Tc os))) ?_
 intro W base args ds gs before hval hW _ _ _ hL _ _;exact contract H enc W base args ds gs before hval hW hL
theorem j1:Tryz.prog.inPlace 7=Rows.movesRow.inPlace:=by kernel_rfl
theorem j2:Tryz.prog.unfollowed 7=Rows.movesRow.unfollowed:=by kernel_rfl
theorem j3:Tryz.prog.recurses 7=Rows.movesRow.recurses:=by kernel_rfl
theorem j4:Tryz.prog.varsNamed 7=Rows.movesRow.named:=by kernel_rfl
theorem closed:joinedFacts prog 7 Tryz.f7 (OpenSpec.ofChange Rows.movesSpec).bare Rows.movesRow=true:=by
 unfold joinedFacts;rw[j1,j2,j3,j4]
 kernel_rfl
theorem said:Rows.MovesSaid :=
 OpenClaim.holds_of_cond 7 Tryz.f7 rfl rfl rfl rfl rfl rfl rfl ⟨rfl,rfl,rfl,rfl,rfl⟩ rfl rfl rfl rfl rfl (by kernel_rfl) func7 closed
  (dz (by kernel_rfl)) (by unfold Func.isWrapper;first | (rw[ay (by decide +kernel)];kernel_rfl) | (rw[au (by decide +kernel)];exact⟨rfl,rfl⟩))
  (fun os started H enc _ F=>by rw[OpenClaim.pre_eq_preRow];exact lifted os started H enc F)
theorem plain (f:FuncId)(fn:Func)(hf:Tryz.pinned.checked.prog.funcNamed Rows.movesRow.func=some f)(hfn:Tryz.pinned.checked.prog.funcs[f]?=some fn) :
 true=Tryz.pinned.checked.prog.looks []/\∀(j:Nat) t,fn.params[j]?=some t->Tryz.pinned.checked.prog.wantsStandIn t=false:=by
 obtain rfl:f=7:=bW ((show Tryz.prog.funcNamed Rows.movesRow.func=some 7 by kernel_rfl).symm.trans hf) |>.symm
 obtain rfl:fn=Tryz.f7:=(bW (Tryz.func7.symm.trans hfn)).symm;refine⟨by kernel_rfl,fun j t ht=>?_⟩;rw[Tryz.params7]at ht;have hm:t=35\/t=55\/t=3\/t=2:=by simpa using Array.mem_of_getElem? ht
 rcases hm with rfl | rfl | rfl | rfl
 ·exact(show Tryz.prog.wantsStandIn 35=false by kernel_rfl)
 ·exact(show Tryz.prog.wantsStandIn 55=false by kernel_rfl)
 ·exact(show Tryz.prog.wantsStandIn 3=false by kernel_rfl)
 ·exact(show Tryz.prog.wantsStandIn 2=false by kernel_rfl)
theorem card:Rows.MovesCardSaid :=
 Claim7.holds_tied_plain_at .later [] _ _ _ _ said (fun _ h=>by cases h) (by kernel_rfl) (fun _ h=>by cases h) moves_row_tie rfl ⟨rfl,rfl⟩ (by kernel_rfl) rfl plain (by kernel_rfl)
end Go.Proofs.YtnakejhohdbfdaaGreatDoor.moves
