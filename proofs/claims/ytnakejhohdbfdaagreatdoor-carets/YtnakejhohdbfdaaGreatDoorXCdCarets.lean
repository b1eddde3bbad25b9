import Derived.Test.YtnakejhohdbfdaaGreatDoorCards
import Derived.Test.YtnakejhohdbfdaaGreatDoorTie
import Derived.Test.YtnakejhohdbfdaaGreatDoorXQcK
import Derived.Test.YtnakejhohdbfdaaGreatDoorXLaidK
import Derived.ProofKit
import Derived.OpenShut
import Derived.Deep.DeepHandedRow
import Derived.LaidHandle
import Derived.Carry
import Derived.Deep.SlicePairs
import Derived.Lib.SmallJoins
import Derived.ChangeSlices
import Derived.Stop.LaidErr
namespace Go.Proofs.YtnakejhohdbfdaaGreatDoor.carets
open Go.ChangeShapes Go.WideShapes Go.ChangeAt Go.RowKit Cls
open Go.ChangeMaps (open_string shut_string)
theorem own:ownKnob Tryz.prog.godebug=none:=by kernel_rfl
theorem et : Tryz.prog.globalNamed "errors.errorType" = some 0 := by kernel_rfl
theorem rt : (Tryz.prog.cutTypes.find? (·.1 == "internal/reflectlite.rtype")).map (·.2) = some 257 := by kernel_rfl
theorem oneRow:((List.range 376).filter fun t=>Tryz.prog.rowNamed t [101,114,114,111,114])=[86]:=by kernel_rfl
theorem size:Tryz.prog.types.size=376:=by kernel_rfl
theorem laidOut:laidOutB Tryz.prog=true:=by kernel_rfl
theorem one35:Go.Deep.oneCellFields Tryz.prog (Tryz.prog.fieldsOf 35)=true:=by kernel_rfl
theorem cells35:Tryz.prog.cellsOf 35=4:=by kernel_rfl
theorem cells3:Tryz.prog.cellsOf 3=1:=by kernel_rfl
theorem cells9:Tryz.prog.cellsOf 9=1:=by kernel_rfl
theorem cells363:Tryz.prog.cellsOf 364=1:=by kernel_rfl
theorem star : "*" ++ "errors.errorString" = "*errors.errorString" := by decide
theorem row343 (u : TypeId) (h : Tryz.prog.typeName? 3 u = some "*errors.errorString") : u = 344 :=
 typeName_ptr_named (nm := "errors.errorString") (by rw [star]; kernel_rfl) (by kernel_rfl) (by decide) u (by rw [star]; exact h)
theorem sent {W : World} {n : String} {text : List UInt8} {r : List (String × DataW Unit)} {g : Nat} (h : laidMet Tryz.prog ((n, .iface "*errors.errorString" (.ptr (.agg [.lit (.string text)]))) :: r) W) (hg : Tryz.prog.globalNamed n = some g) (ht : (Tryz.prog.globals[g]?).map (·.type) = some 86) : errAt W g := by
 obtain⟨a,s,hv,_⟩:=laid_sentinel h hg ht Tryz.underlying86 row343 Tryz.underlying344 Tryz.underlying364 rfl rfl Tryz.underlying9 cells363 cells9;exact⟨_,_,by simpa using World.var?_cell hg hv 0⟩
theorem parts {W : World} (h : laidMetH Tryz.prog Rows.caretsRow.laid W) : laidMet Tryz.prog [("unicode/utf8.acceptRanges", Rows.laid_unicode_utf8_acceptRanges), ("caret/runes.lowClasses", Rows.laid_caret_runes_lowClasses), ("caret/runes.highClasses", Rows.laid_caret_runes_highClasses), ("caret/runes.kinds", Rows.laid_caret_runes_kinds), ("caret/setups.errCount", Rows.laid_caret_setups_errCount), ("caret/setups.errRange", Rows.laid_caret_setups_errRange), ("caret/setups.errPlace", Rows.laid_caret_setups_errPlace), ("caret/setups.errRising", Rows.laid_caret_setups_errRising), ("unicode/utf8.first", Rows.laid_unicode_utf8_first)] W ∧ handlesMet Tryz.prog [("errors.errorType", Rows.laid_errors_errorType)] W := h
theorem handle {W : World} (h : handlesMet Tryz.prog [("errors.errorType", Rows.laid_errors_errorType)] W) : W.cell? ⟨0, 0, none⟩ = some (As.rty 86) := by
 obtain⟨name,u,ty,e1,e2,e3,e4,e5⟩:=h _ (List.mem_singleton.2 rfl);have en:name=[101,114,114,111,114]:=(Option.some.inj e1).symm;subst en;obtain rfl:=Option.some.inj (rt.symm.trans e2);have hm:ty∈(List.range 376).filter fun t=>Tryz.prog.rowNamed t [101,114,114,111,114]:=List.mem_filter.2 ⟨List.mem_range.2 (by rw[←size];exact e3),e4⟩
 rw[oneRow]at hm;obtain rfl:=List.mem_singleton.1 hm;have hh:typeHandle Tryz.prog 86=.pointer (some ⟨10,86,none⟩):=by kernel_rfl
 rw[hh]at e5;simpa using World.var?_cell et e5 0
theorem ground {W:World}(h:laidMetH Tryz.prog Rows.caretsRow.laid W):Floor W:=by
 obtain⟨h1,h2⟩:=parts h
 exact⟨utf8Tabs_of_reads Tryz.lays260 extra (Lib.laidMet.reads h1 (by rw[←dataFirst];exact .tail _ (.tail _ (.tail _ (.tail _ (.tail _ (.tail _ (.tail _ (.tail _ (.head _)))))))))) (Lib.laidMet.reads h1 (by rw[←dataAccept];exact .head _)),low_of_head h1.tail (by kernel_rfl),high_of_head h1.tail.tail (by kernel_rfl),kinds_of_head h1.tail.tail.tail (by kernel_rfl),handle h2,
  sent h1.tail.tail.tail.tail (by kernel_rfl) (by kernel_rfl),sent h1.tail.tail.tail.tail.tail (by kernel_rfl) (by kernel_rfl),sent h1.tail.tail.tail.tail.tail.tail (by kernel_rfl) (by kernel_rfl),sent h1.tail.tail.tail.tail.tail.tail.tail (by kernel_rfl) (by kernel_rfl)⟩
theorem ints_in {H:Type}{enc:TypeId × Value→H}{W:World}{sp:Nat→Bool}{held:Bool}{n:Nat}{v:Value}{y:DataW H × List MemPlace}(h:DataW.trod enc Tryz.prog W 0 sp held n 22 [v]=some y):∃l,slAd W v l:=by
 rcases open_ints Tryz.underlying22 Tryz.underlying3 cells3 h with⟨e,_⟩ | ⟨a,len,cap,zs,e,_,hlc,_,hz,_,hc,_⟩
 ·cases e
  exact⟨[],none,0,rfl,.inl ⟨rfl,rfl,rfl⟩⟩
 ·cases e
  have hlz:len≤zs.length:=by rw[hz];split <;> omega
  have hl:(zs.take len).length=len:=by simp;omega
  refine⟨zs.take len,some a,cap,by rw[hl],.inr ⟨a,rfl,fun i hi=>?_⟩⟩;rw[hl]at hi;rw[hc i (by omega)];simp[Lev.nth,List.getD,hi]
theorem cells4:Tryz.prog.cellsOf 4=1:=by kernel_rfl
theorem cells55:Tryz.prog.cellsOf 55=2:=by kernel_rfl
theorem cells58:Tryz.prog.cellsOf 58=2:=by kernel_rfl
def numOfV:Value→Int
 | .int _ n=>n
 | _=>0
def boolOfV:Value→Bool
 | .bool b=>b
 | _=>false
theorem carets_in {H:Type}{enc:TypeId × Value→H}{W:World}{sp:Nat→Bool}{held:Bool}{n:Nat}{v:Value}{y:DataW H × List MemPlace}(h:DataW.trod enc Tryz.prog W 0 sp held n 52 [v]=some y):∃(nl:Nat) (co:Nat→Int) (cb:Nat→Bool),prAt W v nl (fun i=>.int .i64 (co i)) (fun i=>.bool (cb i)):=by
 rcases Go.Deep.open_slice_pairs Tryz.underlying52 Tryz.underlying55 cells55 rfl rfl cells3 cells4 h with⟨e,_⟩ | ⟨a,len,cap,m,n',V0,V1,D0,D1,P0,P1,e,_,hlc,_,hm,_,hx⟩
 ·cases e
  exact⟨0,fun _=>0,fun _=>false,none,0,rfl,.inl rfl⟩
 ·cases e
  have hlm:len≤m:=by rw[hm];split <;> omega
  refine⟨len,fun i=>numOfV (V0 i),fun i=>boolOfV (V1 i),some a,cap,rfl,?_⟩;by_cases h0:len=0
  ·exact .inl h0
  ·have e:=cell_spot (hx 0 (by omega)).1
   have e0:a.add (0 * 2)=a:=rfl;rw[e0]at e;obtain⟨b,o,s⟩:=a;simp only[Addr.mk.injEq,true_and]at e;subst e;refine .inr ⟨b,o,rfl,fun i hi=>?_⟩;obtain⟨q1,q2,q3,q4⟩:=hx i (by omega);obtain⟨z,e1,_⟩:=DataW.trod_int Tryz.underlying3 q3;obtain⟨z',e2,_⟩:=DataW.trod_bool Tryz.underlying4 q4;rw[Addr.add_lit]at q1 q2;have e1':V0 i=.int .i64 z:=by simpa using e1
   have e2':V1 i=.bool z':=by simpa using e2
   dsimp only;rw[e1']at q1 ⊢;rw[e2']at q2 ⊢;exact⟨q1,q2⟩
theorem gaps_in {H:Type}{enc:TypeId × Value→H}{W:World}{sp:Nat→Bool}{held:Bool}{n:Nat}{v:Value}{y:DataW H × List MemPlace}(h:DataW.trod enc Tryz.prog W 0 sp held n 53 [v]=some y):∃(ng:Nat) (gi gk:Nat→Int),prAt W v ng (fun i=>.int .i64 (gi i)) (fun i=>.int .i64 (gk i)):=by
 rcases Go.Deep.open_slice_pairs Tryz.underlying53 Tryz.underlying58 cells58 rfl rfl cells3 cells3 h with⟨e,_⟩ | ⟨a,len,cap,m,n',V0,V1,D0,D1,P0,P1,e,_,hlc,_,hm,_,hx⟩
 ·cases e
  exact⟨0,fun _=>0,fun _=>0,none,0,rfl,.inl rfl⟩
 ·cases e
  have hlm:len≤m:=by rw[hm];split <;> omega
  refine⟨len,fun i=>numOfV (V0 i),fun i=>numOfV (V1 i),some a,cap,rfl,?_⟩;by_cases h0:len=0
  ·exact .inl h0
  ·have e:=cell_spot (hx 0 (by omega)).1
   have e0:a.add (0 * 2)=a:=rfl;rw[e0]at e;obtain⟨b,o,s⟩:=a;simp only[Addr.mk.injEq,true_and]at e;subst e;refine .inr ⟨b,o,rfl,fun i hi=>?_⟩;obtain⟨q1,q2,q3,q4⟩:=hx i (by omega);obtain⟨z,e1,_⟩:=DataW.trod_int Tryz.underlying3 q3;obtain⟨z',e2,_⟩:=DataW.trod_int Tryz.underlying3 q4;rw[Addr.add_lit]at q1 q2;have e1':V0 i=.int .i64 z:=by simpa using e1
   have e2':V1 i=.int .i64 z':=by simpa using e2
   dsimp only;rw[e1']at q1 ⊢;rw[e2']at q2 ⊢;exact⟨q1,q2⟩
set_option maxRecDepth 100000 in
theorem contract (H:Type)(enc:TypeId × Value→H)(W:World)(base:Nat)(args:Array Value)(ds gs:List (DataW H))(before:List MemPlace)
 (hval:∀(j:Nat) t v,Tryz.f5.params[j]?=some t→args[j]?=some v→Value.okWide Tryz.prog W .any base t v)
 (hW:DataW.Whole enc Tryz.prog Tryz.f5.params.toList Rows.caretsSpec.vars false W args.toList ds gs before) (hL:laidMetH Tryz.prog Rows.caretsRow.laid W) :
 Calls Tryz.prog 5 args W fun e W'=>∃v,e=.returned v∧Rows.caretsSpec.post enc Tryz.prog Tryz.f5 false true false false W args v W':=by
 have hW':=hW;obtain⟨p,q,hA0,hV,rfl,hfz,hnd⟩:=hW;have hA:DataW.TrodAll enc Tryz.prog W 0 (fun _=>true) true Tryz.f5.params.toList args.toList ds p:=hA0;rw[Tryz.params5]at hA hval;obtain⟨v0,vs0,d0,ds0,p0,q0,hargs,rfl,rfl,h0,r0⟩:=trodAll_cons hA;obtain⟨u1,vs1,d1,ds1,p1,q1,rfl,rfl,rfl,h1,r1⟩:=trodAll_cons r0;obtain⟨u2,vs2,d2,ds2,p2,q2,rfl,rfl,rfl,h2,r2⟩:=trodAll_cons r1;obtain⟨rfl,rfl,rfl⟩:=trodAll_nil r2;obtain rfl:args=#[v0,u1,u2]:=by cases args;simp_all
 obtain⟨rfl,rfl⟩:=trodVars_none hV;have h0k:=h0;obtain⟨x0,x1,x2,x3,y0,y1,y2,y3,n,rfl,rfl,rfl,t0,t1,t2,t3⟩:=Go.Joins.open_agg4 Tryz.underlying35 one35 cells35 (hval 0 35 v0 rfl rfl) h0;obtain⟨a1,len1,cap1,rfl⟩:=okWide_slice Tryz.underlying52 (hval 1 52 u1 rfl rfl);obtain⟨a2,len2,cap2,rfl⟩:=okWide_slice Tryz.underlying53 (hval 2 53 u2 rfl rfl);have h1k:=h1;have h2k:=h2;obtain⟨fu1,hf1⟩:=h1;obtain⟨fu2,hf2⟩:=h2;obtain⟨nl,co,cb,hcl⟩:=carets_in (v:=.slice a1 len1 cap1) hf1;obtain⟨ng,gi,gk,hgl⟩:=gaps_in (v:=.slice a2 len2 cap2) hf2;obtain⟨s,e0,_⟩:=DataW.trod_string Tryz.underlying9 t0;obtain⟨b,e1,_⟩:=DataW.trod_int Tryz.underlying3 t1;cases e0;cases e1;obtain⟨Wd,hWd⟩:=ints_in t2;obtain⟨Br,hBr⟩:=ints_in t3;clear hA0;simp only[List.append_nil]at hW';have hlt:∀x∈y0.2++(y1.2++(y2.2++y3.2)),x.block<W.heap.size:=fun x hx=>hW'.lt x (List.mem_append_left _ hx)
 have hlt1:∀x∈p1,x.block<W.heap.size:=fun x hx=>hW'.lt x (List.mem_append_right _ (List.mem_append_left _ hx))
 have hlt2:∀x∈p2,x.block<W.heap.size:=fun x hx=>hW'.lt x (List.mem_append_right _ (List.mem_append_right _ hx))
 refine(carets_any s b x2 x3 _ _ Wd Br nl ng co gi gk cb W (ground hL) hWd hBr hcl hgl).mono fun e W' ⟨he,hf⟩=>?_
 have hb:Below W.heap.size W W':=hf.below (Nat.le_refl _) (fun _ hk=>absurd hk List.not_mem_nil);subst he;refine⟨_,rfl,_,_,_,[],y0.2++(y1.2++(y2.2++y3.2))++(p1++(p2++[])),[],hW',?_,?_,?_,hb.frame _,fun h=>by cases h⟩
 ·exact trodAll_cons_mk (shut_bool Tryz.underlying4 _) trodAll_mk0
 ·exact trodAll_cons_mk (Below.trod laidOut (by kernel_rfl) (of_decide_eq_true (by kernel_rfl)) h0k hb hlt) (trodAll_cons_mk (Below.trod laidOut (by kernel_rfl) (of_decide_eq_true (by kernel_rfl)) h1k hb hlt1) (trodAll_cons_mk (Below.trod laidOut (by kernel_rfl) (of_decide_eq_true (by kernel_rfl)) h2k hb hlt2) trodAll_mk0))
 ·exact rfl
def layRow (cs:Array Value):Obj→Obj
 | .cells _ t frozen=>.cells cs t frozen
 | o=>o
abbrev sents:Array Obj:=#[.cells #[.string ⟨#[110,111,116,32,111,110,101,32,102,111,114,32,101,97,99,104,32,114,117,110,101]⟩] 364,.cells #[.string ⟨#[111,110,101,32,105,115,32,116,111,111,32,115,109,97,108,108,32,111,114,32,116,111,111,32,103,114,101,97,116]⟩] 364,.cells #[.string ⟨#[111,110,101,32,105,115,32,110,111,116,32,98,101,116,119,101,101,110,32,116,119,111,32,99,108,117,115,116,101,114,115]⟩] 364,.cells #[.string ⟨#[111,110,101,32,105,115,32,110,111,116,32,97,98,111,118,101,32,116,104,101,32,111,110,101,32,97,104,101,97,100,32,111,102,32,105,116]⟩] 364]
noncomputable abbrev low:Nat:=(World.holding Tryz.prog default ⟨#[],#[],[]⟩).heap.size
noncomputable abbrev start (os:Os):World:={ World.holding Tryz.prog os ⟨sents,#[],[]⟩with heap:=((((((((((World.holding Tryz.prog os ⟨sents,#[],[]⟩).heap.modify 1 (layRow utfFirst)).modify 2 (layRow utfAccept)).modify 3 (layRow (rowCells Tabs.lowTab).toArray)).modify 4 (layRow (rowCells Tabs.highTab).toArray)).modify 9 (layRow (rowCells Tabs.kindTab).toArray)).modify 5 (layRow #[.iface 344 (.pointer (some ⟨low,0,none⟩))])).modify 6 (layRow #[.iface 344 (.pointer (some ⟨low+1,0,none⟩))])).modify 7 (layRow #[.iface 344 (.pointer (some ⟨low+2,0,none⟩))])).modify 8 (layRow #[.iface 344 (.pointer (some ⟨low+3,0,none⟩))])).modify 0 (layRow #[As.rty 86]) }
abbrev none0:Array Value:=#[.agg #[.string ByteArray.empty,.int .i64 0,.slice none 0 0,.slice none 0 0],.slice none 0 0,.slice none 0 0]
theorem laid_met (os:Os):laidMetH Tryz.prog Rows.caretsRow.laid ((start os).forCall (fun _ _=>0) ⟨#[],none0,[]⟩).memory :=
 laidMetH_of_parts (laidMet_of_run' 8 (by kernel_rfl) (by kernel_rfl)) (by kernel_rfl)
theorem reads (os:Os){H:Type}(enc:TypeId × Value→H):∃places,DataW.whole enc Tryz.prog ((start os).forCall (fun _ _=>0) ⟨#[],none0,[]⟩).memory Tryz.f5.params.toList Rows.caretsSpec.vars false none0.toList 8=some ([.agg [.lit (.string []),.lit (.int .i64 0),.nil,.nil],.nil,.nil],[],places) :=
 ⟨[],by kernel_rfl⟩
set_option maxRecDepth 100000 in
theorem lifted (os:Os)(started:os.Started)(H:Type)(enc:TypeId × Value→H)(F:Stop.Interp) :
 ReturnsInHanded {} Tryz.checked os 5 .any ((OpenSpec.ofChange Rows.caretsSpec).preRow enc Tryz.prog Tryz.f5 Rows.caretsRow.domain false Rows.caretsRow.laid) (((OpenSpec.ofChange Rows.caretsSpec).at F).post enc Tryz.prog Tryz.f5 false true false false):=by
 obtain⟨places,hx⟩:=reads os enc;refine returnsInHanded_of_row (C:=Tryz.checked) (s:=OpenSpec.ofChange Rows.caretsSpec) own started (by kernel_rfl) Tryz.func5
  (witness_row_at (enc:=enc) (C:=Tryz.checked) false (start os) none0 rfl (by kernel_rfl) (by kernel_rfl) (by kernel_rfl)
    (OpenSpec.preRow_of_cond 8 hx (by kernel_rfl) (fun k hk=>by cases hk) (by kernel_rfl) (laid_met os))) ?_
 intro W base args ds gs before hval hW _ _ _ hL _ _;exact contract H enc W base args ds gs before hval hW hL
theorem j1:Tryz.prog.inPlace 5=Rows.caretsRow.inPlace:=by kernel_rfl
theorem j2:Tryz.prog.unfollowed 5=Rows.caretsRow.unfollowed:=by kernel_rfl
theorem j3:Tryz.prog.recurses 5=Rows.caretsRow.recurses:=by kernel_rfl
theorem j4:Tryz.prog.varsNamed 5=Rows.caretsRow.named:=by kernel_rfl
theorem closed:joinedFacts Tryz.prog 5 Tryz.f5 (OpenSpec.ofChange Rows.caretsSpec).bare Rows.caretsRow=true:=by
 unfold joinedFacts;rw[j1,j2,j3,j4]
 kernel_rfl
theorem said:Rows.CaretsSaid :=
 OpenClaim.holds_of_cond 5 Tryz.f5 rfl rfl rfl rfl rfl rfl rfl ⟨rfl,rfl,rfl,rfl,rfl⟩ rfl rfl rfl rfl rfl (by kernel_rfl) Tryz.func5 closed
  (of_decide_eq_true (by kernel_rfl)) (by unfold Func.isWrapper;first | (rw[if_pos (by decide +kernel)];kernel_rfl) | (rw[if_neg (by decide +kernel)];exact⟨rfl,rfl⟩))
  (fun os started H enc _ F=>by rw[OpenClaim.pre_eq_preRow];exact lifted os started H enc F)
theorem plain (f:FuncId)(fn:Func)(hf:Tryz.pinned.checked.prog.funcNamed Rows.caretsRow.func=some f)(hfn:Tryz.pinned.checked.prog.funcs[f]?=some fn) :
 true=Tryz.pinned.checked.prog.looks []∧∀(j:Nat) t,fn.params[j]?=some t→Tryz.pinned.checked.prog.wantsStandIn t=false:=by
 obtain rfl:f=5:=Option.some.inj ((show Tryz.prog.funcNamed Rows.caretsRow.func=some 5 by kernel_rfl).symm.trans hf) |>.symm
 obtain rfl:fn=Tryz.f5:=(Option.some.inj (Tryz.func5.symm.trans hfn)).symm;refine⟨by kernel_rfl,fun j t ht=>?_⟩;rw[Tryz.params5]at ht;have hm:t=35∨t=52∨t=53:=by simpa using Array.mem_of_getElem? ht
 rcases hm with rfl | rfl | rfl
 ·exact(show Tryz.prog.wantsStandIn 35=false by kernel_rfl)
 ·exact(show Tryz.prog.wantsStandIn 52=false by kernel_rfl)
 ·exact(show Tryz.prog.wantsStandIn 53=false by kernel_rfl)
theorem card:Rows.CaretsCardSaid :=
 Claim7.holds_tied_plain_at .later [] _ _ _ _ said (fun _ h=>by cases h) (by kernel_rfl) (fun _ h=>by cases h) carets_row_tie rfl ⟨rfl,rfl⟩ (by kernel_rfl) rfl plain (by kernel_rfl)
end Go.Proofs.YtnakejhohdbfdaaGreatDoor.carets
