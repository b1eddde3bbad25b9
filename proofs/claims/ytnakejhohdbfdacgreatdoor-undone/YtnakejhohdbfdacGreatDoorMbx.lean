import Derived.Test.YtnakejhohdbfdacGreatDoorCards
import Derived.Test.YtnakejhohdbfdacGreatDoorTie
import Derived.Test.YtnakejhohdbfdacGreatDoorMbw
import Derived.Deep.DeepHandedRow
import Derived.LaidHandle
import Derived.Carry
import Derived.Lib.SmallJoins
import Derived.ChangeSlices
import Derived.Deep.Slices
set_option maxRecDepth 100000
namespace Go.Proofs.YtnakejhohdbfdacGreatDoor.Cls
open Go.RowKit jg Go.Proofs.Tryz
theorem Zn:(Tryz.prog.globals[0]?).map (·.type)=some 158:=by kernel_rfl
theorem VJ:Tryz.prog.cellsOf 157=3:=by kernel_rfl
theorem VK:Tryz.prog.cellsOf 105=1:=by kernel_rfl
theorem NN:(Rows.laid_caret_runes_kinds:DataW Unit)=.agg (jr.map rowData):=by kernel_rfl
theorem DK {W:World}{n:String}{rest:List (String × DataW Unit)}(h:laidMet prog ((n,Rows.laid_caret_runes_kinds) :: rest) W)(hn:Tryz.prog.globalNamed n=some 0):TabAt W 0 jr:=by
 rw[NN]at h;exact qK hn Zn underlying158 underlying157 VJ rfl rfl rfl underlying21 underlying21 underlying105 uG uG VK oY.symm h
end Go.Proofs.YtnakejhohdbfdacGreatDoor.Cls
namespace Go.Proofs
open Go.Shelf Go.Proofs.Tryz
theorem Tryz.VL:Go.Proofs.Lays.n260 prog Tryz.zP:={
 mixed:=by kernel_rfl
 f260:=Tryz.func149.trans (congrArg some (by kernel_rfl))
 t0:=underlying0
 a0:=isAgg0
 z0:=sizeOf0
 v0:=zeroValue0
 t3:=underlying3
 a3:=isAgg3
 z3:=sizeOf3
 v3:=zeroValue3
 t4:=underlying4
 a4:=isAgg4
 z4:=sizeOf4
 v4:=zeroValue4
 t5:=underlying5
 a5:=isAgg5
 z5:=sizeOf5
 v5:=zeroValue5
 t9:=underlying9
 a9:=isAgg9
 z9:=sizeOf9
 v9:=zeroValue9
 t21:=underlying21
 a21:=isAgg21
 z21:=sizeOf21
 v21:=zeroValue21
 t46:=underlying224
 a46:=isAgg224
 z46:=sizeOf224
 v46:=zeroValue224
 t119:=underlying316
 a119:=isAgg316
 z119:=sizeOf316
 t138:=underlying318
 a138:=isAgg318
 z138:=sizeOf318
 v138:=zeroValue318
 t139:=underlying319
 a139:=isAgg319
 z139:=sizeOf319
 v139:=zeroValue319
 g3:=by kernel_rfl
 g4:=by kernel_rfl }
end Go.Proofs
namespace Go.Proofs.YtnakejhohdbfdacGreatDoor.undone
open Go.ChangeShapes Go.WideShapes Go.ChangeAt Go.RowKit Cls Go.Proofs.Tryz
open Go.ChangeMaps (open_string shut_string)
theorem own:ownKnob Tryz.prog.godebug=none:=by kernel_rfl
theorem et : Tryz.prog.globalNamed "errors.errorType" = some 3 := by kernel_rfl
theorem rt : (Tryz.prog.cutTypes.find? (·.1 == "internal/reflectlite.rtype")).map (·.2) = some 230 := by kernel_rfl
theorem Zo:((List.range 389).filter fun t=>Tryz.prog.rowNamed t [101,114,114,111,114])=[71]:=by kernel_rfl
theorem size:Tryz.prog.types.size=389:=by kernel_rfl
theorem parts {W : World} (h : laidMetH prog Rows.undoneRow.laid W) : laidMet prog [("unicode/utf8.acceptRanges", Rows.laid_unicode_utf8_acceptRanges), ("caret/runes.lowClasses", Rows.laid_caret_runes_lowClasses), ("caret/runes.highClasses", Rows.laid_caret_runes_highClasses), ("caret/runes.kinds", Rows.laid_caret_runes_kinds), ("caret/setups.errRange", Rows.laid_caret_setups_errRange), ("unicode/utf8.first", Rows.laid_unicode_utf8_first)] W /\ handlesMet prog [("errors.errorType", Rows.laid_errors_errorType)] W := h
theorem handle {W : World} (h : handlesMet prog [("errors.errorType", Rows.laid_errors_errorType)] W) : W.cell? ⟨3, 0, none⟩ = some (As.rty 71) := by
 obtain⟨name,u,ty,e1,e2,e3,e4,e5⟩:=h _ (ak.2 rfl);have en:name=[101,114,114,111,114]:=(aZ e1).symm;subst en;obtain rfl:=aZ (rt.symm.trans e2);have hm:ty∈(List.range 389).filter fun t=>Tryz.prog.rowNamed t [101,114,114,111,114]:=dJ.2 ⟨cE.2 (by rw[<-size];exact e3),e4⟩
 rw[Zo]at hm;obtain rfl:=ak.1 hm;have hh:typeHandle prog 71=.pointer (some ⟨10,71,none⟩):=by kernel_rfl
 rw[hh]at e5;simpa using World.var?_cell et e5 0
theorem ground {W:World}(h:laidMetH prog Rows.undoneRow.laid W):Dc.Gr W:=by
 obtain⟨h1,h2⟩:=parts h
 exact⟨⟨FF h1.tail (by kernel_rfl),Ez h1.tail.tail (by kernel_rfl),DK h1.tail.tail.tail (by kernel_rfl),handle h2⟩,
  utf8Tabs_of_reads Tryz.VL extra (Lib.laidMet.reads h1 (by rw[<-Lt];exact .tail _ (.tail _ (.tail _ (.tail _ (.tail _ (.head _))))))) (Lib.laidMet.reads h1 (by rw[<-Ir];exact .head _))⟩
theorem laidOut:laidOutB prog=true:=by kernel_rfl
theorem cells3:Tryz.prog.cellsOf 3=1:=by kernel_rfl
theorem Zp:Tryz.prog.cellsOf 9=1:=by kernel_rfl
theorem VM:Tryz.prog.cellsOf 37=6:=by kernel_rfl
theorem Zq:Tryz.prog.cellsOf 4=1:=by kernel_rfl
theorem Zr:Tryz.prog.cellsOf 2=1:=by kernel_rfl
theorem Zs {H:Type}{enc:TypeId × Value->H}{W:World}{sp:Nat->Bool}{held:Bool}{n:Nat}{v:Value}{y:DataW H × List MemPlace}(h:DataW.trod enc prog W 0 sp held n 22 [v]=some y):∃k,Dc.WE W v k:=by
 rcases Go.Deep.open_slice underlying22 h with⟨e,_⟩ | ⟨a,len,cap,m,n',D,Pl,e,_,_,_,hmm,_,hx⟩
 ·cases e
  exact⟨0,none,0,rfl,.inl rfl⟩
 ·cases e
  have hlm:len<=m:=by rw[hmm];split <;> omega
  refine⟨len,some a,cap,rfl,.inr ⟨a,rfl,fun i hi=>?_⟩⟩;obtain⟨cs',h1,h2⟩:=hx i (by omega);rw[VM]at h1;obtain⟨_,hlen,hcell⟩:=World.cells?_some h1;obtain⟨xs,k,_,_,_,hxl,hf⟩:=DataW.trod_struct underlying37 h2
  match xs,hxl,cs',hlen with
  | [y0,y1,y2,y3,y4,y5],_,[v0,v1,v2,v3,v4,v5],_ =>
    have g0:=hf 0 _ rfl;have g1:=hf 1 _ rfl;have g2:=hf 2 _ rfl;have g3:=hf 3 _ rfl;have g4:=hf 4 _ rfl;have g5:=hf 5 _ rfl;simp[cells3,Zq,Zr,Zp]at g0 g1 g2 g3 g4 g5;obtain⟨d,e0,_⟩:=iy underlying3 g0;obtain⟨ext,e1,_⟩:=DataW.trod_bool underlying4 g1;obtain⟨x1,e2,_⟩:=iy underlying3 g2;obtain⟨x2,e3,_⟩:=iy underlying2 g3;obtain⟨bk,e4,_⟩:=DataW.trod_bool underlying4 g4;obtain⟨t,e5,_⟩:=DataW.trod_string underlying9 g5;cases e0;cases e1;cases e2;cases e3;cases e4;cases e5;have c0:=hcell 0 (by omega);have c1:=hcell 1 (by omega);have c2:=hcell 2 (by omega);have c3:=hcell 3 (by omega);have c4:=hcell 4 (by omega);have c5:=hcell 5 (by omega);rw[Go.Deep.add_add]at c0 c1 c2 c3 c4 c5;exact⟨d,ext,x1,x2,bk,t,by simpa using c0,by simpa using c1,by simpa using c2,by simpa using c3,by simpa using c4,by simpa using c5⟩
theorem contract (H:Type)(enc:TypeId × Value->H)(W:World)(base:Nat)(args:Array Value)(ds gs:List (DataW H))(before:List MemPlace)
 (hval:∀(j:Nat) t v,Tryz.f3.params[j]?=some t->args[j]?=some v->Value.okWide prog W .any base t v)
 (hW:DataW.Whole enc prog Tryz.f3.params.toList Rows.undoneSpec.vars false W args.toList ds gs before) (hL:laidMetH prog Rows.undoneRow.laid W) :
 Calls prog 3 args W fun e W'=>∃v,e=.returned v/\Rows.undoneSpec.post enc prog Tryz.f3 false true false false W args v W':=by
 have hW':=hW;obtain⟨p,q,hA0,hV,rfl,hfz,hnd⟩:=hW;have hA:DataW.TrodAll enc prog W 0 (fun _=>true) true Tryz.f3.params.toList args.toList ds p:=hA0;rw[Tryz.params3]at hA hval;obtain⟨v0,vs0,d0,ds0,p0,q0,hargs,rfl,rfl,h0,r0⟩:=trodAll_cons hA;obtain⟨u1,vs1,d1,ds1,p1,q1,rfl,rfl,rfl,h1,r1⟩:=trodAll_cons r0;obtain⟨u2,vs2,d2,ds2,p2,q2,rfl,rfl,rfl,h2,r2⟩:=trodAll_cons r1;obtain⟨rfl,rfl,rfl⟩:=trodAll_nil r2;obtain rfl:args=#[v0,u1,u2]:=by cases args;simp_all
 obtain⟨rfl,rfl⟩:=trodVars_none hV;obtain⟨x,rfl,rfl,rfl,hx⟩:=open_string underlying9 (hval 0 9 v0 rfl rfl) h0;obtain⟨z,rfl,rfl,rfl,wz⟩:=open_int underlying3 (hval 1 3 u1 rfl rfl) h1;have h2k:=h2;obtain⟨a0,ln,cp,rfl⟩:=okWide_slice underlying22 (hval 2 22 u2 rfl rfl);obtain⟨fu,hf2⟩:=h2;obtain⟨nS,hSc⟩:=Zs (v:=.slice a0 ln cp) hf2;clear hA0;simp only[dh]at hW';have hz:-9223372036854775808<=z/\z<=9223372036854775807:=by
  have h:=wz;rw[Lit.wf,dK,show IntKind.i64.min=-9223372036854775808 by decide,show IntKind.i64.max=9223372036854775807 by decide]at h;exact⟨dD h.1,dD h.2⟩
 have hlt2:∀x∈p2,x.block<W.heap.size:=fun x hx=>by simpa using hW'.lt x (by simpa using hx)
 refine(Dc.J6 x z _ nS W (ground hL) hz hSc).mono fun e W' ⟨he,hb⟩=>?_
 subst he;refine⟨_,rfl,_,_,_,[],p2,[],(by simpa using hW'),?_,?_,?_,hb.frame _,fun h=>by cases h⟩
 ·exact trodAll_cons_mk (shut_bool underlying4 _) trodAll_mk0
 ·have h:=trodAll_cons_mk (shut_string underlying9 hx) (trodAll_cons_mk (shut_int underlying3 wz) (trodAll_cons_mk (Below.trod laidOut (by kernel_rfl) (dD (by kernel_rfl)) h2k hb hlt2) trodAll_mk0))
  simp only[dh,bT]at h;exact h
 ·exact rfl
end Go.Proofs.YtnakejhohdbfdacGreatDoor.undone
