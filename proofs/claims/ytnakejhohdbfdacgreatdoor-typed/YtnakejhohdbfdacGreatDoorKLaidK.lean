import Derived.Test.YtnakejhohdbfdacGreatDoorKMb
namespace Go.Proofs.YtnakejhohdbfdacGreatDoor.Cls
open Go.RowKit Tabs
theorem tKinds:(Tryz.prog.globals[0]?).map (·.type)=some 158:=by kernel_rfl
theorem cells48:Tryz.prog.cellsOf 157=3:=by kernel_rfl
theorem cells30:Tryz.prog.cellsOf 105=1:=by kernel_rfl
theorem dataKinds:(Rows.laid_caret_runes_kinds:DataW Unit)=.agg (kindTab.map rowData):=by kernel_rfl
theorem kinds_of_head {W:World}{n:String}{rest:List (String × DataW Unit)}(h:laidMet Tryz.prog ((n,Rows.laid_caret_runes_kinds) :: rest) W)(hn:Tryz.prog.globalNamed n=some 0):TabAt W 0 kindTab:=by
 rw[dataKinds]at h;exact tabAt_of_head hn tKinds Tryz.underlying158 Tryz.underlying157 cells48 rfl rfl rfl Tryz.underlying21 Tryz.underlying21 Tryz.underlying105 cells21 cells21 cells30 len_kind.symm h
end Go.Proofs.YtnakejhohdbfdacGreatDoor.Cls
