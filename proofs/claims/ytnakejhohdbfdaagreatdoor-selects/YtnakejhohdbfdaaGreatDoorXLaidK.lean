import Derived.Test.YtnakejhohdbfdaaGreatDoorXMb
namespace Go.Proofs.YtnakejhohdbfdaaGreatDoor.Cls
open Go.RowKit Tabs
theorem tKinds:(Tryz.prog.globals[9]?).map (·.type)=some 329:=by kernel_rfl
theorem cells48:Tryz.prog.cellsOf 328=3:=by kernel_rfl
theorem cells30:Tryz.prog.cellsOf 305=1:=by kernel_rfl
theorem dataKinds:(Rows.laid_caret_runes_kinds:DataW Unit)=.agg (kindTab.map rowData):=by kernel_rfl
theorem kinds_of_head {W:World}{n:String}{rest:List (String × DataW Unit)}(h:laidMet Tryz.prog ((n,Rows.laid_caret_runes_kinds) :: rest) W)(hn:Tryz.prog.globalNamed n=some 9):TabAt W 9 kindTab:=by
 rw[dataKinds]at h;exact tabAt_of_head hn tKinds Tryz.underlying329 Tryz.underlying328 cells48 rfl rfl rfl Tryz.underlying21 Tryz.underlying21 Tryz.underlying305 cells21 cells21 cells30 len_kind.symm h
end Go.Proofs.YtnakejhohdbfdaaGreatDoor.Cls
