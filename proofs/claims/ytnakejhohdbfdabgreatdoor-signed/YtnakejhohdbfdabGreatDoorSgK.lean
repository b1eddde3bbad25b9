/- The table of kinds, as it is laid. -/
import Derived.Test.YtnakejhohdbfdabGreatDoorKMb
namespace Go.Proofs.YtnakejhohdbfdabGreatDoor.Cls
open Go.RowKit Tabs
theorem tKinds:(Tryz.prog.globals[1]?).map (·.type)=some 278:=by kernel_rfl
theorem cells48:Tryz.prog.cellsOf 277=3:=by kernel_rfl
theorem cells30:Tryz.prog.cellsOf 127=1:=by kernel_rfl
theorem dataKinds:(Rows.laid_caret_runes_kinds:DataW Unit)=.agg (kindTab.map rowData):=by kernel_rfl
theorem kinds_of_head {W:World}{n:String}{rest:List (String × DataW Unit)}(h:laidMet Tryz.prog ((n,Rows.laid_caret_runes_kinds) :: rest) W)(hn:Tryz.prog.globalNamed n=some 1):TabAt W 1 kindTab:=by
 rw[dataKinds]at h;exact tabAt_of_head hn tKinds Tryz.underlying278 Tryz.underlying277 cells48 rfl rfl rfl Tryz.underlying21 Tryz.underlying21 Tryz.underlying127 cells21 cells21 cells30 len_kind.symm h
end Go.Proofs.YtnakejhohdbfdabGreatDoor.Cls
