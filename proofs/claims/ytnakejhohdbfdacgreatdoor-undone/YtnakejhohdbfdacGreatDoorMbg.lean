import Derived.Shelf.Strings.BuilderK
import Derived.Shelf.Strings.BuilderRune
import Derived.Test.YtnakejhohdbfdacGreatDoorProg
import Derived.Test.YtnakejhohdbfdacGreatDoorM0
namespace Go.Proofs
open Go.Shelf Go.Proofs.Tryz
def Tryz.Ao:Go.Shelf.Ren:=⟨fun | 169=>82 | n=>n,fun | 70=>169 | 9=>9 | 0=>0 | 72=>172 | 37=>170 | 127=>227 | 3=>3 | 5=>5 | n=>n,fun | n=>n⟩
theorem Tryz.Uu:Go.Proofs.Lays.n169 prog Tryz.Ao:={
 mixed:=by kernel_rfl
 f169:=Tryz.func82.trans (congrArg some (by kernel_rfl))
 t0:=underlying0
 a0:=isAgg0
 z0:=sizeOf0
 v0:=zeroValue0
 t3:=underlying3
 a3:=isAgg3
 z3:=sizeOf3
 v3:=zeroValue3
 t9:=underlying9
 a9:=isAgg9
 z9:=sizeOf9
 v9:=zeroValue9
 t37:=underlying170
 a37:=isAgg170
 z37:=sizeOf170
 v37:=zeroValue170
 t70:=underlying169
 a70:=isAgg169
 z70:=sizeOf169
 v70:=zeroValue169
 t72:=underlying172
 a72:=isAgg172
 z72:=sizeOf172
 v72:=zeroValue172
 t127:=underlying227
 a127:=isAgg227
 z127:=sizeOf227
 v127:=zeroValue227 }
theorem Tryz.yc:Builder.Extra prog Tryz.Ao:={
 sizeBuilder:=by kernel_rfl
 liesBuilder:=by kernel_rfl
 t5:=underlying5
 a5:=isAgg5
 z5:=sizeOf5
 v5:=zeroValue5
 infoByte:=by kernel_rfl
 cellsByte:=by kernel_rfl
 sizeByte:=by kernel_rfl
 neB5:=by decide }
open Go.RowKit in
theorem Tryz.Builder_String_any_k (B b:Nat)(l:List UInt8)(w:World)(h:Lib.IsBuilderF 172 5 B b (Lib.byteCells l) w)(hBw:B<=w.heap.size) :
 Calls prog 82 #[.pointer (some ⟨b,0,none⟩)] w fun e w'=>e=.returned (.string ⟨l.toArray⟩)/\(Lib.IsBuilderF 172 5 B b (Lib.byteCells l) w'/\Below B w w'/\Lib.OthersKept 5 (some b) w w'):=Any.Builder_String_any_k Tryz.Uu Tryz.yc B b l w h hBw
def Tryz.Ap:Go.Shelf.Ren:=⟨fun | 168=>81 | 240=>119 | 242=>120 | 276=>151 | 278=>152 | n=>n,fun | 0=>0 | 3=>3 | 4=>4 | 5=>5 | 9=>9 | 20=>20 | 21=>21 | 37=>170 | 46=>224 | 51=>272 | 70=>169 | 72=>172 | 75=>71 | 80=>175 | 164=>180 | n=>n,fun | n=>n⟩
theorem Tryz.Uv:Go.Proofs.Lays.n168 prog Tryz.Ap:={
 mixed:=by kernel_rfl
 f168:=Tryz.func81.trans (congrArg some (by kernel_rfl))
 f240:=Tryz.func119.trans (congrArg some (by kernel_rfl))
 f242:=Tryz.func120.trans (congrArg some (by kernel_rfl))
 f276:=Tryz.func151.trans (congrArg some (by kernel_rfl))
 f278:=Tryz.func152.trans (congrArg some (by kernel_rfl))
 t0:=underlying0
 a0:=isAgg0
 z0:=sizeOf0
 v0:=zeroValue0
 t3:=underlying3
 a3:=isAgg3
 z3:=sizeOf3
 v3:=zeroValue3
 t4:=underlying4
 a4:=isAgg4
 z4:=sizeOf4
 v4:=zeroValue4
 t5:=underlying5
 a5:=isAgg5
 z5:=sizeOf5
 v5:=zeroValue5
 t9:=underlying9
 a9:=isAgg9
 z9:=sizeOf9
 v9:=zeroValue9
 t20:=underlying20
 a20:=isAgg20
 z20:=sizeOf20
 v20:=zeroValue20
 t21:=underlying21
 a21:=isAgg21
 z21:=sizeOf21
 v21:=zeroValue21
 t37:=underlying170
 a37:=isAgg170
 z37:=sizeOf170
 v37:=zeroValue170
 t46:=underlying224
 a46:=isAgg224
 z46:=sizeOf224
 v46:=zeroValue224
 t51:=underlying272
 a51:=isAgg272
 z51:=sizeOf272
 v51:=zeroValue272
 t70:=underlying169
 a70:=isAgg169
 z70:=sizeOf169
 v70:=zeroValue169
 t72:=underlying172
 a72:=isAgg172
 z72:=sizeOf172
 v72:=zeroValue172
 t75:=underlying71
 a75:=isAgg71
 z75:=sizeOf71
 v75:=zeroValue71
 t164:=underlying180
 a164:=isAgg180
 z164:=sizeOf180
 v164:=zeroValue180 }
theorem Tryz.yg:Builder.Extra prog Tryz.Ap where
 sizeBuilder:=by kernel_rfl
 liesBuilder:=by kernel_rfl
 t5:=underlying5
 a5:=isAgg5
 z5:=sizeOf5
 v5:=zeroValue5
 infoByte:=by kernel_rfl
 cellsByte:=by kernel_rfl
 sizeByte:=by kernel_rfl
 neB5:=by decide
open Go.RowKit in
theorem Tryz.Builder_WriteRune_k (B b:Nat)(bs:List Value)(r:Int)(hr0:-2147483648<=r)(hr1:r<=2147483647)(w:World)(h:Lib.IsBuilderF 172 5 B b bs w)(hlen:bs.length+4<=140737488355328)(hBw:B<=w.heap.size) :
 Calls prog 81 #[.pointer (some ⟨b,0,none⟩),.int .i32 r] w fun e w'=>e=.returned (.tuple #[.int .i64 (Lib.runeCells r).length,.nilIface])/\(Lib.BuilderAtF 172 5 B b (.pointer (some ⟨b,0,none⟩)) (bs++Lib.runeCells r) w'/\Below B w w'/\Lib.OthersKept 5 (some b) w w'):=Any.Builder_WriteRune_k Tryz.Uv Tryz.yg B b bs r hr0 hr1 w h hlen hBw
end Go.Proofs
