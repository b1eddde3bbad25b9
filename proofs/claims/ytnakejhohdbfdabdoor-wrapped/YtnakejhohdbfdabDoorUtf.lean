/- From the listed variables to the two tables of unicode/utf8. -/
import Derived.Test.YtnakejhohdbfdabDoorShelf
import Derived.Test.YtnakejhohdbfdabDoorRows
import Derived.ProofKit
import Derived.Lib.LaidU8
namespace Go.Proofs.YtnakejhohdbfdabDoor
open Go.Lib

theorem extra : U8Extra Tryd.prog Tryd.lays260_ren := ⟨by kernel_rfl, by kernel_rfl, by kernel_rfl, by kernel_rfl, by kernel_rfl, by kernel_rfl, by kernel_rfl⟩
theorem dataFirst : (Rows.laid_unicode_utf8_first : DataW Unit) = firstData := by kernel_rfl
theorem dataAccept : (Rows.laid_unicode_utf8_acceptRanges : DataW Unit) = acceptData := by kernel_rfl
/-- The tables' cells, for a witness. -/
def utfFirst : Array Value := ((List.range 256).map fun c => Value.int .u8 (firstT c)).toArray
def utfAccept : Array Value := ((List.range 16).flatMap fun i => [Value.int .u8 (accLo i), Value.int .u8 (accHi i)]).toArray
end Go.Proofs.YtnakejhohdbfdabDoor
