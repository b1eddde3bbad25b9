/-
  NARROWER THAN 'FOR EVERY INPUT', by the rows' own cells (each row's printed sentence says how): Documents: laid · All: laid · Whole: laid · Walks: laid · Steps: laid · Points: laid · Covers: laid · Twins: laid · Plainly: laid · Signed: laid · Drags: laid.
  DERIVED. THE GIVEN ROWS OF THIS SEAT. 11 by the template 'for every input the law returns true; each argument reads behind the call as it read before'; 0 by the template 'total and deterministic' (their statements: YtnakejhohdbfdabGreatDoorTotals.lean).
  GIVEN WITH THE SEED: the statements are not yours to turn. If you find one false, say at which input.
  Laid BY PROGRAM, IN A SANDBOX (cutbox-rows.mjs): the forced cells as the released guide's own fill.sh prints them over the translation e4c3a5b99c1a0285… (all of the seat's roots in one cut). By AI agents, Wed Nov 11 2026. No macro, syntax, notation, axiom, sorry.
-/
import Derived.Test.YtnakejhohdbfdabGreatDoorChecked
import GoSem.PinnedTables
import GoSem.Claim
import GoSem.ClaimJoined
import GoSem.ClaimMapViews
import Derived.JoinedTies
import Derived.KernelRfl
namespace Go.Proofs.YtnakejhohdbfdabGreatDoor
/- THE CELL 'sum', in the pinned program and in every row, IS THE sha256 OF THE DUMP (.gsa) THAT YtnakejhohdbfdabGreatDoorProg.lean LOADS. Nothing in Lean hashes anything: it is a label: what it is worth is what the hold of that sum in a sandbox is worth. -/
noncomputable def Tryz.pinned : Pinned := { name := "ytnakejhohdbfdabgreatdoor", sum := "e4c3a5b99c1a02850d3319deab0be76b76949feec5401e6c32d0dece50d40fa2", checked := Tryz.checked }
namespace Rows
def none {H : Type} : Left H := { results := [], args := [] }

/- WHAT THE LISTED PACKAGE-LEVEL VARIABLES READ AS WHEN THE CALL BEGINS. Each datum BY PROGRAM (the guide's laid-datum.mjs) off the statement by which the dump's own 'gosem.cut.vars' lays the variable. In a bare row this is a premise. The card (YtnakejhohdbfdabGreatDoorCards.lean) ties it to the program's text. -/
def laid_unicode_utf8_acceptRanges {H : Type} : DataW H := .agg [.agg [.lit (.int .u8 128), .lit (.int .u8 191)], .agg [.lit (.int .u8 160), .lit (.int .u8 191)], .agg [.lit (.int .u8 128), .lit (.int .u8 159)], .agg [.lit (.int .u8 144), .lit (.int .u8 191)], .agg [.lit (.int .u8 128), .lit (.int .u8 143)], .agg [.lit (.int .u8 0), .lit (.int .u8 0)], .agg [.lit (.int .u8 0), .lit (.int .u8 0)], .agg [.lit (.int .u8 0), .lit (.int .u8 0)], .agg [.lit (.int .u8 0), .lit (.int .u8 0)], .agg [.lit (.int .u8 0), .lit (.int .u8 0)], .agg [.lit (.int .u8 0), .lit (.int .u8 0)], .agg [.lit (.int .u8 0), .lit (.int .u8 0)], .agg [.lit (.int .u8 0), .lit (.int .u8 0)], .agg [.lit (.int .u8 0), .lit (.int .u8 0)], .agg [.lit (.int .u8 0), .lit (.int .u8 0)], .agg [.lit (.int .u8 0), .lit (.int .u8 0)]]
def laid_errors_errorType {H : Type} : DataW H := .iface "internal/reflectlite.rtype" (.agg [.ptr (.lit (.string [101, 114, 114, 111, 114]))])
def laid_caret_runes_lowClasses {H : Type} : DataW H := .agg [.agg [.lit (.int .i32 0), .lit (.int .i32 8), .lit (.int .i64 9)], .agg [.lit (.int .i32 9), .lit (.int .i32 9), .lit (.int .i64 11)], .agg [.lit (.int .i32 10), .lit (.int .i32 10), .lit (.int .i64 10)], .agg [.lit (.int .i32 11), .lit (.int .i32 11), .lit (.int .i64 11)], .agg [.lit (.int .i32 12), .lit (.int .i32 12), .lit (.int .i64 12)], .agg [.lit (.int .i32 13), .lit (.int .i32 13), .lit (.int .i64 10)], .agg [.lit (.int .i32 14), .lit (.int .i32 27), .lit (.int .i64 9)], .agg [.lit (.int .i32 28), .lit (.int .i32 30), .lit (.int .i64 10)], .agg [.lit (.int .i32 31), .lit (.int .i32 31), .lit (.int .i64 11)], .agg [.lit (.int .i32 32), .lit (.int .i32 32), .lit (.int .i64 12)], .agg [.lit (.int .i32 33), .lit (.int .i32 34), .lit (.int .i64 13)], .agg [.lit (.int .i32 35), .lit (.int .i32 37), .lit (.int .i64 5)], .agg [.lit (.int .i32 38), .lit (.int .i32 42), .lit (.int .i64 13)], .agg [.lit (.int .i32 43), .lit (.int .i32 43), .lit (.int .i64 4)], .agg [.lit (.int .i32 44), .lit (.int .i32 44), .lit (.int .i64 7)], .agg [.lit (.int .i32 45), .lit (.int .i32 45), .lit (.int .i64 4)], .agg [.lit (.int .i32 46), .lit (.int .i32 47), .lit (.int .i64 7)], .agg [.lit (.int .i32 48), .lit (.int .i32 57), .lit (.int .i64 3)], .agg [.lit (.int .i32 58), .lit (.int .i32 58), .lit (.int .i64 7)], .agg [.lit (.int .i32 59), .lit (.int .i32 64), .lit (.int .i64 13)], .agg [.lit (.int .i32 91), .lit (.int .i32 96), .lit (.int .i64 13)], .agg [.lit (.int .i32 123), .lit (.int .i32 126), .lit (.int .i64 13)], .agg [.lit (.int .i32 127), .lit (.int .i32 132), .lit (.int .i64 9)], .agg [.lit (.int .i32 133), .lit (.int .i32 133), .lit (.int .i64 10)], .agg [.lit (.int .i32 134), .lit (.int .i32 159), .lit (.int .i64 9)], .agg [.lit (.int .i32 160), .lit (.int .i32 160), .lit (.int .i64 7)], .agg [.lit (.int .i32 161), .lit (.int .i32 161), .lit (.int .i64 13)], .agg [.lit (.int .i32 162), .lit (.int .i32 165), .lit (.int .i64 5)], .agg [.lit (.int .i32 166), .lit (.int .i32 169), .lit (.int .i64 13)], .agg [.lit (.int .i32 171), .lit (.int .i32 172), .lit (.int .i64 13)], .agg [.lit (.int .i32 173), .lit (.int .i32 173), .lit (.int .i64 9)], .agg [.lit (.int .i32 174), .lit (.int .i32 175), .lit (.int .i64 13)], .agg [.lit (.int .i32 176), .lit (.int .i32 177), .lit (.int .i64 5)], .agg [.lit (.int .i32 178), .lit (.int .i32 179), .lit (.int .i64 3)], .agg [.lit (.int .i32 180), .lit (.int .i32 180), .lit (.int .i64 13)]]
def laid_caret_runes_highClasses {H : Type} : DataW H := .agg [.agg [.lit (.int .i32 768), .lit (.int .i32 879), .lit (.int .i64 8)], .agg [.lit (.int .i32 1425), .lit (.int .i32 1469), .lit (.int .i64 8)], .agg [.lit (.int .i32 1470), .lit (.int .i32 1470), .lit (.int .i64 1)], .agg [.lit (.int .i32 1488), .lit (.int .i32 1514), .lit (.int .i64 1)], .agg [.lit (.int .i32 1536), .lit (.int .i32 1541), .lit (.int .i64 6)], .agg [.lit (.int .i32 1544), .lit (.int .i32 1544), .lit (.int .i64 2)], .agg [.lit (.int .i32 1548), .lit (.int .i32 1548), .lit (.int .i64 7)], .agg [.lit (.int .i32 1564), .lit (.int .i32 1564), .lit (.int .i64 2)], .agg [.lit (.int .i32 1568), .lit (.int .i32 1610), .lit (.int .i64 2)], .agg [.lit (.int .i32 1611), .lit (.int .i32 1631), .lit (.int .i64 8)], .agg [.lit (.int .i32 1632), .lit (.int .i32 1641), .lit (.int .i64 6)], .agg [.lit (.int .i32 1642), .lit (.int .i32 1642), .lit (.int .i64 5)], .agg [.lit (.int .i32 1643), .lit (.int .i32 1644), .lit (.int .i64 6)], .agg [.lit (.int .i32 1645), .lit (.int .i32 1647), .lit (.int .i64 2)], .agg [.lit (.int .i32 1648), .lit (.int .i32 1648), .lit (.int .i64 8)], .agg [.lit (.int .i32 1649), .lit (.int .i32 1747), .lit (.int .i64 2)], .agg [.lit (.int .i32 1776), .lit (.int .i32 1785), .lit (.int .i64 3)], .agg [.lit (.int .i32 8203), .lit (.int .i32 8205), .lit (.int .i64 9)], .agg [.lit (.int .i32 8207), .lit (.int .i32 8207), .lit (.int .i64 1)], .agg [.lit (.int .i32 8232), .lit (.int .i32 8232), .lit (.int .i64 12)], .agg [.lit (.int .i32 8233), .lit (.int .i32 8233), .lit (.int .i64 10)], .agg [.lit (.int .i32 8239), .lit (.int .i32 8239), .lit (.int .i64 7)], .agg [.lit (.int .i32 8260), .lit (.int .i32 8260), .lit (.int .i64 7)], .agg [.lit (.int .i32 8352), .lit (.int .i32 8383), .lit (.int .i64 5)], .agg [.lit (.int .i32 8592), .lit (.int .i32 8595), .lit (.int .i64 13)], .agg [.lit (.int .i32 9728), .lit (.int .i32 10175), .lit (.int .i64 13)], .agg [.lit (.int .i32 12296), .lit (.int .i32 12299), .lit (.int .i64 13)], .agg [.lit (.int .i32 65024), .lit (.int .i32 65039), .lit (.int .i64 8)], .agg [.lit (.int .i32 65279), .lit (.int .i32 65279), .lit (.int .i64 9)], .agg [.lit (.int .i32 65533), .lit (.int .i32 65533), .lit (.int .i64 13)], .agg [.lit (.int .i32 127744), .lit (.int .i32 129535), .lit (.int .i64 13)]]
def laid_caret_runes_kinds {H : Type} : DataW H := .agg [.agg [.lit (.int .i32 0), .lit (.int .i32 9), .lit (.int .i64 3)], .agg [.lit (.int .i32 10), .lit (.int .i32 10), .lit (.int .i64 2)], .agg [.lit (.int .i32 11), .lit (.int .i32 12), .lit (.int .i64 3)], .agg [.lit (.int .i32 13), .lit (.int .i32 13), .lit (.int .i64 1)], .agg [.lit (.int .i32 14), .lit (.int .i32 31), .lit (.int .i64 3)], .agg [.lit (.int .i32 127), .lit (.int .i32 159), .lit (.int .i64 3)], .agg [.lit (.int .i32 169), .lit (.int .i32 169), .lit (.int .i64 14)], .agg [.lit (.int .i32 173), .lit (.int .i32 173), .lit (.int .i64 3)], .agg [.lit (.int .i32 174), .lit (.int .i32 174), .lit (.int .i64 14)], .agg [.lit (.int .i32 768), .lit (.int .i32 879), .lit (.int .i64 4)], .agg [.lit (.int .i32 1425), .lit (.int .i32 1469), .lit (.int .i64 4)], .agg [.lit (.int .i32 1536), .lit (.int .i32 1541), .lit (.int .i64 7)], .agg [.lit (.int .i32 1564), .lit (.int .i32 1564), .lit (.int .i64 3)], .agg [.lit (.int .i32 1611), .lit (.int .i32 1631), .lit (.int .i64 4)], .agg [.lit (.int .i32 1648), .lit (.int .i32 1648), .lit (.int .i64 4)], .agg [.lit (.int .i32 2307), .lit (.int .i32 2307), .lit (.int .i64 8)], .agg [.lit (.int .i32 2366), .lit (.int .i32 2368), .lit (.int .i64 8)], .agg [.lit (.int .i32 4352), .lit (.int .i32 4447), .lit (.int .i64 9)], .agg [.lit (.int .i32 4448), .lit (.int .i32 4519), .lit (.int .i64 10)], .agg [.lit (.int .i32 4520), .lit (.int .i32 4607), .lit (.int .i64 11)], .agg [.lit (.int .i32 8203), .lit (.int .i32 8203), .lit (.int .i64 3)], .agg [.lit (.int .i32 8204), .lit (.int .i32 8204), .lit (.int .i64 4)], .agg [.lit (.int .i32 8205), .lit (.int .i32 8205), .lit (.int .i64 5)], .agg [.lit (.int .i32 8206), .lit (.int .i32 8207), .lit (.int .i64 3)], .agg [.lit (.int .i32 8232), .lit (.int .i32 8238), .lit (.int .i64 3)], .agg [.lit (.int .i32 8294), .lit (.int .i32 8297), .lit (.int .i64 3)], .agg [.lit (.int .i32 9728), .lit (.int .i32 10175), .lit (.int .i64 14)], .agg [.lit (.int .i32 65024), .lit (.int .i32 65039), .lit (.int .i64 4)], .agg [.lit (.int .i32 65279), .lit (.int .i32 65279), .lit (.int .i64 3)], .agg [.lit (.int .i32 127462), .lit (.int .i32 127487), .lit (.int .i64 6)], .agg [.lit (.int .i32 127744), .lit (.int .i32 127994), .lit (.int .i64 14)], .agg [.lit (.int .i32 127995), .lit (.int .i32 127999), .lit (.int .i64 4)], .agg [.lit (.int .i32 128000), .lit (.int .i32 129535), .lit (.int .i64 14)]]
def laid_caret_setups_errRange {H : Type} : DataW H := .iface "*errors.errorString" (.ptr (.agg [.lit (.string [111, 110, 101, 32, 105, 115, 32, 116, 111, 111, 32, 115, 109, 97, 108, 108, 32, 111, 114, 32, 116, 111, 111, 32, 103, 114, 101, 97, 116])]))
/-- One of Go's own tables, pinned by name: the form's constant. -/
def laid_unicode_utf8_first : DataW Unit := Go.Pinned.utf8First
def laid_caret_setups_errCount {H : Type} : DataW H := .iface "*errors.errorString" (.ptr (.agg [.lit (.string [110, 111, 116, 32, 111, 110, 101, 32, 102, 111, 114, 32, 101, 97, 99, 104, 32, 114, 117, 110, 101])]))
def laid_caret_setups_errPlace {H : Type} : DataW H := .iface "*errors.errorString" (.ptr (.agg [.lit (.string [111, 110, 101, 32, 105, 115, 32, 110, 111, 116, 32, 98, 101, 116, 119, 101, 101, 110, 32, 116, 119, 111, 32, 99, 108, 117, 115, 116, 101, 114, 115])]))
def laid_caret_setups_errRising {H : Type} : DataW H := .iface "*errors.errorString" (.ptr (.agg [.lit (.string [111, 110, 101, 32, 105, 115, 32, 110, 111, 116, 32, 97, 98, 111, 118, 101, 32, 116, 104, 101, 32, 111, 110, 101, 32, 97, 104, 101, 97, 100, 32, 111, 102, 32, 105, 116])]))

/-- 'caretlaw.Documents': WHATEVER THE INPUT: true; the input reads as it did. -/
def documentsSpec : ChangeSpec := { name := "documents", fn := fun _ => fun
  | [d1, d2, d3, d4, d5] => { results := [.lit (.bool true)], args := [d1, d2, d3, d4, d5] }
  | _ => none }
def documentsRow : OpenClaim := { program := "ytnakejhohdbfdabgreatdoor", sum := "e4c3a5b99c1a02850d3319deab0be76b76949feec5401e6c32d0dece50d40fa2", func := "caret/caretlaw.Documents", spec := "documents", inPlace := ["internal/abi.NoEscape", "internal/reflectlite.ValueOf", "(internal/reflectlite.Value).Type", "(internal/reflectlite.Value).IsNil", "internal/reflectlite.TypeOf", "(internal/reflectlite.Value).Elem", "(internal/reflectlite.Value).Set"], unfollowed := true, recurses := true, named := ["caret/runes.lowClasses", "caret/runes.highClasses", "caret/setups.errRange", "caret/runes.kinds", "unicode/utf8.first", "unicode/utf8.acceptRanges", "errors.errorType"], apart := false, laid := [("unicode/utf8.acceptRanges", laid_unicode_utf8_acceptRanges), ("errors.errorType", laid_errors_errorType), ("caret/runes.lowClasses", laid_caret_runes_lowClasses), ("caret/runes.highClasses", laid_caret_runes_highClasses), ("caret/runes.kinds", laid_caret_runes_kinds), ("caret/setups.errRange", laid_caret_setups_errRange), ("unicode/utf8.first", laid_unicode_utf8_first)] }
def DocumentsSaid : Prop := documentsRow.holds Tryz.pinned (OpenSpec.ofChange documentsSpec)

/-- ITS FALSE NEIGHBOUR: 'it returns false'. Refute it at one input. -/
def documentsWrong : ChangeSpec := { name := "documents", fn := fun _ => fun
  | [d1, d2, d3, d4, d5] => { results := [.lit (.bool false)], args := [d1, d2, d3, d4, d5] }
  | _ => none }
def DocumentsWrongFalsely : Prop := documentsRow.holds Tryz.pinned (OpenSpec.ofChange documentsWrong)

/-- 'caretlaw.All': WHATEVER THE INPUT: true; the input reads as it did. -/
def allSpec : ChangeSpec := { name := "all", fn := fun _ => fun
  | [d1, d2, d3, d4, d5, d6, d7, d8, d9, d10] => { results := [.lit (.bool true)], args := [d1, d2, d3, d4, d5, d6, d7, d8, d9, d10] }
  | _ => none }
def allRow : OpenClaim := { program := "ytnakejhohdbfdabgreatdoor", sum := "e4c3a5b99c1a02850d3319deab0be76b76949feec5401e6c32d0dece50d40fa2", func := "caret/caretlaw.All", spec := "all", inPlace := ["internal/reflectlite.ValueOf", "(internal/reflectlite.Value).Type", "(internal/reflectlite.Value).IsNil", "internal/reflectlite.TypeOf", "(internal/reflectlite.Value).Elem", "(internal/reflectlite.Value).Set"], unfollowed := true, recurses := true, named := ["unicode/utf8.first", "unicode/utf8.acceptRanges", "caret/runes.lowClasses", "caret/runes.highClasses", "caret/runes.kinds", "errors.errorType", "caret/setups.errCount", "caret/setups.errRange", "caret/setups.errPlace", "caret/setups.errRising"], apart := false, laid := [("unicode/utf8.acceptRanges", laid_unicode_utf8_acceptRanges), ("errors.errorType", laid_errors_errorType), ("caret/runes.lowClasses", laid_caret_runes_lowClasses), ("caret/runes.highClasses", laid_caret_runes_highClasses), ("caret/runes.kinds", laid_caret_runes_kinds), ("caret/setups.errCount", laid_caret_setups_errCount), ("caret/setups.errRange", laid_caret_setups_errRange), ("caret/setups.errPlace", laid_caret_setups_errPlace), ("caret/setups.errRising", laid_caret_setups_errRising), ("unicode/utf8.first", laid_unicode_utf8_first)] }
def AllSaid : Prop := allRow.holds Tryz.pinned (OpenSpec.ofChange allSpec)

/-- ITS FALSE NEIGHBOUR: 'it returns false'. Refute it at one input. -/
def allWrong : ChangeSpec := { name := "all", fn := fun _ => fun
  | [d1, d2, d3, d4, d5, d6, d7, d8, d9, d10] => { results := [.lit (.bool false)], args := [d1, d2, d3, d4, d5, d6, d7, d8, d9, d10] }
  | _ => none }
def AllWrongFalsely : Prop := allRow.holds Tryz.pinned (OpenSpec.ofChange allWrong)

/-- 'caretkeep.Whole': WHATEVER THE INPUT: true; the input reads as it did. -/
def wholeSpec : ChangeSpec := { name := "whole", fn := fun _ => fun
  | [d] => { results := [.lit (.bool true)], args := [d] }
  | _ => none }
def wholeRow : OpenClaim := { program := "ytnakejhohdbfdabgreatdoor", sum := "e4c3a5b99c1a02850d3319deab0be76b76949feec5401e6c32d0dece50d40fa2", func := "caret/caretkeep.Whole", spec := "whole", inPlace := ["internal/reflectlite.ValueOf", "(internal/reflectlite.Value).Type", "(internal/reflectlite.Value).IsNil", "internal/reflectlite.TypeOf", "(internal/reflectlite.Value).Elem", "(internal/reflectlite.Value).Set"], unfollowed := true, recurses := true, named := ["caret/setups.errCount", "caret/setups.errRange", "caret/runes.kinds", "caret/setups.errPlace", "caret/setups.errRising", "caret/runes.lowClasses", "caret/runes.highClasses", "errors.errorType"], apart := false, laid := [("errors.errorType", laid_errors_errorType), ("caret/runes.lowClasses", laid_caret_runes_lowClasses), ("caret/runes.highClasses", laid_caret_runes_highClasses), ("caret/runes.kinds", laid_caret_runes_kinds), ("caret/setups.errCount", laid_caret_setups_errCount), ("caret/setups.errRange", laid_caret_setups_errRange), ("caret/setups.errPlace", laid_caret_setups_errPlace), ("caret/setups.errRising", laid_caret_setups_errRising)] }
def WholeSaid : Prop := wholeRow.holds Tryz.pinned (OpenSpec.ofChange wholeSpec)

/-- ITS FALSE NEIGHBOUR: 'it returns false'. Refute it at one input. -/
def wholeWrong : ChangeSpec := { name := "whole", fn := fun _ => fun
  | [d] => { results := [.lit (.bool false)], args := [d] }
  | _ => none }
def WholeWrongFalsely : Prop := wholeRow.holds Tryz.pinned (OpenSpec.ofChange wholeWrong)

/-- 'caretkeep.Walks': WHATEVER THE INPUT: true; the input reads as it did. -/
def walksSpec : ChangeSpec := { name := "walks", fn := fun _ => fun
  | [d] => { results := [.lit (.bool true)], args := [d] }
  | _ => none }
def walksRow : OpenClaim := { program := "ytnakejhohdbfdabgreatdoor", sum := "e4c3a5b99c1a02850d3319deab0be76b76949feec5401e6c32d0dece50d40fa2", func := "caret/caretkeep.Walks", spec := "walks", inPlace := ["internal/reflectlite.ValueOf", "(internal/reflectlite.Value).Type", "(internal/reflectlite.Value).IsNil", "internal/reflectlite.TypeOf", "(internal/reflectlite.Value).Elem", "(internal/reflectlite.Value).Set"], unfollowed := true, recurses := true, named := ["caret/setups.errCount", "caret/setups.errRange", "caret/runes.kinds", "caret/setups.errPlace", "caret/setups.errRising", "caret/runes.lowClasses", "caret/runes.highClasses", "errors.errorType"], apart := false, laid := [("errors.errorType", laid_errors_errorType), ("caret/runes.lowClasses", laid_caret_runes_lowClasses), ("caret/runes.highClasses", laid_caret_runes_highClasses), ("caret/runes.kinds", laid_caret_runes_kinds), ("caret/setups.errCount", laid_caret_setups_errCount), ("caret/setups.errRange", laid_caret_setups_errRange), ("caret/setups.errPlace", laid_caret_setups_errPlace), ("caret/setups.errRising", laid_caret_setups_errRising)] }
def WalksSaid : Prop := walksRow.holds Tryz.pinned (OpenSpec.ofChange walksSpec)

/-- ITS FALSE NEIGHBOUR: 'it returns false'. Refute it at one input. -/
def walksWrong : ChangeSpec := { name := "walks", fn := fun _ => fun
  | [d] => { results := [.lit (.bool false)], args := [d] }
  | _ => none }
def WalksWrongFalsely : Prop := walksRow.holds Tryz.pinned (OpenSpec.ofChange walksWrong)

/-- 'caretkeep.Steps': WHATEVER THE INPUT: true; the input reads as it did. -/
def stepsSpec : ChangeSpec := { name := "steps", fn := fun _ => fun
  | [d] => { results := [.lit (.bool true)], args := [d] }
  | _ => none }
def stepsRow : OpenClaim := { program := "ytnakejhohdbfdabgreatdoor", sum := "e4c3a5b99c1a02850d3319deab0be76b76949feec5401e6c32d0dece50d40fa2", func := "caret/caretkeep.Steps", spec := "steps", inPlace := ["internal/reflectlite.ValueOf", "(internal/reflectlite.Value).Type", "(internal/reflectlite.Value).IsNil", "internal/reflectlite.TypeOf", "(internal/reflectlite.Value).Elem", "(internal/reflectlite.Value).Set"], unfollowed := true, recurses := true, named := ["caret/setups.errCount", "caret/setups.errRange", "caret/runes.kinds", "caret/setups.errPlace", "caret/setups.errRising", "caret/runes.lowClasses", "caret/runes.highClasses", "errors.errorType"], apart := false, laid := [("errors.errorType", laid_errors_errorType), ("caret/runes.lowClasses", laid_caret_runes_lowClasses), ("caret/runes.highClasses", laid_caret_runes_highClasses), ("caret/runes.kinds", laid_caret_runes_kinds), ("caret/setups.errCount", laid_caret_setups_errCount), ("caret/setups.errRange", laid_caret_setups_errRange), ("caret/setups.errPlace", laid_caret_setups_errPlace), ("caret/setups.errRising", laid_caret_setups_errRising)] }
def StepsSaid : Prop := stepsRow.holds Tryz.pinned (OpenSpec.ofChange stepsSpec)

/-- ITS FALSE NEIGHBOUR: 'it returns false'. Refute it at one input. -/
def stepsWrong : ChangeSpec := { name := "steps", fn := fun _ => fun
  | [d] => { results := [.lit (.bool false)], args := [d] }
  | _ => none }
def StepsWrongFalsely : Prop := stepsRow.holds Tryz.pinned (OpenSpec.ofChange stepsWrong)

/-- 'caretkeep.Points': WHATEVER THE INPUT: true; the input reads as it did. -/
def pointsSpec : ChangeSpec := { name := "points", fn := fun _ => fun
  | [d1, d2] => { results := [.lit (.bool true)], args := [d1, d2] }
  | _ => none }
def pointsRow : OpenClaim := { program := "ytnakejhohdbfdabgreatdoor", sum := "e4c3a5b99c1a02850d3319deab0be76b76949feec5401e6c32d0dece50d40fa2", func := "caret/caretkeep.Points", spec := "points", inPlace := ["internal/reflectlite.ValueOf", "(internal/reflectlite.Value).Type", "(internal/reflectlite.Value).IsNil", "internal/reflectlite.TypeOf", "(internal/reflectlite.Value).Elem", "(internal/reflectlite.Value).Set"], unfollowed := true, recurses := true, named := ["caret/setups.errCount", "caret/setups.errRange", "caret/runes.kinds", "caret/setups.errPlace", "caret/setups.errRising", "caret/runes.lowClasses", "caret/runes.highClasses", "errors.errorType"], apart := false, laid := [("errors.errorType", laid_errors_errorType), ("caret/runes.lowClasses", laid_caret_runes_lowClasses), ("caret/runes.highClasses", laid_caret_runes_highClasses), ("caret/runes.kinds", laid_caret_runes_kinds), ("caret/setups.errCount", laid_caret_setups_errCount), ("caret/setups.errRange", laid_caret_setups_errRange), ("caret/setups.errPlace", laid_caret_setups_errPlace), ("caret/setups.errRising", laid_caret_setups_errRising)] }
def PointsSaid : Prop := pointsRow.holds Tryz.pinned (OpenSpec.ofChange pointsSpec)

/-- ITS FALSE NEIGHBOUR: 'it returns false'. Refute it at one input. -/
def pointsWrong : ChangeSpec := { name := "points", fn := fun _ => fun
  | [d1, d2] => { results := [.lit (.bool false)], args := [d1, d2] }
  | _ => none }
def PointsWrongFalsely : Prop := pointsRow.holds Tryz.pinned (OpenSpec.ofChange pointsWrong)

/-- 'caretkeep.Covers': WHATEVER THE INPUT: true; the input reads as it did. -/
def coversSpec : ChangeSpec := { name := "covers", fn := fun _ => fun
  | [d1, d2, d3] => { results := [.lit (.bool true)], args := [d1, d2, d3] }
  | _ => none }
def coversRow : OpenClaim := { program := "ytnakejhohdbfdabgreatdoor", sum := "e4c3a5b99c1a02850d3319deab0be76b76949feec5401e6c32d0dece50d40fa2", func := "caret/caretkeep.Covers", spec := "covers", inPlace := ["internal/reflectlite.ValueOf", "(internal/reflectlite.Value).Type", "(internal/reflectlite.Value).IsNil", "internal/reflectlite.TypeOf", "(internal/reflectlite.Value).Elem", "(internal/reflectlite.Value).Set"], unfollowed := true, recurses := true, named := ["caret/setups.errCount", "caret/setups.errRange", "caret/runes.kinds", "caret/setups.errPlace", "caret/setups.errRising", "caret/runes.lowClasses", "caret/runes.highClasses", "errors.errorType"], apart := false, laid := [("errors.errorType", laid_errors_errorType), ("caret/runes.lowClasses", laid_caret_runes_lowClasses), ("caret/runes.highClasses", laid_caret_runes_highClasses), ("caret/runes.kinds", laid_caret_runes_kinds), ("caret/setups.errCount", laid_caret_setups_errCount), ("caret/setups.errRange", laid_caret_setups_errRange), ("caret/setups.errPlace", laid_caret_setups_errPlace), ("caret/setups.errRising", laid_caret_setups_errRising)] }
def CoversSaid : Prop := coversRow.holds Tryz.pinned (OpenSpec.ofChange coversSpec)

/-- ITS FALSE NEIGHBOUR: 'it returns false'. Refute it at one input. -/
def coversWrong : ChangeSpec := { name := "covers", fn := fun _ => fun
  | [d1, d2, d3] => { results := [.lit (.bool false)], args := [d1, d2, d3] }
  | _ => none }
def CoversWrongFalsely : Prop := coversRow.holds Tryz.pinned (OpenSpec.ofChange coversWrong)

/-- 'caretkeep.Twins': WHATEVER THE INPUT: true; the input reads as it did. -/
def twinsSpec : ChangeSpec := { name := "twins", fn := fun _ => fun
  | [d] => { results := [.lit (.bool true)], args := [d] }
  | _ => none }
def twinsRow : OpenClaim := { program := "ytnakejhohdbfdabgreatdoor", sum := "e4c3a5b99c1a02850d3319deab0be76b76949feec5401e6c32d0dece50d40fa2", func := "caret/caretkeep.Twins", spec := "twins", inPlace := ["internal/reflectlite.ValueOf", "(internal/reflectlite.Value).Type", "(internal/reflectlite.Value).IsNil", "internal/reflectlite.TypeOf", "(internal/reflectlite.Value).Elem", "(internal/reflectlite.Value).Set"], unfollowed := true, recurses := true, named := ["caret/setups.errCount", "caret/setups.errRange", "caret/runes.kinds", "caret/setups.errPlace", "caret/setups.errRising", "caret/runes.lowClasses", "caret/runes.highClasses", "errors.errorType"], apart := false, laid := [("errors.errorType", laid_errors_errorType), ("caret/runes.lowClasses", laid_caret_runes_lowClasses), ("caret/runes.highClasses", laid_caret_runes_highClasses), ("caret/runes.kinds", laid_caret_runes_kinds), ("caret/setups.errCount", laid_caret_setups_errCount), ("caret/setups.errRange", laid_caret_setups_errRange), ("caret/setups.errPlace", laid_caret_setups_errPlace), ("caret/setups.errRising", laid_caret_setups_errRising)] }
def TwinsSaid : Prop := twinsRow.holds Tryz.pinned (OpenSpec.ofChange twinsSpec)

/-- ITS FALSE NEIGHBOUR: 'it returns false'. Refute it at one input. -/
def twinsWrong : ChangeSpec := { name := "twins", fn := fun _ => fun
  | [d] => { results := [.lit (.bool false)], args := [d] }
  | _ => none }
def TwinsWrongFalsely : Prop := twinsRow.holds Tryz.pinned (OpenSpec.ofChange twinsWrong)

/-- 'caretkeep.Plainly': WHATEVER THE INPUT: true; the input reads as it did. -/
def plainlySpec : ChangeSpec := { name := "plainly", fn := fun _ => fun
  | [d1, d2, d3] => { results := [.lit (.bool true)], args := [d1, d2, d3] }
  | _ => none }
def plainlyRow : OpenClaim := { program := "ytnakejhohdbfdabgreatdoor", sum := "e4c3a5b99c1a02850d3319deab0be76b76949feec5401e6c32d0dece50d40fa2", func := "caret/caretkeep.Plainly", spec := "plainly", inPlace := ["internal/reflectlite.ValueOf", "(internal/reflectlite.Value).Type", "(internal/reflectlite.Value).IsNil", "internal/reflectlite.TypeOf", "(internal/reflectlite.Value).Elem", "(internal/reflectlite.Value).Set"], unfollowed := true, recurses := true, named := ["caret/setups.errCount", "caret/setups.errRange", "caret/runes.kinds", "caret/setups.errPlace", "caret/setups.errRising", "caret/runes.lowClasses", "caret/runes.highClasses", "errors.errorType"], apart := false, laid := [("errors.errorType", laid_errors_errorType), ("caret/runes.lowClasses", laid_caret_runes_lowClasses), ("caret/runes.highClasses", laid_caret_runes_highClasses), ("caret/runes.kinds", laid_caret_runes_kinds), ("caret/setups.errCount", laid_caret_setups_errCount), ("caret/setups.errRange", laid_caret_setups_errRange), ("caret/setups.errPlace", laid_caret_setups_errPlace), ("caret/setups.errRising", laid_caret_setups_errRising)] }
def PlainlySaid : Prop := plainlyRow.holds Tryz.pinned (OpenSpec.ofChange plainlySpec)

/-- ITS FALSE NEIGHBOUR: 'it returns false'. Refute it at one input. -/
def plainlyWrong : ChangeSpec := { name := "plainly", fn := fun _ => fun
  | [d1, d2, d3] => { results := [.lit (.bool false)], args := [d1, d2, d3] }
  | _ => none }
def PlainlyWrongFalsely : Prop := plainlyRow.holds Tryz.pinned (OpenSpec.ofChange plainlyWrong)

/-- 'caretkeep.Signed': WHATEVER THE INPUT: true; the input reads as it did. -/
def signedSpec : ChangeSpec := { name := "signed", fn := fun _ => fun
  | [d1, d2, d3] => { results := [.lit (.bool true)], args := [d1, d2, d3] }
  | _ => none }
def signedRow : OpenClaim := { program := "ytnakejhohdbfdabgreatdoor", sum := "e4c3a5b99c1a02850d3319deab0be76b76949feec5401e6c32d0dece50d40fa2", func := "caret/caretkeep.Signed", spec := "signed", inPlace := ["internal/reflectlite.ValueOf", "(internal/reflectlite.Value).Type", "(internal/reflectlite.Value).IsNil", "internal/reflectlite.TypeOf", "(internal/reflectlite.Value).Elem", "(internal/reflectlite.Value).Set"], unfollowed := true, recurses := true, named := ["caret/setups.errCount", "caret/setups.errRange", "caret/runes.kinds", "caret/setups.errPlace", "caret/setups.errRising", "caret/runes.lowClasses", "caret/runes.highClasses", "errors.errorType"], apart := false, laid := [("errors.errorType", laid_errors_errorType), ("caret/runes.lowClasses", laid_caret_runes_lowClasses), ("caret/runes.highClasses", laid_caret_runes_highClasses), ("caret/runes.kinds", laid_caret_runes_kinds), ("caret/setups.errCount", laid_caret_setups_errCount), ("caret/setups.errRange", laid_caret_setups_errRange), ("caret/setups.errPlace", laid_caret_setups_errPlace), ("caret/setups.errRising", laid_caret_setups_errRising)] }
def SignedSaid : Prop := signedRow.holds Tryz.pinned (OpenSpec.ofChange signedSpec)

/-- ITS FALSE NEIGHBOUR: 'it returns false'. Refute it at one input. -/
def signedWrong : ChangeSpec := { name := "signed", fn := fun _ => fun
  | [d1, d2, d3] => { results := [.lit (.bool false)], args := [d1, d2, d3] }
  | _ => none }
def SignedWrongFalsely : Prop := signedRow.holds Tryz.pinned (OpenSpec.ofChange signedWrong)

/-- 'caretkeep.Drags': WHATEVER THE INPUT: true; the input reads as it did. -/
def dragsSpec : ChangeSpec := { name := "drags", fn := fun _ => fun
  | [d1, d2] => { results := [.lit (.bool true)], args := [d1, d2] }
  | _ => none }
def dragsRow : OpenClaim := { program := "ytnakejhohdbfdabgreatdoor", sum := "e4c3a5b99c1a02850d3319deab0be76b76949feec5401e6c32d0dece50d40fa2", func := "caret/caretkeep.Drags", spec := "drags", inPlace := ["internal/reflectlite.ValueOf", "(internal/reflectlite.Value).Type", "(internal/reflectlite.Value).IsNil", "internal/reflectlite.TypeOf", "(internal/reflectlite.Value).Elem", "(internal/reflectlite.Value).Set"], unfollowed := true, recurses := true, named := ["caret/setups.errCount", "caret/setups.errRange", "caret/runes.kinds", "caret/setups.errPlace", "caret/setups.errRising", "caret/runes.lowClasses", "caret/runes.highClasses", "errors.errorType"], apart := false, laid := [("errors.errorType", laid_errors_errorType), ("caret/runes.lowClasses", laid_caret_runes_lowClasses), ("caret/runes.highClasses", laid_caret_runes_highClasses), ("caret/runes.kinds", laid_caret_runes_kinds), ("caret/setups.errCount", laid_caret_setups_errCount), ("caret/setups.errRange", laid_caret_setups_errRange), ("caret/setups.errPlace", laid_caret_setups_errPlace), ("caret/setups.errRising", laid_caret_setups_errRising)] }
def DragsSaid : Prop := dragsRow.holds Tryz.pinned (OpenSpec.ofChange dragsSpec)

/-- ITS FALSE NEIGHBOUR: 'it returns false'. Refute it at one input. -/
def dragsWrong : ChangeSpec := { name := "drags", fn := fun _ => fun
  | [d1, d2] => { results := [.lit (.bool false)], args := [d1, d2] }
  | _ => none }
def DragsWrongFalsely : Prop := dragsRow.holds Tryz.pinned (OpenSpec.ofChange dragsWrong)

/- THE SECOND FORM. 'bulk': how many values and letters a reading holds, each counted each time it is reached (what is shared counts as often as it is met; a slice's spare places count too). A statement '..UptoSaid' is the law's where the arguments, and the package variables that the reading takes, are together of bulk at most 1048576: NARROWER than '..Said'. Prove '..Said' where nothing that the law and all that it calls make is longer than what came in: it says more and counts as full. Else prove '..UptoSaid'. A law counts once. -/
mutual
def uptoBulk {H : Type} : DataW H → Nat
  | .lit (.string bytes) => bytes.length + 1
  | .lit _ => 1
  | .nil => 1
  | .ptr d => uptoBulk d + 1
  | .slice elems spare => uptoBulkAll elems + uptoBulkAll spare + 1
  | .agg parts => uptoBulkAll parts + 1
  | .iface _ d => uptoBulk d + 1
  | .map entries => uptoBulkEntries entries + 1
  | .held _ => 1
def uptoBulkAll {H : Type} : List (DataW H) → Nat
  | [] => 0
  | d :: r => uptoBulk d + uptoBulkAll r
def uptoBulkEntries {H : Type} : List (Lit × DataW H) → Nat
  | [] => 0
  | x :: r => uptoBulkEntry x + uptoBulkEntries r
def uptoBulkEntry {H : Type} : Lit × DataW H → Nat
  | (.string bytes, d) => bytes.length + uptoBulk d + 1
  | (_, d) => uptoBulk d + 1
 end
def uptoSmall : (H : Type) → List (DataW H) → Bool := fun _ ds => decide (uptoBulkAll ds ≤ 1048576)
def OpenSpec.upto (s : _root_.Go.ChangeSpec) : _root_.Go.OpenSpec := { _root_.Go.OpenSpec.ofChange s with cond := some uptoSmall }

/-- 'caretlaw.Documents', WHERE WHAT IT READS IS OF BULK AT MOST 1048576: true; the input reads as it did. -/
def documentsUptoRow : OpenClaim := { program := "ytnakejhohdbfdabgreatdoor", sum := "e4c3a5b99c1a02850d3319deab0be76b76949feec5401e6c32d0dece50d40fa2", func := "caret/caretlaw.Documents", spec := "documents", inPlace := ["internal/abi.NoEscape", "internal/reflectlite.ValueOf", "(internal/reflectlite.Value).Type", "(internal/reflectlite.Value).IsNil", "internal/reflectlite.TypeOf", "(internal/reflectlite.Value).Elem", "(internal/reflectlite.Value).Set"], unfollowed := true, recurses := true, named := ["caret/runes.lowClasses", "caret/runes.highClasses", "caret/setups.errRange", "caret/runes.kinds", "unicode/utf8.first", "unicode/utf8.acceptRanges", "errors.errorType"], apart := false, laid := [("unicode/utf8.acceptRanges", laid_unicode_utf8_acceptRanges), ("errors.errorType", laid_errors_errorType), ("caret/runes.lowClasses", laid_caret_runes_lowClasses), ("caret/runes.highClasses", laid_caret_runes_highClasses), ("caret/runes.kinds", laid_caret_runes_kinds), ("caret/setups.errRange", laid_caret_setups_errRange), ("unicode/utf8.first", laid_unicode_utf8_first)], narrowed := true }
def DocumentsUptoSaid : Prop := documentsUptoRow.holds Tryz.pinned (OpenSpec.upto documentsSpec)

/-- 'caretlaw.All', WHERE WHAT IT READS IS OF BULK AT MOST 1048576: true; the input reads as it did. -/
def allUptoRow : OpenClaim := { program := "ytnakejhohdbfdabgreatdoor", sum := "e4c3a5b99c1a02850d3319deab0be76b76949feec5401e6c32d0dece50d40fa2", func := "caret/caretlaw.All", spec := "all", inPlace := ["internal/reflectlite.ValueOf", "(internal/reflectlite.Value).Type", "(internal/reflectlite.Value).IsNil", "internal/reflectlite.TypeOf", "(internal/reflectlite.Value).Elem", "(internal/reflectlite.Value).Set"], unfollowed := true, recurses := true, named := ["unicode/utf8.first", "unicode/utf8.acceptRanges", "caret/runes.lowClasses", "caret/runes.highClasses", "caret/runes.kinds", "errors.errorType", "caret/setups.errCount", "caret/setups.errRange", "caret/setups.errPlace", "caret/setups.errRising"], apart := false, laid := [("unicode/utf8.acceptRanges", laid_unicode_utf8_acceptRanges), ("errors.errorType", laid_errors_errorType), ("caret/runes.lowClasses", laid_caret_runes_lowClasses), ("caret/runes.highClasses", laid_caret_runes_highClasses), ("caret/runes.kinds", laid_caret_runes_kinds), ("caret/setups.errCount", laid_caret_setups_errCount), ("caret/setups.errRange", laid_caret_setups_errRange), ("caret/setups.errPlace", laid_caret_setups_errPlace), ("caret/setups.errRising", laid_caret_setups_errRising), ("unicode/utf8.first", laid_unicode_utf8_first)], narrowed := true }
def AllUptoSaid : Prop := allUptoRow.holds Tryz.pinned (OpenSpec.upto allSpec)

/-- 'caretkeep.Whole', WHERE WHAT IT READS IS OF BULK AT MOST 1048576: true; the input reads as it did. -/
def wholeUptoRow : OpenClaim := { program := "ytnakejhohdbfdabgreatdoor", sum := "e4c3a5b99c1a02850d3319deab0be76b76949feec5401e6c32d0dece50d40fa2", func := "caret/caretkeep.Whole", spec := "whole", inPlace := ["internal/reflectlite.ValueOf", "(internal/reflectlite.Value).Type", "(internal/reflectlite.Value).IsNil", "internal/reflectlite.TypeOf", "(internal/reflectlite.Value).Elem", "(internal/reflectlite.Value).Set"], unfollowed := true, recurses := true, named := ["caret/setups.errCount", "caret/setups.errRange", "caret/runes.kinds", "caret/setups.errPlace", "caret/setups.errRising", "caret/runes.lowClasses", "caret/runes.highClasses", "errors.errorType"], apart := false, laid := [("errors.errorType", laid_errors_errorType), ("caret/runes.lowClasses", laid_caret_runes_lowClasses), ("caret/runes.highClasses", laid_caret_runes_highClasses), ("caret/runes.kinds", laid_caret_runes_kinds), ("caret/setups.errCount", laid_caret_setups_errCount), ("caret/setups.errRange", laid_caret_setups_errRange), ("caret/setups.errPlace", laid_caret_setups_errPlace), ("caret/setups.errRising", laid_caret_setups_errRising)], narrowed := true }
def WholeUptoSaid : Prop := wholeUptoRow.holds Tryz.pinned (OpenSpec.upto wholeSpec)

/-- 'caretkeep.Walks', WHERE WHAT IT READS IS OF BULK AT MOST 1048576: true; the input reads as it did. -/
def walksUptoRow : OpenClaim := { program := "ytnakejhohdbfdabgreatdoor", sum := "e4c3a5b99c1a02850d3319deab0be76b76949feec5401e6c32d0dece50d40fa2", func := "caret/caretkeep.Walks", spec := "walks", inPlace := ["internal/reflectlite.ValueOf", "(internal/reflectlite.Value).Type", "(internal/reflectlite.Value).IsNil", "internal/reflectlite.TypeOf", "(internal/reflectlite.Value).Elem", "(internal/reflectlite.Value).Set"], unfollowed := true, recurses := true, named := ["caret/setups.errCount", "caret/setups.errRange", "caret/runes.kinds", "caret/setups.errPlace", "caret/setups.errRising", "caret/runes.lowClasses", "caret/runes.highClasses", "errors.errorType"], apart := false, laid := [("errors.errorType", laid_errors_errorType), ("caret/runes.lowClasses", laid_caret_runes_lowClasses), ("caret/runes.highClasses", laid_caret_runes_highClasses), ("caret/runes.kinds", laid_caret_runes_kinds), ("caret/setups.errCount", laid_caret_setups_errCount), ("caret/setups.errRange", laid_caret_setups_errRange), ("caret/setups.errPlace", laid_caret_setups_errPlace), ("caret/setups.errRising", laid_caret_setups_errRising)], narrowed := true }
def WalksUptoSaid : Prop := walksUptoRow.holds Tryz.pinned (OpenSpec.upto walksSpec)

/-- 'caretkeep.Steps', WHERE WHAT IT READS IS OF BULK AT MOST 1048576: true; the input reads as it did. -/
def stepsUptoRow : OpenClaim := { program := "ytnakejhohdbfdabgreatdoor", sum := "e4c3a5b99c1a02850d3319deab0be76b76949feec5401e6c32d0dece50d40fa2", func := "caret/caretkeep.Steps", spec := "steps", inPlace := ["internal/reflectlite.ValueOf", "(internal/reflectlite.Value).Type", "(internal/reflectlite.Value).IsNil", "internal/reflectlite.TypeOf", "(internal/reflectlite.Value).Elem", "(internal/reflectlite.Value).Set"], unfollowed := true, recurses := true, named := ["caret/setups.errCount", "caret/setups.errRange", "caret/runes.kinds", "caret/setups.errPlace", "caret/setups.errRising", "caret/runes.lowClasses", "caret/runes.highClasses", "errors.errorType"], apart := false, laid := [("errors.errorType", laid_errors_errorType), ("caret/runes.lowClasses", laid_caret_runes_lowClasses), ("caret/runes.highClasses", laid_caret_runes_highClasses), ("caret/runes.kinds", laid_caret_runes_kinds), ("caret/setups.errCount", laid_caret_setups_errCount), ("caret/setups.errRange", laid_caret_setups_errRange), ("caret/setups.errPlace", laid_caret_setups_errPlace), ("caret/setups.errRising", laid_caret_setups_errRising)], narrowed := true }
def StepsUptoSaid : Prop := stepsUptoRow.holds Tryz.pinned (OpenSpec.upto stepsSpec)

/-- 'caretkeep.Points', WHERE WHAT IT READS IS OF BULK AT MOST 1048576: true; the input reads as it did. -/
def pointsUptoRow : OpenClaim := { program := "ytnakejhohdbfdabgreatdoor", sum := "e4c3a5b99c1a02850d3319deab0be76b76949feec5401e6c32d0dece50d40fa2", func := "caret/caretkeep.Points", spec := "points", inPlace := ["internal/reflectlite.ValueOf", "(internal/reflectlite.Value).Type", "(internal/reflectlite.Value).IsNil", "internal/reflectlite.TypeOf", "(internal/reflectlite.Value).Elem", "(internal/reflectlite.Value).Set"], unfollowed := true, recurses := true, named := ["caret/setups.errCount", "caret/setups.errRange", "caret/runes.kinds", "caret/setups.errPlace", "caret/setups.errRising", "caret/runes.lowClasses", "caret/runes.highClasses", "errors.errorType"], apart := false, laid := [("errors.errorType", laid_errors_errorType), ("caret/runes.lowClasses", laid_caret_runes_lowClasses), ("caret/runes.highClasses", laid_caret_runes_highClasses), ("caret/runes.kinds", laid_caret_runes_kinds), ("caret/setups.errCount", laid_caret_setups_errCount), ("caret/setups.errRange", laid_caret_setups_errRange), ("caret/setups.errPlace", laid_caret_setups_errPlace), ("caret/setups.errRising", laid_caret_setups_errRising)], narrowed := true }
def PointsUptoSaid : Prop := pointsUptoRow.holds Tryz.pinned (OpenSpec.upto pointsSpec)

/-- 'caretkeep.Covers', WHERE WHAT IT READS IS OF BULK AT MOST 1048576: true; the input reads as it did. -/
def coversUptoRow : OpenClaim := { program := "ytnakejhohdbfdabgreatdoor", sum := "e4c3a5b99c1a02850d3319deab0be76b76949feec5401e6c32d0dece50d40fa2", func := "caret/caretkeep.Covers", spec := "covers", inPlace := ["internal/reflectlite.ValueOf", "(internal/reflectlite.Value).Type", "(internal/reflectlite.Value).IsNil", "internal/reflectlite.TypeOf", "(internal/reflectlite.Value).Elem", "(internal/reflectlite.Value).Set"], unfollowed := true, recurses := true, named := ["caret/setups.errCount", "caret/setups.errRange", "caret/runes.kinds", "caret/setups.errPlace", "caret/setups.errRising", "caret/runes.lowClasses", "caret/runes.highClasses", "errors.errorType"], apart := false, laid := [("errors.errorType", laid_errors_errorType), ("caret/runes.lowClasses", laid_caret_runes_lowClasses), ("caret/runes.highClasses", laid_caret_runes_highClasses), ("caret/runes.kinds", laid_caret_runes_kinds), ("caret/setups.errCount", laid_caret_setups_errCount), ("caret/setups.errRange", laid_caret_setups_errRange), ("caret/setups.errPlace", laid_caret_setups_errPlace), ("caret/setups.errRising", laid_caret_setups_errRising)], narrowed := true }
def CoversUptoSaid : Prop := coversUptoRow.holds Tryz.pinned (OpenSpec.upto coversSpec)

/-- 'caretkeep.Twins', WHERE WHAT IT READS IS OF BULK AT MOST 1048576: true; the input reads as it did. -/
def twinsUptoRow : OpenClaim := { program := "ytnakejhohdbfdabgreatdoor", sum := "e4c3a5b99c1a02850d3319deab0be76b76949feec5401e6c32d0dece50d40fa2", func := "caret/caretkeep.Twins", spec := "twins", inPlace := ["internal/reflectlite.ValueOf", "(internal/reflectlite.Value).Type", "(internal/reflectlite.Value).IsNil", "internal/reflectlite.TypeOf", "(internal/reflectlite.Value).Elem", "(internal/reflectlite.Value).Set"], unfollowed := true, recurses := true, named := ["caret/setups.errCount", "caret/setups.errRange", "caret/runes.kinds", "caret/setups.errPlace", "caret/setups.errRising", "caret/runes.lowClasses", "caret/runes.highClasses", "errors.errorType"], apart := false, laid := [("errors.errorType", laid_errors_errorType), ("caret/runes.lowClasses", laid_caret_runes_lowClasses), ("caret/runes.highClasses", laid_caret_runes_highClasses), ("caret/runes.kinds", laid_caret_runes_kinds), ("caret/setups.errCount", laid_caret_setups_errCount), ("caret/setups.errRange", laid_caret_setups_errRange), ("caret/setups.errPlace", laid_caret_setups_errPlace), ("caret/setups.errRising", laid_caret_setups_errRising)], narrowed := true }
def TwinsUptoSaid : Prop := twinsUptoRow.holds Tryz.pinned (OpenSpec.upto twinsSpec)

/-- 'caretkeep.Plainly', WHERE WHAT IT READS IS OF BULK AT MOST 1048576: true; the input reads as it did. -/
def plainlyUptoRow : OpenClaim := { program := "ytnakejhohdbfdabgreatdoor", sum := "e4c3a5b99c1a02850d3319deab0be76b76949feec5401e6c32d0dece50d40fa2", func := "caret/caretkeep.Plainly", spec := "plainly", inPlace := ["internal/reflectlite.ValueOf", "(internal/reflectlite.Value).Type", "(internal/reflectlite.Value).IsNil", "internal/reflectlite.TypeOf", "(internal/reflectlite.Value).Elem", "(internal/reflectlite.Value).Set"], unfollowed := true, recurses := true, named := ["caret/setups.errCount", "caret/setups.errRange", "caret/runes.kinds", "caret/setups.errPlace", "caret/setups.errRising", "caret/runes.lowClasses", "caret/runes.highClasses", "errors.errorType"], apart := false, laid := [("errors.errorType", laid_errors_errorType), ("caret/runes.lowClasses", laid_caret_runes_lowClasses), ("caret/runes.highClasses", laid_caret_runes_highClasses), ("caret/runes.kinds", laid_caret_runes_kinds), ("caret/setups.errCount", laid_caret_setups_errCount), ("caret/setups.errRange", laid_caret_setups_errRange), ("caret/setups.errPlace", laid_caret_setups_errPlace), ("caret/setups.errRising", laid_caret_setups_errRising)], narrowed := true }
def PlainlyUptoSaid : Prop := plainlyUptoRow.holds Tryz.pinned (OpenSpec.upto plainlySpec)

/-- 'caretkeep.Signed', WHERE WHAT IT READS IS OF BULK AT MOST 1048576: true; the input reads as it did. -/
def signedUptoRow : OpenClaim := { program := "ytnakejhohdbfdabgreatdoor", sum := "e4c3a5b99c1a02850d3319deab0be76b76949feec5401e6c32d0dece50d40fa2", func := "caret/caretkeep.Signed", spec := "signed", inPlace := ["internal/reflectlite.ValueOf", "(internal/reflectlite.Value).Type", "(internal/reflectlite.Value).IsNil", "internal/reflectlite.TypeOf", "(internal/reflectlite.Value).Elem", "(internal/reflectlite.Value).Set"], unfollowed := true, recurses := true, named := ["caret/setups.errCount", "caret/setups.errRange", "caret/runes.kinds", "caret/setups.errPlace", "caret/setups.errRising", "caret/runes.lowClasses", "caret/runes.highClasses", "errors.errorType"], apart := false, laid := [("errors.errorType", laid_errors_errorType), ("caret/runes.lowClasses", laid_caret_runes_lowClasses), ("caret/runes.highClasses", laid_caret_runes_highClasses), ("caret/runes.kinds", laid_caret_runes_kinds), ("caret/setups.errCount", laid_caret_setups_errCount), ("caret/setups.errRange", laid_caret_setups_errRange), ("caret/setups.errPlace", laid_caret_setups_errPlace), ("caret/setups.errRising", laid_caret_setups_errRising)], narrowed := true }
def SignedUptoSaid : Prop := signedUptoRow.holds Tryz.pinned (OpenSpec.upto signedSpec)

/-- 'caretkeep.Drags', WHERE WHAT IT READS IS OF BULK AT MOST 1048576: true; the input reads as it did. -/
def dragsUptoRow : OpenClaim := { program := "ytnakejhohdbfdabgreatdoor", sum := "e4c3a5b99c1a02850d3319deab0be76b76949feec5401e6c32d0dece50d40fa2", func := "caret/caretkeep.Drags", spec := "drags", inPlace := ["internal/reflectlite.ValueOf", "(internal/reflectlite.Value).Type", "(internal/reflectlite.Value).IsNil", "internal/reflectlite.TypeOf", "(internal/reflectlite.Value).Elem", "(internal/reflectlite.Value).Set"], unfollowed := true, recurses := true, named := ["caret/setups.errCount", "caret/setups.errRange", "caret/runes.kinds", "caret/setups.errPlace", "caret/setups.errRising", "caret/runes.lowClasses", "caret/runes.highClasses", "errors.errorType"], apart := false, laid := [("errors.errorType", laid_errors_errorType), ("caret/runes.lowClasses", laid_caret_runes_lowClasses), ("caret/runes.highClasses", laid_caret_runes_highClasses), ("caret/runes.kinds", laid_caret_runes_kinds), ("caret/setups.errCount", laid_caret_setups_errCount), ("caret/setups.errRange", laid_caret_setups_errRange), ("caret/setups.errPlace", laid_caret_setups_errPlace), ("caret/setups.errRising", laid_caret_setups_errRising)], narrowed := true }
def DragsUptoSaid : Prop := dragsUptoRow.holds Tryz.pinned (OpenSpec.upto dragsSpec)

end Rows
end Go.Proofs.YtnakejhohdbfdabGreatDoor
