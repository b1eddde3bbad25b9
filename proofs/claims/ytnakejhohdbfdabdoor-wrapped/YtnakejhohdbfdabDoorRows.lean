/-
  NARROWER THAN 'FOR EVERY INPUT', by the rows' own cells (each row's printed sentence says how): Wrapped: laid.
  DERIVED. THE GIVEN ROWS OF THIS SEAT. 1 by the template 'for every input the law returns true; each argument reads behind the call as it read before'; 0 by the template 'total and deterministic' (their statements: YtnakejhohdbfdabDoorTotals.lean).
  GIVEN WITH THE SEED: the statements are not yours to turn. If you find one false, say at which input.
  Laid BY PROGRAM, IN A SANDBOX (cutbox-rows.mjs): the forced cells as the released guide's own fill.sh prints them over the translation 16ac0709d41b08bc… (all of the seat's roots in one cut). By AI agents, Wed Nov 11 2026. No macro, syntax, notation, axiom, sorry.
-/
import Derived.Test.YtnakejhohdbfdabDoorChecked
import GoSem.PinnedTables
import GoSem.Claim
import GoSem.ClaimJoined
import GoSem.ClaimMapViews
import Derived.JoinedTies
import Derived.KernelRfl
namespace Go.Proofs.YtnakejhohdbfdabDoor
/- THE CELL 'sum', in the pinned program and in every row, IS THE sha256 OF THE DUMP (.gsa) THAT YtnakejhohdbfdabDoorProg.lean LOADS. Nothing in Lean hashes anything: it is a label: what it is worth is what the hold of that sum in a sandbox is worth. -/
noncomputable def Tryd.pinned : Pinned := { name := "ytnakejhohdbfdabdoor", sum := "16ac0709d41b08bc786888746683ad235e79d7bf4b3dabf5ea79076934ae7f67", checked := Tryd.checked }
namespace Rows
def none {H : Type} : Left H := { results := [], args := [] }

/- WHAT THE LISTED PACKAGE-LEVEL VARIABLES READ AS WHEN THE CALL BEGINS. Each datum BY PROGRAM (the guide's laid-datum.mjs) off the statement by which the dump's own 'gosem.cut.vars' lays the variable. In a bare row this is a premise. The card (YtnakejhohdbfdabDoorCards.lean) ties it to the program's text. -/
def laid_unicode_utf8_acceptRanges {H : Type} : DataW H := .agg [.agg [.lit (.int .u8 128), .lit (.int .u8 191)], .agg [.lit (.int .u8 160), .lit (.int .u8 191)], .agg [.lit (.int .u8 128), .lit (.int .u8 159)], .agg [.lit (.int .u8 144), .lit (.int .u8 191)], .agg [.lit (.int .u8 128), .lit (.int .u8 143)], .agg [.lit (.int .u8 0), .lit (.int .u8 0)], .agg [.lit (.int .u8 0), .lit (.int .u8 0)], .agg [.lit (.int .u8 0), .lit (.int .u8 0)], .agg [.lit (.int .u8 0), .lit (.int .u8 0)], .agg [.lit (.int .u8 0), .lit (.int .u8 0)], .agg [.lit (.int .u8 0), .lit (.int .u8 0)], .agg [.lit (.int .u8 0), .lit (.int .u8 0)], .agg [.lit (.int .u8 0), .lit (.int .u8 0)], .agg [.lit (.int .u8 0), .lit (.int .u8 0)], .agg [.lit (.int .u8 0), .lit (.int .u8 0)], .agg [.lit (.int .u8 0), .lit (.int .u8 0)]]
def laid_caret_runes_lowClasses {H : Type} : DataW H := .agg [.agg [.lit (.int .i32 0), .lit (.int .i32 8), .lit (.int .i64 9)], .agg [.lit (.int .i32 9), .lit (.int .i32 9), .lit (.int .i64 11)], .agg [.lit (.int .i32 10), .lit (.int .i32 10), .lit (.int .i64 10)], .agg [.lit (.int .i32 11), .lit (.int .i32 11), .lit (.int .i64 11)], .agg [.lit (.int .i32 12), .lit (.int .i32 12), .lit (.int .i64 12)], .agg [.lit (.int .i32 13), .lit (.int .i32 13), .lit (.int .i64 10)], .agg [.lit (.int .i32 14), .lit (.int .i32 27), .lit (.int .i64 9)], .agg [.lit (.int .i32 28), .lit (.int .i32 30), .lit (.int .i64 10)], .agg [.lit (.int .i32 31), .lit (.int .i32 31), .lit (.int .i64 11)], .agg [.lit (.int .i32 32), .lit (.int .i32 32), .lit (.int .i64 12)], .agg [.lit (.int .i32 33), .lit (.int .i32 34), .lit (.int .i64 13)], .agg [.lit (.int .i32 35), .lit (.int .i32 37), .lit (.int .i64 5)], .agg [.lit (.int .i32 38), .lit (.int .i32 42), .lit (.int .i64 13)], .agg [.lit (.int .i32 43), .lit (.int .i32 43), .lit (.int .i64 4)], .agg [.lit (.int .i32 44), .lit (.int .i32 44), .lit (.int .i64 7)], .agg [.lit (.int .i32 45), .lit (.int .i32 45), .lit (.int .i64 4)], .agg [.lit (.int .i32 46), .lit (.int .i32 47), .lit (.int .i64 7)], .agg [.lit (.int .i32 48), .lit (.int .i32 57), .lit (.int .i64 3)], .agg [.lit (.int .i32 58), .lit (.int .i32 58), .lit (.int .i64 7)], .agg [.lit (.int .i32 59), .lit (.int .i32 64), .lit (.int .i64 13)], .agg [.lit (.int .i32 91), .lit (.int .i32 96), .lit (.int .i64 13)], .agg [.lit (.int .i32 123), .lit (.int .i32 126), .lit (.int .i64 13)], .agg [.lit (.int .i32 127), .lit (.int .i32 132), .lit (.int .i64 9)], .agg [.lit (.int .i32 133), .lit (.int .i32 133), .lit (.int .i64 10)], .agg [.lit (.int .i32 134), .lit (.int .i32 159), .lit (.int .i64 9)], .agg [.lit (.int .i32 160), .lit (.int .i32 160), .lit (.int .i64 7)], .agg [.lit (.int .i32 161), .lit (.int .i32 161), .lit (.int .i64 13)], .agg [.lit (.int .i32 162), .lit (.int .i32 165), .lit (.int .i64 5)], .agg [.lit (.int .i32 166), .lit (.int .i32 169), .lit (.int .i64 13)], .agg [.lit (.int .i32 171), .lit (.int .i32 172), .lit (.int .i64 13)], .agg [.lit (.int .i32 173), .lit (.int .i32 173), .lit (.int .i64 9)], .agg [.lit (.int .i32 174), .lit (.int .i32 175), .lit (.int .i64 13)], .agg [.lit (.int .i32 176), .lit (.int .i32 177), .lit (.int .i64 5)], .agg [.lit (.int .i32 178), .lit (.int .i32 179), .lit (.int .i64 3)], .agg [.lit (.int .i32 180), .lit (.int .i32 180), .lit (.int .i64 13)]]
def laid_caret_runes_highClasses {H : Type} : DataW H := .agg [.agg [.lit (.int .i32 768), .lit (.int .i32 879), .lit (.int .i64 8)], .agg [.lit (.int .i32 1425), .lit (.int .i32 1469), .lit (.int .i64 8)], .agg [.lit (.int .i32 1470), .lit (.int .i32 1470), .lit (.int .i64 1)], .agg [.lit (.int .i32 1488), .lit (.int .i32 1514), .lit (.int .i64 1)], .agg [.lit (.int .i32 1536), .lit (.int .i32 1541), .lit (.int .i64 6)], .agg [.lit (.int .i32 1544), .lit (.int .i32 1544), .lit (.int .i64 2)], .agg [.lit (.int .i32 1548), .lit (.int .i32 1548), .lit (.int .i64 7)], .agg [.lit (.int .i32 1564), .lit (.int .i32 1564), .lit (.int .i64 2)], .agg [.lit (.int .i32 1568), .lit (.int .i32 1610), .lit (.int .i64 2)], .agg [.lit (.int .i32 1611), .lit (.int .i32 1631), .lit (.int .i64 8)], .agg [.lit (.int .i32 1632), .lit (.int .i32 1641), .lit (.int .i64 6)], .agg [.lit (.int .i32 1642), .lit (.int .i32 1642), .lit (.int .i64 5)], .agg [.lit (.int .i32 1643), .lit (.int .i32 1644), .lit (.int .i64 6)], .agg [.lit (.int .i32 1645), .lit (.int .i32 1647), .lit (.int .i64 2)], .agg [.lit (.int .i32 1648), .lit (.int .i32 1648), .lit (.int .i64 8)], .agg [.lit (.int .i32 1649), .lit (.int .i32 1747), .lit (.int .i64 2)], .agg [.lit (.int .i32 1776), .lit (.int .i32 1785), .lit (.int .i64 3)], .agg [.lit (.int .i32 8203), .lit (.int .i32 8205), .lit (.int .i64 9)], .agg [.lit (.int .i32 8207), .lit (.int .i32 8207), .lit (.int .i64 1)], .agg [.lit (.int .i32 8232), .lit (.int .i32 8232), .lit (.int .i64 12)], .agg [.lit (.int .i32 8233), .lit (.int .i32 8233), .lit (.int .i64 10)], .agg [.lit (.int .i32 8239), .lit (.int .i32 8239), .lit (.int .i64 7)], .agg [.lit (.int .i32 8260), .lit (.int .i32 8260), .lit (.int .i64 7)], .agg [.lit (.int .i32 8352), .lit (.int .i32 8383), .lit (.int .i64 5)], .agg [.lit (.int .i32 8592), .lit (.int .i32 8595), .lit (.int .i64 13)], .agg [.lit (.int .i32 9728), .lit (.int .i32 10175), .lit (.int .i64 13)], .agg [.lit (.int .i32 12296), .lit (.int .i32 12299), .lit (.int .i64 13)], .agg [.lit (.int .i32 65024), .lit (.int .i32 65039), .lit (.int .i64 8)], .agg [.lit (.int .i32 65279), .lit (.int .i32 65279), .lit (.int .i64 9)], .agg [.lit (.int .i32 65533), .lit (.int .i32 65533), .lit (.int .i64 13)], .agg [.lit (.int .i32 127744), .lit (.int .i32 129535), .lit (.int .i64 13)]]
def laid_caret_runes_kinds {H : Type} : DataW H := .agg [.agg [.lit (.int .i32 0), .lit (.int .i32 9), .lit (.int .i64 3)], .agg [.lit (.int .i32 10), .lit (.int .i32 10), .lit (.int .i64 2)], .agg [.lit (.int .i32 11), .lit (.int .i32 12), .lit (.int .i64 3)], .agg [.lit (.int .i32 13), .lit (.int .i32 13), .lit (.int .i64 1)], .agg [.lit (.int .i32 14), .lit (.int .i32 31), .lit (.int .i64 3)], .agg [.lit (.int .i32 127), .lit (.int .i32 159), .lit (.int .i64 3)], .agg [.lit (.int .i32 169), .lit (.int .i32 169), .lit (.int .i64 14)], .agg [.lit (.int .i32 173), .lit (.int .i32 173), .lit (.int .i64 3)], .agg [.lit (.int .i32 174), .lit (.int .i32 174), .lit (.int .i64 14)], .agg [.lit (.int .i32 768), .lit (.int .i32 879), .lit (.int .i64 4)], .agg [.lit (.int .i32 1425), .lit (.int .i32 1469), .lit (.int .i64 4)], .agg [.lit (.int .i32 1536), .lit (.int .i32 1541), .lit (.int .i64 7)], .agg [.lit (.int .i32 1564), .lit (.int .i32 1564), .lit (.int .i64 3)], .agg [.lit (.int .i32 1611), .lit (.int .i32 1631), .lit (.int .i64 4)], .agg [.lit (.int .i32 1648), .lit (.int .i32 1648), .lit (.int .i64 4)], .agg [.lit (.int .i32 2307), .lit (.int .i32 2307), .lit (.int .i64 8)], .agg [.lit (.int .i32 2366), .lit (.int .i32 2368), .lit (.int .i64 8)], .agg [.lit (.int .i32 4352), .lit (.int .i32 4447), .lit (.int .i64 9)], .agg [.lit (.int .i32 4448), .lit (.int .i32 4519), .lit (.int .i64 10)], .agg [.lit (.int .i32 4520), .lit (.int .i32 4607), .lit (.int .i64 11)], .agg [.lit (.int .i32 8203), .lit (.int .i32 8203), .lit (.int .i64 3)], .agg [.lit (.int .i32 8204), .lit (.int .i32 8204), .lit (.int .i64 4)], .agg [.lit (.int .i32 8205), .lit (.int .i32 8205), .lit (.int .i64 5)], .agg [.lit (.int .i32 8206), .lit (.int .i32 8207), .lit (.int .i64 3)], .agg [.lit (.int .i32 8232), .lit (.int .i32 8238), .lit (.int .i64 3)], .agg [.lit (.int .i32 8294), .lit (.int .i32 8297), .lit (.int .i64 3)], .agg [.lit (.int .i32 9728), .lit (.int .i32 10175), .lit (.int .i64 14)], .agg [.lit (.int .i32 65024), .lit (.int .i32 65039), .lit (.int .i64 4)], .agg [.lit (.int .i32 65279), .lit (.int .i32 65279), .lit (.int .i64 3)], .agg [.lit (.int .i32 127462), .lit (.int .i32 127487), .lit (.int .i64 6)], .agg [.lit (.int .i32 127744), .lit (.int .i32 127994), .lit (.int .i64 14)], .agg [.lit (.int .i32 127995), .lit (.int .i32 127999), .lit (.int .i64 4)], .agg [.lit (.int .i32 128000), .lit (.int .i32 129535), .lit (.int .i64 14)]]
/-- One of Go's own tables, pinned by name: the form's constant. -/
def laid_unicode_utf8_first : DataW Unit := Go.Pinned.utf8First

/-- 'caretlaw.Wrapped': WHATEVER THE INPUT: true; the input reads as it did. -/
def wrappedSpec : ChangeSpec := { name := "wrapped", fn := fun _ => fun
  | [d1, d2, d3] => { results := [.lit (.bool true)], args := [d1, d2, d3] }
  | _ => none }
def wrappedRow : OpenClaim := { program := "ytnakejhohdbfdabdoor", sum := "16ac0709d41b08bc786888746683ad235e79d7bf4b3dabf5ea79076934ae7f67", func := "caret/caretlaw.Wrapped", spec := "wrapped", unfollowed := true, recurses := true, named := ["caret/runes.kinds", "unicode/utf8.first", "unicode/utf8.acceptRanges", "caret/runes.lowClasses", "caret/runes.highClasses"], apart := false, laid := [("unicode/utf8.acceptRanges", laid_unicode_utf8_acceptRanges), ("caret/runes.lowClasses", laid_caret_runes_lowClasses), ("caret/runes.highClasses", laid_caret_runes_highClasses), ("caret/runes.kinds", laid_caret_runes_kinds), ("unicode/utf8.first", laid_unicode_utf8_first)] }
def WrappedSaid : Prop := wrappedRow.holds Tryd.pinned (OpenSpec.ofChange wrappedSpec)

/-- ITS FALSE NEIGHBOUR: 'it returns false'. Refute it at one input. -/
def wrappedWrong : ChangeSpec := { name := "wrapped", fn := fun _ => fun
  | [d1, d2, d3] => { results := [.lit (.bool false)], args := [d1, d2, d3] }
  | _ => none }
def WrappedWrongFalsely : Prop := wrappedRow.holds Tryd.pinned (OpenSpec.ofChange wrappedWrong)

/- THE SECOND FORM. 'bulk': how many values and letters a reading holds, each counted each time it is reached (what is shared counts as often as it is met; a slice's spare places count too). A statement '..UptoSaid' is the law's where the arguments, and the package variables that the reading takes, are together of bulk at most 1048576: NARROWER than '..Said'. Prove '..Said' where nothing that the law and all that it calls make is longer than what came in: it says more and counts as full. Else prove '..UptoSaid'. A law counts once. -/
mutual
def uptoBulk {H : Type} : DataW H → Nat
  | .lit (.string bytes) => bytes.length + 1
  | .lit _ => 1
  | .nil => 1
  | .ptr d => uptoBulk d + 1
  | .slice elems spare => uptoBulkAll elems + uptoBulkAll spare + 1
  | .agg parts => uptoBulkAll parts + 1
  | .iface _ d => uptoBulk d + 1
  | .map entries => uptoBulkEntries entries + 1
  | .held _ => 1
def uptoBulkAll {H : Type} : List (DataW H) → Nat
  | [] => 0
  | d :: r => uptoBulk d + uptoBulkAll r
def uptoBulkEntries {H : Type} : List (Lit × DataW H) → Nat
  | [] => 0
  | x :: r => uptoBulkEntry x + uptoBulkEntries r
def uptoBulkEntry {H : Type} : Lit × DataW H → Nat
  | (.string bytes, d) => bytes.length + uptoBulk d + 1
  | (_, d) => uptoBulk d + 1
 end
def uptoSmall : (H : Type) → List (DataW H) → Bool := fun _ ds => decide (uptoBulkAll ds ≤ 1048576)
def OpenSpec.upto (s : _root_.Go.ChangeSpec) : _root_.Go.OpenSpec := { _root_.Go.OpenSpec.ofChange s with cond := some uptoSmall }

/-- 'caretlaw.Wrapped', WHERE WHAT IT READS IS OF BULK AT MOST 1048576: true; the input reads as it did. -/
def wrappedUptoRow : OpenClaim := { program := "ytnakejhohdbfdabdoor", sum := "16ac0709d41b08bc786888746683ad235e79d7bf4b3dabf5ea79076934ae7f67", func := "caret/caretlaw.Wrapped", spec := "wrapped", unfollowed := true, recurses := true, named := ["caret/runes.kinds", "unicode/utf8.first", "unicode/utf8.acceptRanges", "caret/runes.lowClasses", "caret/runes.highClasses"], apart := false, laid := [("unicode/utf8.acceptRanges", laid_unicode_utf8_acceptRanges), ("caret/runes.lowClasses", laid_caret_runes_lowClasses), ("caret/runes.highClasses", laid_caret_runes_highClasses), ("caret/runes.kinds", laid_caret_runes_kinds), ("unicode/utf8.first", laid_unicode_utf8_first)], narrowed := true }
def WrappedUptoSaid : Prop := wrappedUptoRow.holds Tryd.pinned (OpenSpec.upto wrappedSpec)

end Rows
end Go.Proofs.YtnakejhohdbfdabDoor
