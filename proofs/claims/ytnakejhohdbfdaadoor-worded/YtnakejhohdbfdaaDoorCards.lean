/-
  DERIVED. GIVEN WITH THE SEED: THE CARDS: each row of YtnakejhohdbfdaaDoorRows.lean that lists a variable, with what it lists TIED to the program's text (the seventh form; the later family's looks); each row that meets fmt, with fmt's text TOLD by the authors' own Lean function (tested against real Go, not proved from fmt's source: count such statements apart). THE CARD IS WHAT COUNTS. Prove the row's statement (the work); the ties are given (YtnakejhohdbfdaaDoorTie.lean); close each card by the builder's one call (the guide's Derived/Test/ToyasCard.lean, 'card_holds'). Laid BY PROGRAM, IN A SANDBOX (cutbox-door.mjs). By AI agents, Wed Nov 11 2026. No macro, syntax, notation, axiom, sorry.
-/
import Derived.Test.YtnakejhohdbfdaaDoorRows
import GoSem.ClaimSeven
namespace Go.Proofs.YtnakejhohdbfdaaDoor
namespace Rows

/-- THE TIED CARD OF 'caretlaw.Decodes'. -/
def decodesCard : Claim7 := { stood := { row := decodesRow, standIns := [], harness := (true, "6162a144d97950c9406980b6573d5b0e95e7853837008c503132e9af29908267"), looks := false }, kinds := [], alts := [], laidByText := true, laidKinds := [.data, .pinned], laidTests := true, laidLooks := .later }
def DecodesCardSaid : Prop := Claim7.holds Tryd.pinned (.plain (OpenSpec.ofChange decodesSpec)) decodesCard

/-- THE TIED CARD OF 'caretlaw.Known'. -/
def knownCard : Claim7 := { stood := { row := knownRow, standIns := [], harness := (true, "6162a144d97950c9406980b6573d5b0e95e7853837008c503132e9af29908267"), looks := false }, kinds := [], alts := [], laidByText := true, laidKinds := [.data, .data, .data], laidTests := true, laidLooks := .later }
def KnownCardSaid : Prop := Claim7.holds Tryd.pinned (.plain (OpenSpec.ofChange knownSpec)) knownCard

/-- THE TIED CARD OF 'caretlaw.Rows'. -/
def rowsCard : Claim7 := { stood := { row := rowsRow, standIns := [], harness := (true, "6162a144d97950c9406980b6573d5b0e95e7853837008c503132e9af29908267"), looks := false }, kinds := [], alts := [], laidByText := true, laidKinds := [.data, .data, .data], laidTests := true, laidLooks := .later }
def RowsCardSaid : Prop := Claim7.holds Tryd.pinned (.plain (OpenSpec.ofChange rowsSpec)) rowsCard

/-- THE TIED CARD OF 'caretlaw.Clustered'. -/
def clusteredCard : Claim7 := { stood := { row := clusteredRow, standIns := [], harness := (true, "6162a144d97950c9406980b6573d5b0e95e7853837008c503132e9af29908267"), looks := false }, kinds := [], alts := [], laidByText := true, laidKinds := [.data, .data, .pinned], laidTests := true, laidLooks := .later }
def ClusteredCardSaid : Prop := Claim7.holds Tryd.pinned (.plain (OpenSpec.ofChange clusteredSpec)) clusteredCard

/-- THE TIED CARD OF 'caretlaw.Worded'. -/
def wordedCard : Claim7 := { stood := { row := wordedRow, standIns := [], harness := (true, "6162a144d97950c9406980b6573d5b0e95e7853837008c503132e9af29908267"), looks := false }, kinds := [], alts := [], laidByText := true, laidKinds := [.data, .data, .data, .data, .pinned], laidTests := true, laidLooks := .later }
def WordedCardSaid : Prop := Claim7.holds Tryd.pinned (.plain (OpenSpec.ofChange wordedSpec)) wordedCard

/-- THE SECOND FORM's CARD OF 'caretlaw.Decodes'. -/
def decodesUptoCard : Claim7 := { stood := { row := decodesUptoRow, standIns := [], harness := (true, "6162a144d97950c9406980b6573d5b0e95e7853837008c503132e9af29908267"), looks := false }, kinds := [], alts := [], laidByText := true, laidKinds := [.data, .pinned], laidTests := true, laidLooks := .later }
def DecodesUptoCardSaid : Prop := Claim7.holds Tryd.pinned (.plain (OpenSpec.upto decodesSpec)) decodesUptoCard

/-- THE SECOND FORM's CARD OF 'caretlaw.Known'. -/
def knownUptoCard : Claim7 := { stood := { row := knownUptoRow, standIns := [], harness := (true, "6162a144d97950c9406980b6573d5b0e95e7853837008c503132e9af29908267"), looks := false }, kinds := [], alts := [], laidByText := true, laidKinds := [.data, .data, .data], laidTests := true, laidLooks := .later }
def KnownUptoCardSaid : Prop := Claim7.holds Tryd.pinned (.plain (OpenSpec.upto knownSpec)) knownUptoCard

/-- THE SECOND FORM's CARD OF 'caretlaw.Rows'. -/
def rowsUptoCard : Claim7 := { stood := { row := rowsUptoRow, standIns := [], harness := (true, "6162a144d97950c9406980b6573d5b0e95e7853837008c503132e9af29908267"), looks := false }, kinds := [], alts := [], laidByText := true, laidKinds := [.data, .data, .data], laidTests := true, laidLooks := .later }
def RowsUptoCardSaid : Prop := Claim7.holds Tryd.pinned (.plain (OpenSpec.upto rowsSpec)) rowsUptoCard

/-- THE SECOND FORM's CARD OF 'caretlaw.Clustered'. -/
def clusteredUptoCard : Claim7 := { stood := { row := clusteredUptoRow, standIns := [], harness := (true, "6162a144d97950c9406980b6573d5b0e95e7853837008c503132e9af29908267"), looks := false }, kinds := [], alts := [], laidByText := true, laidKinds := [.data, .data, .pinned], laidTests := true, laidLooks := .later }
def ClusteredUptoCardSaid : Prop := Claim7.holds Tryd.pinned (.plain (OpenSpec.upto clusteredSpec)) clusteredUptoCard

/-- THE SECOND FORM's CARD OF 'caretlaw.Worded'. -/
def wordedUptoCard : Claim7 := { stood := { row := wordedUptoRow, standIns := [], harness := (true, "6162a144d97950c9406980b6573d5b0e95e7853837008c503132e9af29908267"), looks := false }, kinds := [], alts := [], laidByText := true, laidKinds := [.data, .data, .data, .data, .pinned], laidTests := true, laidLooks := .later }
def WordedUptoCardSaid : Prop := Claim7.holds Tryd.pinned (.plain (OpenSpec.upto wordedSpec)) wordedUptoCard
end Rows
end Go.Proofs.YtnakejhohdbfdaaDoor
