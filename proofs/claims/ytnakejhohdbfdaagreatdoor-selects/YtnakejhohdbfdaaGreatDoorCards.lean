/-
  DERIVED. GIVEN WITH THE SEED: THE CARDS: each row of YtnakejhohdbfdaaGreatDoorRows.lean that lists a variable, with what it lists TIED to the program's text (the seventh form; the later family's looks); each row that meets fmt, with fmt's text TOLD by the authors' own Lean function (tested against real Go, not proved from fmt's source: count such statements apart). THE CARD IS WHAT COUNTS. Prove the row's statement (the work); the ties are given (YtnakejhohdbfdaaGreatDoorTie.lean); close each card by the builder's one call (the guide's Derived/Test/ToyasCard.lean, 'card_holds'). Laid BY PROGRAM, IN A SANDBOX (cutbox-door.mjs). By AI agents, Wed Nov 11 2026. No macro, syntax, notation, axiom, sorry.
-/
import Derived.Test.YtnakejhohdbfdaaGreatDoorRows
import GoSem.ClaimSeven
namespace Go.Proofs.YtnakejhohdbfdaaGreatDoor
namespace Rows

/-- THE TIED CARD OF 'caretlaw.Leveled'. -/
def leveledCard : Claim7 := { stood := { row := leveledRow, standIns := [], harness := (true, "2b57ad0c761ad6ef2d9fd2feba855fa24a529bf130c0269cb148d05dc8a7b73a"), looks := true }, kinds := [], alts := [], laidByText := true, laidKinds := [.data, .handle, .data, .data, .pinned], laidTests := true, laidLooks := .later }
def LeveledCardSaid : Prop := Claim7.holds Tryz.pinned (.plain (OpenSpec.ofChange leveledSpec)) leveledCard

/-- THE TIED CARD OF 'caretlaw.Laid'. -/
def laidCard : Claim7 := { stood := { row := laidRow, standIns := [], harness := (true, "2b57ad0c761ad6ef2d9fd2feba855fa24a529bf130c0269cb148d05dc8a7b73a"), looks := true }, kinds := [], alts := [], laidByText := true, laidKinds := [.data, .handle, .data, .data, .data, .sentinel, .sentinel, .sentinel, .sentinel, .pinned], laidTests := true, laidLooks := .later }
def LaidCardSaid : Prop := Claim7.holds Tryz.pinned (.plain (OpenSpec.ofChange laidSpec)) laidCard

/-- THE TIED CARD OF 'caretlaw.Carets'. -/
def caretsCard : Claim7 := { stood := { row := caretsRow, standIns := [], harness := (true, "2b57ad0c761ad6ef2d9fd2feba855fa24a529bf130c0269cb148d05dc8a7b73a"), looks := true }, kinds := [], alts := [], laidByText := true, laidKinds := [.data, .handle, .data, .data, .data, .sentinel, .sentinel, .sentinel, .sentinel, .pinned], laidTests := true, laidLooks := .later }
def CaretsCardSaid : Prop := Claim7.holds Tryz.pinned (.plain (OpenSpec.ofChange caretsSpec)) caretsCard

/-- THE TIED CARD OF 'caretlaw.Hits'. -/
def hitsCard : Claim7 := { stood := { row := hitsRow, standIns := [], harness := (true, "2b57ad0c761ad6ef2d9fd2feba855fa24a529bf130c0269cb148d05dc8a7b73a"), looks := true }, kinds := [], alts := [], laidByText := true, laidKinds := [.data, .handle, .data, .data, .data, .sentinel, .sentinel, .sentinel, .sentinel, .pinned], laidTests := true, laidLooks := .later }
def HitsCardSaid : Prop := Claim7.holds Tryz.pinned (.plain (OpenSpec.ofChange hitsSpec)) hitsCard

/-- THE TIED CARD OF 'caretlaw.Moves'. -/
def movesCard : Claim7 := { stood := { row := movesRow, standIns := [], harness := (true, "2b57ad0c761ad6ef2d9fd2feba855fa24a529bf130c0269cb148d05dc8a7b73a"), looks := true }, kinds := [], alts := [], laidByText := true, laidKinds := [.data, .handle, .data, .data, .data, .sentinel, .sentinel, .sentinel, .sentinel, .pinned], laidTests := true, laidLooks := .later }
def MovesCardSaid : Prop := Claim7.holds Tryz.pinned (.plain (OpenSpec.ofChange movesSpec)) movesCard

/-- THE TIED CARD OF 'caretlaw.Selects'. -/
def selectsCard : Claim7 := { stood := { row := selectsRow, standIns := [], harness := (true, "2b57ad0c761ad6ef2d9fd2feba855fa24a529bf130c0269cb148d05dc8a7b73a"), looks := true }, kinds := [], alts := [], laidByText := true, laidKinds := [.data, .handle, .data, .data, .data, .sentinel, .sentinel, .sentinel, .sentinel, .pinned], laidTests := true, laidLooks := .later }
def SelectsCardSaid : Prop := Claim7.holds Tryz.pinned (.plain (OpenSpec.ofChange selectsSpec)) selectsCard

/-- THE TIED CARD OF 'caretlaw.Edits'. -/
def editsCard : Claim7 := { stood := { row := editsRow, standIns := [], harness := (true, "2b57ad0c761ad6ef2d9fd2feba855fa24a529bf130c0269cb148d05dc8a7b73a"), looks := true }, kinds := [], alts := [], laidByText := true, laidKinds := [.data, .handle, .data, .data, .data, .sentinel, .sentinel, .sentinel, .sentinel, .pinned], laidTests := true, laidLooks := .later }
def EditsCardSaid : Prop := Claim7.holds Tryz.pinned (.plain (OpenSpec.ofChange editsSpec)) editsCard

/-- THE SECOND FORM's CARD OF 'caretlaw.Leveled'. -/
def leveledUptoCard : Claim7 := { stood := { row := leveledUptoRow, standIns := [], harness := (true, "2b57ad0c761ad6ef2d9fd2feba855fa24a529bf130c0269cb148d05dc8a7b73a"), looks := true }, kinds := [], alts := [], laidByText := true, laidKinds := [.data, .handle, .data, .data, .pinned], laidTests := true, laidLooks := .later }
def LeveledUptoCardSaid : Prop := Claim7.holds Tryz.pinned (.plain (OpenSpec.upto leveledSpec)) leveledUptoCard

/-- THE SECOND FORM's CARD OF 'caretlaw.Laid'. -/
def laidUptoCard : Claim7 := { stood := { row := laidUptoRow, standIns := [], harness := (true, "2b57ad0c761ad6ef2d9fd2feba855fa24a529bf130c0269cb148d05dc8a7b73a"), looks := true }, kinds := [], alts := [], laidByText := true, laidKinds := [.data, .handle, .data, .data, .data, .sentinel, .sentinel, .sentinel, .sentinel, .pinned], laidTests := true, laidLooks := .later }
def LaidUptoCardSaid : Prop := Claim7.holds Tryz.pinned (.plain (OpenSpec.upto laidSpec)) laidUptoCard

/-- THE SECOND FORM's CARD OF 'caretlaw.Carets'. -/
def caretsUptoCard : Claim7 := { stood := { row := caretsUptoRow, standIns := [], harness := (true, "2b57ad0c761ad6ef2d9fd2feba855fa24a529bf130c0269cb148d05dc8a7b73a"), looks := true }, kinds := [], alts := [], laidByText := true, laidKinds := [.data, .handle, .data, .data, .data, .sentinel, .sentinel, .sentinel, .sentinel, .pinned], laidTests := true, laidLooks := .later }
def CaretsUptoCardSaid : Prop := Claim7.holds Tryz.pinned (.plain (OpenSpec.upto caretsSpec)) caretsUptoCard

/-- THE SECOND FORM's CARD OF 'caretlaw.Hits'. -/
def hitsUptoCard : Claim7 := { stood := { row := hitsUptoRow, standIns := [], harness := (true, "2b57ad0c761ad6ef2d9fd2feba855fa24a529bf130c0269cb148d05dc8a7b73a"), looks := true }, kinds := [], alts := [], laidByText := true, laidKinds := [.data, .handle, .data, .data, .data, .sentinel, .sentinel, .sentinel, .sentinel, .pinned], laidTests := true, laidLooks := .later }
def HitsUptoCardSaid : Prop := Claim7.holds Tryz.pinned (.plain (OpenSpec.upto hitsSpec)) hitsUptoCard

/-- THE SECOND FORM's CARD OF 'caretlaw.Moves'. -/
def movesUptoCard : Claim7 := { stood := { row := movesUptoRow, standIns := [], harness := (true, "2b57ad0c761ad6ef2d9fd2feba855fa24a529bf130c0269cb148d05dc8a7b73a"), looks := true }, kinds := [], alts := [], laidByText := true, laidKinds := [.data, .handle, .data, .data, .data, .sentinel, .sentinel, .sentinel, .sentinel, .pinned], laidTests := true, laidLooks := .later }
def MovesUptoCardSaid : Prop := Claim7.holds Tryz.pinned (.plain (OpenSpec.upto movesSpec)) movesUptoCard

/-- THE SECOND FORM's CARD OF 'caretlaw.Selects'. -/
def selectsUptoCard : Claim7 := { stood := { row := selectsUptoRow, standIns := [], harness := (true, "2b57ad0c761ad6ef2d9fd2feba855fa24a529bf130c0269cb148d05dc8a7b73a"), looks := true }, kinds := [], alts := [], laidByText := true, laidKinds := [.data, .handle, .data, .data, .data, .sentinel, .sentinel, .sentinel, .sentinel, .pinned], laidTests := true, laidLooks := .later }
def SelectsUptoCardSaid : Prop := Claim7.holds Tryz.pinned (.plain (OpenSpec.upto selectsSpec)) selectsUptoCard

/-- THE SECOND FORM's CARD OF 'caretlaw.Edits'. -/
def editsUptoCard : Claim7 := { stood := { row := editsUptoRow, standIns := [], harness := (true, "2b57ad0c761ad6ef2d9fd2feba855fa24a529bf130c0269cb148d05dc8a7b73a"), looks := true }, kinds := [], alts := [], laidByText := true, laidKinds := [.data, .handle, .data, .data, .data, .sentinel, .sentinel, .sentinel, .sentinel, .pinned], laidTests := true, laidLooks := .later }
def EditsUptoCardSaid : Prop := Claim7.holds Tryz.pinned (.plain (OpenSpec.upto editsSpec)) editsUptoCard
end Rows
end Go.Proofs.YtnakejhohdbfdaaGreatDoor
