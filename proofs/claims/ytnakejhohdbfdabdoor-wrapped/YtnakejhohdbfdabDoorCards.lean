/-
  DERIVED. GIVEN WITH THE SEED: THE CARDS: each row of YtnakejhohdbfdabDoorRows.lean that lists a variable, with what it lists TIED to the program's text (the seventh form; the later family's looks); each row that meets fmt, with fmt's text TOLD by the authors' own Lean function (tested against real Go, not proved from fmt's source: count such statements apart). THE CARD IS WHAT COUNTS. Prove the row's statement (the work); the ties are given (YtnakejhohdbfdabDoorTie.lean); close each card by the builder's one call (the guide's Derived/Test/ToyasCard.lean, 'card_holds'). Laid BY PROGRAM, IN A SANDBOX (cutbox-door.mjs). By AI agents, Wed Nov 11 2026. No macro, syntax, notation, axiom, sorry.
-/
import Derived.Test.YtnakejhohdbfdabDoorRows
import GoSem.ClaimSeven
namespace Go.Proofs.YtnakejhohdbfdabDoor
namespace Rows

/-- THE TIED CARD OF 'caretlaw.Wrapped'. -/
def wrappedCard : Claim7 := { stood := { row := wrappedRow, standIns := [], harness := (true, "0d322065b5fead21d2039ccf45ef0e26a68b1b0f93e17d5a0074472d9dcebf49"), looks := false }, kinds := [], alts := [], laidByText := true, laidKinds := [.data, .data, .data, .data, .pinned], laidTests := true, laidLooks := .later }
def WrappedCardSaid : Prop := Claim7.holds Tryd.pinned (.plain (OpenSpec.ofChange wrappedSpec)) wrappedCard

/-- THE SECOND FORM's CARD OF 'caretlaw.Wrapped'. -/
def wrappedUptoCard : Claim7 := { stood := { row := wrappedUptoRow, standIns := [], harness := (true, "0d322065b5fead21d2039ccf45ef0e26a68b1b0f93e17d5a0074472d9dcebf49"), looks := false }, kinds := [], alts := [], laidByText := true, laidKinds := [.data, .data, .data, .data, .pinned], laidTests := true, laidLooks := .later }
def WrappedUptoCardSaid : Prop := Claim7.holds Tryd.pinned (.plain (OpenSpec.upto wrappedSpec)) wrappedUptoCard
end Rows
end Go.Proofs.YtnakejhohdbfdabDoor
