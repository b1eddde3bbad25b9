/-
  DERIVED. GIVEN WITH THE SEED: THE CARDS: each row of YtnakejhohdbfdabGreatDoorRows.lean that lists a variable, with what it lists TIED to the program's text (the seventh form; the later family's looks); each row that meets fmt, with fmt's text TOLD by the authors' own Lean function (tested against real Go, not proved from fmt's source: count such statements apart). THE CARD IS WHAT COUNTS. Prove the row's statement (the work); the ties are given (YtnakejhohdbfdabGreatDoorTie.lean); close each card by the builder's one call (the guide's Derived/Test/ToyasCard.lean, 'card_holds'). Laid BY PROGRAM, IN A SANDBOX (cutbox-door.mjs). By AI agents, Wed Nov 11 2026. No macro, syntax, notation, axiom, sorry.
-/
import Derived.Test.YtnakejhohdbfdabGreatDoorRows
import GoSem.ClaimSeven
namespace Go.Proofs.YtnakejhohdbfdabGreatDoor
namespace Rows

/-- THE TIED CARD OF 'caretlaw.Documents'. -/
def documentsCard : Claim7 := { stood := { row := documentsRow, standIns := [], harness := (true, "888e17eb297debbdb521bc058ab85c85c324ad7255bb6011b66599cc63d46bc2"), looks := true }, kinds := [], alts := [], laidByText := true, laidKinds := [.data, .handle, .data, .data, .data, .sentinel, .pinned], laidTests := true, laidLooks := .later }
def DocumentsCardSaid : Prop := Claim7.holds Tryz.pinned (.plain (OpenSpec.ofChange documentsSpec)) documentsCard

/-- THE TIED CARD OF 'caretlaw.All'. -/
def allCard : Claim7 := { stood := { row := allRow, standIns := [], harness := (true, "888e17eb297debbdb521bc058ab85c85c324ad7255bb6011b66599cc63d46bc2"), looks := true }, kinds := [], alts := [], laidByText := true, laidKinds := [.data, .handle, .data, .data, .data, .sentinel, .sentinel, .sentinel, .sentinel, .pinned], laidTests := true, laidLooks := .later }
def AllCardSaid : Prop := Claim7.holds Tryz.pinned (.plain (OpenSpec.ofChange allSpec)) allCard

/-- THE TIED CARD OF 'caretkeep.Whole'. -/
def wholeCard : Claim7 := { stood := { row := wholeRow, standIns := [], harness := (true, "888e17eb297debbdb521bc058ab85c85c324ad7255bb6011b66599cc63d46bc2"), looks := true }, kinds := [], alts := [], laidByText := true, laidKinds := [.handle, .data, .data, .data, .sentinel, .sentinel, .sentinel, .sentinel], laidTests := true, laidLooks := .later }
def WholeCardSaid : Prop := Claim7.holds Tryz.pinned (.plain (OpenSpec.ofChange wholeSpec)) wholeCard

/-- THE TIED CARD OF 'caretkeep.Walks'. -/
def walksCard : Claim7 := { stood := { row := walksRow, standIns := [], harness := (true, "888e17eb297debbdb521bc058ab85c85c324ad7255bb6011b66599cc63d46bc2"), looks := true }, kinds := [], alts := [], laidByText := true, laidKinds := [.handle, .data, .data, .data, .sentinel, .sentinel, .sentinel, .sentinel], laidTests := true, laidLooks := .later }
def WalksCardSaid : Prop := Claim7.holds Tryz.pinned (.plain (OpenSpec.ofChange walksSpec)) walksCard

/-- THE TIED CARD OF 'caretkeep.Steps'. -/
def stepsCard : Claim7 := { stood := { row := stepsRow, standIns := [], harness := (true, "888e17eb297debbdb521bc058ab85c85c324ad7255bb6011b66599cc63d46bc2"), looks := true }, kinds := [], alts := [], laidByText := true, laidKinds := [.handle, .data, .data, .data, .sentinel, .sentinel, .sentinel, .sentinel], laidTests := true, laidLooks := .later }
def StepsCardSaid : Prop := Claim7.holds Tryz.pinned (.plain (OpenSpec.ofChange stepsSpec)) stepsCard

/-- THE TIED CARD OF 'caretkeep.Points'. -/
def pointsCard : Claim7 := { stood := { row := pointsRow, standIns := [], harness := (true, "888e17eb297debbdb521bc058ab85c85c324ad7255bb6011b66599cc63d46bc2"), looks := true }, kinds := [], alts := [], laidByText := true, laidKinds := [.handle, .data, .data, .data, .sentinel, .sentinel, .sentinel, .sentinel], laidTests := true, laidLooks := .later }
def PointsCardSaid : Prop := Claim7.holds Tryz.pinned (.plain (OpenSpec.ofChange pointsSpec)) pointsCard

/-- THE TIED CARD OF 'caretkeep.Covers'. -/
def coversCard : Claim7 := { stood := { row := coversRow, standIns := [], harness := (true, "888e17eb297debbdb521bc058ab85c85c324ad7255bb6011b66599cc63d46bc2"), looks := true }, kinds := [], alts := [], laidByText := true, laidKinds := [.handle, .data, .data, .data, .sentinel, .sentinel, .sentinel, .sentinel], laidTests := true, laidLooks := .later }
def CoversCardSaid : Prop := Claim7.holds Tryz.pinned (.plain (OpenSpec.ofChange coversSpec)) coversCard

/-- THE TIED CARD OF 'caretkeep.Twins'. -/
def twinsCard : Claim7 := { stood := { row := twinsRow, standIns := [], harness := (true, "888e17eb297debbdb521bc058ab85c85c324ad7255bb6011b66599cc63d46bc2"), looks := true }, kinds := [], alts := [], laidByText := true, laidKinds := [.handle, .data, .data, .data, .sentinel, .sentinel, .sentinel, .sentinel], laidTests := true, laidLooks := .later }
def TwinsCardSaid : Prop := Claim7.holds Tryz.pinned (.plain (OpenSpec.ofChange twinsSpec)) twinsCard

/-- THE TIED CARD OF 'caretkeep.Plainly'. -/
def plainlyCard : Claim7 := { stood := { row := plainlyRow, standIns := [], harness := (true, "888e17eb297debbdb521bc058ab85c85c324ad7255bb6011b66599cc63d46bc2"), looks := true }, kinds := [], alts := [], laidByText := true, laidKinds := [.handle, .data, .data, .data, .sentinel, .sentinel, .sentinel, .sentinel], laidTests := true, laidLooks := .later }
def PlainlyCardSaid : Prop := Claim7.holds Tryz.pinned (.plain (OpenSpec.ofChange plainlySpec)) plainlyCard

/-- THE TIED CARD OF 'caretkeep.Signed'. -/
def signedCard : Claim7 := { stood := { row := signedRow, standIns := [], harness := (true, "888e17eb297debbdb521bc058ab85c85c324ad7255bb6011b66599cc63d46bc2"), looks := true }, kinds := [], alts := [], laidByText := true, laidKinds := [.handle, .data, .data, .data, .sentinel, .sentinel, .sentinel, .sentinel], laidTests := true, laidLooks := .later }
def SignedCardSaid : Prop := Claim7.holds Tryz.pinned (.plain (OpenSpec.ofChange signedSpec)) signedCard

/-- THE TIED CARD OF 'caretkeep.Drags'. -/
def dragsCard : Claim7 := { stood := { row := dragsRow, standIns := [], harness := (true, "888e17eb297debbdb521bc058ab85c85c324ad7255bb6011b66599cc63d46bc2"), looks := true }, kinds := [], alts := [], laidByText := true, laidKinds := [.handle, .data, .data, .data, .sentinel, .sentinel, .sentinel, .sentinel], laidTests := true, laidLooks := .later }
def DragsCardSaid : Prop := Claim7.holds Tryz.pinned (.plain (OpenSpec.ofChange dragsSpec)) dragsCard

/-- THE SECOND FORM's CARD OF 'caretlaw.Documents'. -/
def documentsUptoCard : Claim7 := { stood := { row := documentsUptoRow, standIns := [], harness := (true, "888e17eb297debbdb521bc058ab85c85c324ad7255bb6011b66599cc63d46bc2"), looks := true }, kinds := [], alts := [], laidByText := true, laidKinds := [.data, .handle, .data, .data, .data, .sentinel, .pinned], laidTests := true, laidLooks := .later }
def DocumentsUptoCardSaid : Prop := Claim7.holds Tryz.pinned (.plain (OpenSpec.upto documentsSpec)) documentsUptoCard

/-- THE SECOND FORM's CARD OF 'caretlaw.All'. -/
def allUptoCard : Claim7 := { stood := { row := allUptoRow, standIns := [], harness := (true, "888e17eb297debbdb521bc058ab85c85c324ad7255bb6011b66599cc63d46bc2"), looks := true }, kinds := [], alts := [], laidByText := true, laidKinds := [.data, .handle, .data, .data, .data, .sentinel, .sentinel, .sentinel, .sentinel, .pinned], laidTests := true, laidLooks := .later }
def AllUptoCardSaid : Prop := Claim7.holds Tryz.pinned (.plain (OpenSpec.upto allSpec)) allUptoCard

/-- THE SECOND FORM's CARD OF 'caretkeep.Whole'. -/
def wholeUptoCard : Claim7 := { stood := { row := wholeUptoRow, standIns := [], harness := (true, "888e17eb297debbdb521bc058ab85c85c324ad7255bb6011b66599cc63d46bc2"), looks := true }, kinds := [], alts := [], laidByText := true, laidKinds := [.handle, .data, .data, .data, .sentinel, .sentinel, .sentinel, .sentinel], laidTests := true, laidLooks := .later }
def WholeUptoCardSaid : Prop := Claim7.holds Tryz.pinned (.plain (OpenSpec.upto wholeSpec)) wholeUptoCard

/-- THE SECOND FORM's CARD OF 'caretkeep.Walks'. -/
def walksUptoCard : Claim7 := { stood := { row := walksUptoRow, standIns := [], harness := (true, "888e17eb297debbdb521bc058ab85c85c324ad7255bb6011b66599cc63d46bc2"), looks := true }, kinds := [], alts := [], laidByText := true, laidKinds := [.handle, .data, .data, .data, .sentinel, .sentinel, .sentinel, .sentinel], laidTests := true, laidLooks := .later }
def WalksUptoCardSaid : Prop := Claim7.holds Tryz.pinned (.plain (OpenSpec.upto walksSpec)) walksUptoCard

/-- THE SECOND FORM's CARD OF 'caretkeep.Steps'. -/
def stepsUptoCard : Claim7 := { stood := { row := stepsUptoRow, standIns := [], harness := (true, "888e17eb297debbdb521bc058ab85c85c324ad7255bb6011b66599cc63d46bc2"), looks := true }, kinds := [], alts := [], laidByText := true, laidKinds := [.handle, .data, .data, .data, .sentinel, .sentinel, .sentinel, .sentinel], laidTests := true, laidLooks := .later }
def StepsUptoCardSaid : Prop := Claim7.holds Tryz.pinned (.plain (OpenSpec.upto stepsSpec)) stepsUptoCard

/-- THE SECOND FORM's CARD OF 'caretkeep.Points'. -/
def pointsUptoCard : Claim7 := { stood := { row := pointsUptoRow, standIns := [], harness := (true, "888e17eb297debbdb521bc058ab85c85c324ad7255bb6011b66599cc63d46bc2"), looks := true }, kinds := [], alts := [], laidByText := true, laidKinds := [.handle, .data, .data, .data, .sentinel, .sentinel, .sentinel, .sentinel], laidTests := true, laidLooks := .later }
def PointsUptoCardSaid : Prop := Claim7.holds Tryz.pinned (.plain (OpenSpec.upto pointsSpec)) pointsUptoCard

/-- THE SECOND FORM's CARD OF 'caretkeep.Covers'. -/
def coversUptoCard : Claim7 := { stood := { row := coversUptoRow, standIns := [], harness := (true, "888e17eb297debbdb521bc058ab85c85c324ad7255bb6011b66599cc63d46bc2"), looks := true }, kinds := [], alts := [], laidByText := true, laidKinds := [.handle, .data, .data, .data, .sentinel, .sentinel, .sentinel, .sentinel], laidTests := true, laidLooks := .later }
def CoversUptoCardSaid : Prop := Claim7.holds Tryz.pinned (.plain (OpenSpec.upto coversSpec)) coversUptoCard

/-- THE SECOND FORM's CARD OF 'caretkeep.Twins'. -/
def twinsUptoCard : Claim7 := { stood := { row := twinsUptoRow, standIns := [], harness := (true, "888e17eb297debbdb521bc058ab85c85c324ad7255bb6011b66599cc63d46bc2"), looks := true }, kinds := [], alts := [], laidByText := true, laidKinds := [.handle, .data, .data, .data, .sentinel, .sentinel, .sentinel, .sentinel], laidTests := true, laidLooks := .later }
def TwinsUptoCardSaid : Prop := Claim7.holds Tryz.pinned (.plain (OpenSpec.upto twinsSpec)) twinsUptoCard

/-- THE SECOND FORM's CARD OF 'caretkeep.Plainly'. -/
def plainlyUptoCard : Claim7 := { stood := { row := plainlyUptoRow, standIns := [], harness := (true, "888e17eb297debbdb521bc058ab85c85c324ad7255bb6011b66599cc63d46bc2"), looks := true }, kinds := [], alts := [], laidByText := true, laidKinds := [.handle, .data, .data, .data, .sentinel, .sentinel, .sentinel, .sentinel], laidTests := true, laidLooks := .later }
def PlainlyUptoCardSaid : Prop := Claim7.holds Tryz.pinned (.plain (OpenSpec.upto plainlySpec)) plainlyUptoCard

/-- THE SECOND FORM's CARD OF 'caretkeep.Signed'. -/
def signedUptoCard : Claim7 := { stood := { row := signedUptoRow, standIns := [], harness := (true, "888e17eb297debbdb521bc058ab85c85c324ad7255bb6011b66599cc63d46bc2"), looks := true }, kinds := [], alts := [], laidByText := true, laidKinds := [.handle, .data, .data, .data, .sentinel, .sentinel, .sentinel, .sentinel], laidTests := true, laidLooks := .later }
def SignedUptoCardSaid : Prop := Claim7.holds Tryz.pinned (.plain (OpenSpec.upto signedSpec)) signedUptoCard

/-- THE SECOND FORM's CARD OF 'caretkeep.Drags'. -/
def dragsUptoCard : Claim7 := { stood := { row := dragsUptoRow, standIns := [], harness := (true, "888e17eb297debbdb521bc058ab85c85c324ad7255bb6011b66599cc63d46bc2"), looks := true }, kinds := [], alts := [], laidByText := true, laidKinds := [.handle, .data, .data, .data, .sentinel, .sentinel, .sentinel, .sentinel], laidTests := true, laidLooks := .later }
def DragsUptoCardSaid : Prop := Claim7.holds Tryz.pinned (.plain (OpenSpec.upto dragsSpec)) dragsUptoCard
end Rows
end Go.Proofs.YtnakejhohdbfdabGreatDoor
