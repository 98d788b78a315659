/-
  DERIVED. GIVEN WITH THE SEED: THE CARDS: each row of YtojeeoclojldpaaGreatDoorRows.lean that lists a variable, with what it lists TIED to the program's text (the seventh form; the later family's looks); each row that meets fmt, with fmt's text TOLD by the authors' own Lean function (tested against real Go, not proved from fmt's source: count such statements apart). THE CARD IS WHAT COUNTS. Prove the row's statement (the work); the ties are given (YtojeeoclojldpaaGreatDoorTie.lean); close each card by the builder's one call (the guide's Derived/Test/ToyasCard.lean, 'card_holds'). Laid BY PROGRAM, IN A SANDBOX (cutbox-door.mjs). By AI agents, Wed Nov 11 2026. No macro, syntax, notation, axiom, sorry.
-/
import Derived.Test.YtojeeoclojldpaaGreatDoorRows
import GoSem.ClaimSeven
namespace Go.Proofs.YtojeeoclojldpaaGreatDoor
namespace Rows

/-- THE TIED CARD OF 'levelslaw.Contents'. -/
def contentsCard : Claim7 := { stood := { row := contentsRow, standIns := [], harness := (true, "e4d0ff98a62660fc69f5f35c14f997851a6e7529bd661dd19df0fcbcf59ff90e"), looks := true }, kinds := [], alts := [], laidByText := true, laidKinds := [.data, .data, .data, .data, .handle, .sentinel, .sentinel], laidTests := true, laidLooks := .later }
def ContentsCardSaid : Prop := Claim7.holds Tryz.pinned (.plain (OpenSpec.ofChange contentsSpec)) contentsCard

/-- THE SECOND FORM's CARD OF 'levelslaw.Contents'. -/
def contentsUptoCard : Claim7 := { stood := { row := contentsUptoRow, standIns := [], harness := (true, "e4d0ff98a62660fc69f5f35c14f997851a6e7529bd661dd19df0fcbcf59ff90e"), looks := true }, kinds := [], alts := [], laidByText := true, laidKinds := [.data, .data, .data, .data, .handle, .sentinel, .sentinel], laidTests := true, laidLooks := .later }
def ContentsUptoCardSaid : Prop := Claim7.holds Tryz.pinned (.plain (OpenSpec.upto contentsSpec)) contentsUptoCard
end Rows
end Go.Proofs.YtojeeoclojldpaaGreatDoor
