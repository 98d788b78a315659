/-
  DERIVED. GIVEN WITH THE SEED: THE CARDS: each row of YtnfehfmncheoiaaGreatDoorRows.lean that lists a variable, with what it lists TIED to the program's text (the seventh form; the later family's looks); each row that meets fmt, with fmt's text TOLD by the authors' own Lean function (tested against real Go, not proved from fmt's source: count such statements apart). THE CARD IS WHAT COUNTS. Prove the row's statement (the work); the ties are given (YtnfehfmncheoiaaGreatDoorTie.lean); close each card by the builder's one call (the guide's Derived/Test/ToyasCard.lean, 'card_holds'). Laid BY PROGRAM, IN A SANDBOX (cutbox-door.mjs). By AI agents, Wed Nov 11 2026. No macro, syntax, notation, axiom, sorry.
-/
import Derived.Test.YtnfehfmncheoiaaGreatDoorRows
import GoSem.ClaimSeven
namespace Go.Proofs.YtnfehfmncheoiaaGreatDoor
namespace Rows

/-- THE TIED CARD OF 'levelslaw.Snaps'. -/
def snapsCard : Claim7 := { stood := { row := snapsRow, standIns := [], harness := (true, "b99810825286cd7fc2b1587cbb51a12cd82009068727410cc448089f6f6c338e"), looks := true }, kinds := [], alts := [], laidByText := true, laidKinds := [.data, .data, .data, .data, .handle, .sentinel, .sentinel], laidTests := true, laidLooks := .later }
def SnapsCardSaid : Prop := Claim7.holds Tryz.pinned (.plain (OpenSpec.ofChange snapsSpec)) snapsCard

/-- THE TIED CARD OF 'levelslaw.All'. -/
def allCard : Claim7 := { stood := { row := allRow, standIns := [], harness := (true, "b99810825286cd7fc2b1587cbb51a12cd82009068727410cc448089f6f6c338e"), looks := true }, kinds := [], alts := [], laidByText := true, laidKinds := [.data, .data, .data, .data, .handle, .sentinel, .sentinel], laidTests := true, laidLooks := .later }
def AllCardSaid : Prop := Claim7.holds Tryz.pinned (.plain (OpenSpec.ofChange allSpec)) allCard

/-- THE SECOND FORM's CARD OF 'levelslaw.Snaps'. -/
def snapsUptoCard : Claim7 := { stood := { row := snapsUptoRow, standIns := [], harness := (true, "b99810825286cd7fc2b1587cbb51a12cd82009068727410cc448089f6f6c338e"), looks := true }, kinds := [], alts := [], laidByText := true, laidKinds := [.data, .data, .data, .data, .handle, .sentinel, .sentinel], laidTests := true, laidLooks := .later }
def SnapsUptoCardSaid : Prop := Claim7.holds Tryz.pinned (.plain (OpenSpec.upto snapsSpec)) snapsUptoCard

/-- THE SECOND FORM's CARD OF 'levelslaw.All'. -/
def allUptoCard : Claim7 := { stood := { row := allUptoRow, standIns := [], harness := (true, "b99810825286cd7fc2b1587cbb51a12cd82009068727410cc448089f6f6c338e"), looks := true }, kinds := [], alts := [], laidByText := true, laidKinds := [.data, .data, .data, .data, .handle, .sentinel, .sentinel], laidTests := true, laidLooks := .later }
def AllUptoCardSaid : Prop := Claim7.holds Tryz.pinned (.plain (OpenSpec.upto allSpec)) allUptoCard
end Rows
end Go.Proofs.YtnfehfmncheoiaaGreatDoor
