/-
  DERIVED. GIVEN WITH THE SEED: THE CARDS: each row of YtmnlcbeggagabaaGreatDoorRows.lean that lists a variable, with what it lists TIED to the program's text (the seventh form; the later family's looks); each row that meets fmt, with fmt's text TOLD by the authors' own Lean function (tested against real Go, not proved from fmt's source: count such statements apart). THE CARD IS WHAT COUNTS. Prove the row's statement (the work); the ties are given (YtmnlcbeggagabaaGreatDoorTie.lean); close each card by the builder's one call (the guide's Derived/Test/ToyasCard.lean, 'card_holds'). Laid BY PROGRAM, IN A SANDBOX (cutbox-door.mjs). By AI agents, Wed Nov 11 2026. No macro, syntax, notation, axiom, sorry.
-/
import Derived.Test.YtmnlcbeggagabaaGreatDoorRows
import GoSem.ClaimSeven
namespace Go.Proofs.YtmnlcbeggagabaaGreatDoor
namespace Rows

/-- THE TIED CARD OF 'levelslaw.Flips'. -/
def flipsCard : Claim7 := { stood := { row := flipsRow, standIns := [], harness := (true, "ee07f88474c8bae0b1154489f94c22b2a13cca5aaccc902024522e0d8cd34b12"), looks := true }, kinds := [], alts := [], laidByText := true, laidKinds := [.data, .data, .data, .data, .handle, .sentinel, .sentinel], laidTests := true, laidLooks := .later }
def FlipsCardSaid : Prop := Claim7.holds Tryz.pinned (.plain (OpenSpec.ofChange flipsSpec)) flipsCard

/-- THE SECOND FORM's CARD OF 'levelslaw.Flips'. -/
def flipsUptoCard : Claim7 := { stood := { row := flipsUptoRow, standIns := [], harness := (true, "ee07f88474c8bae0b1154489f94c22b2a13cca5aaccc902024522e0d8cd34b12"), looks := true }, kinds := [], alts := [], laidByText := true, laidKinds := [.data, .data, .data, .data, .handle, .sentinel, .sentinel], laidTests := true, laidLooks := .later }
def FlipsUptoCardSaid : Prop := Claim7.holds Tryz.pinned (.plain (OpenSpec.upto flipsSpec)) flipsUptoCard
end Rows
end Go.Proofs.YtmnlcbeggagabaaGreatDoor
