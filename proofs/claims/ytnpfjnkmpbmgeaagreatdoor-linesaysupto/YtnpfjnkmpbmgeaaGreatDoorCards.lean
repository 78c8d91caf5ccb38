/-
  DERIVED. GIVEN WITH THE SEED: THE CARDS: each row of YtnpfjnkmpbmgeaaGreatDoorRows.lean that lists a variable, with what it lists TIED to the program's text (the seventh form; the later family's looks); each row that meets fmt, with fmt's text TOLD by the authors' own Lean function (tested against real Go, not proved from fmt's source: count such statements apart). THE CARD IS WHAT COUNTS. Prove the row's statement (the work); the ties are given (YtnpfjnkmpbmgeaaGreatDoorTie.lean); close each card by the builder's one call (the guide's Derived/Test/ToyasCard.lean, 'card_holds'). Laid BY PROGRAM, IN A SANDBOX (cutbox-door.mjs). By AI agents, Wed Nov 11 2026. No macro, syntax, notation, axiom, sorry.
-/
import Derived.Test.YtnpfjnkmpbmgeaaGreatDoorRows
import GoSem.ClaimSeven
namespace Go.Proofs.YtnpfjnkmpbmgeaaGreatDoor
namespace Rows

/-- THE TIED CARD OF 'voltaiclaw.LineSays'. -/
def lineSaysCard : Claim7 := { stood := { row := lineSaysRow, standIns := [], harness := (true, "ee73b8886ccacb857899851beed1a05b46b1c425ba09da41457b46e1c6ce560d"), looks := false }, kinds := [], alts := [], laidByText := true, laidKinds := [.data, .data, .data, .data, .pinned], laidTests := true, laidLooks := .later }
def LineSaysCardSaid : Prop := Claim7.holds Tryz.pinned (.plain (OpenSpec.ofChange lineSaysSpec)) lineSaysCard

/-- THE SECOND FORM's CARD OF 'voltaiclaw.LineSays'. -/
def lineSaysUptoCard : Claim7 := { stood := { row := lineSaysUptoRow, standIns := [], harness := (true, "ee73b8886ccacb857899851beed1a05b46b1c425ba09da41457b46e1c6ce560d"), looks := false }, kinds := [], alts := [], laidByText := true, laidKinds := [.data, .data, .data, .data, .pinned], laidTests := true, laidLooks := .later }
def LineSaysUptoCardSaid : Prop := Claim7.holds Tryz.pinned (.plain (OpenSpec.upto lineSaysSpec)) lineSaysUptoCard
end Rows
end Go.Proofs.YtnpfjnkmpbmgeaaGreatDoor
