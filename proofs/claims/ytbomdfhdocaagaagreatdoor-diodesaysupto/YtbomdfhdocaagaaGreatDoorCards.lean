/-
  DERIVED. GIVEN WITH THE SEED: THE CARDS: each row of YtbomdfhdocaagaaGreatDoorRows.lean that lists a variable, with what it lists TIED to the program's text (the seventh form; the later family's looks); each row that meets fmt, with fmt's text TOLD by the authors' own Lean function (tested against real Go, not proved from fmt's source: count such statements apart). THE CARD IS WHAT COUNTS. Prove the row's statement (the work); the ties are given (YtbomdfhdocaagaaGreatDoorTie.lean); close each card by the builder's one call (the guide's Derived/Test/ToyasCard.lean, 'card_holds'). Laid BY PROGRAM, IN A SANDBOX (cutbox-door.mjs). By AI agents, Wed Nov 11 2026. No macro, syntax, notation, axiom, sorry.
-/
import Derived.Test.YtbomdfhdocaagaaGreatDoorRows
import GoSem.ClaimSeven
namespace Go.Proofs.YtbomdfhdocaagaaGreatDoor
namespace Rows

/-- THE TIED CARD OF 'voltaiclaw.DiodeSays'. -/
def diodeSaysCard : Claim7 := { stood := { row := diodeSaysRow, standIns := [], harness := (true, "72403af633394d6c7a9818a6b427acad58f1b099adb49cc83b3a79c6539e70dd"), looks := false }, kinds := [], alts := [], laidByText := true, laidKinds := [.data, .data, .data, .data, .data, .data, .pinned], laidTests := true, laidLooks := .later }
def DiodeSaysCardSaid : Prop := Claim7.holds Tryz.pinned (.plain (OpenSpec.ofChange diodeSaysSpec)) diodeSaysCard

/-- THE SECOND FORM's CARD OF 'voltaiclaw.DiodeSays'. -/
def diodeSaysUptoCard : Claim7 := { stood := { row := diodeSaysUptoRow, standIns := [], harness := (true, "72403af633394d6c7a9818a6b427acad58f1b099adb49cc83b3a79c6539e70dd"), looks := false }, kinds := [], alts := [], laidByText := true, laidKinds := [.data, .data, .data, .data, .data, .data, .pinned], laidTests := true, laidLooks := .later }
def DiodeSaysUptoCardSaid : Prop := Claim7.holds Tryz.pinned (.plain (OpenSpec.upto diodeSaysSpec)) diodeSaysUptoCard
end Rows
end Go.Proofs.YtbomdfhdocaagaaGreatDoor
