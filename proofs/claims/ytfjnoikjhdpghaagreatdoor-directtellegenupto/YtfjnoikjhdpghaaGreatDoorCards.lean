/-
  DERIVED. GIVEN WITH THE SEED: THE CARDS: each row of YtfjnoikjhdpghaaGreatDoorRows.lean that lists a variable, with what it lists TIED to the program's text (the seventh form; the later family's looks); each row that meets fmt, with fmt's text TOLD by the authors' own Lean function (tested against real Go, not proved from fmt's source: count such statements apart). THE CARD IS WHAT COUNTS. Prove the row's statement (the work); the ties are given (YtfjnoikjhdpghaaGreatDoorTie.lean); close each card by the builder's one call (the guide's Derived/Test/ToyasCard.lean, 'card_holds'). Laid BY PROGRAM, IN A SANDBOX (cutbox-door.mjs). By AI agents, Wed Nov 11 2026. No macro, syntax, notation, axiom, sorry.
-/
import Derived.Test.YtfjnoikjhdpghaaGreatDoorRows
import GoSem.ClaimSeven
namespace Go.Proofs.YtfjnoikjhdpghaaGreatDoor
namespace Rows

/-- THE TIED CARD OF 'voltaiclaw.DirectTellegen'. -/
def directTellegenCard : Claim7 := { stood := { row := directTellegenRow, standIns := [], harness := (true, "ee2d03c38f101c5282a5adb2502b7f2623723829ef67a6e7673c4be13e0a545e"), looks := false }, kinds := [], alts := [], laidByText := true, laidKinds := [.data, .data, .data, .data, .data, .pinned], laidTests := true, laidLooks := .later }
def DirectTellegenCardSaid : Prop := Claim7.holds Tryz.pinned (.plain (OpenSpec.ofChange directTellegenSpec)) directTellegenCard

/-- THE TIED CARD OF 'voltaiclaw.DirectLeast'. -/
def directLeastCard : Claim7 := { stood := { row := directLeastRow, standIns := [], harness := (true, "ee2d03c38f101c5282a5adb2502b7f2623723829ef67a6e7673c4be13e0a545e"), looks := false }, kinds := [], alts := [], laidByText := true, laidKinds := [.data, .data, .data, .data, .data, .pinned], laidTests := true, laidLooks := .later }
def DirectLeastCardSaid : Prop := Claim7.holds Tryz.pinned (.plain (OpenSpec.ofChange directLeastSpec)) directLeastCard

/-- THE SECOND FORM's CARD OF 'voltaiclaw.DirectTellegen'. -/
def directTellegenUptoCard : Claim7 := { stood := { row := directTellegenUptoRow, standIns := [], harness := (true, "ee2d03c38f101c5282a5adb2502b7f2623723829ef67a6e7673c4be13e0a545e"), looks := false }, kinds := [], alts := [], laidByText := true, laidKinds := [.data, .data, .data, .data, .data, .pinned], laidTests := true, laidLooks := .later }
def DirectTellegenUptoCardSaid : Prop := Claim7.holds Tryz.pinned (.plain (OpenSpec.upto directTellegenSpec)) directTellegenUptoCard

/-- THE SECOND FORM's CARD OF 'voltaiclaw.DirectLeast'. -/
def directLeastUptoCard : Claim7 := { stood := { row := directLeastUptoRow, standIns := [], harness := (true, "ee2d03c38f101c5282a5adb2502b7f2623723829ef67a6e7673c4be13e0a545e"), looks := false }, kinds := [], alts := [], laidByText := true, laidKinds := [.data, .data, .data, .data, .data, .pinned], laidTests := true, laidLooks := .later }
def DirectLeastUptoCardSaid : Prop := Claim7.holds Tryz.pinned (.plain (OpenSpec.upto directLeastSpec)) directLeastUptoCard
end Rows
end Go.Proofs.YtfjnoikjhdpghaaGreatDoor
