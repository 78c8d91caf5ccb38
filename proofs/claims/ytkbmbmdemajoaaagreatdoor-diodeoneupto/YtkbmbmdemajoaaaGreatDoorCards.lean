/-
  DERIVED. GIVEN WITH THE SEED: THE CARDS: each row of YtkbmbmdemajoaaaGreatDoorRows.lean that lists a variable, with what it lists TIED to the program's text (the seventh form; the later family's looks); each row that meets fmt, with fmt's text TOLD by the authors' own Lean function (tested against real Go, not proved from fmt's source: count such statements apart). THE CARD IS WHAT COUNTS. Prove the row's statement (the work); the ties are given (YtkbmbmdemajoaaaGreatDoorTie.lean); close each card by the builder's one call (the guide's Derived/Test/ToyasCard.lean, 'card_holds'). Laid BY PROGRAM, IN A SANDBOX (cutbox-door.mjs). By AI agents, Wed Nov 11 2026. No macro, syntax, notation, axiom, sorry.
-/
import Derived.Test.YtkbmbmdemajoaaaGreatDoorRows
import GoSem.ClaimSeven
namespace Go.Proofs.YtkbmbmdemajoaaaGreatDoor
namespace Rows

/-- THE TIED CARD OF 'voltaiclaw.DiodeOne'. -/
def diodeOneCard : Claim7 := { stood := { row := diodeOneRow, standIns := [], harness := (true, "4d06de110badcd8b237a9913a7e533539181ba0d695e1ccf5eda799d94328756"), looks := false }, kinds := [], alts := [], laidByText := true, laidKinds := [.data, .data, .data, .data, .data, .pinned], laidTests := true, laidLooks := .later }
def DiodeOneCardSaid : Prop := Claim7.holds Tryz.pinned (.plain (OpenSpec.ofChange diodeOneSpec)) diodeOneCard

/-- THE SECOND FORM's CARD OF 'voltaiclaw.DiodeOne'. -/
def diodeOneUptoCard : Claim7 := { stood := { row := diodeOneUptoRow, standIns := [], harness := (true, "4d06de110badcd8b237a9913a7e533539181ba0d695e1ccf5eda799d94328756"), looks := false }, kinds := [], alts := [], laidByText := true, laidKinds := [.data, .data, .data, .data, .data, .pinned], laidTests := true, laidLooks := .later }
def DiodeOneUptoCardSaid : Prop := Claim7.holds Tryz.pinned (.plain (OpenSpec.upto diodeOneSpec)) diodeOneUptoCard
end Rows
end Go.Proofs.YtkbmbmdemajoaaaGreatDoor
