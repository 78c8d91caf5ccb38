/-
  DERIVED. GIVEN WITH THE SEED: THE CARDS: each row of YtgdiepfknfnmjaaGreatDoorRows.lean that lists a variable, with what it lists TIED to the program's text (the seventh form; the later family's looks); each row that meets fmt, with fmt's text TOLD by the authors' own Lean function (tested against real Go, not proved from fmt's source: count such statements apart). THE CARD IS WHAT COUNTS. Prove the row's statement (the work); the ties are given (YtgdiepfknfnmjaaGreatDoorTie.lean); close each card by the builder's one call (the guide's Derived/Test/ToyasCard.lean, 'card_holds'). Laid BY PROGRAM, IN A SANDBOX (cutbox-door.mjs). By AI agents, Wed Nov 11 2026. No macro, syntax, notation, axiom, sorry.
-/
import Derived.Test.YtgdiepfknfnmjaaGreatDoorRows
import GoSem.ClaimSeven
namespace Go.Proofs.YtgdiepfknfnmjaaGreatDoor
namespace Rows

/-- THE TIED CARD OF 'voltaiclaw.UnitsRead'. -/
def unitsReadCard : Claim7 := { stood := { row := unitsReadRow, standIns := [], harness := (true, "44553b82dca96e1efd324e983fb3f615825d8a9dcd7e224322ca998b150d908b"), looks := false }, kinds := [], alts := [], laidByText := true, laidKinds := [.data, .data, .data, .data, .data, .mapped, .mapped, .pinned], laidTests := true, laidLooks := .later }
def UnitsReadCardSaid : Prop := Claim7.holds Tryz.pinned (.plain (OpenSpec.ofChange unitsReadSpec)) unitsReadCard

/-- THE TIED CARD OF 'voltaiclaw.UnitsWrite'. -/
def unitsWriteCard : Claim7 := { stood := { row := unitsWriteRow, standIns := [], harness := (true, "44553b82dca96e1efd324e983fb3f615825d8a9dcd7e224322ca998b150d908b"), looks := false }, kinds := [], alts := [], laidByText := true, laidKinds := [.data, .data, .data, .data, .data, .mapped, .mapped, .pinned], laidTests := true, laidLooks := .later }
def UnitsWriteCardSaid : Prop := Claim7.holds Tryz.pinned (.plain (OpenSpec.ofChange unitsWriteSpec)) unitsWriteCard

/-- THE SECOND FORM's CARD OF 'voltaiclaw.UnitsRead'. -/
def unitsReadUptoCard : Claim7 := { stood := { row := unitsReadUptoRow, standIns := [], harness := (true, "44553b82dca96e1efd324e983fb3f615825d8a9dcd7e224322ca998b150d908b"), looks := false }, kinds := [], alts := [], laidByText := true, laidKinds := [.data, .data, .data, .data, .data, .mapped, .mapped, .pinned], laidTests := true, laidLooks := .later }
def UnitsReadUptoCardSaid : Prop := Claim7.holds Tryz.pinned (.plain (OpenSpec.upto unitsReadSpec)) unitsReadUptoCard

/-- THE SECOND FORM's CARD OF 'voltaiclaw.UnitsWrite'. -/
def unitsWriteUptoCard : Claim7 := { stood := { row := unitsWriteUptoRow, standIns := [], harness := (true, "44553b82dca96e1efd324e983fb3f615825d8a9dcd7e224322ca998b150d908b"), looks := false }, kinds := [], alts := [], laidByText := true, laidKinds := [.data, .data, .data, .data, .data, .mapped, .mapped, .pinned], laidTests := true, laidLooks := .later }
def UnitsWriteUptoCardSaid : Prop := Claim7.holds Tryz.pinned (.plain (OpenSpec.upto unitsWriteSpec)) unitsWriteUptoCard
end Rows
end Go.Proofs.YtgdiepfknfnmjaaGreatDoor
