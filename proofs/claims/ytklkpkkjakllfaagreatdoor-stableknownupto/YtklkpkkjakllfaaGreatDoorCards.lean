/-
  DERIVED. GIVEN WITH THE SEED: THE CARDS: each row of YtklkpkkjakllfaaGreatDoorRows.lean that lists a variable, with what it lists TIED to the program's text (the seventh form; the later family's looks); each row that meets fmt, with fmt's text TOLD by the authors' own Lean function (tested against real Go, not proved from fmt's source: count such statements apart). THE CARD IS WHAT COUNTS. Prove the row's statement (the work); the ties are given (YtklkpkkjakllfaaGreatDoorTie.lean); close each card by the builder's one call (the guide's Derived/Test/ToyasCard.lean, 'card_holds'). Laid BY PROGRAM, IN A SANDBOX (cutbox-door.mjs). By AI agents, Wed Nov 11 2026. No macro, syntax, notation, axiom, sorry.
-/
import Derived.Test.YtklkpkkjakllfaaGreatDoorRows
import GoSem.ClaimSeven
namespace Go.Proofs.YtklkpkkjakllfaaGreatDoor
namespace Rows

/-- THE TIED CARD OF 'voltaiclaw.StableKnown'. -/
def stableKnownCard : Claim7 := { stood := { row := stableKnownRow, standIns := [], harness := (true, "d4f6f478964f9626f1622ab07c6e72b89530c99949b6c52fc70558298310ea15"), looks := false }, kinds := [], alts := [], laidByText := true, laidKinds := [.data, .data, .data, .data, .pinned], laidTests := true, laidLooks := .later }
def StableKnownCardSaid : Prop := Claim7.holds Tryz.pinned (.plain (OpenSpec.ofChange stableKnownSpec)) stableKnownCard

/-- THE SECOND FORM's CARD OF 'voltaiclaw.StableKnown'. -/
def stableKnownUptoCard : Claim7 := { stood := { row := stableKnownUptoRow, standIns := [], harness := (true, "d4f6f478964f9626f1622ab07c6e72b89530c99949b6c52fc70558298310ea15"), looks := false }, kinds := [], alts := [], laidByText := true, laidKinds := [.data, .data, .data, .data, .pinned], laidTests := true, laidLooks := .later }
def StableKnownUptoCardSaid : Prop := Claim7.holds Tryz.pinned (.plain (OpenSpec.upto stableKnownSpec)) stableKnownUptoCard
end Rows
end Go.Proofs.YtklkpkkjakllfaaGreatDoor
