/-
  DERIVED. GIVEN WITH THE SEED: THE CARDS: each row of YtjemobjfjgjbhaeGreatDoorRows.lean that lists a variable, with what it lists TIED to the program's text (the seventh form; the later family's looks); each row that meets fmt, with fmt's text TOLD by the authors' own Lean function (tested against real Go, not proved from fmt's source: count such statements apart). THE CARD IS WHAT COUNTS. Prove the row's statement (the work); the ties are given (YtjemobjfjgjbhaeGreatDoorTie.lean); close each card by the builder's one call (the guide's Derived/Test/ToyasCard.lean, 'card_holds'). Laid BY PROGRAM, IN A SANDBOX (cutbox-door.mjs). By AI agents, Wed Nov 11 2026. No macro, syntax, notation, axiom, sorry.
-/
import Derived.Test.YtjemobjfjgjbhaeGreatDoorRows
import GoSem.ClaimSeven
namespace Go.Proofs.YtjemobjfjgjbhaeGreatDoor
namespace Rows

/-- THE TIED CARD OF 'voltaiclaw.StableKnown'. -/
def stableKnownCard : Claim7 := { stood := { row := stableKnownRow, standIns := [], harness := (true, "5f6522263050ef4238a4cf816bd5da4465794409350fddc801f6a066699b6b1e"), looks := false }, kinds := [], alts := [], laidByText := true, laidKinds := [.data, .data, .data, .data, .pinned], laidTests := true, laidLooks := .later }
def StableKnownCardSaid : Prop := Claim7.holds Tryz.pinned (.plain (OpenSpec.ofChange stableKnownSpec)) stableKnownCard

/-- THE TIED CARD OF 'voltaiclaw.StableRouth'. -/
def stableRouthCard : Claim7 := { stood := { row := stableRouthRow, standIns := [], harness := (true, "5f6522263050ef4238a4cf816bd5da4465794409350fddc801f6a066699b6b1e"), looks := false }, kinds := [], alts := [], laidByText := true, laidKinds := [.data, .data, .data, .data, .pinned], laidTests := true, laidLooks := .later }
def StableRouthCardSaid : Prop := Claim7.holds Tryz.pinned (.plain (OpenSpec.ofChange stableRouthSpec)) stableRouthCard

/-- THE SECOND FORM's CARD OF 'voltaiclaw.StableKnown'. -/
def stableKnownUptoCard : Claim7 := { stood := { row := stableKnownUptoRow, standIns := [], harness := (true, "5f6522263050ef4238a4cf816bd5da4465794409350fddc801f6a066699b6b1e"), looks := false }, kinds := [], alts := [], laidByText := true, laidKinds := [.data, .data, .data, .data, .pinned], laidTests := true, laidLooks := .later }
def StableKnownUptoCardSaid : Prop := Claim7.holds Tryz.pinned (.plain (OpenSpec.upto stableKnownSpec)) stableKnownUptoCard

/-- THE SECOND FORM's CARD OF 'voltaiclaw.StableRouth'. -/
def stableRouthUptoCard : Claim7 := { stood := { row := stableRouthUptoRow, standIns := [], harness := (true, "5f6522263050ef4238a4cf816bd5da4465794409350fddc801f6a066699b6b1e"), looks := false }, kinds := [], alts := [], laidByText := true, laidKinds := [.data, .data, .data, .data, .pinned], laidTests := true, laidLooks := .later }
def StableRouthUptoCardSaid : Prop := Claim7.holds Tryz.pinned (.plain (OpenSpec.upto stableRouthSpec)) stableRouthUptoCard
end Rows
end Go.Proofs.YtjemobjfjgjbhaeGreatDoor
