/-
  DERIVED. GIVEN WITH THE SEED: THE CARDS: each row of YtkhgaelnglndiaaGreatDoorRows.lean that lists a variable, with what it lists TIED to the program's text (the seventh form; the later family's looks); each row that meets fmt, with fmt's text TOLD by the authors' own Lean function (tested against real Go, not proved from fmt's source: count such statements apart). THE CARD IS WHAT COUNTS. Prove the row's statement (the work); the ties are given (YtkhgaelnglndiaaGreatDoorTie.lean); close each card by the builder's one call (the guide's Derived/Test/ToyasCard.lean, 'card_holds'). Laid BY PROGRAM, IN A SANDBOX (cutbox-door.mjs). By AI agents, Wed Nov 11 2026. No macro, syntax, notation, axiom, sorry.
-/
import Derived.Test.YtkhgaelnglndiaaGreatDoorRows
import GoSem.ClaimSeven
namespace Go.Proofs.YtkhgaelnglndiaaGreatDoor
namespace Rows

/-- THE TIED CARD OF 'voltaiclaw.DirectTellegen'. -/
def directTellegenCard : Claim7 := { stood := { row := directTellegenRow, standIns := [], harness := (true, "137ebaf2d678f47cf2f111e3b07e8076bc47e41fefb92c13bb3d4e3b216dfd45"), looks := false }, kinds := [], alts := [], laidByText := true, laidKinds := [.data, .data, .data, .data, .data, .pinned], laidTests := true, laidLooks := .later }
def DirectTellegenCardSaid : Prop := Claim7.holds Tryz.pinned (.plain (OpenSpec.ofChange directTellegenSpec)) directTellegenCard

/-- THE TIED CARD OF 'voltaiclaw.DirectThevenin'. -/
def directTheveninCard : Claim7 := { stood := { row := directTheveninRow, standIns := [], harness := (true, "137ebaf2d678f47cf2f111e3b07e8076bc47e41fefb92c13bb3d4e3b216dfd45"), looks := false }, kinds := [], alts := [], laidByText := true, laidKinds := [.data, .data, .data, .data, .data, .pinned], laidTests := true, laidLooks := .later }
def DirectTheveninCardSaid : Prop := Claim7.holds Tryz.pinned (.plain (OpenSpec.ofChange directTheveninSpec)) directTheveninCard

/-- THE SECOND FORM's CARD OF 'voltaiclaw.DirectTellegen'. -/
def directTellegenUptoCard : Claim7 := { stood := { row := directTellegenUptoRow, standIns := [], harness := (true, "137ebaf2d678f47cf2f111e3b07e8076bc47e41fefb92c13bb3d4e3b216dfd45"), looks := false }, kinds := [], alts := [], laidByText := true, laidKinds := [.data, .data, .data, .data, .data, .pinned], laidTests := true, laidLooks := .later }
def DirectTellegenUptoCardSaid : Prop := Claim7.holds Tryz.pinned (.plain (OpenSpec.upto directTellegenSpec)) directTellegenUptoCard

/-- THE SECOND FORM's CARD OF 'voltaiclaw.DirectThevenin'. -/
def directTheveninUptoCard : Claim7 := { stood := { row := directTheveninUptoRow, standIns := [], harness := (true, "137ebaf2d678f47cf2f111e3b07e8076bc47e41fefb92c13bb3d4e3b216dfd45"), looks := false }, kinds := [], alts := [], laidByText := true, laidKinds := [.data, .data, .data, .data, .data, .pinned], laidTests := true, laidLooks := .later }
def DirectTheveninUptoCardSaid : Prop := Claim7.holds Tryz.pinned (.plain (OpenSpec.upto directTheveninSpec)) directTheveninUptoCard
end Rows
end Go.Proofs.YtkhgaelnglndiaaGreatDoor
