/-
  DERIVED. GIVEN WITH THE SEED: THE CARDS: each row of YtbfohfjobncehaaGreatDoorRows.lean that lists a variable, with what it lists TIED to the program's text (the seventh form; the later family's looks); each row that meets fmt, with fmt's text TOLD by the authors' own Lean function (tested against real Go, not proved from fmt's source: count such statements apart). THE CARD IS WHAT COUNTS. Prove the row's statement (the work); the ties are given (YtbfohfjobncehaaGreatDoorTie.lean); close each card by the builder's one call (the guide's Derived/Test/ToyasCard.lean, 'card_holds'). Laid BY PROGRAM, IN A SANDBOX (cutbox-door.mjs). By AI agents, Wed Nov 11 2026. No macro, syntax, notation, axiom, sorry.
-/
import Derived.Test.YtbfohfjobncehaaGreatDoorRows
import GoSem.ClaimSeven
namespace Go.Proofs.YtbfohfjobncehaaGreatDoor
namespace Rows

/-- THE TIED CARD OF 'voltaiclaw.DirectSays'. -/
def directSaysCard : Claim7 := { stood := { row := directSaysRow, standIns := [], harness := (true, "759f9cf83ccad2e77bcea436788706fa68e0df382498724d4fd467d5ed13f250"), looks := false }, kinds := [], alts := [], laidByText := true, laidKinds := [.data, .data, .data, .data, .data, .data, .pinned], laidTests := true, laidLooks := .later }
def DirectSaysCardSaid : Prop := Claim7.holds Tryz.pinned (.plain (OpenSpec.ofChange directSaysSpec)) directSaysCard

/-- THE SECOND FORM's CARD OF 'voltaiclaw.DirectSays'. -/
def directSaysUptoCard : Claim7 := { stood := { row := directSaysUptoRow, standIns := [], harness := (true, "759f9cf83ccad2e77bcea436788706fa68e0df382498724d4fd467d5ed13f250"), looks := false }, kinds := [], alts := [], laidByText := true, laidKinds := [.data, .data, .data, .data, .data, .data, .pinned], laidTests := true, laidLooks := .later }
def DirectSaysUptoCardSaid : Prop := Claim7.holds Tryz.pinned (.plain (OpenSpec.upto directSaysSpec)) directSaysUptoCard
end Rows
end Go.Proofs.YtbfohfjobncehaaGreatDoor
