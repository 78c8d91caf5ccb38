/-
  DERIVED. GIVEN WITH THE SEED: THE CARDS: each row of YtnlmfpkaomebdaaGreatDoorRows.lean that lists a variable, with what it lists TIED to the program's text (the seventh form; the later family's looks); each row that meets fmt, with fmt's text TOLD by the authors' own Lean function (tested against real Go, not proved from fmt's source: count such statements apart). THE CARD IS WHAT COUNTS. Prove the row's statement (the work); the ties are given (YtnlmfpkaomebdaaGreatDoorTie.lean); close each card by the builder's one call (the guide's Derived/Test/ToyasCard.lean, 'card_holds'). Laid BY PROGRAM, IN A SANDBOX (cutbox-door.mjs). By AI agents, Wed Nov 11 2026. No macro, syntax, notation, axiom, sorry.
-/
import Derived.Test.YtnlmfpkaomebdaaGreatDoorRows
import GoSem.ClaimSeven
namespace Go.Proofs.YtnlmfpkaomebdaaGreatDoor
namespace Rows

/-- THE TIED CARD OF 'voltaiclaw.StableRouth'. -/
def stableRouthCard : Claim7 := { stood := { row := stableRouthRow, standIns := [], harness := (true, "7a2221cd6172561cdf15d050ec74d9ff79644cd632df287332bdf6991c4a61a5"), looks := false }, kinds := [], alts := [], laidByText := true, laidKinds := [.data, .data, .data, .data, .pinned], laidTests := true, laidLooks := .later }
def StableRouthCardSaid : Prop := Claim7.holds Tryz.pinned (.plain (OpenSpec.ofChange stableRouthSpec)) stableRouthCard

/-- THE SECOND FORM's CARD OF 'voltaiclaw.StableRouth'. -/
def stableRouthUptoCard : Claim7 := { stood := { row := stableRouthUptoRow, standIns := [], harness := (true, "7a2221cd6172561cdf15d050ec74d9ff79644cd632df287332bdf6991c4a61a5"), looks := false }, kinds := [], alts := [], laidByText := true, laidKinds := [.data, .data, .data, .data, .pinned], laidTests := true, laidLooks := .later }
def StableRouthUptoCardSaid : Prop := Claim7.holds Tryz.pinned (.plain (OpenSpec.upto stableRouthSpec)) stableRouthUptoCard
end Rows
end Go.Proofs.YtnlmfpkaomebdaaGreatDoor
