/-
  DERIVED. GIVEN WITH THE SEED: THE CARDS: each row of YtbgikeajconleaaGreatDoorRows.lean that lists a variable, with what it lists TIED to the program's text (the seventh form; the later family's looks); each row that meets fmt, with fmt's text TOLD by the authors' own Lean function (tested against real Go, not proved from fmt's source: count such statements apart). THE CARD IS WHAT COUNTS. Prove the row's statement (the work); the ties are given (YtbgikeajconleaaGreatDoorTie.lean); close each card by the builder's one call (the guide's Derived/Test/ToyasCard.lean, 'card_holds'). Laid BY PROGRAM, IN A SANDBOX (cutbox-door.mjs). By AI agents, Wed Nov 11 2026. No macro, syntax, notation, axiom, sorry.
-/
import Derived.Test.YtbgikeajconleaaGreatDoorRows
import GoSem.ClaimSeven
namespace Go.Proofs.YtbgikeajconleaaGreatDoor
namespace Rows

/-- THE TIED CARD OF 'voltaiclaw.SynthBuilds'. -/
def synthBuildsCard : Claim7 := { stood := { row := synthBuildsRow, standIns := [], harness := (true, "3c505c8fec0dd022a9071e8b7e95817e397a4d2aeae8e4f3f0ab3714965529bc"), looks := false }, kinds := [], alts := [], laidByText := true, laidKinds := [.data, .data, .data, .data, .pinned], laidTests := true, laidLooks := .later }
def SynthBuildsCardSaid : Prop := Claim7.holds Tryz.pinned (.plain (OpenSpec.ofChange synthBuildsSpec)) synthBuildsCard

/-- THE SECOND FORM's CARD OF 'voltaiclaw.SynthBuilds'. -/
def synthBuildsUptoCard : Claim7 := { stood := { row := synthBuildsUptoRow, standIns := [], harness := (true, "3c505c8fec0dd022a9071e8b7e95817e397a4d2aeae8e4f3f0ab3714965529bc"), looks := false }, kinds := [], alts := [], laidByText := true, laidKinds := [.data, .data, .data, .data, .pinned], laidTests := true, laidLooks := .later }
def SynthBuildsUptoCardSaid : Prop := Claim7.holds Tryz.pinned (.plain (OpenSpec.upto synthBuildsSpec)) synthBuildsUptoCard
end Rows
end Go.Proofs.YtbgikeajconleaaGreatDoor
