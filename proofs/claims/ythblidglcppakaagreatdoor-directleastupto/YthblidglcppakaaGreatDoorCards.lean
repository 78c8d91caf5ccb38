/-
  DERIVED. GIVEN WITH THE SEED: THE CARDS: each row of YthblidglcppakaaGreatDoorRows.lean that lists a variable, with what it lists TIED to the program's text (the seventh form; the later family's looks); each row that meets fmt, with fmt's text TOLD by the authors' own Lean function (tested against real Go, not proved from fmt's source: count such statements apart). THE CARD IS WHAT COUNTS. Prove the row's statement (the work); the ties are given (YthblidglcppakaaGreatDoorTie.lean); close each card by the builder's one call (the guide's Derived/Test/ToyasCard.lean, 'card_holds'). Laid BY PROGRAM, IN A SANDBOX (cutbox-door.mjs). By AI agents, Wed Nov 11 2026. No macro, syntax, notation, axiom, sorry.
-/
import Derived.Test.YthblidglcppakaaGreatDoorRows
import GoSem.ClaimSeven
namespace Go.Proofs.YthblidglcppakaaGreatDoor
namespace Rows

/-- THE TIED CARD OF 'voltaiclaw.DirectLeast'. -/
def directLeastCard : Claim7 := { stood := { row := directLeastRow, standIns := [], harness := (true, "2988fae53735616eeea2816b3e94abb67ed13ebf0f03a867d92193ac0364995f"), looks := false }, kinds := [], alts := [], laidByText := true, laidKinds := [.data, .data, .data, .data, .data, .pinned], laidTests := true, laidLooks := .later }
def DirectLeastCardSaid : Prop := Claim7.holds Tryz.pinned (.plain (OpenSpec.ofChange directLeastSpec)) directLeastCard

/-- THE SECOND FORM's CARD OF 'voltaiclaw.DirectLeast'. -/
def directLeastUptoCard : Claim7 := { stood := { row := directLeastUptoRow, standIns := [], harness := (true, "2988fae53735616eeea2816b3e94abb67ed13ebf0f03a867d92193ac0364995f"), looks := false }, kinds := [], alts := [], laidByText := true, laidKinds := [.data, .data, .data, .data, .data, .pinned], laidTests := true, laidLooks := .later }
def DirectLeastUptoCardSaid : Prop := Claim7.holds Tryz.pinned (.plain (OpenSpec.upto directLeastSpec)) directLeastUptoCard
end Rows
end Go.Proofs.YthblidglcppakaaGreatDoor
