/-
  DERIVED. GIVEN WITH THE SEED: THE CARDS: each row of YtfhamfgcjdhmdaaDoorRows.lean that lists a variable, with what it lists TIED to the program's text (the seventh form; the later family's looks); each row that meets fmt, with fmt's text TOLD by the authors' own Lean function (tested against real Go, not proved from fmt's source: count such statements apart). THE CARD IS WHAT COUNTS. Prove the row's statement (the work); the ties are given (YtfhamfgcjdhmdaaDoorTie.lean); close each card by the builder's one call (the guide's Derived/Test/ToyasCard.lean, 'card_holds'). Laid BY PROGRAM, IN A SANDBOX (cutbox-door.mjs). By AI agents, Wed Nov 11 2026. No macro, syntax, notation, axiom, sorry.
-/
import Derived.Test.YtfhamfgcjdhmdaaDoorRows
import GoSem.ClaimSeven
namespace Go.Proofs.YtfhamfgcjdhmdaaDoor
namespace Rows

/-- THE TIED CARD OF 'voltaiclaw.NetTurns'. -/
def netTurnsCard : Claim7 := { stood := { row := netTurnsRow, standIns := [], harness := (true, "655bd7d843dd7926b1f32b7f68ad6824282d78b02f2ee6cb199b9ff8e0ae9e6a"), looks := false }, kinds := [], alts := [], laidByText := true, laidKinds := [.data], laidTests := true, laidLooks := .later }
def NetTurnsCardSaid : Prop := Claim7.holds Tryd.pinned (.plain (OpenSpec.ofChange netTurnsSpec)) netTurnsCard

/-- THE SECOND FORM's CARD OF 'voltaiclaw.NetTurns'. -/
def netTurnsUptoCard : Claim7 := { stood := { row := netTurnsUptoRow, standIns := [], harness := (true, "655bd7d843dd7926b1f32b7f68ad6824282d78b02f2ee6cb199b9ff8e0ae9e6a"), looks := false }, kinds := [], alts := [], laidByText := true, laidKinds := [.data], laidTests := true, laidLooks := .later }
def NetTurnsUptoCardSaid : Prop := Claim7.holds Tryd.pinned (.plain (OpenSpec.upto netTurnsSpec)) netTurnsUptoCard
end Rows
end Go.Proofs.YtfhamfgcjdhmdaaDoor
