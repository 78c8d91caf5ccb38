/-
  DERIVED. GIVEN WITH THE SEED: THE CARDS: each row of YtgilmecjbjoonabGreatDoorRows.lean that lists a variable, with what it lists TIED to the program's text (the seventh form; the later family's looks); each row that meets fmt, with fmt's text TOLD by the authors' own Lean function (tested against real Go, not proved from fmt's source: count such statements apart). THE CARD IS WHAT COUNTS. Prove the row's statement (the work); the ties are given (YtgilmecjbjoonabGreatDoorTie.lean); close each card by the builder's one call (the guide's Derived/Test/ToyasCard.lean, 'card_holds'). Laid BY PROGRAM, IN A SANDBOX (cutbox-door.mjs). By AI agents, Wed Nov 11 2026. No macro, syntax, notation, axiom, sorry.
-/
import Derived.Test.YtgilmecjbjoonabGreatDoorRows
import GoSem.ClaimSeven
namespace Go.Proofs.YtgilmecjbjoonabGreatDoor
namespace Rows

/-- THE TIED CARD OF 'voltaiclaw.DirectSays'. -/
def directSaysCard : Claim7 := { stood := { row := directSaysRow, standIns := [], harness := (true, "6e6e49b6b6b85677e9c25d6209117df2aaac38f98e0a7db5426c064bde4158fa"), looks := false }, kinds := [], alts := [], laidByText := true, laidKinds := [.data, .data, .data, .data, .data, .data, .pinned], laidTests := true, laidLooks := .later }
def DirectSaysCardSaid : Prop := Claim7.holds Tryz.pinned (.plain (OpenSpec.ofChange directSaysSpec)) directSaysCard

/-- THE TIED CARD OF 'voltaiclaw.DirectTellegen'. -/
def directTellegenCard : Claim7 := { stood := { row := directTellegenRow, standIns := [], harness := (true, "6e6e49b6b6b85677e9c25d6209117df2aaac38f98e0a7db5426c064bde4158fa"), looks := false }, kinds := [], alts := [], laidByText := true, laidKinds := [.data, .data, .data, .data, .data, .pinned], laidTests := true, laidLooks := .later }
def DirectTellegenCardSaid : Prop := Claim7.holds Tryz.pinned (.plain (OpenSpec.ofChange directTellegenSpec)) directTellegenCard

/-- THE TIED CARD OF 'voltaiclaw.DirectSums'. -/
def directSumsCard : Claim7 := { stood := { row := directSumsRow, standIns := [], harness := (true, "6e6e49b6b6b85677e9c25d6209117df2aaac38f98e0a7db5426c064bde4158fa"), looks := false }, kinds := [], alts := [], laidByText := true, laidKinds := [.data, .data, .data, .data, .data, .pinned], laidTests := true, laidLooks := .later }
def DirectSumsCardSaid : Prop := Claim7.holds Tryz.pinned (.plain (OpenSpec.ofChange directSumsSpec)) directSumsCard

/-- THE TIED CARD OF 'voltaiclaw.DirectThevenin'. -/
def directTheveninCard : Claim7 := { stood := { row := directTheveninRow, standIns := [], harness := (true, "6e6e49b6b6b85677e9c25d6209117df2aaac38f98e0a7db5426c064bde4158fa"), looks := false }, kinds := [], alts := [], laidByText := true, laidKinds := [.data, .data, .data, .data, .data, .pinned], laidTests := true, laidLooks := .later }
def DirectTheveninCardSaid : Prop := Claim7.holds Tryz.pinned (.plain (OpenSpec.ofChange directTheveninSpec)) directTheveninCard

/-- THE TIED CARD OF 'voltaiclaw.DirectBothWays'. -/
def directBothWaysCard : Claim7 := { stood := { row := directBothWaysRow, standIns := [], harness := (true, "6e6e49b6b6b85677e9c25d6209117df2aaac38f98e0a7db5426c064bde4158fa"), looks := false }, kinds := [], alts := [], laidByText := true, laidKinds := [.data, .data, .data, .data, .data, .pinned], laidTests := true, laidLooks := .later }
def DirectBothWaysCardSaid : Prop := Claim7.holds Tryz.pinned (.plain (OpenSpec.ofChange directBothWaysSpec)) directBothWaysCard

/-- THE TIED CARD OF 'voltaiclaw.DirectLeast'. -/
def directLeastCard : Claim7 := { stood := { row := directLeastRow, standIns := [], harness := (true, "6e6e49b6b6b85677e9c25d6209117df2aaac38f98e0a7db5426c064bde4158fa"), looks := false }, kinds := [], alts := [], laidByText := true, laidKinds := [.data, .data, .data, .data, .data, .pinned], laidTests := true, laidLooks := .later }
def DirectLeastCardSaid : Prop := Claim7.holds Tryz.pinned (.plain (OpenSpec.ofChange directLeastSpec)) directLeastCard

/-- THE SECOND FORM's CARD OF 'voltaiclaw.DirectSays'. -/
def directSaysUptoCard : Claim7 := { stood := { row := directSaysUptoRow, standIns := [], harness := (true, "6e6e49b6b6b85677e9c25d6209117df2aaac38f98e0a7db5426c064bde4158fa"), looks := false }, kinds := [], alts := [], laidByText := true, laidKinds := [.data, .data, .data, .data, .data, .data, .pinned], laidTests := true, laidLooks := .later }
def DirectSaysUptoCardSaid : Prop := Claim7.holds Tryz.pinned (.plain (OpenSpec.upto directSaysSpec)) directSaysUptoCard

/-- THE SECOND FORM's CARD OF 'voltaiclaw.DirectTellegen'. -/
def directTellegenUptoCard : Claim7 := { stood := { row := directTellegenUptoRow, standIns := [], harness := (true, "6e6e49b6b6b85677e9c25d6209117df2aaac38f98e0a7db5426c064bde4158fa"), looks := false }, kinds := [], alts := [], laidByText := true, laidKinds := [.data, .data, .data, .data, .data, .pinned], laidTests := true, laidLooks := .later }
def DirectTellegenUptoCardSaid : Prop := Claim7.holds Tryz.pinned (.plain (OpenSpec.upto directTellegenSpec)) directTellegenUptoCard

/-- THE SECOND FORM's CARD OF 'voltaiclaw.DirectSums'. -/
def directSumsUptoCard : Claim7 := { stood := { row := directSumsUptoRow, standIns := [], harness := (true, "6e6e49b6b6b85677e9c25d6209117df2aaac38f98e0a7db5426c064bde4158fa"), looks := false }, kinds := [], alts := [], laidByText := true, laidKinds := [.data, .data, .data, .data, .data, .pinned], laidTests := true, laidLooks := .later }
def DirectSumsUptoCardSaid : Prop := Claim7.holds Tryz.pinned (.plain (OpenSpec.upto directSumsSpec)) directSumsUptoCard

/-- THE SECOND FORM's CARD OF 'voltaiclaw.DirectThevenin'. -/
def directTheveninUptoCard : Claim7 := { stood := { row := directTheveninUptoRow, standIns := [], harness := (true, "6e6e49b6b6b85677e9c25d6209117df2aaac38f98e0a7db5426c064bde4158fa"), looks := false }, kinds := [], alts := [], laidByText := true, laidKinds := [.data, .data, .data, .data, .data, .pinned], laidTests := true, laidLooks := .later }
def DirectTheveninUptoCardSaid : Prop := Claim7.holds Tryz.pinned (.plain (OpenSpec.upto directTheveninSpec)) directTheveninUptoCard

/-- THE SECOND FORM's CARD OF 'voltaiclaw.DirectBothWays'. -/
def directBothWaysUptoCard : Claim7 := { stood := { row := directBothWaysUptoRow, standIns := [], harness := (true, "6e6e49b6b6b85677e9c25d6209117df2aaac38f98e0a7db5426c064bde4158fa"), looks := false }, kinds := [], alts := [], laidByText := true, laidKinds := [.data, .data, .data, .data, .data, .pinned], laidTests := true, laidLooks := .later }
def DirectBothWaysUptoCardSaid : Prop := Claim7.holds Tryz.pinned (.plain (OpenSpec.upto directBothWaysSpec)) directBothWaysUptoCard

/-- THE SECOND FORM's CARD OF 'voltaiclaw.DirectLeast'. -/
def directLeastUptoCard : Claim7 := { stood := { row := directLeastUptoRow, standIns := [], harness := (true, "6e6e49b6b6b85677e9c25d6209117df2aaac38f98e0a7db5426c064bde4158fa"), looks := false }, kinds := [], alts := [], laidByText := true, laidKinds := [.data, .data, .data, .data, .data, .pinned], laidTests := true, laidLooks := .later }
def DirectLeastUptoCardSaid : Prop := Claim7.holds Tryz.pinned (.plain (OpenSpec.upto directLeastSpec)) directLeastUptoCard
end Rows
end Go.Proofs.YtgilmecjbjoonabGreatDoor
