/-
  DERIVED. GIVEN WITH THE SEED: THE CARDS: each row of YtcoeancbjafooaaGreatDoorRows.lean that lists a variable, with what it lists TIED to the program's text (the seventh form; the later family's looks); each row that meets fmt, with fmt's text TOLD by the authors' own Lean function (tested against real Go, not proved from fmt's source: count such statements apart). THE CARD IS WHAT COUNTS. Prove the row's statement (the work); the ties are given (YtcoeancbjafooaaGreatDoorTie.lean); close each card by the builder's one call (the guide's Derived/Test/ToyasCard.lean, 'card_holds'). Laid BY PROGRAM, IN A SANDBOX (cutbox-door.mjs). By AI agents, Wed Nov 11 2026. No macro, syntax, notation, axiom, sorry.
-/
import Derived.Test.YtcoeancbjafooaaGreatDoorRows
import GoSem.ClaimSeven
namespace Go.Proofs.YtcoeancbjafooaaGreatDoor
namespace Rows

/-- THE TIED CARD OF 'voltaiclaw.DirectTellegen'. -/
def directTellegenCard : Claim7 := { stood := { row := directTellegenRow, standIns := [], harness := (true, "2994c8f398480989a564d5529fc962b1935678841de8c2be587bffde449d873f"), looks := false }, kinds := [], alts := [], laidByText := true, laidKinds := [.data, .data, .data, .data, .data, .pinned], laidTests := true, laidLooks := .later }
def DirectTellegenCardSaid : Prop := Claim7.holds Tryz.pinned (.plain (OpenSpec.ofChange directTellegenSpec)) directTellegenCard

/-- THE TIED CARD OF 'voltaiclaw.DirectSums'. -/
def directSumsCard : Claim7 := { stood := { row := directSumsRow, standIns := [], harness := (true, "2994c8f398480989a564d5529fc962b1935678841de8c2be587bffde449d873f"), looks := false }, kinds := [], alts := [], laidByText := true, laidKinds := [.data, .data, .data, .data, .data, .pinned], laidTests := true, laidLooks := .later }
def DirectSumsCardSaid : Prop := Claim7.holds Tryz.pinned (.plain (OpenSpec.ofChange directSumsSpec)) directSumsCard

/-- THE TIED CARD OF 'voltaiclaw.DirectThevenin'. -/
def directTheveninCard : Claim7 := { stood := { row := directTheveninRow, standIns := [], harness := (true, "2994c8f398480989a564d5529fc962b1935678841de8c2be587bffde449d873f"), looks := false }, kinds := [], alts := [], laidByText := true, laidKinds := [.data, .data, .data, .data, .data, .pinned], laidTests := true, laidLooks := .later }
def DirectTheveninCardSaid : Prop := Claim7.holds Tryz.pinned (.plain (OpenSpec.ofChange directTheveninSpec)) directTheveninCard

/-- THE TIED CARD OF 'voltaiclaw.DirectBothWays'. -/
def directBothWaysCard : Claim7 := { stood := { row := directBothWaysRow, standIns := [], harness := (true, "2994c8f398480989a564d5529fc962b1935678841de8c2be587bffde449d873f"), looks := false }, kinds := [], alts := [], laidByText := true, laidKinds := [.data, .data, .data, .data, .data, .pinned], laidTests := true, laidLooks := .later }
def DirectBothWaysCardSaid : Prop := Claim7.holds Tryz.pinned (.plain (OpenSpec.ofChange directBothWaysSpec)) directBothWaysCard

/-- THE TIED CARD OF 'voltaiclaw.DirectLeast'. -/
def directLeastCard : Claim7 := { stood := { row := directLeastRow, standIns := [], harness := (true, "2994c8f398480989a564d5529fc962b1935678841de8c2be587bffde449d873f"), looks := false }, kinds := [], alts := [], laidByText := true, laidKinds := [.data, .data, .data, .data, .data, .pinned], laidTests := true, laidLooks := .later }
def DirectLeastCardSaid : Prop := Claim7.holds Tryz.pinned (.plain (OpenSpec.ofChange directLeastSpec)) directLeastCard

/-- THE SECOND FORM's CARD OF 'voltaiclaw.DirectTellegen'. -/
def directTellegenUptoCard : Claim7 := { stood := { row := directTellegenUptoRow, standIns := [], harness := (true, "2994c8f398480989a564d5529fc962b1935678841de8c2be587bffde449d873f"), looks := false }, kinds := [], alts := [], laidByText := true, laidKinds := [.data, .data, .data, .data, .data, .pinned], laidTests := true, laidLooks := .later }
def DirectTellegenUptoCardSaid : Prop := Claim7.holds Tryz.pinned (.plain (OpenSpec.upto directTellegenSpec)) directTellegenUptoCard

/-- THE SECOND FORM's CARD OF 'voltaiclaw.DirectSums'. -/
def directSumsUptoCard : Claim7 := { stood := { row := directSumsUptoRow, standIns := [], harness := (true, "2994c8f398480989a564d5529fc962b1935678841de8c2be587bffde449d873f"), looks := false }, kinds := [], alts := [], laidByText := true, laidKinds := [.data, .data, .data, .data, .data, .pinned], laidTests := true, laidLooks := .later }
def DirectSumsUptoCardSaid : Prop := Claim7.holds Tryz.pinned (.plain (OpenSpec.upto directSumsSpec)) directSumsUptoCard

/-- THE SECOND FORM's CARD OF 'voltaiclaw.DirectThevenin'. -/
def directTheveninUptoCard : Claim7 := { stood := { row := directTheveninUptoRow, standIns := [], harness := (true, "2994c8f398480989a564d5529fc962b1935678841de8c2be587bffde449d873f"), looks := false }, kinds := [], alts := [], laidByText := true, laidKinds := [.data, .data, .data, .data, .data, .pinned], laidTests := true, laidLooks := .later }
def DirectTheveninUptoCardSaid : Prop := Claim7.holds Tryz.pinned (.plain (OpenSpec.upto directTheveninSpec)) directTheveninUptoCard

/-- THE SECOND FORM's CARD OF 'voltaiclaw.DirectBothWays'. -/
def directBothWaysUptoCard : Claim7 := { stood := { row := directBothWaysUptoRow, standIns := [], harness := (true, "2994c8f398480989a564d5529fc962b1935678841de8c2be587bffde449d873f"), looks := false }, kinds := [], alts := [], laidByText := true, laidKinds := [.data, .data, .data, .data, .data, .pinned], laidTests := true, laidLooks := .later }
def DirectBothWaysUptoCardSaid : Prop := Claim7.holds Tryz.pinned (.plain (OpenSpec.upto directBothWaysSpec)) directBothWaysUptoCard

/-- THE SECOND FORM's CARD OF 'voltaiclaw.DirectLeast'. -/
def directLeastUptoCard : Claim7 := { stood := { row := directLeastUptoRow, standIns := [], harness := (true, "2994c8f398480989a564d5529fc962b1935678841de8c2be587bffde449d873f"), looks := false }, kinds := [], alts := [], laidByText := true, laidKinds := [.data, .data, .data, .data, .data, .pinned], laidTests := true, laidLooks := .later }
def DirectLeastUptoCardSaid : Prop := Claim7.holds Tryz.pinned (.plain (OpenSpec.upto directLeastSpec)) directLeastUptoCard
end Rows
end Go.Proofs.YtcoeancbjafooaaGreatDoor
