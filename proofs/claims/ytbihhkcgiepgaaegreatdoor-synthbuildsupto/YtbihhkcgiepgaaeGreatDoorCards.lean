/-
  DERIVED. GIVEN WITH THE SEED: THE CARDS: each row of YtbihhkcgiepgaaeGreatDoorRows.lean that lists a variable, with what it lists TIED to the program's text (the seventh form; the later family's looks); each row that meets fmt, with fmt's text TOLD by the authors' own Lean function (tested against real Go, not proved from fmt's source: count such statements apart). THE CARD IS WHAT COUNTS. Prove the row's statement (the work); the ties are given (YtbihhkcgiepgaaeGreatDoorTie.lean); close each card by the builder's one call (the guide's Derived/Test/ToyasCard.lean, 'card_holds'). Laid BY PROGRAM, IN A SANDBOX (cutbox-door.mjs). By AI agents, Wed Nov 11 2026. No macro, syntax, notation, axiom, sorry.
-/
import Derived.Test.YtbihhkcgiepgaaeGreatDoorRows
import GoSem.ClaimSeven
namespace Go.Proofs.YtbihhkcgiepgaaeGreatDoor
namespace Rows

/-- THE TIED CARD OF 'voltaiclaw.StableKnown'. -/
def stableKnownCard : Claim7 := { stood := { row := stableKnownRow, standIns := [], harness := (true, "991a53a9db7780fc625c56091fda4b6859ec6fd6868ae99a3c6a0a2a03f53c2b"), looks := false }, kinds := [], alts := [], laidByText := true, laidKinds := [.data, .data, .data, .data, .pinned], laidTests := true, laidLooks := .later }
def StableKnownCardSaid : Prop := Claim7.holds Tryz.pinned (.plain (OpenSpec.ofChange stableKnownSpec)) stableKnownCard

/-- THE TIED CARD OF 'voltaiclaw.StableRouth'. -/
def stableRouthCard : Claim7 := { stood := { row := stableRouthRow, standIns := [], harness := (true, "991a53a9db7780fc625c56091fda4b6859ec6fd6868ae99a3c6a0a2a03f53c2b"), looks := false }, kinds := [], alts := [], laidByText := true, laidKinds := [.data, .data, .data, .data, .pinned], laidTests := true, laidLooks := .later }
def StableRouthCardSaid : Prop := Claim7.holds Tryz.pinned (.plain (OpenSpec.ofChange stableRouthSpec)) stableRouthCard

/-- THE TIED CARD OF 'voltaiclaw.SynthSays'. -/
def synthSaysCard : Claim7 := { stood := { row := synthSaysRow, standIns := [], harness := (true, "991a53a9db7780fc625c56091fda4b6859ec6fd6868ae99a3c6a0a2a03f53c2b"), looks := false }, kinds := [], alts := [], laidByText := true, laidKinds := [.data, .data, .data, .data, .pinned], laidTests := true, laidLooks := .later }
def SynthSaysCardSaid : Prop := Claim7.holds Tryz.pinned (.plain (OpenSpec.ofChange synthSaysSpec)) synthSaysCard

/-- THE TIED CARD OF 'voltaiclaw.SynthBuilds'. -/
def synthBuildsCard : Claim7 := { stood := { row := synthBuildsRow, standIns := [], harness := (true, "991a53a9db7780fc625c56091fda4b6859ec6fd6868ae99a3c6a0a2a03f53c2b"), looks := false }, kinds := [], alts := [], laidByText := true, laidKinds := [.data, .data, .data, .data, .pinned], laidTests := true, laidLooks := .later }
def SynthBuildsCardSaid : Prop := Claim7.holds Tryz.pinned (.plain (OpenSpec.ofChange synthBuildsSpec)) synthBuildsCard

/-- THE TIED CARD OF 'voltaiclaw.SynthMeets'. -/
def synthMeetsCard : Claim7 := { stood := { row := synthMeetsRow, standIns := [], harness := (true, "991a53a9db7780fc625c56091fda4b6859ec6fd6868ae99a3c6a0a2a03f53c2b"), looks := false }, kinds := [], alts := [], laidByText := true, laidKinds := [.data, .data, .data, .data, .data, .pinned], laidTests := true, laidLooks := .later }
def SynthMeetsCardSaid : Prop := Claim7.holds Tryz.pinned (.plain (OpenSpec.ofChange synthMeetsSpec)) synthMeetsCard

/-- THE TIED CARD OF 'voltaiclaw.SynthPassive'. -/
def synthPassiveCard : Claim7 := { stood := { row := synthPassiveRow, standIns := [], harness := (true, "991a53a9db7780fc625c56091fda4b6859ec6fd6868ae99a3c6a0a2a03f53c2b"), looks := false }, kinds := [], alts := [], laidByText := true, laidKinds := [.data, .data, .data, .data, .data, .pinned], laidTests := true, laidLooks := .later }
def SynthPassiveCardSaid : Prop := Claim7.holds Tryz.pinned (.plain (OpenSpec.ofChange synthPassiveSpec)) synthPassiveCard

/-- THE SECOND FORM's CARD OF 'voltaiclaw.StableKnown'. -/
def stableKnownUptoCard : Claim7 := { stood := { row := stableKnownUptoRow, standIns := [], harness := (true, "991a53a9db7780fc625c56091fda4b6859ec6fd6868ae99a3c6a0a2a03f53c2b"), looks := false }, kinds := [], alts := [], laidByText := true, laidKinds := [.data, .data, .data, .data, .pinned], laidTests := true, laidLooks := .later }
def StableKnownUptoCardSaid : Prop := Claim7.holds Tryz.pinned (.plain (OpenSpec.upto stableKnownSpec)) stableKnownUptoCard

/-- THE SECOND FORM's CARD OF 'voltaiclaw.StableRouth'. -/
def stableRouthUptoCard : Claim7 := { stood := { row := stableRouthUptoRow, standIns := [], harness := (true, "991a53a9db7780fc625c56091fda4b6859ec6fd6868ae99a3c6a0a2a03f53c2b"), looks := false }, kinds := [], alts := [], laidByText := true, laidKinds := [.data, .data, .data, .data, .pinned], laidTests := true, laidLooks := .later }
def StableRouthUptoCardSaid : Prop := Claim7.holds Tryz.pinned (.plain (OpenSpec.upto stableRouthSpec)) stableRouthUptoCard

/-- THE SECOND FORM's CARD OF 'voltaiclaw.SynthSays'. -/
def synthSaysUptoCard : Claim7 := { stood := { row := synthSaysUptoRow, standIns := [], harness := (true, "991a53a9db7780fc625c56091fda4b6859ec6fd6868ae99a3c6a0a2a03f53c2b"), looks := false }, kinds := [], alts := [], laidByText := true, laidKinds := [.data, .data, .data, .data, .pinned], laidTests := true, laidLooks := .later }
def SynthSaysUptoCardSaid : Prop := Claim7.holds Tryz.pinned (.plain (OpenSpec.upto synthSaysSpec)) synthSaysUptoCard

/-- THE SECOND FORM's CARD OF 'voltaiclaw.SynthBuilds'. -/
def synthBuildsUptoCard : Claim7 := { stood := { row := synthBuildsUptoRow, standIns := [], harness := (true, "991a53a9db7780fc625c56091fda4b6859ec6fd6868ae99a3c6a0a2a03f53c2b"), looks := false }, kinds := [], alts := [], laidByText := true, laidKinds := [.data, .data, .data, .data, .pinned], laidTests := true, laidLooks := .later }
def SynthBuildsUptoCardSaid : Prop := Claim7.holds Tryz.pinned (.plain (OpenSpec.upto synthBuildsSpec)) synthBuildsUptoCard

/-- THE SECOND FORM's CARD OF 'voltaiclaw.SynthMeets'. -/
def synthMeetsUptoCard : Claim7 := { stood := { row := synthMeetsUptoRow, standIns := [], harness := (true, "991a53a9db7780fc625c56091fda4b6859ec6fd6868ae99a3c6a0a2a03f53c2b"), looks := false }, kinds := [], alts := [], laidByText := true, laidKinds := [.data, .data, .data, .data, .data, .pinned], laidTests := true, laidLooks := .later }
def SynthMeetsUptoCardSaid : Prop := Claim7.holds Tryz.pinned (.plain (OpenSpec.upto synthMeetsSpec)) synthMeetsUptoCard

/-- THE SECOND FORM's CARD OF 'voltaiclaw.SynthPassive'. -/
def synthPassiveUptoCard : Claim7 := { stood := { row := synthPassiveUptoRow, standIns := [], harness := (true, "991a53a9db7780fc625c56091fda4b6859ec6fd6868ae99a3c6a0a2a03f53c2b"), looks := false }, kinds := [], alts := [], laidByText := true, laidKinds := [.data, .data, .data, .data, .data, .pinned], laidTests := true, laidLooks := .later }
def SynthPassiveUptoCardSaid : Prop := Claim7.holds Tryz.pinned (.plain (OpenSpec.upto synthPassiveSpec)) synthPassiveUptoCard
end Rows
end Go.Proofs.YtbihhkcgiepgaaeGreatDoor
