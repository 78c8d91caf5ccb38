/-
  DERIVED. GIVEN WITH THE SEED: THE CARDS: each row of YtdpagdlmpajjkafGreatDoorRows.lean that lists a variable, with what it lists TIED to the program's text (the seventh form; the later family's looks); each row that meets fmt, with fmt's text TOLD by the authors' own Lean function (tested against real Go, not proved from fmt's source: count such statements apart). THE CARD IS WHAT COUNTS. Prove the row's statement (the work); the ties are given (YtdpagdlmpajjkafGreatDoorTie.lean); close each card by the builder's one call (the guide's Derived/Test/ToyasCard.lean, 'card_holds'). Laid BY PROGRAM, IN A SANDBOX (cutbox-door.mjs). By AI agents, Wed Nov 11 2026. No macro, syntax, notation, axiom, sorry.
-/
import Derived.Test.YtdpagdlmpajjkafGreatDoorRows
import GoSem.ClaimSeven
namespace Go.Proofs.YtdpagdlmpajjkafGreatDoor
namespace Rows

/-- THE TIED CARD OF 'voltaiclaw.SynthReal'. -/
def synthRealCard : Claim7 := { stood := { row := synthRealRow, standIns := [], harness := (true, "9099f38ea04c13c35958269e3a6e3da1f60dc583c838c97236aa6ca2477b9f5a"), looks := false }, kinds := [], alts := [], laidByText := true, laidKinds := [.data, .data, .data, .data, .pinned], laidTests := true, laidLooks := .later }
def SynthRealCardSaid : Prop := Claim7.holds Tryz.pinned (.plain (OpenSpec.ofChange synthRealSpec)) synthRealCard

/-- THE TIED CARD OF 'voltaiclaw.LineSays'. -/
def lineSaysCard : Claim7 := { stood := { row := lineSaysRow, standIns := [], harness := (true, "9099f38ea04c13c35958269e3a6e3da1f60dc583c838c97236aa6ca2477b9f5a"), looks := false }, kinds := [], alts := [], laidByText := true, laidKinds := [.data, .data, .data, .data, .pinned], laidTests := true, laidLooks := .later }
def LineSaysCardSaid : Prop := Claim7.holds Tryz.pinned (.plain (OpenSpec.ofChange lineSaysSpec)) lineSaysCard

/-- THE TIED CARD OF 'voltaiclaw.LineBounds'. -/
def lineBoundsCard : Claim7 := { stood := { row := lineBoundsRow, standIns := [], harness := (true, "9099f38ea04c13c35958269e3a6e3da1f60dc583c838c97236aa6ca2477b9f5a"), looks := false }, kinds := [], alts := [], laidByText := true, laidKinds := [.data, .data, .data, .data, .pinned], laidTests := true, laidLooks := .later }
def LineBoundsCardSaid : Prop := Claim7.holds Tryz.pinned (.plain (OpenSpec.ofChange lineBoundsSpec)) lineBoundsCard

/-- THE TIED CARD OF 'voltaiclaw.LineBounces'. -/
def lineBouncesCard : Claim7 := { stood := { row := lineBouncesRow, standIns := [], harness := (true, "9099f38ea04c13c35958269e3a6e3da1f60dc583c838c97236aa6ca2477b9f5a"), looks := false }, kinds := [], alts := [], laidByText := true, laidKinds := [.data, .data, .data, .data, .pinned], laidTests := true, laidLooks := .later }
def LineBouncesCardSaid : Prop := Claim7.holds Tryz.pinned (.plain (OpenSpec.ofChange lineBouncesSpec)) lineBouncesCard

/-- THE TIED CARD OF 'voltaiclaw.LineSettles'. -/
def lineSettlesCard : Claim7 := { stood := { row := lineSettlesRow, standIns := [], harness := (true, "9099f38ea04c13c35958269e3a6e3da1f60dc583c838c97236aa6ca2477b9f5a"), looks := false }, kinds := [], alts := [], laidByText := true, laidKinds := [.data, .data, .data, .data, .pinned], laidTests := true, laidLooks := .later }
def LineSettlesCardSaid : Prop := Claim7.holds Tryz.pinned (.plain (OpenSpec.ofChange lineSettlesSpec)) lineSettlesCard

/-- THE SECOND FORM's CARD OF 'voltaiclaw.SynthReal'. -/
def synthRealUptoCard : Claim7 := { stood := { row := synthRealUptoRow, standIns := [], harness := (true, "9099f38ea04c13c35958269e3a6e3da1f60dc583c838c97236aa6ca2477b9f5a"), looks := false }, kinds := [], alts := [], laidByText := true, laidKinds := [.data, .data, .data, .data, .pinned], laidTests := true, laidLooks := .later }
def SynthRealUptoCardSaid : Prop := Claim7.holds Tryz.pinned (.plain (OpenSpec.upto synthRealSpec)) synthRealUptoCard

/-- THE SECOND FORM's CARD OF 'voltaiclaw.LineSays'. -/
def lineSaysUptoCard : Claim7 := { stood := { row := lineSaysUptoRow, standIns := [], harness := (true, "9099f38ea04c13c35958269e3a6e3da1f60dc583c838c97236aa6ca2477b9f5a"), looks := false }, kinds := [], alts := [], laidByText := true, laidKinds := [.data, .data, .data, .data, .pinned], laidTests := true, laidLooks := .later }
def LineSaysUptoCardSaid : Prop := Claim7.holds Tryz.pinned (.plain (OpenSpec.upto lineSaysSpec)) lineSaysUptoCard

/-- THE SECOND FORM's CARD OF 'voltaiclaw.LineBounds'. -/
def lineBoundsUptoCard : Claim7 := { stood := { row := lineBoundsUptoRow, standIns := [], harness := (true, "9099f38ea04c13c35958269e3a6e3da1f60dc583c838c97236aa6ca2477b9f5a"), looks := false }, kinds := [], alts := [], laidByText := true, laidKinds := [.data, .data, .data, .data, .pinned], laidTests := true, laidLooks := .later }
def LineBoundsUptoCardSaid : Prop := Claim7.holds Tryz.pinned (.plain (OpenSpec.upto lineBoundsSpec)) lineBoundsUptoCard

/-- THE SECOND FORM's CARD OF 'voltaiclaw.LineBounces'. -/
def lineBouncesUptoCard : Claim7 := { stood := { row := lineBouncesUptoRow, standIns := [], harness := (true, "9099f38ea04c13c35958269e3a6e3da1f60dc583c838c97236aa6ca2477b9f5a"), looks := false }, kinds := [], alts := [], laidByText := true, laidKinds := [.data, .data, .data, .data, .pinned], laidTests := true, laidLooks := .later }
def LineBouncesUptoCardSaid : Prop := Claim7.holds Tryz.pinned (.plain (OpenSpec.upto lineBouncesSpec)) lineBouncesUptoCard

/-- THE SECOND FORM's CARD OF 'voltaiclaw.LineSettles'. -/
def lineSettlesUptoCard : Claim7 := { stood := { row := lineSettlesUptoRow, standIns := [], harness := (true, "9099f38ea04c13c35958269e3a6e3da1f60dc583c838c97236aa6ca2477b9f5a"), looks := false }, kinds := [], alts := [], laidByText := true, laidKinds := [.data, .data, .data, .data, .pinned], laidTests := true, laidLooks := .later }
def LineSettlesUptoCardSaid : Prop := Claim7.holds Tryz.pinned (.plain (OpenSpec.upto lineSettlesSpec)) lineSettlesUptoCard
end Rows
end Go.Proofs.YtdpagdlmpajjkafGreatDoor
