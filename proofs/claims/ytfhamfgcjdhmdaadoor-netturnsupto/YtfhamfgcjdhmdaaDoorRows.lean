/-
  NARROWER THAN 'FOR EVERY INPUT', by the rows' own cells (each row's printed sentence says how): NetTurns: laid.
  DERIVED. THE GIVEN ROWS OF THIS SEAT. 1 by the template 'for every input the law returns true; each argument reads behind the call as it read before'; 0 by the template 'total and deterministic' (their statements: YtfhamfgcjdhmdaaDoorTotals.lean).
  GIVEN WITH THE SEED: the statements are not yours to turn. If you find one false, say at which input.
  Laid BY PROGRAM, IN A SANDBOX (cutbox-rows.mjs): the forced cells as the released guide's own fill.sh prints them over the translation 52c17e64d7e7c462… (all of the seat's roots in one cut). By AI agents, Wed Nov 11 2026. No macro, syntax, notation, axiom, sorry.
-/
import Derived.Test.YtfhamfgcjdhmdaaDoorChecked
import GoSem.Claim
import GoSem.ClaimJoined
import GoSem.ClaimMapViews
import Derived.JoinedTies
import Derived.KernelRfl
namespace Go.Proofs.YtfhamfgcjdhmdaaDoor
/- THE CELL 'sum', in the pinned program and in every row, IS THE sha256 OF THE DUMP (.gsa) THAT YtfhamfgcjdhmdaaDoorProg.lean LOADS. Nothing in Lean hashes anything: it is a label: what it is worth is what the hold of that sum in a sandbox is worth. -/
noncomputable def Tryd.pinned : Pinned := { name := "ytfhamfgcjdhmdaadoor", sum := "52c17e64d7e7c462ec2b3720c59c4cabcc347cc19f7a920d430107ac4c7d0826", checked := Tryd.checked }
namespace Rows
def none {H : Type} : Left H := { results := [], args := [] }

/- WHAT THE LISTED PACKAGE-LEVEL VARIABLES READ AS WHEN THE CALL BEGINS. Each datum BY PROGRAM (the guide's laid-datum.mjs) off the statement by which the dump's own 'gosem.cut.vars' lays the variable. In a bare row this is a premise. The card (YtfhamfgcjdhmdaaDoorCards.lean) ties it to the program's text. -/
def laid_voltaic_net_kinds {H : Type} : DataW H := .agg [.agg [.lit (.string []), .lit (.string []), .lit (.bool false), .lit (.bool false), .lit (.bool false)], .agg [.lit (.string [82]), .lit (.string [206, 169]), .lit (.bool true), .lit (.bool true), .lit (.bool false)], .agg [.lit (.string [76]), .lit (.string [72]), .lit (.bool true), .lit (.bool true), .lit (.bool false)], .agg [.lit (.string [67]), .lit (.string [70]), .lit (.bool true), .lit (.bool true), .lit (.bool false)], .agg [.lit (.string [86]), .lit (.string [86]), .lit (.bool true), .lit (.bool false), .lit (.bool false)], .agg [.lit (.string [73]), .lit (.string [65]), .lit (.bool true), .lit (.bool false), .lit (.bool false)], .agg [.lit (.string [69]), .lit (.string []), .lit (.bool true), .lit (.bool false), .lit (.bool true)], .agg [.lit (.string [71]), .lit (.string [83]), .lit (.bool true), .lit (.bool false), .lit (.bool true)], .agg [.lit (.string [68]), .lit (.string []), .lit (.bool false), .lit (.bool false), .lit (.bool false)]]

/-- 'voltaiclaw.NetTurns': WHATEVER THE INPUT: true; the input reads as it did. -/
def netTurnsSpec : ChangeSpec := { name := "netTurns", fn := fun _ => fun
  | [d] => { results := [.lit (.bool true)], args := [d] }
  | _ => none }
def netTurnsRow : OpenClaim := { program := "ytfhamfgcjdhmdaadoor", sum := "52c17e64d7e7c462ec2b3720c59c4cabcc347cc19f7a920d430107ac4c7d0826", func := "voltaic/voltaiclaw.NetTurns", spec := "netTurns", inPlace := ["internal/bytealg.IndexByteString", "internal/bytealg.IndexString"], unfollowed := true, recurses := true, named := ["voltaic/net.kinds", "internal/bytealg.MaxLen"], apart := false, laid := [("voltaic/net.kinds", laid_voltaic_net_kinds)] }
def NetTurnsSaid : Prop := netTurnsRow.holds Tryd.pinned (OpenSpec.ofChange netTurnsSpec)

/-- ITS FALSE NEIGHBOUR: 'it returns false'. Refute it at one input. -/
def netTurnsWrong : ChangeSpec := { name := "netTurns", fn := fun _ => fun
  | [d] => { results := [.lit (.bool false)], args := [d] }
  | _ => none }
def NetTurnsWrongFalsely : Prop := netTurnsRow.holds Tryd.pinned (OpenSpec.ofChange netTurnsWrong)

/- THE SECOND FORM. 'bulk': how many values and letters a reading holds, each counted each time it is reached (what is shared counts as often as it is met; a slice's spare places count too). A statement '..UptoSaid' is the law's where the arguments, and the package variables that the reading takes, are together of bulk at most 1048576: NARROWER than '..Said'. Prove '..Said' where nothing that the law and all that it calls make is longer than what came in: it says more and counts as full. Else prove '..UptoSaid'. A law counts once. -/
mutual
def uptoBulk {H : Type} : DataW H → Nat
  | .lit (.string bytes) => bytes.length + 1
  | .lit _ => 1
  | .nil => 1
  | .ptr d => uptoBulk d + 1
  | .slice elems spare => uptoBulkAll elems + uptoBulkAll spare + 1
  | .agg parts => uptoBulkAll parts + 1
  | .iface _ d => uptoBulk d + 1
  | .map entries => uptoBulkEntries entries + 1
  | .held _ => 1
def uptoBulkAll {H : Type} : List (DataW H) → Nat
  | [] => 0
  | d :: r => uptoBulk d + uptoBulkAll r
def uptoBulkEntries {H : Type} : List (Lit × DataW H) → Nat
  | [] => 0
  | x :: r => uptoBulkEntry x + uptoBulkEntries r
def uptoBulkEntry {H : Type} : Lit × DataW H → Nat
  | (.string bytes, d) => bytes.length + uptoBulk d + 1
  | (_, d) => uptoBulk d + 1
 end
def uptoSmall : (H : Type) → List (DataW H) → Bool := fun _ ds => decide (uptoBulkAll ds ≤ 1048576)
def OpenSpec.upto (s : _root_.Go.ChangeSpec) : _root_.Go.OpenSpec := { _root_.Go.OpenSpec.ofChange s with cond := some uptoSmall }

/-- 'voltaiclaw.NetTurns', WHERE WHAT IT READS IS OF BULK AT MOST 1048576: true; the input reads as it did. -/
def netTurnsUptoRow : OpenClaim := { program := "ytfhamfgcjdhmdaadoor", sum := "52c17e64d7e7c462ec2b3720c59c4cabcc347cc19f7a920d430107ac4c7d0826", func := "voltaic/voltaiclaw.NetTurns", spec := "netTurns", inPlace := ["internal/bytealg.IndexByteString", "internal/bytealg.IndexString"], unfollowed := true, recurses := true, named := ["voltaic/net.kinds", "internal/bytealg.MaxLen"], apart := false, laid := [("voltaic/net.kinds", laid_voltaic_net_kinds)], narrowed := true }
def NetTurnsUptoSaid : Prop := netTurnsUptoRow.holds Tryd.pinned (OpenSpec.upto netTurnsSpec)

end Rows
end Go.Proofs.YtfhamfgcjdhmdaaDoor
