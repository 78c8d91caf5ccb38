/- Contracts that the proof leans on. -/
import Derived.Test.YtkhgaelnglndiaaGreatDoorXCBe
namespace Go.Proofs.YtkhgaelnglndiaaGreatDoor
open Go.RowKit
set_option linter.unusedVariables false
set_option linter.unusedSimpArgs false
set_option maxHeartbeats 8000000
set_option maxRecDepth 10000
section
variable {bz bx bY:Nat} {x1 y1:Int} {x2 y2 L M:Nat} {w0:World} {Q:Exit->Act->World->Prop}
end
end Go.Proofs.YtkhgaelnglndiaaGreatDoor
