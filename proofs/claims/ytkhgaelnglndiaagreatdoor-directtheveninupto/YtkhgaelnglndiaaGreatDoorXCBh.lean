/- Contracts that the proof leans on. -/
import Derived.Test.YtkhgaelnglndiaaGreatDoorXCBf
namespace Go.Proofs.YtkhgaelnglndiaaGreatDoor
open Go.RowKit
set_option linter.unusedVariables false
set_option linter.unusedSimpArgs false
set_option maxHeartbeats 8000000
set_option maxRecDepth 10000

end Go.Proofs.YtkhgaelnglndiaaGreatDoor
