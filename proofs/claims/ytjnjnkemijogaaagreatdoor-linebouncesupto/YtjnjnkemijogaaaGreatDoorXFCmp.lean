/- frac: Compare. -/
import Derived.Test.YtjnjnkemijogaaaGreatDoorXFe
import Derived.Deep.RegionHeld3
import Derived.Deep.DeepCutAuto
namespace Go.Proofs.YtjnjnkemijogaaaGreatDoor
open Go.RowKit
set_option linter.unusedVariables false
set_option linter.unusedSimpArgs false
end Go.Proofs.YtjnjnkemijogaaaGreatDoor
