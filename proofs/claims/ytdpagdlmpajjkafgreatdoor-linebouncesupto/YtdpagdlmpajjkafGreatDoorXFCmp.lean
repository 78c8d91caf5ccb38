/- frac: Compare. -/
import Derived.Test.YtdpagdlmpajjkafGreatDoorXFe
import Derived.Deep.RegionHeld3
import Derived.Deep.DeepCutAuto
namespace Go.Proofs.YtdpagdlmpajjkafGreatDoor
open Go.RowKit
set_option linter.unusedVariables false
set_option linter.unusedSimpArgs false
end Go.Proofs.YtdpagdlmpajjkafGreatDoor
