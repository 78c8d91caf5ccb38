/- How long sums, products and quotients are. -/
import Derived.Test.YtnpfjnkmpbmgeaaGreatDoorXVb
import Derived.Test.YtnpfjnkmpbmgeaaGreatDoorXZc
import Derived.Test.YtnpfjnkmpbmgeaaGreatDoorXVRefl
import Derived.Test.YtnpfjnkmpbmgeaaGreatDoorXFg
import Derived.Test.YtnpfjnkmpbmgeaaGreatDoorXVRef
namespace Go.Proofs.YtnpfjnkmpbmgeaaGreatDoor
open Go.RowKit
set_option linter.unusedVariables false
end Go.Proofs.YtnpfjnkmpbmgeaaGreatDoor

namespace Go.Proofs.YtnpfjnkmpbmgeaaGreatDoor
open Go.RowKit
set_option linter.unusedVariables false
theorem text_fit {s : ByteArray} {p : Rat} (hp : p = ofR s.data.toList) (hs : s.size ≤ 1048576) : FitW 131074 p := by
  rw [hp]
  have h : s.data.toList.length = s.size := Array.length_toList
  exact fit_mono (ofR_fit s.data.toList) (by omega)
end Go.Proofs.YtnpfjnkmpbmgeaaGreatDoor
