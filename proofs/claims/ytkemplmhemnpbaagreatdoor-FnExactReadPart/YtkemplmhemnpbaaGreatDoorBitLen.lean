/- The walks of the two BitLen and of bigBits: how many bits a number has; nothing that was there turns. -/
import Derived.Test.YtkemplmhemnpbaaGreatDoorPk01
import Derived.Test.YtkemplmhemnpbaaGreatDoorBits
namespace Go.Proofs.YtkemplmhemnpbaaGreatDoor
open Go.RowKit
set_option linter.unusedVariables false

end Go.Proofs.YtkemplmhemnpbaaGreatDoor
