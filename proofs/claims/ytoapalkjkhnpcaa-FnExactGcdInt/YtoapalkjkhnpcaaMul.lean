/- The walks of l02Mul, and of both Mul. -/
import Derived.Test.YtoapalkjkhnpcaaTimesS
import Derived.Test.YtoapalkjkhnpcaaProd
import Derived.Test.YtoapalkjkhnpcaaSubS
namespace Go.Proofs.Ytoapalkjkhnpcaa
open Go.RowKit
set_option linter.unusedVariables false

def mulZ (x y : Int) : Int := x * y
end Go.Proofs.Ytoapalkjkhnpcaa
