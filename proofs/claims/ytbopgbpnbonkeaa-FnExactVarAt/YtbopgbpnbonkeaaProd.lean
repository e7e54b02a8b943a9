/- The walk of bigProduct: the product of two numbers of any size, in new memory. -/
import Derived.Test.YtbopgbpnbonkeaaTimes
import Derived.Test.YtbopgbpnbonkeaaFit
import Derived.Deep.RegionHeld3
import Derived.Deep.DeepCutAuto
namespace Go.Proofs.Ytbopgbpnbonkeaa
open Go.RowKit
set_option linter.unusedVariables false

theorem mk_mul (n1 n2 : Bool) (x y : Nat) : mk (!n1 == n2) (x * y) = mk n1 x * mk n2 y := by
  cases n1 <;> cases n2 <;> simp [mk, Int.mul_neg, Int.neg_mul]

end Go.Proofs.Ytbopgbpnbonkeaa
