/- The walks of l02Neg and l02Sub, and of the specification's Add and Sub. -/
import Derived.Test.YtbnjgfaojaimlaaAddS
import Derived.Test.YtbnjgfaojaimlaaAddP
namespace Go.Proofs.Ytbnjgfaojaimlaa
open Go.RowKit
set_option linter.unusedVariables false

theorem mk_neg (x : Int) : mk (!sgn x) (Num.nat (lms x)) = -x := by
  rw [mk_not, nat_lms, mk_self]
theorem neg_len (x : Int) : lms (-x) = lms x := by unfold lms; rw [Int.natAbs_neg]

theorem len40' {x : Int} (h : x.natAbs < 4294967296 ^ 40) : (lms x).length ≤ 500000 := Nat.le_trans (Num.limbs_len.2 h) (by decide)
end Go.Proofs.Ytbnjgfaojaimlaa
