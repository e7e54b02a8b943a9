/- The walk of l02Times: the product of two lists of limbs, in new memory. -/
import Derived.Test.YtgoblagpnioflaaDoorTimes
import Derived.Test.YtgoblagpnioflaaDoorSum
import Derived.Test.YtgoblagpnioflaaDoorFrom
namespace Go.Proofs.YtgoblagpnioflaaDoor
open Go.RowKit
set_option linter.unusedVariables false

theorem wrap_i {a : Int} (h0 : -9223372036854775808 ≤ a) (h1 : a ≤ 9223372036854775807) : IntKind.i64.wrap a = a := by rw [IntKind.wrap_i64]; omega
theorem wrap_u {a : Int} (h0 : 0 ≤ a) (h1 : a ≤ 18446744073709551615) : IntKind.u64.wrap a = a := by rw [IntKind.wrap_u64]; omega

end Go.Proofs.YtgoblagpnioflaaDoor
