/- The walks of what the laws ask of fractions: sizes, copies, whether two are alike, marks written, marks held. -/
import Derived.Test.YtbopgbpnbonkeaaLawKit
import Derived.Test.YtbopgbpnbonkeaaDivide
namespace Go.Proofs.Ytbopgbpnbonkeaa
open Go.RowKit
set_option linter.unusedVariables false

theorem Apart.symm {a b : Option Addr} (h : Apart a b) : Apart b a := fun _ _ _ _ _ _ h1 h2 e => h _ _ _ _ _ _ h2 h1 e.symm

end Go.Proofs.Ytbopgbpnbonkeaa
