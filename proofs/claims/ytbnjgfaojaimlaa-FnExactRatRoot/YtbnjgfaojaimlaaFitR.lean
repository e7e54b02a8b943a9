/- The walks of ifRight and l03Fit: a fraction where it fits. -/
import Derived.Test.YtbnjgfaojaimlaaMakeR
namespace Go.Proofs.Ytbnjgfaojaimlaa
open Go.RowKit
set_option linter.unusedVariables false

/-- whether a fraction fits -/
def ftT (p q : Int) : Bool := fits p && fits q
/-- a fraction where it fits, else nothing -/
def ftV (p q : Int) (a : Option Addr) (c : Nat) (b : Option Addr) (d : Nat) : Value :=
  if ftT p q = true then .agg #[.bool (sgn p), .slice a (lms p).length c, .bool (sgn q), .slice b (lms q).length d] else .agg #[.bool false, .slice none 0 0, .bool false, .slice none 0 0]
theorem ok_fits (z : Int) : okB (sgn z) (lms z) = fits z := ok_of_num z
theorem set_four {w w1 : World} {N : Nat} (hN : w.heap.size ≤ N) (hb : Below w.heap.size w w1) (x y z t : Value) : Below w.heap.size w ((((w1.setCell ⟨N, 0, none⟩ x).setCell ⟨N, 1, none⟩ y).setCell ⟨N, 2, none⟩ z).setCell ⟨N, 3, none⟩ t) :=
  ((((hb).setCell (p := ⟨N, 0, none⟩) hN x).setCell (p := ⟨N, 1, none⟩) hN y).setCell (p := ⟨N, 2, none⟩) hN z).setCell (p := ⟨N, 3, none⟩) hN t

end Go.Proofs.Ytbnjgfaojaimlaa
