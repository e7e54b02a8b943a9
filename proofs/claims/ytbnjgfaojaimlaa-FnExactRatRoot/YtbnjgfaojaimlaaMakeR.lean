/- The walk of the specification's l03Make. -/
import Derived.Test.YtbnjgfaojaimlaaShortR
namespace Go.Proofs.Ytbnjgfaojaimlaa
open Go.RowKit
set_option linter.unusedVariables false

theorem fin_four {w w1 : World} {N b1 b2 n1 c1 n2 c2 : Nat} {a1 a2 : Option Addr} {xs1 xs2 : List Nat} (h1 : Own w1 b1 a1 n1 c1 xs1) (h2 : Own w1 b2 a2 n2 c2 xs2) (hN : N < b1) (hM : N < b2) (wN : w.heap.size ≤ N) (hb : Below w.heap.size w w1) (x y z t : Value) :
    Own ((((w1.setCell ⟨N, 0, none⟩ x).setCell ⟨N, 1, none⟩ y).setCell ⟨N, 2, none⟩ z).setCell ⟨N, 3, none⟩ t) w.heap.size a1 n1 c1 xs1 ∧ Own ((((w1.setCell ⟨N, 0, none⟩ x).setCell ⟨N, 1, none⟩ y).setCell ⟨N, 2, none⟩ z).setCell ⟨N, 3, none⟩ t) w.heap.size a2 n2 c2 xs2 ∧ Below w.heap.size w ((((w1.setCell ⟨N, 0, none⟩ x).setCell ⟨N, 1, none⟩ y).setCell ⟨N, 2, none⟩ z).setCell ⟨N, 3, none⟩ t) :=
  ⟨(((((h1).setCell (p := ⟨N, 0, none⟩) hN x).setCell (p := ⟨N, 1, none⟩) hN y).setCell (p := ⟨N, 2, none⟩) hN z).setCell (p := ⟨N, 3, none⟩) hN t).mono (by omega),
   (((((h2).setCell (p := ⟨N, 0, none⟩) hM x).setCell (p := ⟨N, 1, none⟩) hM y).setCell (p := ⟨N, 2, none⟩) hM z).setCell (p := ⟨N, 3, none⟩) hM t).mono (by omega),
   ((((hb).setCell (p := ⟨N, 0, none⟩) wN x).setCell (p := ⟨N, 1, none⟩) wN y).setCell (p := ⟨N, 2, none⟩) wN z).setCell (p := ⟨N, 3, none⟩) wN t⟩

end Go.Proofs.Ytbnjgfaojaimlaa
