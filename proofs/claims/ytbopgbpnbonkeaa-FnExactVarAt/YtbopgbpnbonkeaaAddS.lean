/- The walks of l02Add, l02Neg and l02Sub: sums and differences of numbers of any size, in new memory. -/
import Derived.Test.YtbopgbpnbonkeaaPlus
import Derived.Test.YtbopgbpnbonkeaaCmpB
import Derived.Test.YtbopgbpnbonkeaaFit
namespace Go.Proofs.Ytbopgbpnbonkeaa
open Go.RowKit
set_option linter.unusedVariables false

theorem cell_two {w : World} {N : Nat} {x y : Value} {p : Addr} (h : p.block ≠ N) : ((w.setCell ⟨N, 0, none⟩ x).setCell ⟨N, 1, none⟩ y).cell? p = w.cell? p :=
  World.cell?_of_block ((Below.heap_setCell (w.setCell ⟨N, 0, none⟩ x) ⟨N, 1, none⟩ y p.block h).trans (Below.heap_setCell w ⟨N, 0, none⟩ x p.block h))
theorem mk_add_same (x y : Int) (h : sgn x = sgn y) : mk (sgn x) (Num.nat (lms x) + Num.nat (lms y)) = x + y := by
  rw [nat_lms, nat_lms]
  unfold sgn mk at *
  by_cases hx : x < 0
  · have hy : y < 0 := by rw [decide_eq_true hx] at h; exact of_decide_eq_true h.symm
    rw [decide_eq_true hx, if_pos rfl]; omega
  · have hy : ¬ y < 0 := by rw [decide_eq_false hx] at h; exact of_decide_eq_false h.symm
    rw [decide_eq_false hx, if_neg (by simp)]; omega
theorem mk_add_diff (x y : Int) (h : sgn x ≠ sgn y) (hl : y.natAbs ≤ x.natAbs) : mk (sgn x) (Num.nat (lms x) - Num.nat (lms y)) = x + y := by
  rw [nat_lms, nat_lms]
  unfold sgn mk at *
  by_cases hx : x < 0
  · have hy : ¬ y < 0 := fun hc => h (by rw [decide_eq_true hx, decide_eq_true hc])
    rw [decide_eq_true hx, if_pos rfl]; omega
  · have hy : y < 0 := by
      refine Classical.byContradiction fun hc => h ?_
      rw [decide_eq_false hx, decide_eq_false hc]
    rw [decide_eq_false hx, if_neg (by simp)]; omega

end Go.Proofs.Ytbopgbpnbonkeaa
