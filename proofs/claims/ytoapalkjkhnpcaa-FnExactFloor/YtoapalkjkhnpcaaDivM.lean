/- The walks of both DivMod. -/
import Derived.Test.YtoapalkjkhnpcaaDivS
import Derived.Test.YtoapalkjkhnpcaaOk
import Derived.Test.YtoapalkjkhnpcaaCmpB
namespace Go.Proofs.Ytoapalkjkhnpcaa
open Go.RowKit
set_option linter.unusedVariables false

def dvT (n1 : Bool) (xs : List Nat) (n2 : Bool) (ys : List Nat) : Bool := okB n1 xs && okB n2 ys && decide (mk n2 (Num.nat ys) ≠ 0)
def dvQ (n1 : Bool) (xs : List Nat) (n2 : Bool) (ys : List Nat) : Int := if dvT n1 xs n2 ys then mk n1 (Num.nat xs) / mk n2 (Num.nat ys) else 0
def dvR (n1 : Bool) (xs : List Nat) (n2 : Bool) (ys : List Nat) : Int := if dvT n1 xs n2 ys then mk n1 (Num.nat xs) % mk n2 (Num.nat ys) else 0
theorem mod_abs_le (x : Int) {y : Int} (h : y ≠ 0) : (x % y).natAbs ≤ y.natAbs := by
  have h1 := Int.emod_nonneg x h
  have h2 := Int.emod_lt x h
  omega
theorem div_abs_le (x y : Int) : (x / y).natAbs ≤ x.natAbs := by
  by_cases hy : y = 0
  · subst hy; simp
  by_cases hx : x < 0
  · by_cases hm : x.natAbs % y.natAbs = 0
    · rw [(div_same x y hy (.inr hm)).1, mk_abs]; exact Nat.div_le_self _ _
    · rw [(div_more x y hy hx hm).1, mk_abs]
      have h1 : 2 ≤ y.natAbs := by
        refine Nat.le_of_not_lt fun h => hm ?_
        have : y.natAbs = 1 := by omega
        rw [this]; exact Nat.mod_one _
      have h2 := Nat.div_add_mod x.natAbs y.natAbs
      have h3 : 2 * (x.natAbs / y.natAbs) ≤ y.natAbs * (x.natAbs / y.natAbs) := Nat.mul_le_mul_right _ h1
      omega
  · rw [(div_same x y hy (.inl (by omega))).1, mk_abs]; exact Nat.div_le_self _ _

end Go.Proofs.Ytoapalkjkhnpcaa
