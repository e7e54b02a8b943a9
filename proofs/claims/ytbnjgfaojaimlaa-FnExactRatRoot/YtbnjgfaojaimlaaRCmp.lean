/- The walks of both RatCmp. -/
import Derived.Test.YtbnjgfaojaimlaaRatOkS
namespace Go.Proofs.Ytbnjgfaojaimlaa
open Go.RowKit
set_option linter.unusedVariables false

/-- a right fraction as two numbers -/
theorem rat_num {n m : Bool} {xs ys : List Nat} (h1 : Num.Small xs) (h2 : Num.Small ys) (h : ratB n xs m ys = true) : ∃ x y : Int, n = sgn x ∧ xs = lms x ∧ m = sgn y ∧ ys = lms y ∧ x.natAbs < 4294967296 ^ 40 ∧ y.natAbs < 4294967296 ^ 40 ∧ 0 < y ∧ Int.gcd x y = 1 := by
  unfold ratB at h
  simp only [Bool.and_eq_true, decide_eq_true_eq] at h
  obtain ⟨x, rfl, rfl, hx⟩ := ok_num h1 h.1.1
  obtain ⟨y, rfl, rfl, hy⟩ := ok_num h2 h.1.2
  rw [nat_lms, nat_lms, mk_self, mk_self] at h
  exact ⟨x, y, rfl, rfl, rfl, rfl, hx, hy, h.2.1, h.2.2⟩
/-- the answer of RatCmp -/
def rcZ (n1 : Bool) (xs1 : List Nat) (m1 : Bool) (ys1 : List Nat) (n2 : Bool) (xs2 : List Nat) (m2 : Bool) (ys2 : List Nat) : Int :=
  if (ratB n1 xs1 m1 ys1 && ratB n2 xs2 m2 ys2) = true then cmpZ (mulZ (mk n1 (Num.nat xs1)) (mk m2 (Num.nat ys2))) (mulZ (mk n2 (Num.nat xs2)) (mk m1 (Num.nat ys1))) else 2

end Go.Proofs.Ytbnjgfaojaimlaa
