/- Plain facts on a quotient and a rest of whole numbers with signs; nothing of the program stands here. -/
import Derived.Test.YtbopgbpnbonkeaaMake
namespace Go.Proofs.Ytbopgbpnbonkeaa
set_option linter.unusedVariables false
theorem div_uniq {x y q r : Int} (h : q * y + r = x) (h0 : 0 ≤ r) (h1 : r < (y.natAbs : Int)) : x / y = q ∧ x % y = r := by
  have hy : y ≠ 0 := by intro e; subst e; simp at h1; omega
  have hr : r % y = r := by
    by_cases hp : 0 ≤ y
    · exact Int.emod_eq_of_lt h0 (by omega)
    · have : r % (-y) = r := Int.emod_eq_of_lt h0 (by omega)
      rwa [Int.emod_neg] at this
  have h2 : x % y = r := by rw [← h, Int.add_comm, Int.add_mul_emod_self_right, hr]
  refine ⟨?_, h2⟩
  have h3 := Int.mul_ediv_add_emod x y
  rw [h2, ← h, Int.mul_comm q y] at h3
  have h4 : y * (x / y) = y * q := by
    have e : y * q + r = x := by rw [Int.mul_comm]; exact h
    rw [e] at h3
    omega
  exact Int.eq_of_mul_eq_mul_left hy h4
theorem bxor (a b : Bool) : (!a == b) = (a != b) := by cases a <;> cases b <;> rfl
theorem div_eq (x y : Int) : x.natAbs = y.natAbs * (x.natAbs / y.natAbs) + x.natAbs % y.natAbs := (Nat.div_add_mod _ _).symm
theorem mk_prod (x y : Int) (k : Nat) : mk (!sgn x == sgn y) k * y = if x < 0 then -((y.natAbs * k : Nat) : Int) else ((y.natAbs * k : Nat) : Int) := by
  unfold mk sgn
  by_cases hx : x < 0 <;> by_cases hy : y < 0 <;> simp [hx, hy]
  · have : (y.natAbs : Int) = -y := by omega
    rw [this, Int.neg_mul, Int.neg_neg, Int.mul_comm]
  · have : (y.natAbs : Int) = y := by omega
    rw [this, Int.mul_comm y, Int.neg_mul]
  · have : (y.natAbs : Int) = -y := by omega
    rw [this, Int.neg_mul, Int.neg_mul, Int.mul_comm]
  · have : (y.natAbs : Int) = y := by omega
    rw [this, Int.mul_comm]
theorem div_same (x y : Int) (hy : y ≠ 0) (h : 0 ≤ x ∨ x.natAbs % y.natAbs = 0) : x / y = mk (!sgn x == sgn y) (x.natAbs / y.natAbs) ∧ x % y = ((x.natAbs % y.natAbs : Nat) : Int) := by
  have hp : 0 < y.natAbs := by omega
  have hlt := Nat.mod_lt x.natAbs hp
  refine div_uniq ?_ (by omega) (by omega)
  have e := div_eq x y
  rw [mk_prod]
  generalize y.natAbs * (x.natAbs / y.natAbs) = P at *
  generalize x.natAbs % y.natAbs = r at *
  by_cases hx : x < 0
  · rw [if_pos hx]; omega
  · rw [if_neg hx]; omega
theorem div_more (x y : Int) (hy : y ≠ 0) (hx : x < 0) (h : x.natAbs % y.natAbs ≠ 0) : x / y = mk (!sgn x == sgn y) (x.natAbs / y.natAbs + 1) ∧ x % y = ((y.natAbs - x.natAbs % y.natAbs : Nat) : Int) := by
  have hp : 0 < y.natAbs := by omega
  have hlt := Nat.mod_lt x.natAbs hp
  refine div_uniq ?_ (by omega) (by omega)
  have e := div_eq x y
  rw [mk_prod, if_pos hx, Nat.mul_add, Nat.mul_one]
  generalize y.natAbs * (x.natAbs / y.natAbs) = P at *
  generalize x.natAbs % y.natAbs = r at *
  omega
/-- what bigDivide makes where the rest is below 0 -/
theorem div_back (x y : Int) (hy : y ≠ 0) (hx : x < 0) (h : x.natAbs % y.natAbs ≠ 0) :
    (y < 0 → mk (!sgn x == sgn y) (x.natAbs / y.natAbs) + 1 = x / y ∧ mk (sgn x) (x.natAbs % y.natAbs) - y = x % y) ∧ (0 < y → mk (!sgn x == sgn y) (x.natAbs / y.natAbs) - 1 = x / y ∧ mk (sgn x) (x.natAbs % y.natAbs) + y = x % y) := by
  obtain ⟨h1, h2⟩ := div_more x y hy hx h
  have hlt := Nat.mod_lt x.natAbs (show 0 < y.natAbs by omega)
  rw [h1, h2]
  unfold mk sgn
  generalize x.natAbs / y.natAbs = q at *
  generalize x.natAbs % y.natAbs = r at *
  refine ⟨fun h => ?_, fun h => ?_⟩
  · simp [hx, h]; omega
  · have : ¬ y < 0 := by omega
    simp [hx, this]; omega
end Go.Proofs.Ytbopgbpnbonkeaa
