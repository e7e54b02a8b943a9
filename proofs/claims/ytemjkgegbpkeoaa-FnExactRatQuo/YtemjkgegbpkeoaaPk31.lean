/- My texts PowS, in this order. -/
import Derived.Test.YtemjkgegbpkeoaaPk09
import Derived.Test.YtemjkgegbpkeoaaPk23
/- The walks of l01In and l02Power: a number to a power, or one that isn't right where that isn't, in new memory. -/
namespace Go.Proofs.Ytemjkgegbpkeoaa
open Go.RowKit
set_option linter.unusedVariables false

/-- a power, or a number that isn't right where the power isn't -/
def PowLike (z : Int) (n : Nat) (q : Int) : Prop := q = z ^ n ∨ (4294967296 ^ 40 ≤ q.natAbs ∧ q.natAbs ≤ (z ^ n).natAbs ∧ (0 ≤ z → 0 ≤ q))
theorem PowLike.fitsE {z : Int} {n : Nat} {q : Int} (h : PowLike z n q) : fits q = fits (z ^ n) := by
  rcases h with rfl | ⟨h1, h2, _⟩
  · rfl
  · unfold Go.Proofs.Ytemjkgegbpkeoaa.fits; rw [decide_eq_false (by omega), decide_eq_false (by omega)]
theorem PowLike.fitZE {z : Int} {n : Nat} {q : Int} (h : PowLike z n q) : fitZ q = fitZ (z ^ n) := by
  have hf := h.fitsE
  rcases h with rfl | ⟨h1, h2, _⟩
  · rfl
  · have hn : fits q = false := by unfold Go.Proofs.Ytemjkgegbpkeoaa.fits; exact decide_eq_false (by omega)
    unfold Go.Proofs.Ytemjkgegbpkeoaa.fitZ; rw [← hf, hn]; rfl
theorem one_pow_abs {z : Int} (h : z.natAbs = 1) (n : Nat) : mk (sgn z && decide (n % 2 = 1)) 1 = z ^ n := by
  induction n with
  | zero => simp [mk]
  | succ n ih =>
    rw [Int.pow_succ, ← ih]
    have hz : z = 1 ∨ z = -1 := by omega
    rcases hz with rfl | rfl
    · simp [sgn, mk]
    · have e : sgn (-1) = true := rfl
      rw [e, Bool.true_and, Bool.true_and]
      by_cases hp : n % 2 = 1
      · rw [decide_eq_true hp, decide_eq_false (by omega)]; rfl
      · rw [decide_eq_false hp, decide_eq_true (by omega)]; rfl
theorem lms_one {z : Int} (h : z.natAbs = 1) : lms z = [1] := by unfold lms; rw [h, Num.limbs_pos (by decide)]; simp [Num.limbs_zero]
theorem abs_one {z : Int} (h : (lms z).length = 1) (h1 : (lms z)[0]'(by omega) = 1) : z.natAbs = 1 := by
  have e : lms z = [1] := by
    apply List.ext_getElem
    · rw [h]; rfl
    · intro j hj hj'
      obtain rfl : j = 0 := by omega
      rw [h1]; rfl
  have := nat_lms z
  rw [e] at this
  simpa [Num.nat] using this.symm

theorem pow_next {z : Int} {k : Nat} (h1 : (lms (z ^ k)).length ≤ 40) (h2 : (lms z).length ≤ 40) : (lms (z ^ (k + 1))).length ≤ 100 := by
  have e1 := Num.limbs_len.1 h1
  have e2 := Num.limbs_len.1 h2
  have : (z ^ (k + 1)).natAbs < 4294967296 ^ (40 + 40) := by
    rw [Int.pow_succ, Int.natAbs_mul, Nat.pow_add]
    exact Nat.mul_lt_mul'' e1 e2
  exact Nat.le_trans (Num.limbs_len.2 this) (by decide)
theorem pow_over {z : Int} {k n : Nat} (h0 : z ≠ 0) (h : ¬ (lms (z ^ k)).length ≤ 40) (hk : k < n) : PowLike z n (z ^ k) := by
  refine .inr ⟨Nat.not_lt.1 fun hc => h (Num.limbs_len.2 hc), ?_, fun hz => Int.pow_nonneg hz⟩
  rw [abs_pow, abs_pow]
  exact Nat.pow_le_pow_right (by omega) (Nat.le_of_lt hk)

end Go.Proofs.Ytemjkgegbpkeoaa
