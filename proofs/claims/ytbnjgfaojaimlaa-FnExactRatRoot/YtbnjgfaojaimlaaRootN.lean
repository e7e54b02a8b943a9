/- Roots by halves and by Newton's step: numbers alone. -/
import Derived.Test.YtbnjgfaojaimlaaPowNum
namespace Go.Proofs.Ytbnjgfaojaimlaa
open Go.RowKit
set_option linter.unusedVariables false

/-- r is the root of x by k, rounded down -/
def Root (k x r : Nat) : Prop := r ^ k ≤ x ∧ x < (r + 1) ^ k
theorem root_one {k x r s : Nat} (h1 : Root k x r) (h2 : Root k x s) : r = s := by
  have a : ¬ r < s := fun h => by
    have : (r + 1) ^ k ≤ s ^ k := Nat.pow_le_pow_left h k
    have := h1.2; have := h2.1; omega
  have b : ¬ s < r := fun h => by
    have : (s + 1) ^ k ≤ r ^ k := Nat.pow_le_pow_left h k
    have := h1.1; have := h2.2; omega
  omega
theorem sq_nonneg (a : Int) : 0 ≤ a * a := by
  rcases Int.le_total 0 a with h | h
  · exact Int.mul_nonneg h h
  · exact Int.mul_nonneg_of_nonpos_of_nonpos h h
theorem newton_ineq (s r : Int) (hs : 0 ≤ s) (hr : 0 ≤ r) (k : Nat) : ((k : Int) + 1) * (s * r ^ k) ≤ s ^ (k + 1) + k * r ^ (k + 1) := by
  induction k with
  | zero => rw [Int.pow_succ]; simp
  | succ k ih =>
    have h1 : 0 ≤ s * (s ^ (k + 1) + k * r ^ (k + 1) - ((k : Int) + 1) * (s * r ^ k)) := Int.mul_nonneg hs (by omega)
    have h2 : 0 ≤ ((k : Int) + 1) * (r ^ k * ((r - s) * (r - s))) := Int.mul_nonneg (by omega) (Int.mul_nonneg (Int.pow_nonneg hr) (sq_nonneg _))
    have e : s ^ (k + 1 + 1) + ((k + 1 : Nat) : Int) * r ^ (k + 1 + 1) - (((k + 1 : Nat) : Int) + 1) * (s * r ^ (k + 1)) = s * (s ^ (k + 1) + k * r ^ (k + 1) - ((k : Int) + 1) * (s * r ^ k)) + ((k : Int) + 1) * (r ^ k * ((r - s) * (r - s))) := by
      rw [Int.pow_succ s (k + 1), Int.pow_succ s k, Int.pow_succ r (k + 1), Int.pow_succ r k]
      push_cast
      grind
    omega
/-- Newton's step stays at the root or above -/
theorem newton_low {k x r s : Nat} (hr : 0 < r) (h : s ^ (k + 1) ≤ x) : s ≤ (r * k + x / r ^ k) / (k + 1) := by
  rw [Nat.le_div_iff_mul_le (by omega)]
  have hp : 0 < r ^ k := Nat.pow_pos hr
  by_cases hc : s * (k + 1) ≤ r * k
  · exact Nat.le_trans hc (Nat.le_add_right _ _)
  · have hle : (s * (k + 1) - r * k) * r ^ k ≤ x := by
      refine Nat.le_trans ?_ h
      have := newton_ineq (s : Int) (r : Int) (by omega) (by omega) k
      have e : ((s * (k + 1) - r * k : Nat) : Int) = (s : Int) * (k + 1) - r * k := by
        rw [Int.ofNat_sub (by omega)]; push_cast; rfl
      have g : (((s * (k + 1) - r * k) * r ^ k : Nat) : Int) ≤ ((s ^ (k + 1) : Nat) : Int) := by
        rw [Int.natCast_mul, e]
        push_cast
        rw [Int.pow_succ (r : Int) k] at this
        grind
      exact Int.ofNat_le.1 g
    have := (Nat.le_div_iff_mul_le hp).2 hle
    omega
/-- where the step goes down no more, the root is not above -/
theorem newton_end {k x r : Nat} (hr : 0 < r) (h : r ≤ (r * k + x / r ^ k) / (k + 1)) : r ^ (k + 1) ≤ x := by
  rw [Nat.le_div_iff_mul_le (by omega)] at h
  have : r ≤ x / r ^ k := by rw [Nat.mul_add] at h; omega
  have := (Nat.le_div_iff_mul_le (Nat.pow_pos hr)).1 this
  rw [Nat.pow_succ, Nat.mul_comm]; exact this
/-- there is a root -/
theorem root_ex (k x : Nat) (hk : 0 < k) : ∃ s, Root k x s := by
  have : ∀ n, x < (n + 1) ^ k → ∃ s, Root k x s := by
    intro n
    induction n with
    | zero => intro h; exact ⟨0, by rw [Nat.zero_pow hk]; exact Nat.zero_le _, h⟩
    | succ n ih =>
      intro h
      by_cases hc : (n + 1) ^ k ≤ x
      · exact ⟨n + 1, hc, h⟩
      · exact ih (by omega)
  refine this x ?_
  exact Nat.lt_of_lt_of_le (Nat.lt_succ_self x) (Nat.le_self_pow (by omega) (x + 1))
/-- the last one of Newton's steps is the root -/
theorem newton_root {k x r s : Nat} (hr : 0 < r) (hs : Root (k + 1) x s) (h1 : s ≤ r) (h2 : r ≤ (r * k + x / r ^ k) / (k + 1)) : r = s := by
  have := newton_end hr h2
  have h3 : ¬ s < r := fun h => by
    have : (s + 1) ^ (k + 1) ≤ r ^ (k + 1) := Nat.pow_le_pow_left h _
    have := hs.2; omega
  omega
/-- a bit more of the root, from the top down -/
theorem half_step {k x r i : Nat} (h2 : x < (r + 2 ^ (i + 1)) ^ k) : ((r + 2 ^ i) ^ k ≤ x → x < (r + 2 ^ i + 2 ^ i) ^ k) ∧ (¬ (r + 2 ^ i) ^ k ≤ x → x < (r + 2 ^ i) ^ k) := by
  refine ⟨fun _ => ?_, fun h => by omega⟩
  rw [Nat.add_assoc, ← Nat.two_mul, Nat.mul_comm, ← Nat.pow_succ]; exact h2
theorem half_start {k x b : Nat} (hk : 0 < k) (h : x < 2 ^ b) : x < (0 + 2 ^ (b / k + 1)) ^ k := by
  rw [Nat.zero_add, ← Nat.pow_mul]
  refine Nat.lt_of_lt_of_le h (Nat.pow_le_pow_right (by decide) ?_)
  have := Nat.lt_div_mul_add hk (a := b)
  rw [Nat.add_mul]; omega
theorem newton_start {k x b s : Nat} (hk : 0 < k) (h : x < 2 ^ b) (hs : s ^ k ≤ x) : s ≤ 2 ^ ((b + k - 1) / k) := by
  refine Nat.le_of_not_lt fun hc => ?_
  have h1 : (2 ^ ((b + k - 1) / k)) ^ k ≤ s ^ k := Nat.pow_le_pow_left (Nat.le_of_lt hc) k
  rw [← Nat.pow_mul] at h1
  have h2 : b ≤ (b + k - 1) / k * k := by
    have := Nat.lt_div_mul_add hk (a := b + k - 1)
    omega
  have := Nat.pow_le_pow_right (n := 2) (by decide) h2
  omega
end Go.Proofs.Ytbnjgfaojaimlaa
