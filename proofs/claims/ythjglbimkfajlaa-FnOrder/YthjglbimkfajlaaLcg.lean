/- Plain facts on the draws' numbers: each comes behind the other by one rule, and from every one of them the number 8 is reached. -/
import Derived.WalkKit
namespace Go.Proofs.Ythjglbimkfajlaa
open Go.RowKit
set_option linter.unusedVariables false

namespace Lcg
def step (u : Int) : Int := 6364136223846793005 * u + 1442695040888963407
def steps : Nat → Int → Int
  | 0, u => u
  | t + 1, u => steps t (step u)
theorem steps_add (s t : Nat) (u : Int) : steps (s + t) u = steps t (steps s u) := by
  induction s generalizing u with
  | zero => rw [Nat.zero_add]; rfl
  | succ s ih => rw [Nat.succ_add]; exact ih (step u)
theorem sq (Q : Int) : (1 + 4 * Q) * (1 + 4 * Q) = 1 + 8 * Q + 16 * (Q * Q) := by
  rw [Int.add_mul, Int.one_mul, Int.mul_add, Int.mul_one, Int.mul_assoc 4 Q, Int.mul_left_comm Q 4]; omega
theorem pow_steps (k : Nat) : ∃ x y : Int, ∀ u, steps (2 ^ k) u = (1 + 4 * (2 ^ k * x)) * u + (2 ^ k + 2 * (2 ^ k * y)) := by
  induction k with
  | zero => exact ⟨1591034055961698251, 721347520444481703, fun u => by show step u = _; unfold step; omega⟩
  | succ k ih =>
    obtain ⟨x, y, h⟩ := ih
    generalize hP : (2 : Int) ^ k = P at h
    have hP2 : (2 : Int) ^ (k + 1) = 2 * P := by rw [Int.pow_succ, hP]; omega
    obtain ⟨Q, hQ⟩ : ∃ Q, P * x = Q := ⟨_, rfl⟩
    obtain ⟨R, hR⟩ : ∃ R, P * y = R := ⟨_, rfl⟩
    refine ⟨x + 2 * (x * Q), y + x * (P + 2 * R), fun u => ?_⟩
    rw [Nat.pow_succ, Nat.mul_two, steps_add, h, h, hP2, hQ, hR]
    have A1 : (1 + 4 * Q) * (1 + 4 * Q) = 1 + 4 * (2 * P * (x + 2 * (x * Q))) := by
      rw [sq, Int.mul_add (2 * P), Int.mul_assoc 2 P x, hQ, Int.mul_assoc 2 P (2 * (x * Q)), Int.mul_left_comm P 2, ← Int.mul_assoc P x Q, hQ]; omega
    have A2 : (1 + 4 * Q) * (P + 2 * R) + (P + 2 * R) = 2 * P + 2 * (2 * P * (y + x * (P + 2 * R))) := by
      rw [Int.mul_add (2 * P), Int.mul_assoc 2 P y, hR, Int.mul_assoc 2 P (x * (P + 2 * R)), ← Int.mul_assoc P x (P + 2 * R), hQ, Int.add_mul, Int.one_mul, Int.mul_assoc 4 Q]; omega
    rw [← A1, ← A2, Int.mul_add (1 + 4 * Q), ← Int.mul_assoc, Int.add_assoc]
theorem reach (k : Nat) (u v : Int) : ∃ t, t < 2 ^ k ∧ ∃ z, steps t u = v + 2 ^ k * z := by
  induction k with
  | zero => exact ⟨0, by simp, u - v, by show u = _; simp; omega⟩
  | succ k ih =>
    obtain ⟨t, ht, z, hz⟩ := ih
    obtain ⟨x, y, hp⟩ := pow_steps k
    have hP2 : (2 : Int) ^ (k + 1) = 2 * 2 ^ k := by rw [Int.pow_succ]; omega
    have hN2 : (2 : Nat) ^ (k + 1) = 2 ^ k + 2 ^ k := by rw [Nat.pow_succ]; omega
    rcases Int.emod_two_eq z with hm | hm
    · obtain ⟨q, rfl⟩ : ∃ q, z = 2 * q := ⟨z / 2, by omega⟩
      refine ⟨t, by omega, q, ?_⟩
      rw [hz, hP2, Int.mul_left_comm, Int.mul_assoc]
    · obtain ⟨q, rfl⟩ : ∃ q, z = 2 * q + 1 := ⟨z / 2, by omega⟩
      refine ⟨t + 2 ^ k, by omega, q + 1 + 2 * (x * steps t u) + y, ?_⟩
      rw [steps_add, hp, hP2]
      generalize steps t u = s at *
      generalize (2 : Int) ^ k = P at *
      have e1 : (1 + 4 * (P * x)) * s = s + 4 * (P * (x * s)) := by rw [Int.add_mul, Int.one_mul, Int.mul_assoc 4, Int.mul_assoc P]
      have e2 : 2 * P * (q + 1 + 2 * (x * s) + y) = 2 * (P * q) + 2 * P + 4 * (P * (x * s)) + 2 * (P * y) := by
        rw [Int.mul_add, Int.mul_add, Int.mul_add, Int.mul_one, Int.mul_assoc 2 P q, Int.mul_assoc 2 P y, Int.mul_assoc 2 P (2 * (x * s)), Int.mul_left_comm P 2]; omega
      have e3 : P * (2 * q + 1) = 2 * (P * q) + P := by rw [Int.mul_add, Int.mul_one, Int.mul_left_comm]
      rw [e1, e2]
      rw [e3] at hz
      omega

/-- the rule as an int of 64 bits goes by it -/
def next (h : Int) : Int := wrap64 (wrap64 (h * 6364136223846793005) + 1442695040888963407)
def nexts : Nat → Int → Int
  | 0, u => u
  | t + 1, u => nexts t (next u)
theorem next_step (h : Int) : ∃ z, next h = step h + 18446744073709551616 * z := by
  unfold next wrap64 step
  exact ⟨-((h * 6364136223846793005 + 9223372036854775808) / 18446744073709551616) - ((h * 6364136223846793005 + 9223372036854775808) % 18446744073709551616 - 9223372036854775808 + 1442695040888963407 + 9223372036854775808) / 18446744073709551616, by omega⟩
theorem next_range (h : Int) : -9223372036854775808 ≤ next h ∧ next h ≤ 9223372036854775807 := by
  unfold next wrap64; omega
theorem step_cong (u z : Int) : ∃ y, step (u + 18446744073709551616 * z) = step u + 18446744073709551616 * y :=
  ⟨6364136223846793005 * z, by unfold step; omega⟩
theorem nexts_steps (t : Nat) : ∀ h u z, h = u + 18446744073709551616 * z → ∃ y, nexts t h = steps t u + 18446744073709551616 * y := by
  induction t with
  | zero => intro h u z e; exact ⟨z, e⟩
  | succ t ih =>
    intro h u z e
    obtain ⟨a, ha⟩ := next_step h
    obtain ⟨b, hb⟩ := step_cong u z
    refine ih (next h) (step u) (a + b) ?_
    rw [ha, e, hb]; omega
theorem nexts_range (t : Nat) : ∀ h, -9223372036854775808 ≤ h → h ≤ 9223372036854775807 → -9223372036854775808 ≤ nexts t h ∧ nexts t h ≤ 9223372036854775807 := by
  induction t with
  | zero => intro h a b; exact ⟨a, b⟩
  | succ t ih => intro h _ _; exact ih _ (next_range h).1 (next_range h).2
/-- from every number 8 is reached, in fewer than so many steps -/
theorem to_eight : ∃ K, ∀ h, ∃ t, t < K ∧ nexts t h = 8 := by
  refine ⟨2 ^ 64 + 1, fun h => ?_⟩
  obtain ⟨t, ht, z, hz⟩ := reach 64 (next h) 8
  obtain ⟨y, hy⟩ := nexts_steps t (next h) (next h) 0 (by omega)
  have hr := nexts_range t (next h) (next_range h).1 (next_range h).2
  have e : (2 : Int) ^ 64 = 18446744073709551616 := by decide
  rw [e] at hz
  refine ⟨t + 1, by omega, ?_⟩
  show nexts t (next h) = 8
  omega
end Lcg
end Go.Proofs.Ythjglbimkfajlaa
