/- Plain facts on a number's bits and on powers. -/
import Derived.Test.YtbopgbpnbonkeaaBitLen
import Derived.Test.YtbopgbpnbonkeaaPow
import Derived.Test.YtbopgbpnbonkeaaFit
namespace Go.Proofs.Ytbopgbpnbonkeaa
open Go.RowKit
set_option linter.unusedVariables false

theorem bits_low0 (n : Nat) (h : n < 18446744073709551616) (h0 : n ≠ 0) : 2 ^ (Lib.bitLen n - 1) ≤ n := by
  induction n using Nat.strongRecOn with
  | _ n ih =>
    rw [Lib.bitLen_half n h0 h, Nat.add_sub_cancel_left]
    by_cases h2 : n / 2 = 0
    · rw [h2, show Lib.bitLen 0 = 0 from rfl]; simp; omega
    · have := ih (n / 2) (by omega) (by omega) h2
      have hp : 1 ≤ Lib.bitLen (n / 2) := by rw [Lib.bitLen_half (n / 2) h2 (by omega)]; omega
      have e : Lib.bitLen (n / 2) = (Lib.bitLen (n / 2) - 1) + 1 := by omega
      rw [e, Nat.pow_succ]
      omega
theorem pow32 (k : Nat) : 4294967296 ^ k = 2 ^ (32 * k) := by rw [Nat.pow_mul]
/-- a number stands between the powers that its bits say -/
theorem bits_bounds (xs : List Nat) (hs : Num.Small xs) (h0 : xs.length ≠ 0) (hl : xs.getD (xs.length - 1) 0 ≠ 0) :
    ∃ b : Nat, bitsN xs = (b : Int) + 1 ∧ 2 ^ b ≤ Num.nat xs ∧ Num.nat xs < 2 ^ (b + 1) ∧ b + 1 ≤ 32 * xs.length := by
  obtain ⟨k, hk⟩ : ∃ k, xs.length = k + 1 := ⟨xs.length - 1, by omega⟩
  have hlt : k < xs.length := by omega
  have eL : xs.getD (xs.length - 1) 0 = xs[k] := by rw [hk, Nat.add_sub_cancel]; simp [hlt]
  rw [eL] at hl
  have hL := Num.small_at hs hlt
  have hb1 := bits_low0 xs[k] (by omega) hl
  have hb2 := lt_bits xs[k] (by omega)
  have hb32 := Lib.bitLen_le xs[k] 32 (by omega) (by omega)
  have hbp : 1 ≤ Lib.bitLen xs[k] := by rw [Lib.bitLen_half _ hl (by omega)]; omega
  have hnat : Num.nat xs = Num.nat (xs.take k) + 4294967296 ^ k * xs[k] := by
    have := Num.nat_take_succ xs k hlt
    rwa [List.take_of_length_le (by omega)] at this
  have htk : Num.nat (xs.take k) < 4294967296 ^ k := by
    have := Num.nat_lt (Num.small_take hs k)
    rwa [List.length_take, Nat.min_eq_left (by omega)] at this
  refine ⟨32 * k + (Lib.bitLen xs[k] - 1), ?_, ?_, ?_, by omega⟩
  · unfold bitsN
    rw [if_neg h0, eL, hk]
    push_cast
    omega
  · rw [Nat.pow_add, ← pow32, hnat]
    exact Nat.le_trans (Nat.mul_le_mul_left _ hb1) (Nat.le_add_left _ _)
  · rw [show 32 * k + (Lib.bitLen xs[k] - 1) + 1 = 32 * k + Lib.bitLen xs[k] by omega, Nat.pow_add, ← pow32, hnat]
    have h1 : 4294967296 ^ k * (xs[k] + 1) ≤ 4294967296 ^ k * 2 ^ Lib.bitLen xs[k] := Nat.mul_le_mul_left _ hb2
    rw [Nat.mul_add, Nat.mul_one] at h1
    omega
theorem pow_mono {a b k : Nat} (h : a ≤ b) : a ^ k ≤ b ^ k := Nat.pow_le_pow_left h k
theorem abs_pow (z : Int) (n : Nat) : (z ^ n).natAbs = z.natAbs ^ n := Int.natAbs_pow z n
theorem pow_big0 {e b n x : Nat} (hb : 2 ^ b ≤ x) (h : e ≤ b * n) : 2 ^ e ≤ x ^ n := by
  have h1 : 2 ^ (b * n) ≤ x ^ n := by rw [Nat.pow_mul]; exact pow_mono hb
  exact Nat.le_trans (Nat.pow_le_pow_right (by decide) h) h1
theorem pow_big1 {k b n x : Nat} (hb : 2 ^ b ≤ x) (h : 32 * k ≤ b * n) : ¬ x ^ n < 4294967296 ^ k := by
  rw [pow32]; exact Nat.not_lt.2 (pow_big0 hb h)
/-- too many bits: the power isn't right -/
theorem pow_big {z : Int} {b n : Nat} (hb : 2 ^ b ≤ z.natAbs) (h : 1280 ≤ b * n) : fits (z ^ n) = false := by
  unfold fits
  refine decide_eq_false ?_
  rw [abs_pow]
  exact pow_big1 hb (Nat.le_trans (by decide) h)
theorem pow_len {z : Int} {b j : Nat} (hb : z.natAbs ≤ 2 ^ b) (h : b * j ≤ 100000) : (lms (z ^ j)).length ≤ 250000 := by
  have h1 : (z ^ j).natAbs ≤ 2 ^ (b * j) := by rw [abs_pow, Nat.pow_mul]; exact pow_mono hb
  have h2 : (z ^ j).natAbs < 4294967296 ^ (b * j + 1) := by
    have h3 : 2 ^ (b * j) ≤ 4294967296 ^ (b * j) := pow_mono (by decide)
    have h4 : 4294967296 ^ (b * j) < 4294967296 ^ (b * j + 1) := Nat.pow_lt_pow_right (by decide) (Nat.lt_succ_self _)
    exact Nat.lt_of_le_of_lt (Nat.le_trans h1 h3) h4
  exact Nat.le_trans (Num.limbs_len.2 h2) (by omega)
end Go.Proofs.Ytbopgbpnbonkeaa
