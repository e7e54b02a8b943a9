/- My texts PowNum, RootN, in this order. -/
import Derived.Test.YthjapjbiclkhcaaPk03
import Derived.Test.YthjapjbiclkhcaaPk07
import Derived.Test.YthjapjbiclkhcaaPk06
/- Plain facts on a number's bits and on powers. -/
namespace Go.Proofs.Ythjapjbiclkhcaa
open Go.RowKit
set_option linter.unusedVariables false

theorem bits_low0 (n : Nat) (h : n < 18446744073709551616) (h0 : n ≠ 0) : 2 ^ (Lib.bitLen n - 1) ≤ n := by
  induction n using Nat.strongRecOn with
  | _ n ih =>
    rw [Lib.bitLen_half n h0 h, Nat.add_sub_cancel_left]
    by_cases h2 : n / 2 = 0
    · rw [h2, show Lib.bitLen 0 = 0 from rfl]; simp; omega
    · have := ih (n / 2) (by omega) (by omega) h2
      have hp : 1 ≤ Lib.bitLen (n / 2) := by rw [Lib.bitLen_half (n / 2) h2 (by omega)]; omega
      have e : Lib.bitLen (n / 2) = (Lib.bitLen (n / 2) - 1) + 1 := by omega
      rw [e, Nat.pow_succ]
      omega
theorem pow32 (k : Nat) : 4294967296 ^ k = 2 ^ (32 * k) := by rw [Nat.pow_mul]
/-- a number stands between the powers that its bits say -/
theorem bits_bounds (xs : List Nat) (hs : Num.Small xs) (h0 : xs.length ≠ 0) (hl : xs.getD (xs.length - 1) 0 ≠ 0) :
    ∃ b : Nat, bitsN xs = (b : Int) + 1 ∧ 2 ^ b ≤ Num.nat xs ∧ Num.nat xs < 2 ^ (b + 1) ∧ b + 1 ≤ 32 * xs.length := by
  obtain ⟨k, hk⟩ : ∃ k, xs.length = k + 1 := ⟨xs.length - 1, by omega⟩
  have hlt : k < xs.length := by omega
  have eL : xs.getD (xs.length - 1) 0 = xs[k] := by rw [hk, Nat.add_sub_cancel]; simp [hlt]
  rw [eL] at hl
  have hL := Num.small_at hs hlt
  have hb1 := bits_low0 xs[k] (by omega) hl
  have hb2 := lt_bits xs[k] (by omega)
  have hb32 := Lib.bitLen_le xs[k] 32 (by omega) (by omega)
  have hbp : 1 ≤ Lib.bitLen xs[k] := by rw [Lib.bitLen_half _ hl (by omega)]; omega
  have hnat : Num.nat xs = Num.nat (xs.take k) + 4294967296 ^ k * xs[k] := by
    have := Num.nat_take_succ xs k hlt
    rwa [List.take_of_length_le (by omega)] at this
  have htk : Num.nat (xs.take k) < 4294967296 ^ k := by
    have := Num.nat_lt (Num.small_take hs k)
    rwa [List.length_take, Nat.min_eq_left (by omega)] at this
  refine ⟨32 * k + (Lib.bitLen xs[k] - 1), ?_, ?_, ?_, by omega⟩
  · unfold bitsN
    rw [if_neg h0, eL, hk]
    push_cast
    omega
  · rw [Nat.pow_add, ← pow32, hnat]
    exact Nat.le_trans (Nat.mul_le_mul_left _ hb1) (Nat.le_add_left _ _)
  · rw [show 32 * k + (Lib.bitLen xs[k] - 1) + 1 = 32 * k + Lib.bitLen xs[k] by omega, Nat.pow_add, ← pow32, hnat]
    have h1 : 4294967296 ^ k * (xs[k] + 1) ≤ 4294967296 ^ k * 2 ^ Lib.bitLen xs[k] := Nat.mul_le_mul_left _ hb2
    rw [Nat.mul_add, Nat.mul_one] at h1
    omega
theorem pow_mono {a b k : Nat} (h : a ≤ b) : a ^ k ≤ b ^ k := Nat.pow_le_pow_left h k
theorem abs_pow (z : Int) (n : Nat) : (z ^ n).natAbs = z.natAbs ^ n := Int.natAbs_pow z n
theorem pow_big0 {e b n x : Nat} (hb : 2 ^ b ≤ x) (h : e ≤ b * n) : 2 ^ e ≤ x ^ n := by
  have h1 : 2 ^ (b * n) ≤ x ^ n := by rw [Nat.pow_mul]; exact pow_mono hb
  exact Nat.le_trans (Nat.pow_le_pow_right (by decide) h) h1
theorem pow_big1 {k b n x : Nat} (hb : 2 ^ b ≤ x) (h : 32 * k ≤ b * n) : ¬ x ^ n < 4294967296 ^ k := by
  rw [pow32]; exact Nat.not_lt.2 (pow_big0 hb h)
/-- too many bits: the power isn't right -/
theorem pow_big {z : Int} {b n : Nat} (hb : 2 ^ b ≤ z.natAbs) (h : 1280 ≤ b * n) : fits (z ^ n) = false := by
  unfold fits
  refine decide_eq_false ?_
  rw [abs_pow]
  exact pow_big1 hb (Nat.le_trans (by decide) h)
theorem pow_len {z : Int} {b j : Nat} (hb : z.natAbs ≤ 2 ^ b) (h : b * j ≤ 100000) : (lms (z ^ j)).length ≤ 250000 := by
  have h1 : (z ^ j).natAbs ≤ 2 ^ (b * j) := by rw [abs_pow, Nat.pow_mul]; exact pow_mono hb
  have h2 : (z ^ j).natAbs < 4294967296 ^ (b * j + 1) := by
    have h3 : 2 ^ (b * j) ≤ 4294967296 ^ (b * j) := pow_mono (by decide)
    have h4 : 4294967296 ^ (b * j) < 4294967296 ^ (b * j + 1) := Nat.pow_lt_pow_right (by decide) (Nat.lt_succ_self _)
    exact Nat.lt_of_le_of_lt (Nat.le_trans h1 h3) h4
  exact Nat.le_trans (Num.limbs_len.2 h2) (by omega)
end Go.Proofs.Ythjapjbiclkhcaa

/- Roots by halves and by Newton's step: numbers alone. -/
namespace Go.Proofs.Ythjapjbiclkhcaa
open Go.RowKit
set_option linter.unusedVariables false

/-- r is the root of x by k, rounded down -/
def Root (k x r : Nat) : Prop := r ^ k ≤ x ∧ x < (r + 1) ^ k
theorem root_one {k x r s : Nat} (h1 : Root k x r) (h2 : Root k x s) : r = s := by
  have a : ¬ r < s := fun h => by
    have : (r + 1) ^ k ≤ s ^ k := Nat.pow_le_pow_left h k
    have := h1.2; have := h2.1; omega
  have b : ¬ s < r := fun h => by
    have : (s + 1) ^ k ≤ r ^ k := Nat.pow_le_pow_left h k
    have := h1.1; have := h2.2; omega
  omega
theorem sq_nonneg (a : Int) : 0 ≤ a * a := by
  rcases Int.le_total 0 a with h | h
  · exact Int.mul_nonneg h h
  · exact Int.mul_nonneg_of_nonpos_of_nonpos h h
theorem newton_ineq (s r : Int) (hs : 0 ≤ s) (hr : 0 ≤ r) (k : Nat) : ((k : Int) + 1) * (s * r ^ k) ≤ s ^ (k + 1) + k * r ^ (k + 1) := by
  induction k with
  | zero => rw [Int.pow_succ]; simp
  | succ k ih =>
    have h1 : 0 ≤ s * (s ^ (k + 1) + k * r ^ (k + 1) - ((k : Int) + 1) * (s * r ^ k)) := Int.mul_nonneg hs (by omega)
    have h2 : 0 ≤ ((k : Int) + 1) * (r ^ k * ((r - s) * (r - s))) := Int.mul_nonneg (by omega) (Int.mul_nonneg (Int.pow_nonneg hr) (sq_nonneg _))
    have e : s ^ (k + 1 + 1) + ((k + 1 : Nat) : Int) * r ^ (k + 1 + 1) - (((k + 1 : Nat) : Int) + 1) * (s * r ^ (k + 1)) = s * (s ^ (k + 1) + k * r ^ (k + 1) - ((k : Int) + 1) * (s * r ^ k)) + ((k : Int) + 1) * (r ^ k * ((r - s) * (r - s))) := by
      rw [Int.pow_succ s (k + 1), Int.pow_succ s k, Int.pow_succ r (k + 1), Int.pow_succ r k]
      push_cast
      grind
    omega
/-- Newton's step stays at the root or above -/
theorem newton_low {k x r s : Nat} (hr : 0 < r) (h : s ^ (k + 1) ≤ x) : s ≤ (r * k + x / r ^ k) / (k + 1) := by
  rw [Nat.le_div_iff_mul_le (by omega)]
  have hp : 0 < r ^ k := Nat.pow_pos hr
  by_cases hc : s * (k + 1) ≤ r * k
  · exact Nat.le_trans hc (Nat.le_add_right _ _)
  · have hle : (s * (k + 1) - r * k) * r ^ k ≤ x := by
      refine Nat.le_trans ?_ h
      have := newton_ineq (s : Int) (r : Int) (by omega) (by omega) k
      have e : ((s * (k + 1) - r * k : Nat) : Int) = (s : Int) * (k + 1) - r * k := by
        rw [Int.ofNat_sub (by omega)]; push_cast; rfl
      have g : (((s * (k + 1) - r * k) * r ^ k : Nat) : Int) ≤ ((s ^ (k + 1) : Nat) : Int) := by
        rw [Int.natCast_mul, e]
        push_cast
        rw [Int.pow_succ (r : Int) k] at this
        grind
      exact Int.ofNat_le.1 g
    have := (Nat.le_div_iff_mul_le hp).2 hle
    omega
/-- where the step goes down no more, the root is not above -/
theorem newton_end {k x r : Nat} (hr : 0 < r) (h : r ≤ (r * k + x / r ^ k) / (k + 1)) : r ^ (k + 1) ≤ x := by
  rw [Nat.le_div_iff_mul_le (by omega)] at h
  have : r ≤ x / r ^ k := by rw [Nat.mul_add] at h; omega
  have := (Nat.le_div_iff_mul_le (Nat.pow_pos hr)).1 this
  rw [Nat.pow_succ, Nat.mul_comm]; exact this
/-- there is a root -/
theorem root_ex (k x : Nat) (hk : 0 < k) : ∃ s, Root k x s := by
  have : ∀ n, x < (n + 1) ^ k → ∃ s, Root k x s := by
    intro n
    induction n with
    | zero => intro h; exact ⟨0, by rw [Nat.zero_pow hk]; exact Nat.zero_le _, h⟩
    | succ n ih =>
      intro h
      by_cases hc : (n + 1) ^ k ≤ x
      · exact ⟨n + 1, hc, h⟩
      · exact ih (by omega)
  refine this x ?_
  exact Nat.lt_of_lt_of_le (Nat.lt_succ_self x) (Nat.le_self_pow (by omega) (x + 1))
/-- the last one of Newton's steps is the root -/
theorem newton_root {k x r s : Nat} (hr : 0 < r) (hs : Root (k + 1) x s) (h1 : s ≤ r) (h2 : r ≤ (r * k + x / r ^ k) / (k + 1)) : r = s := by
  have := newton_end hr h2
  have h3 : ¬ s < r := fun h => by
    have : (s + 1) ^ (k + 1) ≤ r ^ (k + 1) := Nat.pow_le_pow_left h _
    have := hs.2; omega
  omega
/-- a bit more of the root, from the top down -/
theorem half_step {k x r i : Nat} (h2 : x < (r + 2 ^ (i + 1)) ^ k) : ((r + 2 ^ i) ^ k ≤ x → x < (r + 2 ^ i + 2 ^ i) ^ k) ∧ (¬ (r + 2 ^ i) ^ k ≤ x → x < (r + 2 ^ i) ^ k) := by
  refine ⟨fun _ => ?_, fun h => by omega⟩
  rw [Nat.add_assoc, ← Nat.two_mul, Nat.mul_comm, ← Nat.pow_succ]; exact h2
theorem half_start {k x b : Nat} (hk : 0 < k) (h : x < 2 ^ b) : x < (0 + 2 ^ (b / k + 1)) ^ k := by
  rw [Nat.zero_add, ← Nat.pow_mul]
  refine Nat.lt_of_lt_of_le h (Nat.pow_le_pow_right (by decide) ?_)
  have := Nat.lt_div_mul_add hk (a := b)
  rw [Nat.add_mul]; omega
theorem newton_start {k x b s : Nat} (hk : 0 < k) (h : x < 2 ^ b) (hs : s ^ k ≤ x) : s ≤ 2 ^ ((b + k - 1) / k) := by
  refine Nat.le_of_not_lt fun hc => ?_
  have h1 : (2 ^ ((b + k - 1) / k)) ^ k ≤ s ^ k := Nat.pow_le_pow_left (Nat.le_of_lt hc) k
  rw [← Nat.pow_mul] at h1
  have h2 : b ≤ (b + k - 1) / k * k := by
    have := Nat.lt_div_mul_add hk (a := b + k - 1)
    omega
  have := Nat.pow_le_pow_right (n := 2) (by decide) h2
  omega
end Go.Proofs.Ythjapjbiclkhcaa
