/- Plain facts on long division of numbers in limbs; nothing of the program stands here. -/
import Derived.Test.YtbopgbpnbonkeaaNum
namespace Go.Proofs.Ytbopgbpnbonkeaa.Num
set_option linter.unusedVariables false
theorem guess_ge {P D E t M : Nat} (hM : 0 < M) (ht : 0 < t) (hP : P < (E + 1) * M) (hD : t * M ≤ D) : P / D ≤ E / t := by
  rw [Nat.le_div_iff_mul_le ht]
  have h1 : P / D * D ≤ P := Nat.div_mul_le_self P D
  have h2 : P / D * (t * M) ≤ P / D * D := Nat.mul_le_mul_left _ hD
  have h3 : P / D * t * M < (E + 1) * M := by rw [Nat.mul_assoc]; omega
  have := Nat.lt_of_mul_lt_mul_right h3
  omega
/-- a list whose number is below the n-th power has noughts alone behind n limbs -/
theorem drop_zero {xs : List Nat} {n : Nat} (h : nat xs < 4294967296 ^ n) : nat (xs.drop n) = 0 := by
  by_cases hn : n ≤ xs.length
  · have e := nat_take_drop xs n hn
    refine Nat.eq_zero_of_not_pos fun hp => ?_
    have : 4294967296 ^ n * 1 ≤ 4294967296 ^ n * nat (xs.drop n) := Nat.mul_le_mul_left _ hp
    omega
  · rw [List.drop_eq_nil_of_le (by omega)]; rfl
theorem take_all {xs : List Nat} {n : Nat} (hn : n ≤ xs.length) (h : nat xs < 4294967296 ^ n) : nat (xs.take n) = nat xs := nat_take_of_zero hn (drop_zero h)
theorem pow_pos' (n : Nat) : 0 < 4294967296 ^ n := Nat.pow_pos (by decide)
/-- the ends of a list of n + 2 limbs -/
theorem ends_up {xs : List Nat} {n : Nat} (hs : Small xs) (hl : xs.length = n + 2) (h0 : n < xs.length) (h1 : n + 1 < xs.length) : nat xs < (xs[n + 1] * 4294967296 + xs[n] + 1) * 4294967296 ^ n := by
  have e := nat_take_drop xs n (by omega)
  have h2 := nat_lt (small_take hs n)
  rw [List.length_take, Nat.min_eq_left (by omega)] at h2
  rw [nat_drop xs n h0, nat_drop xs (n + 1) h1, List.drop_eq_nil_of_le (by omega : xs.length ≤ n + 1 + 1)] at e
  simp only [nat] at e
  rw [Nat.add_mul, Nat.one_mul, Nat.mul_comm (xs[n + 1] * 4294967296 + xs[n])]
  have e3 : xs[n] + 4294967296 * (xs[n + 1] + 4294967296 * 0) = xs[n + 1] * 4294967296 + xs[n] := by omega
  rw [e3] at e
  omega
theorem top_le {xs : List Nat} {n : Nat} (h0 : n < xs.length) : xs[n] * 4294967296 ^ n ≤ nat xs := by
  have e := nat_take_drop xs n (by omega)
  rw [nat_drop xs n h0, Nat.mul_add, Nat.mul_comm (4294967296 ^ n) xs[n]] at e
  omega
/-- the quotient and the rest so far: the limbs from place k on -/
def LSo (S D n m : Nat) (rs qs : List Nat) (k : Nat) : Prop :=
  rs.length = m + n ∧ qs.length = m ∧ Small rs ∧ Small qs ∧ nat (rs.drop k) < D ∧ nat rs + D * (4294967296 ^ k * nat (qs.drop k)) = S
theorem lso_part {S D n m k : Nat} {rs qs : List Nat} (h : LSo S D n m rs qs (k + 1)) (hk : k < m) (hD : D < 4294967296 ^ n) :
    nat ((rs.drop k).take (n + 1)) < 4294967296 * D ∧ nat (rs.drop (k + (n + 1))) = 0 := by
  obtain ⟨h1, h2, h3, h4, h5, h6⟩ := h
  have hz : nat (rs.drop (k + (n + 1))) = 0 := by
    have := drop_zero (xs := rs.drop (k + 1)) (n := n) (by omega)
    rw [List.drop_drop] at this
    rw [show k + (n + 1) = k + 1 + n by omega]; exact this
  refine ⟨?_, hz⟩
  have e := nat_take_of_zero (xs := rs.drop k) (n := n + 1) (by rw [List.length_drop]; omega) (by rw [List.drop_drop]; exact hz)
  rw [e, nat_drop rs k (by omega)]
  have hx := small_at h3 (show k < rs.length by omega)
  omega
theorem lso_step {S D n m k : Nat} {rs qs zs : List Nat} (h : LSo S D n m rs qs (k + 1)) (hk : k < m) (hD : D < 4294967296 ^ n) (hD0 : 0 < D) (hzs : Small zs) (hzl : zs.length = n + 1)
    (hz : nat zs = nat ((rs.drop k).take (n + 1)) % D) : LSo S D n m (rs.take k ++ zs ++ rs.drop (k + (n + 1))) (qs.set k (nat ((rs.drop k).take (n + 1)) / D)) k := by
  obtain ⟨hP, hz0⟩ := lso_part h hk hD
  obtain ⟨h1, h2, h3, h4, h5, h6⟩ := h
  have hq : nat ((rs.drop k).take (n + 1)) / D < 4294967296 := by rw [Nat.div_lt_iff_lt_mul hD0]; exact hP
  have hl : (rs.take k ++ zs ++ rs.drop (k + (n + 1))).length = m + n := by simp; omega
  have hkl : (rs.take k).length = k := by rw [List.length_take]; omega
  have ed : (rs.take k ++ zs ++ rs.drop (k + (n + 1))).drop k = zs ++ rs.drop (k + (n + 1)) := by
    rw [List.append_assoc, List.drop_append_of_le_length (by omega), List.drop_eq_nil_of_le (by omega), List.nil_append]
  have en : nat (zs ++ rs.drop (k + (n + 1))) = nat zs := by rw [nat_append, hz0]; omega
  refine ⟨hl, by rw [List.length_set]; exact h2, small_append (small_append (small_take h3 k) hzs) (small_drop h3 _), small_set h4 _ _ hq, ?_, ?_⟩
  · rw [ed, en, hz]; exact Nat.mod_lt _ hD0
  · have e1 : (qs.set k (nat ((rs.drop k).take (n + 1)) / D)).drop k = (nat ((rs.drop k).take (n + 1)) / D) :: qs.drop (k + 1) := by
      rw [List.drop_set, if_neg (by omega), Nat.sub_self, List.drop_eq_getElem_cons (by omega), List.set_cons_zero]
    have e2 : nat rs = nat (rs.take k) + 4294967296 ^ k * nat ((rs.drop k).take (n + 1)) := by
      rw [nat_take_drop rs k (by omega)]
      congr 2
      exact (nat_take_of_zero (by rw [List.length_drop]; omega) (by rw [List.drop_drop]; exact hz0)).symm
    rw [e1, nat, List.append_assoc, nat_append, en, hkl, hz]
    rw [e2] at h6
    have e3 := Nat.div_add_mod (nat ((rs.drop k).take (n + 1))) D
    generalize nat ((rs.drop k).take (n + 1)) = P at *
    generalize nat (qs.drop (k + 1)) = Q at *
    rw [Nat.pow_succ] at h6
    generalize 4294967296 ^ k = M at *
    rw [← h6]
    have e4 : M * P = M * (D * (P / D)) + M * (P % D) := by rw [← Nat.mul_add, e3]
    have e5 : D * (M * (P / D + 4294967296 * Q)) = M * (D * (P / D)) + D * (M * 4294967296 * Q) := by
      rw [Nat.mul_add, Nat.mul_add, Nat.mul_left_comm D M, Nat.mul_assoc M]
    rw [e4, e5]
    omega
theorem lso_start {A s B n m : Nat} {rs : List Nat} {la : Nat} (hs : Small rs) (hl : rs.length = la + 1) (hm : m + n = la + 1) (hv : nat rs = A * s) (hA : A < 4294967296 ^ la) (hB : 4294967296 ^ (n - 1) ≤ B) (hn : 1 ≤ n) (hs0 : 0 < s) :
    LSo (A * s) (B * s) n m rs (List.replicate m 0) m := by
  refine ⟨by omega, by simp, hs, small_replicate m, ?_, ?_⟩
  · have h1 : A * s < 4294967296 ^ m * (B * s) := by
      have h2 : 4294967296 ^ m * 4294967296 ^ (n - 1) ≤ 4294967296 ^ m * B := Nat.mul_le_mul_left _ hB
      rw [← Nat.pow_add, show m + (n - 1) = la by omega] at h2
      rw [← Nat.mul_assoc]
      exact Nat.mul_lt_mul_of_pos_right (Nat.lt_of_lt_of_le hA h2) hs0
    have e := nat_take_drop rs m (by omega)
    rw [hv] at e
    refine Nat.lt_of_not_le fun hc => ?_
    have : 4294967296 ^ m * (B * s) ≤ 4294967296 ^ m * nat (rs.drop m) := Nat.mul_le_mul_left _ hc
    omega
  · rw [List.drop_eq_nil_of_le (by simp)]
    simp [nat, hv]
theorem lso_end {A s B n m : Nat} {rs qs : List Nat} (h : LSo (A * s) (B * s) n m rs qs 0) (hs0 : 0 < s) (hB : 0 < B) : nat qs = A / B ∧ nat rs = A % B * s ∧ nat rs < B * s := by
  obtain ⟨_, _, _, _, h5, h6⟩ := h
  rw [List.drop_zero] at h5 h6
  rw [Nat.pow_zero, Nat.one_mul] at h6
  have h7 : nat qs = A / B := by
    have e : A * s / (B * s) = nat qs := by
      rw [← h6, Nat.add_mul_div_left _ _ (Nat.mul_pos hB hs0), Nat.div_eq_of_lt h5, Nat.zero_add]
    rw [← e, Nat.mul_div_mul_right _ _ hs0]
  refine ⟨h7, ?_, h5⟩
  have e2 : nat rs = A * s % (B * s) := by
    rw [← h6, Nat.add_mul_mod_self_left, Nat.mod_eq_of_lt h5]
  rw [e2, Nat.mul_mod_mul_right]
/-- one round of the guess: what was taken away too often comes back -/
theorem back_step {P D g l Z Z' c M : Nat} (h : Z + D * g = P + M * l) (hZ : Z < M) (hl : l = 1) (hadd : Z' + M * c = Z + D) (hc : c ≤ 1) : P / D < g ∧ 0 < g ∧ Z' + D * (g - 1) = P + M * (1 - c) := by
  subst hl
  have h1 : P < D * g := by omega
  have hg : 0 < g := Nat.pos_of_ne_zero fun e => by subst e; omega
  have h2 : P / D < g := by
    rw [Nat.div_lt_iff_lt_mul (Nat.pos_of_ne_zero fun e => by subst e; omega), Nat.mul_comm]; exact h1
  refine ⟨h2, hg, ?_⟩
  obtain ⟨j, rfl⟩ : ∃ j, g = j + 1 := ⟨g - 1, by omega⟩
  rw [Nat.add_sub_cancel]
  rw [Nat.mul_add] at h
  obtain rfl | rfl : c = 0 ∨ c = 1 := by omega
  · simp at *; omega
  · simp at *; omega
theorem back_end {P D g Z : Nat} (h : Z + D * g = P) (hD : 0 < D) (hg : P / D ≤ g) : g = P / D ∧ Z = P % D := by
  have h1 : g ≤ P / D := by rw [Nat.le_div_iff_mul_le hD, Nat.mul_comm]; omega
  have h2 : g = P / D := by omega
  refine ⟨h2, ?_⟩
  have := Nat.div_add_mod P D
  rw [← h2] at this
  omega
theorem scale_fit {B n t s L : Nat} (hB : B < (t + 1) * 4294967296 ^ (n - 1)) (hn : 1 ≤ n) (ht : t < 2 ^ L) (hL : L ≤ 32) (hs : s = 2 ^ (32 - L)) : B * s < 4294967296 ^ n := by
  have h1 : (t + 1) * s ≤ 4294967296 := by
    have h2 : (t + 1) * s ≤ 2 ^ L * 2 ^ (32 - L) := by rw [hs]; exact Nat.mul_le_mul_right _ ht
    rw [← Nat.pow_add, show L + (32 - L) = 32 by omega] at h2
    exact h2
  have hs0 : 0 < s := by rw [hs]; exact Nat.pow_pos (by decide)
  have h3 : B * s < (t + 1) * 4294967296 ^ (n - 1) * s := Nat.mul_lt_mul_of_pos_right hB hs0
  have h4 : (t + 1) * s * 4294967296 ^ (n - 1) ≤ 4294967296 * 4294967296 ^ (n - 1) := Nat.mul_le_mul_right _ h1
  rw [Nat.mul_comm 4294967296, ← Nat.pow_succ, show (n - 1).succ = n by omega] at h4
  rw [Nat.mul_right_comm] at h3
  omega
end Go.Proofs.Ytbopgbpnbonkeaa.Num
