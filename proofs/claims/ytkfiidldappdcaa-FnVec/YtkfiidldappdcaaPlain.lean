/- Plain facts on numbers for this seat: greatest common divisors by Go's rest, and the least common multiple that two numbers make; nothing of the program stands here. -/
namespace Go.Proofs.Ytkfiidldappdcaa.Plain
theorem gcd_step (a b : Int) : Int.gcd b (a.tmod b) = Int.gcd a b := by
  show Nat.gcd b.natAbs (a.tmod b).natAbs = Nat.gcd a.natAbs b.natAbs
  rw [Int.natAbs_tmod, Nat.gcd_comm, ← Nat.gcd_rec, Nat.gcd_comm]
theorem tmod_lt (a b : Int) (h : b ≠ 0) : (a.tmod b).natAbs < b.natAbs := by
  rw [Int.natAbs_tmod]; exact Nat.mod_lt _ (by omega)
theorem gcd_small (a b : Int) (ha : -1000000000 ≤ a ∧ a ≤ 1000000000) (hb : -1000000000 ≤ b ∧ b ≤ 1000000000) : Int.gcd a b ≤ 1000000000 := by
  by_cases h : a = 0
  · subst h; rw [Int.gcd_zero_left]; omega
  · have := Nat.gcd_le_left b.natAbs (show 0 < a.natAbs by omega)
    show Nat.gcd a.natAbs b.natAbs ≤ _
    omega
/-- the first number without its sign, divided by the greatest common divisor, times the second without its sign -/
def lcmI (a b : Int) : Int := (a.natAbs / Int.gcd a b * b.natAbs : Nat)
theorem lcm_le (a b : Int) (ha : -1000000000 ≤ a ∧ a ≤ 1000000000) (hb : -1000000000 ≤ b ∧ b ≤ 1000000000) : 0 ≤ lcmI a b ∧ lcmI a b ≤ 1000000000000000000 := by
  unfold lcmI
  have h1 : a.natAbs / Int.gcd a b ≤ 1000000000 := Nat.le_trans (Nat.div_le_self _ _) (by omega)
  have h2 : b.natAbs ≤ 1000000000 := by omega
  have := Nat.mul_le_mul h1 h2
  omega
theorem g_dvd (a b : Int) : (Int.gcd a b : Nat) ∣ a.natAbs ∧ (Int.gcd a b : Nat) ∣ b.natAbs :=
  ⟨Nat.gcd_dvd_left _ _, Nat.gcd_dvd_right _ _⟩
theorem lcm_dvd (a b : Int) : a.natAbs ∣ a.natAbs / Int.gcd a b * b.natAbs ∧ b.natAbs ∣ a.natAbs / Int.gcd a b * b.natAbs := by
  obtain ⟨⟨x, hx⟩, ⟨y, hy⟩⟩ := g_dvd a b
  refine ⟨?_, ⟨_, Nat.mul_comm _ _⟩⟩
  by_cases hg : Int.gcd a b = 0
  · rw [hg] at hx hy ⊢; simp at hx hy; simp [hx, hy]
  · refine ⟨y, ?_⟩
    have e : a.natAbs / Int.gcd a b = x := by
      rw [hx]; exact Nat.mul_div_cancel_left _ (by omega)
    rw [e, hy, ← Nat.mul_assoc, Nat.mul_comm x (Int.gcd a b), ← hx]
theorem gcd_pos (a b : Int) (h : a ≠ 0 ∨ b ≠ 0) : 0 < Int.gcd a b := by
  rcases Nat.eq_zero_or_pos (Int.gcd a b) with e | e
  · have := Int.gcd_eq_zero_iff.1 e; omega
  · exact e
end Go.Proofs.Ytkfiidldappdcaa.Plain
