/- Plain facts on a greatest common divisor and a least common multiple that isn't 0: what divides what, and their product; nothing of the program stands here. -/
import Derived.Test.YtkfiidldappdcaaPlain
namespace Go.Proofs.Ytkfiidldappdcaa.Plain
theorem divs (x y : Int) (g : Nat) (l : Int) (hx1 : -1000000000 ≤ x) (hx2 : x ≤ 1000000000) (hy1 : -1000000000 ≤ y) (hy2 : y ≤ 1000000000)
    (hg : Int.gcd x y = g) (hl : lcmI x y = l) (h0 : l ≠ 0) :
    ∃ p q : Nat, (1 ≤ p ∧ p ≤ 1000000000) ∧ (1 ≤ q ∧ q ≤ 1000000000) ∧ (p : Int) % (g : Int) = 0 ∧ (q : Int) % (g : Int) = 0 ∧ l % (p : Int) = 0 ∧ l % (q : Int) = 0 ∧ (p : Int) / (g : Int) * (q : Int) = l
      ∧ 1 ≤ (g : Int) ∧ (g : Int) ≤ 1000000000 ∧ 1 ≤ l ∧ l ≤ 1000000000000000000 ∧ p = x.natAbs ∧ q = y.natAbs := by
  have hb := lcm_le x y ⟨hx1, hx2⟩ ⟨hy1, hy2⟩
  have hs := gcd_small x y ⟨hx1, hx2⟩ ⟨hy1, hy2⟩
  have hx0 : x ≠ 0 := fun e => h0 (by rw [← hl, e]; simp [lcmI])
  have hy0 : y ≠ 0 := fun e => h0 (by rw [← hl, e]; simp [lcmI])
  have hgp := gcd_pos x y (.inl hx0)
  obtain ⟨d1, d2⟩ := g_dvd x y
  obtain ⟨d3, d4⟩ := lcm_dvd x y
  rw [hg] at d1 d2 d3 d4 hs hgp
  have el : l = ((x.natAbs / g * y.natAbs : Nat) : Int) := by rw [← hl, lcmI, hg]
  rw [hl] at hb
  refine ⟨x.natAbs, y.natAbs, by omega, by omega, ?_, ?_, ?_, ?_, ?_, by omega, by omega, by omega, by omega, rfl, rfl⟩
  · exact Int.emod_eq_zero_of_dvd (Int.ofNat_dvd.2 d1)
  · exact Int.emod_eq_zero_of_dvd (Int.ofNat_dvd.2 d2)
  · rw [el]; exact Int.emod_eq_zero_of_dvd (Int.ofNat_dvd.2 d3)
  · rw [el]; exact Int.emod_eq_zero_of_dvd (Int.ofNat_dvd.2 d4)
  · rw [el]; simp
end Go.Proofs.Ytkfiidldappdcaa.Plain
