/- Plain facts on numbers for this seat: greatest common divisors by Go's rest, and the least common multiple that two numbers make; nothing of the program stands here. -/
namespace Go.Proofs.Ytcajanekeoiepaa.Plain
theorem gcd_step (a b : Int) : Int.gcd b (a.tmod b) = Int.gcd a b := by
  show Nat.gcd b.natAbs (a.tmod b).natAbs = Nat.gcd a.natAbs b.natAbs
  rw [Int.natAbs_tmod, Nat.gcd_comm, ← Nat.gcd_rec, Nat.gcd_comm]
theorem tmod_lt (a b : Int) (h : b ≠ 0) : (a.tmod b).natAbs < b.natAbs := by
  rw [Int.natAbs_tmod]; exact Nat.mod_lt _ (by omega)
end Go.Proofs.Ytcajanekeoiepaa.Plain
