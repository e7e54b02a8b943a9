/- The walks that reckon over arrays of eight: times, plus, dividedBy. -/
import Derived.Test.YteeifaleneneeaaGreatDoorPk06
import Derived.LoopN
namespace Go.Proofs.YteeifaleneneeaaGreatDoor.V
open Go.RowKit
set_option linter.unusedVariables false
set_option maxRecDepth 20000

theorem mul_bd (a b A B : Int) (h1 : -A ≤ a ∧ a ≤ A) (h2 : -B ≤ b ∧ b ≤ B) : -(A * B) ≤ a * b ∧ a * b ≤ A * B := by
  have h : a.natAbs * b.natAbs ≤ A.toNat * B.toNat := Nat.mul_le_mul (by omega) (by omega)
  rw [← Int.natAbs_mul] at h
  have e : ((A.toNat * B.toNat : Nat) : Int) = A * B := by rw [Int.natCast_mul, Int.toNat_of_nonneg (by omega), Int.toNat_of_nonneg (by omega)]
  omega

end Go.Proofs.YteeifaleneneeaaGreatDoor.V
