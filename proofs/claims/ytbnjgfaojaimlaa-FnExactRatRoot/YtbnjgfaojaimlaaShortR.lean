/- The walk of the program's shortened. -/
import Derived.Test.YtbnjgfaojaimlaaRCmp
namespace Go.Proofs.Ytbnjgfaojaimlaa
open Go.RowKit
set_option linter.unusedVariables false

/-- what two numbers share, with the sign of the second -/
def sgG (x y : Int) : Int := if y < 0 then -(Int.gcd x y : Int) else (Int.gcd x y : Int)
theorem limbs_mono {m n : Nat} (h : m ≤ n) : (Num.limbs m).length ≤ (Num.limbs n).length := Num.limbs_len.2 (Nat.lt_of_le_of_lt h (Num.limbs_len.1 (Nat.le_refl _)))
theorem sgG_facts {x y G : Int} (hy : y ≠ 0) (e : sgG x y = G) (l : (lms y).length ≤ 100000) : G ≠ 0 ∧ sgn y = sgn G ∧ lms ((Int.gcd x y : Nat) : Int) = lms G ∧ (lms G).length ≤ 100000 := by
  have hp : 0 < Int.gcd x y := Nat.pos_of_ne_zero (fun h => hy (Int.gcd_eq_zero_iff.1 h).2)
  have ha : G.natAbs = Int.gcd x y := by unfold sgG at e; split at e <;> omega
  have hle : Int.gcd x y ≤ y.natAbs := Nat.le_of_dvd (by omega) (Nat.gcd_dvd_right _ _)
  refine ⟨by omega, ?_, ?_, ?_⟩
  · unfold sgn; unfold sgG at e; split at e
    · rw [decide_eq_true (by omega), decide_eq_true (by omega)]
    · rw [decide_eq_false (by omega), decide_eq_false (by omega)]
  · unfold lms; rw [ha]; rfl
  · unfold lms; rw [ha]; exact Nat.le_trans (limbs_mono hle) l

theorem apart_two {W W' : World} {b n m c c' : Nat} {a a' : Option Addr} {xs ys : List Nat} (h : Own W b a n c xs) (h' : Own W' W.heap.size a' m c' ys) : Apart a a' := by
  rcases h.cases with ⟨rfl, _⟩ | ⟨g, rfl, _, h2⟩
  · exact Apart.none _
  · rcases h'.cases with ⟨rfl, _⟩ | ⟨g', rfl, h3, _⟩
    · exact Apart.none' _
    · exact Apart.blocks (by omega)

end Go.Proofs.Ytbnjgfaojaimlaa
