/- The walks of what compares two numbers: l02Cmp, bigCompare, and what they call; nothing that was there turns. -/
import Derived.Test.YtgoblagpnioflaaCmp
namespace Go.Proofs.Ytgoblagpnioflaa
open Go.RowKit
set_option linter.unusedVariables false

theorem len_zero (z : Int) : decide ((lms z).length = 0) = decide (z = 0) := by
  by_cases h : z = 0
  · subst h; rw [show lms 0 = [] from Num.limbs_zero]; rfl
  · rw [decide_eq_false h, decide_eq_false]
    intro e; exact h (sgn_lms_nil e)

theorem cmp_flip (x y : Int) (hx : x < 0) (hy : y < 0) : cmpZ (y.natAbs : Int) (x.natAbs : Int) = cmpZ x y := by
  unfold cmpZ
  have h1 : (((y.natAbs : Nat) : Int) < ((x.natAbs : Nat) : Int)) ↔ x < y := by omega
  have h2 : (((x.natAbs : Nat) : Int) < ((y.natAbs : Nat) : Int)) ↔ y < x := by omega
  simp only [h1, h2]
theorem cmp_same (x y : Int) (hx : 0 ≤ x) (hy : 0 ≤ y) : cmpZ (x.natAbs : Int) (y.natAbs : Int) = cmpZ x y := by
  rw [show ((x.natAbs : Nat) : Int) = x by omega, show ((y.natAbs : Nat) : Int) = y by omega]
theorem below2 (w : World) (o1 o2 : Obj) : Below w.heap.size w ((w.alloc o1).alloc o2) := bl_alloc (bl_alloc (bl_refl w) _) _

theorem cmp_sign (x y : Int) (h : sgn x ≠ sgn y) : cmpZ (Int.sign x) (Int.sign y) = cmpZ x y := by
  unfold sgn at h
  by_cases hx : x < 0
  · have hy : 0 ≤ y := by
      refine Classical.byContradiction fun hc => h ?_
      rw [decide_eq_true hx, decide_eq_true (by omega)]
    rw [Int.sign_eq_neg_one_of_neg hx, cmp_lt (a := x) (b := y) (by omega)]
    refine cmp_lt ?_
    rcases Int.lt_or_eq_of_le hy with h' | h'
    · rw [Int.sign_eq_one_of_pos h']; decide
    · subst h'; decide
  · have hy : y < 0 := by
      refine Classical.byContradiction fun hc => h ?_
      rw [decide_eq_false hx, decide_eq_false hc]
    rw [Int.sign_eq_neg_one_of_neg hy, cmp_gt (a := x) (b := y) (by omega)]
    refine cmp_gt ?_
    rcases Int.lt_or_eq_of_le (Int.not_lt.1 hx) with h' | h'
    · rw [Int.sign_eq_one_of_pos h']; decide
    · subst h'; decide

end Go.Proofs.Ytgoblagpnioflaa
