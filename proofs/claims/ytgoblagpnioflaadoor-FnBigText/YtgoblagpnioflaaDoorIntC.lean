/- The numeral of a right number, else the empty text. -/
import Derived.Test.YtgoblagpnioflaaDoorTxC
import Derived.Test.YtgoblagpnioflaaDoorMake
namespace Go.Proofs.YtgoblagpnioflaaDoor
open Go.RowKit Go.Sort
set_option linter.unusedVariables false

/-- the numeral of a right number, else nothing -/
def intT (neg : Bool) (xs : List Nat) : ByteArray := if okB neg xs then itB (mk neg (Num.nat xs)) else ⟨#[]⟩
theorem intT_num (z : Int) (h : okB (sgn z) (lms z) = true) : intT (sgn z) (lms z) = itB z := by
  rw [intT, if_pos h, nat_lms, mk_self]
theorem raw_small {W : World} {v : Value} {neg : Bool} {xs : List Nat} (h : Raw W v neg xs) : Num.Small xs := by
  obtain ⟨_, _, _, hs⟩ := h; exact hs.2.2.2.1
theorem ok_len {z : Int} (h : okB (sgn z) (lms z) = true) : (lms z).length ≤ 40 := by
  refine Classical.byContradiction fun hc => ?_
  rw [ok_long hc] at h; cases h
end Go.Proofs.YtgoblagpnioflaaDoor
