/- The walks of both GcdInt. -/
import Derived.Test.YtgfmiehmhbbikaaGcdS
import Derived.Test.YtgfmiehmhbbikaaGcdI
import Derived.Test.YtgfmiehmhbbikaaOk
namespace Go.Proofs.Ytgfmiehmhbbikaa
open Go.RowKit
set_option linter.unusedVariables false

def gcT (n1 : Bool) (xs : List Nat) (n2 : Bool) (ys : List Nat) : Bool := okB n1 xs && okB n2 ys
def gcZ (n1 : Bool) (xs : List Nat) (n2 : Bool) (ys : List Nat) : Int := if gcT n1 xs n2 ys then (Int.gcd (mk n1 (Num.nat xs)) (mk n2 (Num.nat ys)) : Int) else 0
theorem RgS.rgs {W : World} {lo hi : Nat} {a : Option Addr} {n cap : Nat} {xs : List Nat} (h : RgS W lo hi a n cap xs) : RgS W lo hi a n cap xs := h
theorem RgS.seg {W : World} {lo hi : Nat} {a : Option Addr} {n cap : Nat} {xs : List Nat} (h : RgS W lo hi a n cap xs) : Seg W a n cap xs := h.1
theorem gcZ_len (n1 : Bool) (xs : List Nat) (n2 : Bool) (ys : List Nat) (h1 : Num.Small xs) (h2 : Num.Small ys) : (lms (gcZ n1 xs n2 ys)).length ≤ 40 := by
  unfold gcZ
  by_cases h : gcT n1 xs n2 ys = true
  · rw [if_pos h]
    unfold gcT at h
    simp only [Bool.and_eq_true] at h
    obtain ⟨x, rfl, rfl, hx⟩ := ok_num h1 h.1
    obtain ⟨y, rfl, rfl, hy⟩ := ok_num h2 h.2
    rw [nat_lms, mk_self, nat_lms, mk_self]
    refine Num.limbs_len.2 ?_
    rw [Int.natAbs_natCast]
    by_cases hx0 : x = 0
    · subst hx0; rw [Int.gcd_zero_left]; exact hy
    · refine Nat.lt_of_le_of_lt ?_ hx
      exact Nat.le_of_dvd (by omega) (Nat.gcd_dvd_left x.natAbs y.natAbs)
  · rw [if_neg h, zero_lms]; exact Nat.zero_le _

end Go.Proofs.Ytgfmiehmhbbikaa
