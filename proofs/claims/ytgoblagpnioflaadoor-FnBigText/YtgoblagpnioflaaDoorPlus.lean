/- The walks of l02Limb, l02Plus and l02Less: the sum and the difference of two lists of limbs, in new memory. -/
import Derived.Test.YtgoblagpnioflaaDoorAddI
import Derived.Test.YtgoblagpnioflaaDoorFrom
namespace Go.Proofs.YtgoblagpnioflaaDoor
open Go.RowKit
set_option linter.unusedVariables false

theorem getD_lt {xs : List Nat} (h : Num.Small xs) (k : Nat) : xs.getD k 0 < 4294967296 := by
  by_cases hk : k < xs.length
  · have : xs.getD k 0 = xs[k] := by simp [hk]
    rw [this]; exact Num.small_at h hk
  · have : xs.getD k 0 = 0 := by simp [List.getD, List.getElem?_eq_none (Nat.le_of_not_lt hk)]
    rw [this]; decide
theorem own_snoc {W : World} {base k : Nat} {a' : Option Addr} {c' x : Nat} {zs : List Nat} {v : Int} (hs : Num.Small zs) (hx : x < 4294967296) (hv : v = (x : Int)) (h : W.ownsRow base 37 1 (.slice a' (k + 1) c') (k + 1) (zs.map lim ++ [.int .u32 v])) : Own W base a' (k + 1) c' (zs ++ [x]) := by
  subst hv
  refine ⟨?_, Num.small_append hs (by intro y hy; simp at hy; omega)⟩
  rw [List.map_append]; exact h

theorem less_val {xs ys zs : List Nat} {c : Nat} (h : Sofar true xs ys zs xs.length c) (hl : ys.length ≤ xs.length) (hle : Num.nat ys ≤ Num.nat xs) : Num.nat zs = Num.nat xs - Num.nat ys := by
  obtain ⟨h1, h2, h3, h4⟩ := h
  rw [if_pos rfl, List.take_of_length_le hl, List.take_of_length_le (Nat.le_refl _)] at h4
  have hz := Num.nat_lt h2
  rw [h1] at hz
  generalize 4294967296 ^ xs.length = B at *
  have hc : c = 0 ∨ c = 1 := by clear h4; omega
  rcases hc with rfl | rfl
  · rw [Nat.mul_zero] at h4; omega
  · rw [Nat.mul_one] at h4; omega
theorem plus_val {xs ys zs : List Nat} {k c : Nat} (h : Sofar false xs ys zs k c) (hx : xs.length ≤ k) (hy : ys.length ≤ k) : Num.nat (zs ++ [c]) = Num.nat xs + Num.nat ys := by
  obtain ⟨h1, h2, h3, h4⟩ := h
  rw [if_neg (by simp), List.take_of_length_le hx, List.take_of_length_le hy] at h4
  rw [Num.nat_append, h1, ← h4, show Num.nat [c] = c from by simp [Num.nat]]

end Go.Proofs.YtgoblagpnioflaaDoor
