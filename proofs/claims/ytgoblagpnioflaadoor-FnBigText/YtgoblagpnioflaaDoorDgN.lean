/- Plain facts on a number in limbs that is multiplied by ten, limb by limb, with a digit carried in; nothing of the program stands here. -/
import Derived.Test.YtgoblagpnioflaaDoorNum
namespace Go.Proofs.YtgoblagpnioflaaDoor

/-- ten times the limbs and a digit, so far: the limbs ahead of place j, and what is carried -/
def DgSo (d : Nat) (xs ys : List Nat) (j c : Nat) : Prop :=
  ys.length = xs.length ∧ Num.Small ys ∧ c ≤ 9 ∧ ys.drop j = xs.drop j ∧ Num.nat (ys.take j) + 4294967296 ^ j * c = 10 * Num.nat (xs.take j) + d
theorem dg_start {d : Nat} {xs : List Nat} (hs : Num.Small xs) (hd : d ≤ 9) : DgSo d xs xs 0 d := ⟨rfl, hs, hd, rfl, by simp [Num.nat]⟩
theorem dg_at {d : Nat} {xs ys : List Nat} {j c : Nat} (h : DgSo d xs ys j c) (hj : j < xs.length) (hj' : j < ys.length) : ys[j] = xs[j] := by
  have := h.2.2.2.1
  rw [List.drop_eq_getElem_cons hj, List.drop_eq_getElem_cons hj'] at this
  exact (List.cons.inj this).1
theorem dg_step {d : Nat} {xs ys : List Nat} {j c x : Nat} (h : DgSo d xs ys j c) (hs : Num.Small xs) (hj : j < xs.length) (hx : xs[j] = x) :
    DgSo d xs (ys.set j ((c + x * 10) % 4294967296)) (j + 1) ((c + x * 10) / 4294967296) := by
  have hxs : x < 4294967296 := hx ▸ Num.small_at hs hj
  obtain ⟨h1, h2, h3, h4, h5⟩ := h
  have hj' : j < ys.length := by omega
  refine ⟨by rw [List.length_set]; exact h1, Num.small_set h2 _ _ (Nat.mod_lt _ (by decide)), by omega, ?_, ?_⟩
  · rw [List.drop_set, if_pos (by omega)]
    rw [List.drop_eq_getElem_cons hj, List.drop_eq_getElem_cons hj'] at h4
    exact (List.cons.inj h4).2
  · rw [Num.nat_take_succ _ j (by rw [List.length_set]; exact hj'), Num.nat_take_succ xs j hj, hx]
    have e1 : (ys.set j ((c + x * 10) % 4294967296)).take j = ys.take j := by rw [List.take_set, List.set_eq_of_length_le (by simp; omega)]
    have e2 : (ys.set j ((c + x * 10) % 4294967296))[j]'(by rw [List.length_set]; exact hj') = (c + x * 10) % 4294967296 := by simp
    rw [e1, e2, Nat.pow_succ]
    have e3 := Nat.div_add_mod (c + x * 10) 4294967296
    have e4 : 4294967296 ^ j * ((c + x * 10) % 4294967296) + 4294967296 ^ j * 4294967296 * ((c + x * 10) / 4294967296) = 4294967296 ^ j * c + 4294967296 ^ j * x * 10 := by
      rw [Nat.mul_assoc, ← Nat.mul_add, Nat.mul_assoc (4294967296 ^ j) x 10, ← Nat.mul_add]
      congr 1; omega
    generalize 4294967296 ^ j * ((c + x * 10) % 4294967296) = A at *
    generalize 4294967296 ^ j * 4294967296 * ((c + x * 10) / 4294967296) = B at *
    generalize 4294967296 ^ j * c = C at *
    generalize 4294967296 ^ j * x = D at *
    omega
theorem dg_end {d : Nat} {xs ys : List Nat} {c : Nat} (h : DgSo d xs ys xs.length c) : Num.nat ys + 4294967296 ^ xs.length * c = 10 * Num.nat xs + d := by
  have := h.2.2.2.2
  rw [List.take_of_length_le (by rw [h.1]; exact Nat.le_refl _), List.take_of_length_le (Nat.le_refl _)] at this
  exact this
theorem dg_more {d : Nat} {xs ys : List Nat} {c : Nat} (h : DgSo d xs ys xs.length c) : Num.nat (ys ++ [c]) = 10 * Num.nat xs + d := by
  rw [Num.nat_append, h.1, ← dg_end h]; simp [Num.nat]
theorem dg_none {d : Nat} {xs ys : List Nat} (h : DgSo d xs ys xs.length 0) : Num.nat ys = 10 * Num.nat xs + d := by
  have := dg_end h; simpa using this
end Go.Proofs.YtgoblagpnioflaaDoor
