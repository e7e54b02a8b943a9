/- The walks of l02Short and divideShort: a list of limbs divided by one limb, in new memory. -/
import Derived.Test.YtgoblagpnioflaaDoorSum
import Derived.Test.YtgoblagpnioflaaDoorTimesS
namespace Go.Proofs.YtgoblagpnioflaaDoor
open Go.RowKit
set_option linter.unusedVariables false

/-- the quotient and the rest so far: the limbs from place k on -/
def DSo (d : Nat) (xs qs : List Nat) (k r : Nat) : Prop :=
  qs.length = xs.length ∧ Num.Small qs ∧ r < d ∧ Num.nat (xs.drop k) = Num.nat (qs.drop k) * d + r
theorem quot_lt {d r x : Nat} (hr : r < d) (hx : x < 4294967296) : (r * 4294967296 + x) / d < 4294967296 := by
  rw [Nat.div_lt_iff_lt_mul (by omega)]
  have : (r + 1) * 4294967296 ≤ d * 4294967296 := Nat.mul_le_mul_right _ hr
  rw [Nat.add_mul] at this
  rw [Nat.mul_comm 4294967296 d]
  omega
theorem own_one (w : World) (p : Nat) (hp : p < 4294967296) : Own (w.alloc (Obj.cells #[Value.int .u32 p] 37)) w.heap.size (some ⟨w.heap.size, 0, none⟩) 1 1 [p] := by
  refine ⟨?_, fun x hx => ?_⟩
  · have := World.ownsRow_lit (base := w.heap.size) (e := 37) (size := 1) w #[Value.int .u32 p] 1 (Nat.le_refl _) (by unfold maxLen; omega) rfl
    simpa [lim] using this
  · simp at hx; omega
theorem dso_step {d : Nat} {xs qs : List Nat} {k r x : Nat} (h : DSo d xs qs (k + 1) r) (hk : k < xs.length) (hx : xs[k] = x) (hd : d < 4294967296) (hxs : x < 4294967296) :
    DSo d xs (qs.set k ((r * 4294967296 + x) / d)) k ((r * 4294967296 + x) % d) := by
  obtain ⟨h1, h2, h3, h4⟩ := h
  have hd0 : 0 < d := by omega
  have hq : (r * 4294967296 + x) / d < 4294967296 := by
    rw [Nat.div_lt_iff_lt_mul hd0]
    have : (r + 1) * 4294967296 ≤ d * 4294967296 := Nat.mul_le_mul_right _ h3
    rw [Nat.add_mul] at this
    rw [Nat.mul_comm 4294967296 d]
    omega
  have hkq : k < qs.length := by omega
  refine ⟨by rw [List.length_set]; exact h1, Num.small_set h2 _ _ hq, Nat.mod_lt _ hd0, ?_⟩
  have e1 : (qs.set k ((r * 4294967296 + x) / d)).drop k = ((r * 4294967296 + x) / d) :: qs.drop (k + 1) := by
    rw [List.drop_set, if_neg (by omega), Nat.sub_self, List.drop_eq_getElem_cons hkq, List.set_cons_zero]
  rw [e1, Num.nat_drop xs k hk, hx, h4, Num.nat]
  have e2 := Nat.div_add_mod (r * 4294967296 + x) d
  rw [Nat.add_mul, Nat.mul_comm ((r * 4294967296 + x) / d) d]
  generalize d * ((r * 4294967296 + x) / d) = A at *
  rw [Nat.mul_add, Nat.mul_assoc 4294967296]
  generalize 4294967296 * (Num.nat (qs.drop (k + 1)) * d) = B at *
  omega

end Go.Proofs.YtgoblagpnioflaaDoor
