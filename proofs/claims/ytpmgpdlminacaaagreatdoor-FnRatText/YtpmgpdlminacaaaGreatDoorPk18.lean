/- My texts LawKit, DivZ, in this order. -/
import Derived.Test.YtpmgpdlminacaaaGreatDoorPk10
import Derived.Test.YtpmgpdlminacaaaGreatDoorPk17
import Derived.Test.YtpmgpdlminacaaaGreatDoorPk03
/- What the walks of exact laws share: owned lists with the range in which they lie, marks from any number on. -/
namespace Go.Proofs.YtpmgpdlminacaaaGreatDoor
open Go.RowKit
set_option linter.unusedVariables false

/-- a list in memory of its own, in a block from lo on to below hi -/
def OwnR (W : World) (lo hi : Nat) (a : Option Addr) (n cap : Nat) (xs : List Nat) : Prop := Own W lo a n cap xs ∧ ∀ k, (Value.slice a n cap).ownBlock = some k → k < hi
theorem Own.range {W : World} {lo : Nat} {a : Option Addr} {n cap : Nat} {xs : List Nat} (h : Own W lo a n cap xs) : OwnR W lo W.heap.size a n cap xs := ⟨h, fun k e => (h.1.lt k e).2⟩
theorem OwnR.alloc {W : World} {lo hi : Nat} {a : Option Addr} {n cap : Nat} {xs : List Nat} (h : OwnR W lo hi a n cap xs) (o : Obj) : OwnR (W.alloc o) lo hi a n cap xs := ⟨h.1.below (bl_alloc (bl_refl W) o), h.2⟩
theorem OwnR.drew {W : World} {lo hi : Nat} {a : Option Addr} {n cap : Nat} {xs : List Nat} (h : OwnR W lo hi a n cap xs) : OwnR W.drew lo hi a n cap xs := ⟨h.1.below (bl_refl W).drew, h.2⟩
theorem grown_set (W : World) (p : Addr) (v : Value) : W.grownBy (W.setCell p v) (some p.block) :=
  ⟨rfl, rfl, rfl, by simp, fun k _ hk => heap_setCell_other W p k _ (fun e => hk (by simp [e]))⟩
theorem OwnR.set {W : World} {lo hi : Nat} {a : Option Addr} {n cap : Nat} {xs : List Nat} (h : OwnR W lo hi a n cap xs) {p : Addr} (hp : p.block < lo ∨ hi ≤ p.block) (v : Value) : OwnR (W.setCell p v) lo hi a n cap xs := by
  refine ⟨h.1.kept (grown_set W p v) ?_, h.2⟩
  cases hk : (Value.slice a n cap).ownBlock with
  | none => exact .inl rfl
  | some k =>
    refine .inr fun e => ?_
    have h1 := (h.1.1.lt k hk).1
    have h2 := h.2 k hk
    cases e
    omega
theorem OwnR.seg {W : World} {lo hi : Nat} {a : Option Addr} {n cap : Nat} {xs : List Nat} (h : OwnR W lo hi a n cap xs) : Seg W a n cap xs := h.1.seg
end Go.Proofs.YtpmgpdlminacaaaGreatDoor

/- Plain facts on a quotient and a rest of whole numbers with signs; nothing of the program stands here. -/
namespace Go.Proofs.YtpmgpdlminacaaaGreatDoor
set_option linter.unusedVariables false
theorem div_uniq {x y q r : Int} (h : q * y + r = x) (h0 : 0 ≤ r) (h1 : r < (y.natAbs : Int)) : x / y = q ∧ x % y = r := by
  have hy : y ≠ 0 := by intro e; subst e; simp at h1; omega
  have hr : r % y = r := by
    by_cases hp : 0 ≤ y
    · exact Int.emod_eq_of_lt h0 (by omega)
    · have : r % (-y) = r := Int.emod_eq_of_lt h0 (by omega)
      rwa [Int.emod_neg] at this
  have h2 : x % y = r := by rw [← h, Int.add_comm, Int.add_mul_emod_self_right, hr]
  refine ⟨?_, h2⟩
  have h3 := Int.mul_ediv_add_emod x y
  rw [h2, ← h, Int.mul_comm q y] at h3
  have h4 : y * (x / y) = y * q := by
    have e : y * q + r = x := by rw [Int.mul_comm]; exact h
    rw [e] at h3
    omega
  exact Int.eq_of_mul_eq_mul_left hy h4
theorem bxor (a b : Bool) : (!a == b) = (a != b) := by cases a <;> cases b <;> rfl
theorem div_eq (x y : Int) : x.natAbs = y.natAbs * (x.natAbs / y.natAbs) + x.natAbs % y.natAbs := (Nat.div_add_mod _ _).symm
theorem mk_prod (x y : Int) (k : Nat) : mk (!sgn x == sgn y) k * y = if x < 0 then -((y.natAbs * k : Nat) : Int) else ((y.natAbs * k : Nat) : Int) := by
  unfold mk sgn
  by_cases hx : x < 0 <;> by_cases hy : y < 0 <;> simp [hx, hy]
  · have : (y.natAbs : Int) = -y := by omega
    rw [this, Int.neg_mul, Int.neg_neg, Int.mul_comm]
  · have : (y.natAbs : Int) = y := by omega
    rw [this, Int.mul_comm y, Int.neg_mul]
  · have : (y.natAbs : Int) = -y := by omega
    rw [this, Int.neg_mul, Int.neg_mul, Int.mul_comm]
  · have : (y.natAbs : Int) = y := by omega
    rw [this, Int.mul_comm]
theorem div_same (x y : Int) (hy : y ≠ 0) (h : 0 ≤ x ∨ x.natAbs % y.natAbs = 0) : x / y = mk (!sgn x == sgn y) (x.natAbs / y.natAbs) ∧ x % y = ((x.natAbs % y.natAbs : Nat) : Int) := by
  have hp : 0 < y.natAbs := by omega
  have hlt := Nat.mod_lt x.natAbs hp
  refine div_uniq ?_ (by omega) (by omega)
  have e := div_eq x y
  rw [mk_prod]
  generalize y.natAbs * (x.natAbs / y.natAbs) = P at *
  generalize x.natAbs % y.natAbs = r at *
  by_cases hx : x < 0
  · rw [if_pos hx]; omega
  · rw [if_neg hx]; omega
theorem div_more (x y : Int) (hy : y ≠ 0) (hx : x < 0) (h : x.natAbs % y.natAbs ≠ 0) : x / y = mk (!sgn x == sgn y) (x.natAbs / y.natAbs + 1) ∧ x % y = ((y.natAbs - x.natAbs % y.natAbs : Nat) : Int) := by
  have hp : 0 < y.natAbs := by omega
  have hlt := Nat.mod_lt x.natAbs hp
  refine div_uniq ?_ (by omega) (by omega)
  have e := div_eq x y
  rw [mk_prod, if_pos hx, Nat.mul_add, Nat.mul_one]
  generalize y.natAbs * (x.natAbs / y.natAbs) = P at *
  generalize x.natAbs % y.natAbs = r at *
  omega
/-- what bigDivide makes where the rest is below 0 -/
theorem div_back (x y : Int) (hy : y ≠ 0) (hx : x < 0) (h : x.natAbs % y.natAbs ≠ 0) :
    (y < 0 → mk (!sgn x == sgn y) (x.natAbs / y.natAbs) + 1 = x / y ∧ mk (sgn x) (x.natAbs % y.natAbs) - y = x % y) ∧ (0 < y → mk (!sgn x == sgn y) (x.natAbs / y.natAbs) - 1 = x / y ∧ mk (sgn x) (x.natAbs % y.natAbs) + y = x % y) := by
  obtain ⟨h1, h2⟩ := div_more x y hy hx h
  have hlt := Nat.mod_lt x.natAbs (show 0 < y.natAbs by omega)
  rw [h1, h2]
  unfold mk sgn
  generalize x.natAbs / y.natAbs = q at *
  generalize x.natAbs % y.natAbs = r at *
  refine ⟨fun h => ?_, fun h => ?_⟩
  · simp [hx, h]; omega
  · have : ¬ y < 0 := by omega
    simp [hx, this]; omega
end Go.Proofs.YtpmgpdlminacaaaGreatDoor
