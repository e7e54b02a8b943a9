/- My texts RSt, RTopL, RTop, RTop2, in this order. -/
import Derived.Test.YtpjckilmbidbgaaPk40
/- The walks of what is done to two fractions: products and quotients, and the specification's sum. -/
namespace Go.Proofs.Ytpjckilmbidbgaa
open Go.RowKit
set_option linter.unusedVariables false

theorem cell_four {w : World} {N : Nat} {x y z t : Value} {p : Addr} (h : p.block ≠ N) : ((((w.setCell ⟨N, 0, none⟩ x).setCell ⟨N, 1, none⟩ y).setCell ⟨N, 2, none⟩ z).setCell ⟨N, 3, none⟩ t).cell? p = w.cell? p :=
  World.cell?_of_block ((Below.heap_setCell _ ⟨N, 3, none⟩ t p.block h).trans ((Below.heap_setCell _ ⟨N, 2, none⟩ z p.block h).trans ((Below.heap_setCell _ ⟨N, 1, none⟩ y p.block h).trans (Below.heap_setCell w ⟨N, 0, none⟩ x p.block h))))
theorem len_mul {x y : Int} {m n : Nat} (h1 : (lms x).length ≤ m) (h2 : (lms y).length ≤ n) : (lms (mulZ x y)).length ≤ m + n := by
  unfold lms mulZ at *
  refine Num.limbs_len.2 ?_
  rw [Int.natAbs_mul, Nat.pow_add]
  exact Nat.mul_lt_mul'' (Num.limbs_len.1 h1) (Num.limbs_len.1 h2)
theorem len_addN {a b c m : Nat} (h1 : (Num.limbs a).length ≤ m) (h2 : (Num.limbs b).length ≤ m) (h : c ≤ a + b) : (Num.limbs c).length ≤ m + 1 := by
  refine Num.limbs_len.2 (Nat.lt_of_lt_of_le ?_ (pw_two m))
  have := Num.limbs_len.1 h1
  have := Num.limbs_len.1 h2
  omega
theorem len_add {x y : Int} {m : Nat} (h1 : (lms x).length ≤ m) (h2 : (lms y).length ≤ m) : (lms (addZ x y)).length ≤ m + 1 := by
  unfold lms addZ at *; exact len_addN h1 h2 (by omega)
theorem len_sub {x y : Int} {m : Nat} (h1 : (lms x).length ≤ m) (h2 : (lms y).length ≤ m) : (lms (subZ x y)).length ≤ m + 1 := by
  unfold lms subZ at *; exact len_addN h1 h2 (by omega)
theorem prodL (v1 v2 : Value) (x y : Int) (w : World) (h1 : Is w v1 x) (h2 : Is w v2 y) (l1 : (lms x).length ≤ 500000) (l2 : (lms y).length ≤ 500000) :
    Calls Try.prog 52 #[v1, v2] w fun e w' => ∃ v, e = .returned v ∧ New w' w.heap.size v (mulZ x y) ∧ Below w.heap.size w w' := by
  have := prodI v1 v2 (sgn x) (sgn y) x.natAbs y.natAbs w h1 h2 l1 l2
  rw [mk_self, mk_self] at this
  exact this
theorem mulL (v1 v2 : Value) (x y : Int) (w : World) (h1 : Is w v1 x) (h2 : Is w v2 y) (l1 : (lms x).length ≤ 500000) (l2 : (lms y).length ≤ 500000) :
    Calls Try.prog 48 #[v1, v2] w fun e w' => ∃ v, e = .returned v ∧ New w' w.heap.size v (mulZ x y) ∧ Below w.heap.size w w' := mulS v1 v2 x y w h1 h2 l1 l2
theorem addL (v1 v2 : Value) (x y : Int) (w : World) (h1 : Is w v1 x) (h2 : Is w v2 y) (l1 : (lms x).length ≤ 500000) (l2 : (lms y).length ≤ 500000) :
    Calls Try.prog 54 #[v1, v2] w fun e w' => ∃ v, e = .returned v ∧ New w' w.heap.size v (addZ x y) ∧ Below w.heap.size w w' := addS v1 v2 x y w h1 h2 l1 l2
/-- a fraction made of two numbers, in memory of its own -/
def StAns (x y : Int) (w w' : World) (e : Ending) : Prop :=
  ∃ b1 e1 b2 e2, e = .returned (.agg #[.bool (sgn (x / sgG x y)), .slice b1 (lms (x / sgG x y)).length e1, .bool (sgn (y / sgG x y)), .slice b2 (lms (y / sgG x y)).length e2]) ∧ Own w' w.heap.size b1 (lms (x / sgG x y)).length e1 (lms (x / sgG x y)) ∧ Own w' w.heap.size b2 (lms (y / sgG x y)).length e2 (lms (y / sgG x y)) ∧ Apart b1 b2 ∧ Below w.heap.size w w'

set_option maxHeartbeats 1600000 in
theorem timesR (x1 y1 x2 y2 : Int) (a1 : Option Addr) (c1 : Nat) (b1 : Option Addr) (e1 : Nat) (a2 : Option Addr) (c2 : Nat) (b2 : Option Addr) (e2 : Nat) (w : World) (m1 : (lms x1).length ≤ 1000) (m2 : (lms y1).length ≤ 1000) (m3 : (lms x2).length ≤ 1000) (m4 : (lms y2).length ≤ 1000)
    (s1 : Seg w a1 (lms x1).length c1 (lms x1)) (t1 : Seg w b1 (lms y1).length e1 (lms y1)) (s2 : Seg w a2 (lms x2).length c2 (lms x2)) (t2 : Seg w b2 (lms y2).length e2 (lms y2)) (hY : (mulZ y1 y2) ≠ 0) :
    Calls Try.prog 33 #[Value.agg #[Value.bool (sgn x1), Value.slice a1 (lms x1).length c1, Value.bool (sgn y1), Value.slice b1 (lms y1).length e1], Value.agg #[Value.bool (sgn x2), Value.slice a2 (lms x2).length c2, Value.bool (sgn y2), Value.slice b2 (lms y2).length e2]] w fun e w' => StAns ((mulZ x1 x2)) ((mulZ y1 y2)) w w' e := by
  have HY := hide hY
  clear hY
  have hm0 : (lms (mulZ x1 x2)).length ≤ 2000 := len_mul (m := 1000) (n := 1000) m1 m3
  have hm1 : (lms (mulZ y1 y2)).length ≤ 2000 := len_mul (m := 1000) (n := 1000) m2 m4
  have ka0 : (((w.alloc (Obj.cells #[Value.bool (sgn x1), Value.slice a1 (lms x1).length c1, Value.bool (sgn y1), Value.slice b1 (lms y1).length e1] 28)).alloc (Obj.cells #[Value.bool (sgn x2), Value.slice a2 (lms x2).length c2, Value.bool (sgn y2), Value.slice b2 (lms y2).length e2] 28)).alloc (Obj.cells #[Value.bool false, Value.slice none 0 0, Value.bool false, Value.slice none 0 0] 28)).cell? ⟨w.heap.size, 0, none⟩ = some (Value.bool (sgn x1)) := by go_simp
  have ka1 : (((w.alloc (Obj.cells #[Value.bool (sgn x1), Value.slice a1 (lms x1).length c1, Value.bool (sgn y1), Value.slice b1 (lms y1).length e1] 28)).alloc (Obj.cells #[Value.bool (sgn x2), Value.slice a2 (lms x2).length c2, Value.bool (sgn y2), Value.slice b2 (lms y2).length e2] 28)).alloc (Obj.cells #[Value.bool false, Value.slice none 0 0, Value.bool false, Value.slice none 0 0] 28)).cell? ⟨w.heap.size, 1, none⟩ = some (Value.slice a1 (lms x1).length c1) := by go_simp
  have ka2 : (((w.alloc (Obj.cells #[Value.bool (sgn x1), Value.slice a1 (lms x1).length c1, Value.bool (sgn y1), Value.slice b1 (lms y1).length e1] 28)).alloc (Obj.cells #[Value.bool (sgn x2), Value.slice a2 (lms x2).length c2, Value.bool (sgn y2), Value.slice b2 (lms y2).length e2] 28)).alloc (Obj.cells #[Value.bool false, Value.slice none 0 0, Value.bool false, Value.slice none 0 0] 28)).cell? ⟨w.heap.size, 2, none⟩ = some (Value.bool (sgn y1)) := by go_simp
  have ka3 : (((w.alloc (Obj.cells #[Value.bool (sgn x1), Value.slice a1 (lms x1).length c1, Value.bool (sgn y1), Value.slice b1 (lms y1).length e1] 28)).alloc (Obj.cells #[Value.bool (sgn x2), Value.slice a2 (lms x2).length c2, Value.bool (sgn y2), Value.slice b2 (lms y2).length e2] 28)).alloc (Obj.cells #[Value.bool false, Value.slice none 0 0, Value.bool false, Value.slice none 0 0] 28)).cell? ⟨w.heap.size, 3, none⟩ = some (Value.slice b1 (lms y1).length e1) := by go_simp
  have kb0 : (((w.alloc (Obj.cells #[Value.bool (sgn x1), Value.slice a1 (lms x1).length c1, Value.bool (sgn y1), Value.slice b1 (lms y1).length e1] 28)).alloc (Obj.cells #[Value.bool (sgn x2), Value.slice a2 (lms x2).length c2, Value.bool (sgn y2), Value.slice b2 (lms y2).length e2] 28)).alloc (Obj.cells #[Value.bool false, Value.slice none 0 0, Value.bool false, Value.slice none 0 0] 28)).cell? ⟨w.heap.size + 1, 0, none⟩ = some (Value.bool (sgn x2)) := by go_simp
  have kb1 : (((w.alloc (Obj.cells #[Value.bool (sgn x1), Value.slice a1 (lms x1).length c1, Value.bool (sgn y1), Value.slice b1 (lms y1).length e1] 28)).alloc (Obj.cells #[Value.bool (sgn x2), Value.slice a2 (lms x2).length c2, Value.bool (sgn y2), Value.slice b2 (lms y2).length e2] 28)).alloc (Obj.cells #[Value.bool false, Value.slice none 0 0, Value.bool false, Value.slice none 0 0] 28)).cell? ⟨w.heap.size + 1, 1, none⟩ = some (Value.slice a2 (lms x2).length c2) := by go_simp
  have kb2 : (((w.alloc (Obj.cells #[Value.bool (sgn x1), Value.slice a1 (lms x1).length c1, Value.bool (sgn y1), Value.slice b1 (lms y1).length e1] 28)).alloc (Obj.cells #[Value.bool (sgn x2), Value.slice a2 (lms x2).length c2, Value.bool (sgn y2), Value.slice b2 (lms y2).length e2] 28)).alloc (Obj.cells #[Value.bool false, Value.slice none 0 0, Value.bool false, Value.slice none 0 0] 28)).cell? ⟨w.heap.size + 1, 2, none⟩ = some (Value.bool (sgn y2)) := by go_simp
  have kb3 : (((w.alloc (Obj.cells #[Value.bool (sgn x1), Value.slice a1 (lms x1).length c1, Value.bool (sgn y1), Value.slice b1 (lms y1).length e1] 28)).alloc (Obj.cells #[Value.bool (sgn x2), Value.slice a2 (lms x2).length c2, Value.bool (sgn y2), Value.slice b2 (lms y2).length e2] 28)).alloc (Obj.cells #[Value.bool false, Value.slice none 0 0, Value.bool false, Value.slice none 0 0] 28)).cell? ⟨w.heap.size + 1, 3, none⟩ = some (Value.slice b2 (lms y2).length e2) := by go_simp
  have kr0 : (((w.alloc (Obj.cells #[Value.bool (sgn x1), Value.slice a1 (lms x1).length c1, Value.bool (sgn y1), Value.slice b1 (lms y1).length e1] 28)).alloc (Obj.cells #[Value.bool (sgn x2), Value.slice a2 (lms x2).length c2, Value.bool (sgn y2), Value.slice b2 (lms y2).length e2] 28)).alloc (Obj.cells #[Value.bool false, Value.slice none 0 0, Value.bool false, Value.slice none 0 0] 28)).cell? ⟨w.heap.size + 1 + 1, 0, none⟩ = some (Value.bool false) := by go_simp
  have fr0 : (((w.alloc (Obj.cells #[Value.bool (sgn x1), Value.slice a1 (lms x1).length c1, Value.bool (sgn y1), Value.slice b1 (lms y1).length e1] 28)).alloc (Obj.cells #[Value.bool (sgn x2), Value.slice a2 (lms x2).length c2, Value.bool (sgn y2), Value.slice b2 (lms y2).length e2] 28)).alloc (Obj.cells #[Value.bool false, Value.slice none 0 0, Value.bool false, Value.slice none 0 0] 28)).frozen? ⟨w.heap.size + 1 + 1, 0, none⟩ = false := by go_simp
  have kr1 : (((w.alloc (Obj.cells #[Value.bool (sgn x1), Value.slice a1 (lms x1).length c1, Value.bool (sgn y1), Value.slice b1 (lms y1).length e1] 28)).alloc (Obj.cells #[Value.bool (sgn x2), Value.slice a2 (lms x2).length c2, Value.bool (sgn y2), Value.slice b2 (lms y2).length e2] 28)).alloc (Obj.cells #[Value.bool false, Value.slice none 0 0, Value.bool false, Value.slice none 0 0] 28)).cell? ⟨w.heap.size + 1 + 1, 1, none⟩ = some (Value.slice none 0 0) := by go_simp
  have fr1 : (((w.alloc (Obj.cells #[Value.bool (sgn x1), Value.slice a1 (lms x1).length c1, Value.bool (sgn y1), Value.slice b1 (lms y1).length e1] 28)).alloc (Obj.cells #[Value.bool (sgn x2), Value.slice a2 (lms x2).length c2, Value.bool (sgn y2), Value.slice b2 (lms y2).length e2] 28)).alloc (Obj.cells #[Value.bool false, Value.slice none 0 0, Value.bool false, Value.slice none 0 0] 28)).frozen? ⟨w.heap.size + 1 + 1, 1, none⟩ = false := by go_simp
  have kr2 : (((w.alloc (Obj.cells #[Value.bool (sgn x1), Value.slice a1 (lms x1).length c1, Value.bool (sgn y1), Value.slice b1 (lms y1).length e1] 28)).alloc (Obj.cells #[Value.bool (sgn x2), Value.slice a2 (lms x2).length c2, Value.bool (sgn y2), Value.slice b2 (lms y2).length e2] 28)).alloc (Obj.cells #[Value.bool false, Value.slice none 0 0, Value.bool false, Value.slice none 0 0] 28)).cell? ⟨w.heap.size + 1 + 1, 2, none⟩ = some (Value.bool false) := by go_simp
  have fr2 : (((w.alloc (Obj.cells #[Value.bool (sgn x1), Value.slice a1 (lms x1).length c1, Value.bool (sgn y1), Value.slice b1 (lms y1).length e1] 28)).alloc (Obj.cells #[Value.bool (sgn x2), Value.slice a2 (lms x2).length c2, Value.bool (sgn y2), Value.slice b2 (lms y2).length e2] 28)).alloc (Obj.cells #[Value.bool false, Value.slice none 0 0, Value.bool false, Value.slice none 0 0] 28)).frozen? ⟨w.heap.size + 1 + 1, 2, none⟩ = false := by go_simp
  have kr3 : (((w.alloc (Obj.cells #[Value.bool (sgn x1), Value.slice a1 (lms x1).length c1, Value.bool (sgn y1), Value.slice b1 (lms y1).length e1] 28)).alloc (Obj.cells #[Value.bool (sgn x2), Value.slice a2 (lms x2).length c2, Value.bool (sgn y2), Value.slice b2 (lms y2).length e2] 28)).alloc (Obj.cells #[Value.bool false, Value.slice none 0 0, Value.bool false, Value.slice none 0 0] 28)).cell? ⟨w.heap.size + 1 + 1, 3, none⟩ = some (Value.slice none 0 0) := by go_simp
  have fr3 : (((w.alloc (Obj.cells #[Value.bool (sgn x1), Value.slice a1 (lms x1).length c1, Value.bool (sgn y1), Value.slice b1 (lms y1).length e1] 28)).alloc (Obj.cells #[Value.bool (sgn x2), Value.slice a2 (lms x2).length c2, Value.bool (sgn y2), Value.slice b2 (lms y2).length e2] 28)).alloc (Obj.cells #[Value.bool false, Value.slice none 0 0, Value.bool false, Value.slice none 0 0] 28)).frozen? ⟨w.heap.size + 1 + 1, 3, none⟩ = false := by go_simp
  have zr : w.heap.size + 1 + 1 < (((w.alloc (Obj.cells #[Value.bool (sgn x1), Value.slice a1 (lms x1).length c1, Value.bool (sgn y1), Value.slice b1 (lms y1).length e1] 28)).alloc (Obj.cells #[Value.bool (sgn x2), Value.slice a2 (lms x2).length c2, Value.bool (sgn y2), Value.slice b2 (lms y2).length e2] 28)).alloc (Obj.cells #[Value.bool false, Value.slice none 0 0, Value.bool false, Value.slice none 0 0] 28)).heap.size := by simp only [World.size_alloc]; omega
  have HB := hide (bl_alloc (bl_alloc (bl_alloc (bl_refl w) (Obj.cells #[Value.bool (sgn x1), Value.slice a1 (lms x1).length c1, Value.bool (sgn y1), Value.slice b1 (lms y1).length e1] 28)) (Obj.cells #[Value.bool (sgn x2), Value.slice a2 (lms x2).length c2, Value.bool (sgn y2), Value.slice b2 (lms y2).length e2] 28)) (Obj.cells #[Value.bool false, Value.slice none 0 0, Value.bool false, Value.slice none 0 0] 28))
  have S1 := hide (s1.below HB.out)
  have T1 := hide (t1.below HB.out)
  have S2 := hide (s2.below HB.out)
  have T2 := hide (t2.below HB.out)
  clear s1
  clear t1
  clear s2
  clear t2
  go_enter Try.func33, Try.ntmps33
  go_wp2_with fail
  generalize (((w.alloc (Obj.cells #[Value.bool (sgn x1), Value.slice a1 (lms x1).length c1, Value.bool (sgn y1), Value.slice b1 (lms y1).length e1] 28)).alloc (Obj.cells #[Value.bool (sgn x2), Value.slice a2 (lms x2).length c2, Value.bool (sgn y2), Value.slice b2 (lms y2).length e2] 28)).alloc (Obj.cells #[Value.bool false, Value.slice none 0 0, Value.bool false, Value.slice none 0 0] 28)) = w1 at *
  have z0 := zr
  have KP : Hid (∀ w', Below w1.heap.size w1 w' → (w'.cell? ⟨w.heap.size, 0, none⟩ = some (Value.bool (sgn x1)) ∧ w'.cell? ⟨w.heap.size, 1, none⟩ = some (Value.slice a1 (lms x1).length c1) ∧ w'.cell? ⟨w.heap.size, 2, none⟩ = some (Value.bool (sgn y1)) ∧ w'.cell? ⟨w.heap.size, 3, none⟩ = some (Value.slice b1 (lms y1).length e1) ∧ w'.cell? ⟨w.heap.size + 1, 0, none⟩ = some (Value.bool (sgn x2)) ∧ w'.cell? ⟨w.heap.size + 1, 1, none⟩ = some (Value.slice a2 (lms x2).length c2) ∧ w'.cell? ⟨w.heap.size + 1, 2, none⟩ = some (Value.bool (sgn y2)) ∧ w'.cell? ⟨w.heap.size + 1, 3, none⟩ = some (Value.slice b2 (lms y2).length e2))) := hide (fun w' hb => ⟨(hb.cell (p := ⟨w.heap.size, 0, none⟩) (by dsimp only; omega)).trans ka0, (hb.cell (p := ⟨w.heap.size, 1, none⟩) (by dsimp only; omega)).trans ka1, (hb.cell (p := ⟨w.heap.size, 2, none⟩) (by dsimp only; omega)).trans ka2, (hb.cell (p := ⟨w.heap.size, 3, none⟩) (by dsimp only; omega)).trans ka3, (hb.cell (p := ⟨w.heap.size + 1, 0, none⟩) (by dsimp only; omega)).trans kb0, (hb.cell (p := ⟨w.heap.size + 1, 1, none⟩) (by dsimp only; omega)).trans kb1, (hb.cell (p := ⟨w.heap.size + 1, 2, none⟩) (by dsimp only; omega)).trans kb2, (hb.cell (p := ⟨w.heap.size + 1, 3, none⟩) (by dsimp only; omega)).trans kb3⟩)
  have KP4 : Hid (∀ w', Below w1.heap.size w1 w' → ∀ x y z t, (((((w'.setCell ⟨w.heap.size + 1 + 1, 0, none⟩ x).setCell ⟨w.heap.size + 1 + 1, 1, none⟩ y).setCell ⟨w.heap.size + 1 + 1, 2, none⟩ z).setCell ⟨w.heap.size + 1 + 1, 3, none⟩ t).cell? ⟨w.heap.size, 0, none⟩ = some (Value.bool (sgn x1)) ∧ ((((w'.setCell ⟨w.heap.size + 1 + 1, 0, none⟩ x).setCell ⟨w.heap.size + 1 + 1, 1, none⟩ y).setCell ⟨w.heap.size + 1 + 1, 2, none⟩ z).setCell ⟨w.heap.size + 1 + 1, 3, none⟩ t).cell? ⟨w.heap.size, 1, none⟩ = some (Value.slice a1 (lms x1).length c1) ∧ ((((w'.setCell ⟨w.heap.size + 1 + 1, 0, none⟩ x).setCell ⟨w.heap.size + 1 + 1, 1, none⟩ y).setCell ⟨w.heap.size + 1 + 1, 2, none⟩ z).setCell ⟨w.heap.size + 1 + 1, 3, none⟩ t).cell? ⟨w.heap.size, 2, none⟩ = some (Value.bool (sgn y1)) ∧ ((((w'.setCell ⟨w.heap.size + 1 + 1, 0, none⟩ x).setCell ⟨w.heap.size + 1 + 1, 1, none⟩ y).setCell ⟨w.heap.size + 1 + 1, 2, none⟩ z).setCell ⟨w.heap.size + 1 + 1, 3, none⟩ t).cell? ⟨w.heap.size, 3, none⟩ = some (Value.slice b1 (lms y1).length e1) ∧ ((((w'.setCell ⟨w.heap.size + 1 + 1, 0, none⟩ x).setCell ⟨w.heap.size + 1 + 1, 1, none⟩ y).setCell ⟨w.heap.size + 1 + 1, 2, none⟩ z).setCell ⟨w.heap.size + 1 + 1, 3, none⟩ t).cell? ⟨w.heap.size + 1, 0, none⟩ = some (Value.bool (sgn x2)) ∧ ((((w'.setCell ⟨w.heap.size + 1 + 1, 0, none⟩ x).setCell ⟨w.heap.size + 1 + 1, 1, none⟩ y).setCell ⟨w.heap.size + 1 + 1, 2, none⟩ z).setCell ⟨w.heap.size + 1 + 1, 3, none⟩ t).cell? ⟨w.heap.size + 1, 1, none⟩ = some (Value.slice a2 (lms x2).length c2) ∧ ((((w'.setCell ⟨w.heap.size + 1 + 1, 0, none⟩ x).setCell ⟨w.heap.size + 1 + 1, 1, none⟩ y).setCell ⟨w.heap.size + 1 + 1, 2, none⟩ z).setCell ⟨w.heap.size + 1 + 1, 3, none⟩ t).cell? ⟨w.heap.size + 1, 2, none⟩ = some (Value.bool (sgn y2)) ∧ ((((w'.setCell ⟨w.heap.size + 1 + 1, 0, none⟩ x).setCell ⟨w.heap.size + 1 + 1, 1, none⟩ y).setCell ⟨w.heap.size + 1 + 1, 2, none⟩ z).setCell ⟨w.heap.size + 1 + 1, 3, none⟩ t).cell? ⟨w.heap.size + 1, 3, none⟩ = some (Value.slice b2 (lms y2).length e2))) := hide (fun w' hb x y z t => ⟨(cell_four (p := ⟨w.heap.size, 0, none⟩) (by dsimp only; omega)).trans ((hb.cell (p := ⟨w.heap.size, 0, none⟩) (by dsimp only; omega)).trans ka0), (cell_four (p := ⟨w.heap.size, 1, none⟩) (by dsimp only; omega)).trans ((hb.cell (p := ⟨w.heap.size, 1, none⟩) (by dsimp only; omega)).trans ka1), (cell_four (p := ⟨w.heap.size, 2, none⟩) (by dsimp only; omega)).trans ((hb.cell (p := ⟨w.heap.size, 2, none⟩) (by dsimp only; omega)).trans ka2), (cell_four (p := ⟨w.heap.size, 3, none⟩) (by dsimp only; omega)).trans ((hb.cell (p := ⟨w.heap.size, 3, none⟩) (by dsimp only; omega)).trans ka3), (cell_four (p := ⟨w.heap.size + 1, 0, none⟩) (by dsimp only; omega)).trans ((hb.cell (p := ⟨w.heap.size + 1, 0, none⟩) (by dsimp only; omega)).trans kb0), (cell_four (p := ⟨w.heap.size + 1, 1, none⟩) (by dsimp only; omega)).trans ((hb.cell (p := ⟨w.heap.size + 1, 1, none⟩) (by dsimp only; omega)).trans kb1), (cell_four (p := ⟨w.heap.size + 1, 2, none⟩) (by dsimp only; omega)).trans ((hb.cell (p := ⟨w.heap.size + 1, 2, none⟩) (by dsimp only; omega)).trans kb2), (cell_four (p := ⟨w.heap.size + 1, 3, none⟩) (by dsimp only; omega)).trans ((hb.cell (p := ⟨w.heap.size + 1, 3, none⟩) (by dsimp only; omega)).trans kb3)⟩)
  go_region_held3 (fun w' => w'.cell? ⟨w.heap.size, 0, none⟩ = some (Value.bool (sgn x1)) ∧ w'.cell? ⟨w.heap.size, 1, none⟩ = some (Value.slice a1 (lms x1).length c1) ∧ w'.cell? ⟨w.heap.size, 2, none⟩ = some (Value.bool (sgn y1)) ∧ w'.cell? ⟨w.heap.size, 3, none⟩ = some (Value.slice b1 (lms y1).length e1) ∧ w'.cell? ⟨w.heap.size + 1, 0, none⟩ = some (Value.bool (sgn x2)) ∧ w'.cell? ⟨w.heap.size + 1, 1, none⟩ = some (Value.slice a2 (lms x2).length c2) ∧ w'.cell? ⟨w.heap.size + 1, 2, none⟩ = some (Value.bool (sgn y2)) ∧ w'.cell? ⟨w.heap.size + 1, 3, none⟩ = some (Value.slice b2 (lms y2).length e2))
    (first | with_reducible exact KP.out _ (bl_refl w1).drew | with_reducible exact KP4.out _ hbC _ _ _ _ | with_reducible exact KP.out _ hbC | with_reducible exact KP.out _ hbB | with_reducible exact KP.out _ hbA)
    (first
      | (have hq := hbB; go_at_call 39; refine (shortI' (mulZ x1 x2) (mulZ y1 y2) uA vA uB vB _ ((hoA.seg).below hbBr) (hoB.seg) HY.out (by omega) (by omega)).mono ?_; rintro e wC ⟨d1, f1, d2, f2, rfl, ho1, ho2, hap, hbCr⟩; have hbC : Below w1.heap.size w1 wC := bl_trans hbB hbCr; have qC := hbC.size; have qCr := hbB.size; have kr0 := (hbC.cell (p := ⟨w.heap.size + 1 + 1, 0, none⟩) (by dsimp only; omega)).trans kr0; have fr0 := (hbC.frozen (p := ⟨w.heap.size + 1 + 1, 0, none⟩) (by dsimp only; omega)).trans fr0; have kr1 := (hbC.cell (p := ⟨w.heap.size + 1 + 1, 1, none⟩) (by dsimp only; omega)).trans kr1; have fr1 := (hbC.frozen (p := ⟨w.heap.size + 1 + 1, 1, none⟩) (by dsimp only; omega)).trans fr1; have kr2 := (hbC.cell (p := ⟨w.heap.size + 1 + 1, 2, none⟩) (by dsimp only; omega)).trans kr2; have fr2 := (hbC.frozen (p := ⟨w.heap.size + 1 + 1, 2, none⟩) (by dsimp only; omega)).trans fr2; have kr3 := (hbC.cell (p := ⟨w.heap.size + 1 + 1, 3, none⟩) (by dsimp only; omega)).trans kr3; have fr3 := (hbC.frozen (p := ⟨w.heap.size + 1 + 1, 3, none⟩) (by dsimp only; omega)).trans fr3; have HO1 := hide ho1; have HO2 := hide ho2; have HAP := hide hap; clear ho1 ho2 hap; clear hq)
      | (have hq := hbA; go_at_call 52; refine (prodL _ _ y1 y2 _ ⟨b1, e1, rfl, T1.out.below hbA⟩ ⟨b2, e2, rfl, T2.out.below hbA⟩ (by omega) (by omega)).mono ?_; rintro e wB ⟨_, rfl, ⟨uB, vB, rfl, hoB⟩, hbBr⟩; have hbB : Below w1.heap.size w1 wB := bl_trans hbA hbBr; clear hq)
      | (go_at_call 52; refine (prodL _ _ x1 x2 _ ⟨a1, c1, rfl, S1.out.below (bl_refl w1).drew⟩ ⟨a2, c2, rfl, S2.out.below (bl_refl w1).drew⟩ (by omega) (by omega)).mono ?_; rintro e wA ⟨_, rfl, ⟨uA, vA, rfl, hoA⟩, hbAr⟩; have hbA : Below w1.heap.size w1 wA := (bl_refl w1).drew.trans hbAr))
  replace HB := hide (bl_trans HB.out hbC)
  clear KP KP4 hbA hbAr hbB hbBr hbC hbCr hoA hoB
  go_wp2
  refine bodyPost_ret (v := (Value.agg #[Value.bool (sgn ((mulZ x1 x2) / sgG ((mulZ x1 x2)) ((mulZ y1 y2)))), Value.slice d1 (lms ((mulZ x1 x2) / sgG ((mulZ x1 x2)) ((mulZ y1 y2)))).length f1, Value.bool (sgn ((mulZ y1 y2) / sgG ((mulZ x1 x2)) ((mulZ y1 y2)))), Value.slice d2 (lms ((mulZ y1 y2) / sgG ((mulZ x1 x2)) ((mulZ y1 y2)))).length f2])) (by simp [results, Try.results33, go_sem, kr0, kr1, kr2, kr3]) rfl ?_
  obtain ⟨h1, h2, h3⟩ := fin_four (N := w.heap.size + 1 + 1) HO1.out HO2.out (by omega) (by omega) (by omega) HB.out (Value.bool (sgn ((mulZ x1 x2) / sgG ((mulZ x1 x2)) ((mulZ y1 y2))))) (Value.slice d1 (lms ((mulZ x1 x2) / sgG ((mulZ x1 x2)) ((mulZ y1 y2)))).length f1) (Value.bool (sgn ((mulZ y1 y2) / sgG ((mulZ x1 x2)) ((mulZ y1 y2))))) (Value.slice d2 (lms ((mulZ y1 y2) / sgG ((mulZ x1 x2)) ((mulZ y1 y2)))).length f2)
  exact ⟨d1, f1, d2, f2, rfl, h1, h2, HAP.out, h3⟩

set_option maxHeartbeats 1600000 in
theorem mulRS (x1 y1 x2 y2 : Int) (a1 : Option Addr) (c1 : Nat) (b1 : Option Addr) (e1 : Nat) (a2 : Option Addr) (c2 : Nat) (b2 : Option Addr) (e2 : Nat) (w : World) (m1 : (lms x1).length ≤ 1000) (m2 : (lms y1).length ≤ 1000) (m3 : (lms x2).length ≤ 1000) (m4 : (lms y2).length ≤ 1000)
    (s1 : Seg w a1 (lms x1).length c1 (lms x1)) (t1 : Seg w b1 (lms y1).length e1 (lms y1)) (s2 : Seg w a2 (lms x2).length c2 (lms x2)) (t2 : Seg w b2 (lms y2).length e2 (lms y2)) (hY : (mulZ y1 y2) ≠ 0) :
    Calls Try.prog 29 #[Value.agg #[Value.bool (sgn x1), Value.slice a1 (lms x1).length c1, Value.bool (sgn y1), Value.slice b1 (lms y1).length e1], Value.agg #[Value.bool (sgn x2), Value.slice a2 (lms x2).length c2, Value.bool (sgn y2), Value.slice b2 (lms y2).length e2]] w fun e w' => StAns ((mulZ x1 x2)) ((mulZ y1 y2)) w w' e := by
  have HY := hide hY
  clear hY
  have hm0 : (lms (mulZ x1 x2)).length ≤ 2000 := len_mul (m := 1000) (n := 1000) m1 m3
  have hm1 : (lms (mulZ y1 y2)).length ≤ 2000 := len_mul (m := 1000) (n := 1000) m2 m4
  have ka0 : (((w.alloc (Obj.cells #[Value.bool (sgn x1), Value.slice a1 (lms x1).length c1, Value.bool (sgn y1), Value.slice b1 (lms y1).length e1] 28)).alloc (Obj.cells #[Value.bool (sgn x2), Value.slice a2 (lms x2).length c2, Value.bool (sgn y2), Value.slice b2 (lms y2).length e2] 28)).alloc (Obj.cells #[Value.bool false, Value.slice none 0 0, Value.bool false, Value.slice none 0 0] 28)).cell? ⟨w.heap.size, 0, none⟩ = some (Value.bool (sgn x1)) := by go_simp
  have ka1 : (((w.alloc (Obj.cells #[Value.bool (sgn x1), Value.slice a1 (lms x1).length c1, Value.bool (sgn y1), Value.slice b1 (lms y1).length e1] 28)).alloc (Obj.cells #[Value.bool (sgn x2), Value.slice a2 (lms x2).length c2, Value.bool (sgn y2), Value.slice b2 (lms y2).length e2] 28)).alloc (Obj.cells #[Value.bool false, Value.slice none 0 0, Value.bool false, Value.slice none 0 0] 28)).cell? ⟨w.heap.size, 1, none⟩ = some (Value.slice a1 (lms x1).length c1) := by go_simp
  have ka2 : (((w.alloc (Obj.cells #[Value.bool (sgn x1), Value.slice a1 (lms x1).length c1, Value.bool (sgn y1), Value.slice b1 (lms y1).length e1] 28)).alloc (Obj.cells #[Value.bool (sgn x2), Value.slice a2 (lms x2).length c2, Value.bool (sgn y2), Value.slice b2 (lms y2).length e2] 28)).alloc (Obj.cells #[Value.bool false, Value.slice none 0 0, Value.bool false, Value.slice none 0 0] 28)).cell? ⟨w.heap.size, 2, none⟩ = some (Value.bool (sgn y1)) := by go_simp
  have ka3 : (((w.alloc (Obj.cells #[Value.bool (sgn x1), Value.slice a1 (lms x1).length c1, Value.bool (sgn y1), Value.slice b1 (lms y1).length e1] 28)).alloc (Obj.cells #[Value.bool (sgn x2), Value.slice a2 (lms x2).length c2, Value.bool (sgn y2), Value.slice b2 (lms y2).length e2] 28)).alloc (Obj.cells #[Value.bool false, Value.slice none 0 0, Value.bool false, Value.slice none 0 0] 28)).cell? ⟨w.heap.size, 3, none⟩ = some (Value.slice b1 (lms y1).length e1) := by go_simp
  have kb0 : (((w.alloc (Obj.cells #[Value.bool (sgn x1), Value.slice a1 (lms x1).length c1, Value.bool (sgn y1), Value.slice b1 (lms y1).length e1] 28)).alloc (Obj.cells #[Value.bool (sgn x2), Value.slice a2 (lms x2).length c2, Value.bool (sgn y2), Value.slice b2 (lms y2).length e2] 28)).alloc (Obj.cells #[Value.bool false, Value.slice none 0 0, Value.bool false, Value.slice none 0 0] 28)).cell? ⟨w.heap.size + 1, 0, none⟩ = some (Value.bool (sgn x2)) := by go_simp
  have kb1 : (((w.alloc (Obj.cells #[Value.bool (sgn x1), Value.slice a1 (lms x1).length c1, Value.bool (sgn y1), Value.slice b1 (lms y1).length e1] 28)).alloc (Obj.cells #[Value.bool (sgn x2), Value.slice a2 (lms x2).length c2, Value.bool (sgn y2), Value.slice b2 (lms y2).length e2] 28)).alloc (Obj.cells #[Value.bool false, Value.slice none 0 0, Value.bool false, Value.slice none 0 0] 28)).cell? ⟨w.heap.size + 1, 1, none⟩ = some (Value.slice a2 (lms x2).length c2) := by go_simp
  have kb2 : (((w.alloc (Obj.cells #[Value.bool (sgn x1), Value.slice a1 (lms x1).length c1, Value.bool (sgn y1), Value.slice b1 (lms y1).length e1] 28)).alloc (Obj.cells #[Value.bool (sgn x2), Value.slice a2 (lms x2).length c2, Value.bool (sgn y2), Value.slice b2 (lms y2).length e2] 28)).alloc (Obj.cells #[Value.bool false, Value.slice none 0 0, Value.bool false, Value.slice none 0 0] 28)).cell? ⟨w.heap.size + 1, 2, none⟩ = some (Value.bool (sgn y2)) := by go_simp
  have kb3 : (((w.alloc (Obj.cells #[Value.bool (sgn x1), Value.slice a1 (lms x1).length c1, Value.bool (sgn y1), Value.slice b1 (lms y1).length e1] 28)).alloc (Obj.cells #[Value.bool (sgn x2), Value.slice a2 (lms x2).length c2, Value.bool (sgn y2), Value.slice b2 (lms y2).length e2] 28)).alloc (Obj.cells #[Value.bool false, Value.slice none 0 0, Value.bool false, Value.slice none 0 0] 28)).cell? ⟨w.heap.size + 1, 3, none⟩ = some (Value.slice b2 (lms y2).length e2) := by go_simp
  have kr0 : (((w.alloc (Obj.cells #[Value.bool (sgn x1), Value.slice a1 (lms x1).length c1, Value.bool (sgn y1), Value.slice b1 (lms y1).length e1] 28)).alloc (Obj.cells #[Value.bool (sgn x2), Value.slice a2 (lms x2).length c2, Value.bool (sgn y2), Value.slice b2 (lms y2).length e2] 28)).alloc (Obj.cells #[Value.bool false, Value.slice none 0 0, Value.bool false, Value.slice none 0 0] 28)).cell? ⟨w.heap.size + 1 + 1, 0, none⟩ = some (Value.bool false) := by go_simp
  have fr0 : (((w.alloc (Obj.cells #[Value.bool (sgn x1), Value.slice a1 (lms x1).length c1, Value.bool (sgn y1), Value.slice b1 (lms y1).length e1] 28)).alloc (Obj.cells #[Value.bool (sgn x2), Value.slice a2 (lms x2).length c2, Value.bool (sgn y2), Value.slice b2 (lms y2).length e2] 28)).alloc (Obj.cells #[Value.bool false, Value.slice none 0 0, Value.bool false, Value.slice none 0 0] 28)).frozen? ⟨w.heap.size + 1 + 1, 0, none⟩ = false := by go_simp
  have kr1 : (((w.alloc (Obj.cells #[Value.bool (sgn x1), Value.slice a1 (lms x1).length c1, Value.bool (sgn y1), Value.slice b1 (lms y1).length e1] 28)).alloc (Obj.cells #[Value.bool (sgn x2), Value.slice a2 (lms x2).length c2, Value.bool (sgn y2), Value.slice b2 (lms y2).length e2] 28)).alloc (Obj.cells #[Value.bool false, Value.slice none 0 0, Value.bool false, Value.slice none 0 0] 28)).cell? ⟨w.heap.size + 1 + 1, 1, none⟩ = some (Value.slice none 0 0) := by go_simp
  have fr1 : (((w.alloc (Obj.cells #[Value.bool (sgn x1), Value.slice a1 (lms x1).length c1, Value.bool (sgn y1), Value.slice b1 (lms y1).length e1] 28)).alloc (Obj.cells #[Value.bool (sgn x2), Value.slice a2 (lms x2).length c2, Value.bool (sgn y2), Value.slice b2 (lms y2).length e2] 28)).alloc (Obj.cells #[Value.bool false, Value.slice none 0 0, Value.bool false, Value.slice none 0 0] 28)).frozen? ⟨w.heap.size + 1 + 1, 1, none⟩ = false := by go_simp
  have kr2 : (((w.alloc (Obj.cells #[Value.bool (sgn x1), Value.slice a1 (lms x1).length c1, Value.bool (sgn y1), Value.slice b1 (lms y1).length e1] 28)).alloc (Obj.cells #[Value.bool (sgn x2), Value.slice a2 (lms x2).length c2, Value.bool (sgn y2), Value.slice b2 (lms y2).length e2] 28)).alloc (Obj.cells #[Value.bool false, Value.slice none 0 0, Value.bool false, Value.slice none 0 0] 28)).cell? ⟨w.heap.size + 1 + 1, 2, none⟩ = some (Value.bool false) := by go_simp
  have fr2 : (((w.alloc (Obj.cells #[Value.bool (sgn x1), Value.slice a1 (lms x1).length c1, Value.bool (sgn y1), Value.slice b1 (lms y1).length e1] 28)).alloc (Obj.cells #[Value.bool (sgn x2), Value.slice a2 (lms x2).length c2, Value.bool (sgn y2), Value.slice b2 (lms y2).length e2] 28)).alloc (Obj.cells #[Value.bool false, Value.slice none 0 0, Value.bool false, Value.slice none 0 0] 28)).frozen? ⟨w.heap.size + 1 + 1, 2, none⟩ = false := by go_simp
  have kr3 : (((w.alloc (Obj.cells #[Value.bool (sgn x1), Value.slice a1 (lms x1).length c1, Value.bool (sgn y1), Value.slice b1 (lms y1).length e1] 28)).alloc (Obj.cells #[Value.bool (sgn x2), Value.slice a2 (lms x2).length c2, Value.bool (sgn y2), Value.slice b2 (lms y2).length e2] 28)).alloc (Obj.cells #[Value.bool false, Value.slice none 0 0, Value.bool false, Value.slice none 0 0] 28)).cell? ⟨w.heap.size + 1 + 1, 3, none⟩ = some (Value.slice none 0 0) := by go_simp
  have fr3 : (((w.alloc (Obj.cells #[Value.bool (sgn x1), Value.slice a1 (lms x1).length c1, Value.bool (sgn y1), Value.slice b1 (lms y1).length e1] 28)).alloc (Obj.cells #[Value.bool (sgn x2), Value.slice a2 (lms x2).length c2, Value.bool (sgn y2), Value.slice b2 (lms y2).length e2] 28)).alloc (Obj.cells #[Value.bool false, Value.slice none 0 0, Value.bool false, Value.slice none 0 0] 28)).frozen? ⟨w.heap.size + 1 + 1, 3, none⟩ = false := by go_simp
  have zr : w.heap.size + 1 + 1 < (((w.alloc (Obj.cells #[Value.bool (sgn x1), Value.slice a1 (lms x1).length c1, Value.bool (sgn y1), Value.slice b1 (lms y1).length e1] 28)).alloc (Obj.cells #[Value.bool (sgn x2), Value.slice a2 (lms x2).length c2, Value.bool (sgn y2), Value.slice b2 (lms y2).length e2] 28)).alloc (Obj.cells #[Value.bool false, Value.slice none 0 0, Value.bool false, Value.slice none 0 0] 28)).heap.size := by simp only [World.size_alloc]; omega
  have HB := hide (bl_alloc (bl_alloc (bl_alloc (bl_refl w) (Obj.cells #[Value.bool (sgn x1), Value.slice a1 (lms x1).length c1, Value.bool (sgn y1), Value.slice b1 (lms y1).length e1] 28)) (Obj.cells #[Value.bool (sgn x2), Value.slice a2 (lms x2).length c2, Value.bool (sgn y2), Value.slice b2 (lms y2).length e2] 28)) (Obj.cells #[Value.bool false, Value.slice none 0 0, Value.bool false, Value.slice none 0 0] 28))
  have S1 := hide (s1.below HB.out)
  have T1 := hide (t1.below HB.out)
  have S2 := hide (s2.below HB.out)
  have T2 := hide (t2.below HB.out)
  clear s1
  clear t1
  clear s2
  clear t2
  go_enter Try.func29, Try.ntmps29
  go_wp2_with fail
  generalize (((w.alloc (Obj.cells #[Value.bool (sgn x1), Value.slice a1 (lms x1).length c1, Value.bool (sgn y1), Value.slice b1 (lms y1).length e1] 28)).alloc (Obj.cells #[Value.bool (sgn x2), Value.slice a2 (lms x2).length c2, Value.bool (sgn y2), Value.slice b2 (lms y2).length e2] 28)).alloc (Obj.cells #[Value.bool false, Value.slice none 0 0, Value.bool false, Value.slice none 0 0] 28)) = w1 at *
  have z0 := zr
  have KP : Hid (∀ w', Below w1.heap.size w1 w' → (w'.cell? ⟨w.heap.size, 0, none⟩ = some (Value.bool (sgn x1)) ∧ w'.cell? ⟨w.heap.size, 1, none⟩ = some (Value.slice a1 (lms x1).length c1) ∧ w'.cell? ⟨w.heap.size, 2, none⟩ = some (Value.bool (sgn y1)) ∧ w'.cell? ⟨w.heap.size, 3, none⟩ = some (Value.slice b1 (lms y1).length e1) ∧ w'.cell? ⟨w.heap.size + 1, 0, none⟩ = some (Value.bool (sgn x2)) ∧ w'.cell? ⟨w.heap.size + 1, 1, none⟩ = some (Value.slice a2 (lms x2).length c2) ∧ w'.cell? ⟨w.heap.size + 1, 2, none⟩ = some (Value.bool (sgn y2)) ∧ w'.cell? ⟨w.heap.size + 1, 3, none⟩ = some (Value.slice b2 (lms y2).length e2))) := hide (fun w' hb => ⟨(hb.cell (p := ⟨w.heap.size, 0, none⟩) (by dsimp only; omega)).trans ka0, (hb.cell (p := ⟨w.heap.size, 1, none⟩) (by dsimp only; omega)).trans ka1, (hb.cell (p := ⟨w.heap.size, 2, none⟩) (by dsimp only; omega)).trans ka2, (hb.cell (p := ⟨w.heap.size, 3, none⟩) (by dsimp only; omega)).trans ka3, (hb.cell (p := ⟨w.heap.size + 1, 0, none⟩) (by dsimp only; omega)).trans kb0, (hb.cell (p := ⟨w.heap.size + 1, 1, none⟩) (by dsimp only; omega)).trans kb1, (hb.cell (p := ⟨w.heap.size + 1, 2, none⟩) (by dsimp only; omega)).trans kb2, (hb.cell (p := ⟨w.heap.size + 1, 3, none⟩) (by dsimp only; omega)).trans kb3⟩)
  have KP4 : Hid (∀ w', Below w1.heap.size w1 w' → ∀ x y z t, (((((w'.setCell ⟨w.heap.size + 1 + 1, 0, none⟩ x).setCell ⟨w.heap.size + 1 + 1, 1, none⟩ y).setCell ⟨w.heap.size + 1 + 1, 2, none⟩ z).setCell ⟨w.heap.size + 1 + 1, 3, none⟩ t).cell? ⟨w.heap.size, 0, none⟩ = some (Value.bool (sgn x1)) ∧ ((((w'.setCell ⟨w.heap.size + 1 + 1, 0, none⟩ x).setCell ⟨w.heap.size + 1 + 1, 1, none⟩ y).setCell ⟨w.heap.size + 1 + 1, 2, none⟩ z).setCell ⟨w.heap.size + 1 + 1, 3, none⟩ t).cell? ⟨w.heap.size, 1, none⟩ = some (Value.slice a1 (lms x1).length c1) ∧ ((((w'.setCell ⟨w.heap.size + 1 + 1, 0, none⟩ x).setCell ⟨w.heap.size + 1 + 1, 1, none⟩ y).setCell ⟨w.heap.size + 1 + 1, 2, none⟩ z).setCell ⟨w.heap.size + 1 + 1, 3, none⟩ t).cell? ⟨w.heap.size, 2, none⟩ = some (Value.bool (sgn y1)) ∧ ((((w'.setCell ⟨w.heap.size + 1 + 1, 0, none⟩ x).setCell ⟨w.heap.size + 1 + 1, 1, none⟩ y).setCell ⟨w.heap.size + 1 + 1, 2, none⟩ z).setCell ⟨w.heap.size + 1 + 1, 3, none⟩ t).cell? ⟨w.heap.size, 3, none⟩ = some (Value.slice b1 (lms y1).length e1) ∧ ((((w'.setCell ⟨w.heap.size + 1 + 1, 0, none⟩ x).setCell ⟨w.heap.size + 1 + 1, 1, none⟩ y).setCell ⟨w.heap.size + 1 + 1, 2, none⟩ z).setCell ⟨w.heap.size + 1 + 1, 3, none⟩ t).cell? ⟨w.heap.size + 1, 0, none⟩ = some (Value.bool (sgn x2)) ∧ ((((w'.setCell ⟨w.heap.size + 1 + 1, 0, none⟩ x).setCell ⟨w.heap.size + 1 + 1, 1, none⟩ y).setCell ⟨w.heap.size + 1 + 1, 2, none⟩ z).setCell ⟨w.heap.size + 1 + 1, 3, none⟩ t).cell? ⟨w.heap.size + 1, 1, none⟩ = some (Value.slice a2 (lms x2).length c2) ∧ ((((w'.setCell ⟨w.heap.size + 1 + 1, 0, none⟩ x).setCell ⟨w.heap.size + 1 + 1, 1, none⟩ y).setCell ⟨w.heap.size + 1 + 1, 2, none⟩ z).setCell ⟨w.heap.size + 1 + 1, 3, none⟩ t).cell? ⟨w.heap.size + 1, 2, none⟩ = some (Value.bool (sgn y2)) ∧ ((((w'.setCell ⟨w.heap.size + 1 + 1, 0, none⟩ x).setCell ⟨w.heap.size + 1 + 1, 1, none⟩ y).setCell ⟨w.heap.size + 1 + 1, 2, none⟩ z).setCell ⟨w.heap.size + 1 + 1, 3, none⟩ t).cell? ⟨w.heap.size + 1, 3, none⟩ = some (Value.slice b2 (lms y2).length e2))) := hide (fun w' hb x y z t => ⟨(cell_four (p := ⟨w.heap.size, 0, none⟩) (by dsimp only; omega)).trans ((hb.cell (p := ⟨w.heap.size, 0, none⟩) (by dsimp only; omega)).trans ka0), (cell_four (p := ⟨w.heap.size, 1, none⟩) (by dsimp only; omega)).trans ((hb.cell (p := ⟨w.heap.size, 1, none⟩) (by dsimp only; omega)).trans ka1), (cell_four (p := ⟨w.heap.size, 2, none⟩) (by dsimp only; omega)).trans ((hb.cell (p := ⟨w.heap.size, 2, none⟩) (by dsimp only; omega)).trans ka2), (cell_four (p := ⟨w.heap.size, 3, none⟩) (by dsimp only; omega)).trans ((hb.cell (p := ⟨w.heap.size, 3, none⟩) (by dsimp only; omega)).trans ka3), (cell_four (p := ⟨w.heap.size + 1, 0, none⟩) (by dsimp only; omega)).trans ((hb.cell (p := ⟨w.heap.size + 1, 0, none⟩) (by dsimp only; omega)).trans kb0), (cell_four (p := ⟨w.heap.size + 1, 1, none⟩) (by dsimp only; omega)).trans ((hb.cell (p := ⟨w.heap.size + 1, 1, none⟩) (by dsimp only; omega)).trans kb1), (cell_four (p := ⟨w.heap.size + 1, 2, none⟩) (by dsimp only; omega)).trans ((hb.cell (p := ⟨w.heap.size + 1, 2, none⟩) (by dsimp only; omega)).trans kb2), (cell_four (p := ⟨w.heap.size + 1, 3, none⟩) (by dsimp only; omega)).trans ((hb.cell (p := ⟨w.heap.size + 1, 3, none⟩) (by dsimp only; omega)).trans kb3)⟩)
  go_region_held3 (fun w' => w'.cell? ⟨w.heap.size, 0, none⟩ = some (Value.bool (sgn x1)) ∧ w'.cell? ⟨w.heap.size, 1, none⟩ = some (Value.slice a1 (lms x1).length c1) ∧ w'.cell? ⟨w.heap.size, 2, none⟩ = some (Value.bool (sgn y1)) ∧ w'.cell? ⟨w.heap.size, 3, none⟩ = some (Value.slice b1 (lms y1).length e1) ∧ w'.cell? ⟨w.heap.size + 1, 0, none⟩ = some (Value.bool (sgn x2)) ∧ w'.cell? ⟨w.heap.size + 1, 1, none⟩ = some (Value.slice a2 (lms x2).length c2) ∧ w'.cell? ⟨w.heap.size + 1, 2, none⟩ = some (Value.bool (sgn y2)) ∧ w'.cell? ⟨w.heap.size + 1, 3, none⟩ = some (Value.slice b2 (lms y2).length e2))
    (first | with_reducible exact KP.out _ (bl_refl w1).drew | with_reducible exact KP4.out _ hbC _ _ _ _ | with_reducible exact KP.out _ hbC | with_reducible exact KP.out _ hbB | with_reducible exact KP.out _ hbA)
    (first
      | (have hq := hbB; go_at_call 53; refine (makeR (mulZ x1 x2) (mulZ y1 y2) uA vA uB vB _ ((hoA.seg).below hbBr) (hoB.seg) HY.out (by omega) (by omega)).mono ?_; rintro e wC ⟨d1, f1, d2, f2, rfl, ho1, ho2, hap, hbCr⟩; have hbC : Below w1.heap.size w1 wC := bl_trans hbB hbCr; have qC := hbC.size; have qCr := hbB.size; have kr0 := (hbC.cell (p := ⟨w.heap.size + 1 + 1, 0, none⟩) (by dsimp only; omega)).trans kr0; have fr0 := (hbC.frozen (p := ⟨w.heap.size + 1 + 1, 0, none⟩) (by dsimp only; omega)).trans fr0; have kr1 := (hbC.cell (p := ⟨w.heap.size + 1 + 1, 1, none⟩) (by dsimp only; omega)).trans kr1; have fr1 := (hbC.frozen (p := ⟨w.heap.size + 1 + 1, 1, none⟩) (by dsimp only; omega)).trans fr1; have kr2 := (hbC.cell (p := ⟨w.heap.size + 1 + 1, 2, none⟩) (by dsimp only; omega)).trans kr2; have fr2 := (hbC.frozen (p := ⟨w.heap.size + 1 + 1, 2, none⟩) (by dsimp only; omega)).trans fr2; have kr3 := (hbC.cell (p := ⟨w.heap.size + 1 + 1, 3, none⟩) (by dsimp only; omega)).trans kr3; have fr3 := (hbC.frozen (p := ⟨w.heap.size + 1 + 1, 3, none⟩) (by dsimp only; omega)).trans fr3; have HO1 := hide ho1; have HO2 := hide ho2; have HAP := hide hap; clear ho1 ho2 hap; clear hq)
      | (have hq := hbA; go_at_call 48; refine (mulL _ _ y1 y2 _ ⟨b1, e1, rfl, T1.out.below hbA⟩ ⟨b2, e2, rfl, T2.out.below hbA⟩ (by omega) (by omega)).mono ?_; rintro e wB ⟨_, rfl, ⟨uB, vB, rfl, hoB⟩, hbBr⟩; have hbB : Below w1.heap.size w1 wB := bl_trans hbA hbBr; clear hq)
      | (go_at_call 48; refine (mulL _ _ x1 x2 _ ⟨a1, c1, rfl, S1.out.below (bl_refl w1).drew⟩ ⟨a2, c2, rfl, S2.out.below (bl_refl w1).drew⟩ (by omega) (by omega)).mono ?_; rintro e wA ⟨_, rfl, ⟨uA, vA, rfl, hoA⟩, hbAr⟩; have hbA : Below w1.heap.size w1 wA := (bl_refl w1).drew.trans hbAr))
  replace HB := hide (bl_trans HB.out hbC)
  clear KP KP4 hbA hbAr hbB hbBr hbC hbCr hoA hoB
  go_wp2
  refine bodyPost_ret (v := (Value.agg #[Value.bool (sgn ((mulZ x1 x2) / sgG ((mulZ x1 x2)) ((mulZ y1 y2)))), Value.slice d1 (lms ((mulZ x1 x2) / sgG ((mulZ x1 x2)) ((mulZ y1 y2)))).length f1, Value.bool (sgn ((mulZ y1 y2) / sgG ((mulZ x1 x2)) ((mulZ y1 y2)))), Value.slice d2 (lms ((mulZ y1 y2) / sgG ((mulZ x1 x2)) ((mulZ y1 y2)))).length f2])) (by simp [results, Try.results29, go_sem, kr0, kr1, kr2, kr3]) rfl ?_
  obtain ⟨h1, h2, h3⟩ := fin_four (N := w.heap.size + 1 + 1) HO1.out HO2.out (by omega) (by omega) (by omega) HB.out (Value.bool (sgn ((mulZ x1 x2) / sgG ((mulZ x1 x2)) ((mulZ y1 y2))))) (Value.slice d1 (lms ((mulZ x1 x2) / sgG ((mulZ x1 x2)) ((mulZ y1 y2)))).length f1) (Value.bool (sgn ((mulZ y1 y2) / sgG ((mulZ x1 x2)) ((mulZ y1 y2))))) (Value.slice d2 (lms ((mulZ y1 y2) / sgG ((mulZ x1 x2)) ((mulZ y1 y2)))).length f2)
  exact ⟨d1, f1, d2, f2, rfl, h1, h2, HAP.out, h3⟩

set_option maxHeartbeats 1600000 in
theorem overR (x1 y1 x2 y2 : Int) (a1 : Option Addr) (c1 : Nat) (b1 : Option Addr) (e1 : Nat) (a2 : Option Addr) (c2 : Nat) (b2 : Option Addr) (e2 : Nat) (w : World) (m1 : (lms x1).length ≤ 1000) (m2 : (lms y1).length ≤ 1000) (m3 : (lms x2).length ≤ 1000) (m4 : (lms y2).length ≤ 1000)
    (s1 : Seg w a1 (lms x1).length c1 (lms x1)) (t1 : Seg w b1 (lms y1).length e1 (lms y1)) (s2 : Seg w a2 (lms x2).length c2 (lms x2)) (t2 : Seg w b2 (lms y2).length e2 (lms y2)) (hY : (mulZ y1 x2) ≠ 0) :
    Calls Try.prog 26 #[Value.agg #[Value.bool (sgn x1), Value.slice a1 (lms x1).length c1, Value.bool (sgn y1), Value.slice b1 (lms y1).length e1], Value.agg #[Value.bool (sgn x2), Value.slice a2 (lms x2).length c2, Value.bool (sgn y2), Value.slice b2 (lms y2).length e2]] w fun e w' => StAns ((mulZ x1 y2)) ((mulZ y1 x2)) w w' e := by
  have HY := hide hY
  clear hY
  have hm0 : (lms (mulZ x1 y2)).length ≤ 2000 := len_mul (m := 1000) (n := 1000) m1 m4
  have hm1 : (lms (mulZ y1 x2)).length ≤ 2000 := len_mul (m := 1000) (n := 1000) m2 m3
  have ka0 : (((w.alloc (Obj.cells #[Value.bool (sgn x1), Value.slice a1 (lms x1).length c1, Value.bool (sgn y1), Value.slice b1 (lms y1).length e1] 28)).alloc (Obj.cells #[Value.bool (sgn x2), Value.slice a2 (lms x2).length c2, Value.bool (sgn y2), Value.slice b2 (lms y2).length e2] 28)).alloc (Obj.cells #[Value.bool false, Value.slice none 0 0, Value.bool false, Value.slice none 0 0] 28)).cell? ⟨w.heap.size, 0, none⟩ = some (Value.bool (sgn x1)) := by go_simp
  have ka1 : (((w.alloc (Obj.cells #[Value.bool (sgn x1), Value.slice a1 (lms x1).length c1, Value.bool (sgn y1), Value.slice b1 (lms y1).length e1] 28)).alloc (Obj.cells #[Value.bool (sgn x2), Value.slice a2 (lms x2).length c2, Value.bool (sgn y2), Value.slice b2 (lms y2).length e2] 28)).alloc (Obj.cells #[Value.bool false, Value.slice none 0 0, Value.bool false, Value.slice none 0 0] 28)).cell? ⟨w.heap.size, 1, none⟩ = some (Value.slice a1 (lms x1).length c1) := by go_simp
  have ka2 : (((w.alloc (Obj.cells #[Value.bool (sgn x1), Value.slice a1 (lms x1).length c1, Value.bool (sgn y1), Value.slice b1 (lms y1).length e1] 28)).alloc (Obj.cells #[Value.bool (sgn x2), Value.slice a2 (lms x2).length c2, Value.bool (sgn y2), Value.slice b2 (lms y2).length e2] 28)).alloc (Obj.cells #[Value.bool false, Value.slice none 0 0, Value.bool false, Value.slice none 0 0] 28)).cell? ⟨w.heap.size, 2, none⟩ = some (Value.bool (sgn y1)) := by go_simp
  have ka3 : (((w.alloc (Obj.cells #[Value.bool (sgn x1), Value.slice a1 (lms x1).length c1, Value.bool (sgn y1), Value.slice b1 (lms y1).length e1] 28)).alloc (Obj.cells #[Value.bool (sgn x2), Value.slice a2 (lms x2).length c2, Value.bool (sgn y2), Value.slice b2 (lms y2).length e2] 28)).alloc (Obj.cells #[Value.bool false, Value.slice none 0 0, Value.bool false, Value.slice none 0 0] 28)).cell? ⟨w.heap.size, 3, none⟩ = some (Value.slice b1 (lms y1).length e1) := by go_simp
  have kb0 : (((w.alloc (Obj.cells #[Value.bool (sgn x1), Value.slice a1 (lms x1).length c1, Value.bool (sgn y1), Value.slice b1 (lms y1).length e1] 28)).alloc (Obj.cells #[Value.bool (sgn x2), Value.slice a2 (lms x2).length c2, Value.bool (sgn y2), Value.slice b2 (lms y2).length e2] 28)).alloc (Obj.cells #[Value.bool false, Value.slice none 0 0, Value.bool false, Value.slice none 0 0] 28)).cell? ⟨w.heap.size + 1, 0, none⟩ = some (Value.bool (sgn x2)) := by go_simp
  have kb1 : (((w.alloc (Obj.cells #[Value.bool (sgn x1), Value.slice a1 (lms x1).length c1, Value.bool (sgn y1), Value.slice b1 (lms y1).length e1] 28)).alloc (Obj.cells #[Value.bool (sgn x2), Value.slice a2 (lms x2).length c2, Value.bool (sgn y2), Value.slice b2 (lms y2).length e2] 28)).alloc (Obj.cells #[Value.bool false, Value.slice none 0 0, Value.bool false, Value.slice none 0 0] 28)).cell? ⟨w.heap.size + 1, 1, none⟩ = some (Value.slice a2 (lms x2).length c2) := by go_simp
  have kb2 : (((w.alloc (Obj.cells #[Value.bool (sgn x1), Value.slice a1 (lms x1).length c1, Value.bool (sgn y1), Value.slice b1 (lms y1).length e1] 28)).alloc (Obj.cells #[Value.bool (sgn x2), Value.slice a2 (lms x2).length c2, Value.bool (sgn y2), Value.slice b2 (lms y2).length e2] 28)).alloc (Obj.cells #[Value.bool false, Value.slice none 0 0, Value.bool false, Value.slice none 0 0] 28)).cell? ⟨w.heap.size + 1, 2, none⟩ = some (Value.bool (sgn y2)) := by go_simp
  have kb3 : (((w.alloc (Obj.cells #[Value.bool (sgn x1), Value.slice a1 (lms x1).length c1, Value.bool (sgn y1), Value.slice b1 (lms y1).length e1] 28)).alloc (Obj.cells #[Value.bool (sgn x2), Value.slice a2 (lms x2).length c2, Value.bool (sgn y2), Value.slice b2 (lms y2).length e2] 28)).alloc (Obj.cells #[Value.bool false, Value.slice none 0 0, Value.bool false, Value.slice none 0 0] 28)).cell? ⟨w.heap.size + 1, 3, none⟩ = some (Value.slice b2 (lms y2).length e2) := by go_simp
  have kr0 : (((w.alloc (Obj.cells #[Value.bool (sgn x1), Value.slice a1 (lms x1).length c1, Value.bool (sgn y1), Value.slice b1 (lms y1).length e1] 28)).alloc (Obj.cells #[Value.bool (sgn x2), Value.slice a2 (lms x2).length c2, Value.bool (sgn y2), Value.slice b2 (lms y2).length e2] 28)).alloc (Obj.cells #[Value.bool false, Value.slice none 0 0, Value.bool false, Value.slice none 0 0] 28)).cell? ⟨w.heap.size + 1 + 1, 0, none⟩ = some (Value.bool false) := by go_simp
  have fr0 : (((w.alloc (Obj.cells #[Value.bool (sgn x1), Value.slice a1 (lms x1).length c1, Value.bool (sgn y1), Value.slice b1 (lms y1).length e1] 28)).alloc (Obj.cells #[Value.bool (sgn x2), Value.slice a2 (lms x2).length c2, Value.bool (sgn y2), Value.slice b2 (lms y2).length e2] 28)).alloc (Obj.cells #[Value.bool false, Value.slice none 0 0, Value.bool false, Value.slice none 0 0] 28)).frozen? ⟨w.heap.size + 1 + 1, 0, none⟩ = false := by go_simp
  have kr1 : (((w.alloc (Obj.cells #[Value.bool (sgn x1), Value.slice a1 (lms x1).length c1, Value.bool (sgn y1), Value.slice b1 (lms y1).length e1] 28)).alloc (Obj.cells #[Value.bool (sgn x2), Value.slice a2 (lms x2).length c2, Value.bool (sgn y2), Value.slice b2 (lms y2).length e2] 28)).alloc (Obj.cells #[Value.bool false, Value.slice none 0 0, Value.bool false, Value.slice none 0 0] 28)).cell? ⟨w.heap.size + 1 + 1, 1, none⟩ = some (Value.slice none 0 0) := by go_simp
  have fr1 : (((w.alloc (Obj.cells #[Value.bool (sgn x1), Value.slice a1 (lms x1).length c1, Value.bool (sgn y1), Value.slice b1 (lms y1).length e1] 28)).alloc (Obj.cells #[Value.bool (sgn x2), Value.slice a2 (lms x2).length c2, Value.bool (sgn y2), Value.slice b2 (lms y2).length e2] 28)).alloc (Obj.cells #[Value.bool false, Value.slice none 0 0, Value.bool false, Value.slice none 0 0] 28)).frozen? ⟨w.heap.size + 1 + 1, 1, none⟩ = false := by go_simp
  have kr2 : (((w.alloc (Obj.cells #[Value.bool (sgn x1), Value.slice a1 (lms x1).length c1, Value.bool (sgn y1), Value.slice b1 (lms y1).length e1] 28)).alloc (Obj.cells #[Value.bool (sgn x2), Value.slice a2 (lms x2).length c2, Value.bool (sgn y2), Value.slice b2 (lms y2).length e2] 28)).alloc (Obj.cells #[Value.bool false, Value.slice none 0 0, Value.bool false, Value.slice none 0 0] 28)).cell? ⟨w.heap.size + 1 + 1, 2, none⟩ = some (Value.bool false) := by go_simp
  have fr2 : (((w.alloc (Obj.cells #[Value.bool (sgn x1), Value.slice a1 (lms x1).length c1, Value.bool (sgn y1), Value.slice b1 (lms y1).length e1] 28)).alloc (Obj.cells #[Value.bool (sgn x2), Value.slice a2 (lms x2).length c2, Value.bool (sgn y2), Value.slice b2 (lms y2).length e2] 28)).alloc (Obj.cells #[Value.bool false, Value.slice none 0 0, Value.bool false, Value.slice none 0 0] 28)).frozen? ⟨w.heap.size + 1 + 1, 2, none⟩ = false := by go_simp
  have kr3 : (((w.alloc (Obj.cells #[Value.bool (sgn x1), Value.slice a1 (lms x1).length c1, Value.bool (sgn y1), Value.slice b1 (lms y1).length e1] 28)).alloc (Obj.cells #[Value.bool (sgn x2), Value.slice a2 (lms x2).length c2, Value.bool (sgn y2), Value.slice b2 (lms y2).length e2] 28)).alloc (Obj.cells #[Value.bool false, Value.slice none 0 0, Value.bool false, Value.slice none 0 0] 28)).cell? ⟨w.heap.size + 1 + 1, 3, none⟩ = some (Value.slice none 0 0) := by go_simp
  have fr3 : (((w.alloc (Obj.cells #[Value.bool (sgn x1), Value.slice a1 (lms x1).length c1, Value.bool (sgn y1), Value.slice b1 (lms y1).length e1] 28)).alloc (Obj.cells #[Value.bool (sgn x2), Value.slice a2 (lms x2).length c2, Value.bool (sgn y2), Value.slice b2 (lms y2).length e2] 28)).alloc (Obj.cells #[Value.bool false, Value.slice none 0 0, Value.bool false, Value.slice none 0 0] 28)).frozen? ⟨w.heap.size + 1 + 1, 3, none⟩ = false := by go_simp
  have zr : w.heap.size + 1 + 1 < (((w.alloc (Obj.cells #[Value.bool (sgn x1), Value.slice a1 (lms x1).length c1, Value.bool (sgn y1), Value.slice b1 (lms y1).length e1] 28)).alloc (Obj.cells #[Value.bool (sgn x2), Value.slice a2 (lms x2).length c2, Value.bool (sgn y2), Value.slice b2 (lms y2).length e2] 28)).alloc (Obj.cells #[Value.bool false, Value.slice none 0 0, Value.bool false, Value.slice none 0 0] 28)).heap.size := by simp only [World.size_alloc]; omega
  have HB := hide (bl_alloc (bl_alloc (bl_alloc (bl_refl w) (Obj.cells #[Value.bool (sgn x1), Value.slice a1 (lms x1).length c1, Value.bool (sgn y1), Value.slice b1 (lms y1).length e1] 28)) (Obj.cells #[Value.bool (sgn x2), Value.slice a2 (lms x2).length c2, Value.bool (sgn y2), Value.slice b2 (lms y2).length e2] 28)) (Obj.cells #[Value.bool false, Value.slice none 0 0, Value.bool false, Value.slice none 0 0] 28))
  have S1 := hide (s1.below HB.out)
  have T1 := hide (t1.below HB.out)
  have S2 := hide (s2.below HB.out)
  have T2 := hide (t2.below HB.out)
  clear s1
  clear t1
  clear s2
  clear t2
  go_enter Try.func26, Try.ntmps26
  go_wp2_with fail
  generalize (((w.alloc (Obj.cells #[Value.bool (sgn x1), Value.slice a1 (lms x1).length c1, Value.bool (sgn y1), Value.slice b1 (lms y1).length e1] 28)).alloc (Obj.cells #[Value.bool (sgn x2), Value.slice a2 (lms x2).length c2, Value.bool (sgn y2), Value.slice b2 (lms y2).length e2] 28)).alloc (Obj.cells #[Value.bool false, Value.slice none 0 0, Value.bool false, Value.slice none 0 0] 28)) = w1 at *
  have z0 := zr
  have KP : Hid (∀ w', Below w1.heap.size w1 w' → (w'.cell? ⟨w.heap.size, 0, none⟩ = some (Value.bool (sgn x1)) ∧ w'.cell? ⟨w.heap.size, 1, none⟩ = some (Value.slice a1 (lms x1).length c1) ∧ w'.cell? ⟨w.heap.size, 2, none⟩ = some (Value.bool (sgn y1)) ∧ w'.cell? ⟨w.heap.size, 3, none⟩ = some (Value.slice b1 (lms y1).length e1) ∧ w'.cell? ⟨w.heap.size + 1, 0, none⟩ = some (Value.bool (sgn x2)) ∧ w'.cell? ⟨w.heap.size + 1, 1, none⟩ = some (Value.slice a2 (lms x2).length c2) ∧ w'.cell? ⟨w.heap.size + 1, 2, none⟩ = some (Value.bool (sgn y2)) ∧ w'.cell? ⟨w.heap.size + 1, 3, none⟩ = some (Value.slice b2 (lms y2).length e2))) := hide (fun w' hb => ⟨(hb.cell (p := ⟨w.heap.size, 0, none⟩) (by dsimp only; omega)).trans ka0, (hb.cell (p := ⟨w.heap.size, 1, none⟩) (by dsimp only; omega)).trans ka1, (hb.cell (p := ⟨w.heap.size, 2, none⟩) (by dsimp only; omega)).trans ka2, (hb.cell (p := ⟨w.heap.size, 3, none⟩) (by dsimp only; omega)).trans ka3, (hb.cell (p := ⟨w.heap.size + 1, 0, none⟩) (by dsimp only; omega)).trans kb0, (hb.cell (p := ⟨w.heap.size + 1, 1, none⟩) (by dsimp only; omega)).trans kb1, (hb.cell (p := ⟨w.heap.size + 1, 2, none⟩) (by dsimp only; omega)).trans kb2, (hb.cell (p := ⟨w.heap.size + 1, 3, none⟩) (by dsimp only; omega)).trans kb3⟩)
  have KP4 : Hid (∀ w', Below w1.heap.size w1 w' → ∀ x y z t, (((((w'.setCell ⟨w.heap.size + 1 + 1, 0, none⟩ x).setCell ⟨w.heap.size + 1 + 1, 1, none⟩ y).setCell ⟨w.heap.size + 1 + 1, 2, none⟩ z).setCell ⟨w.heap.size + 1 + 1, 3, none⟩ t).cell? ⟨w.heap.size, 0, none⟩ = some (Value.bool (sgn x1)) ∧ ((((w'.setCell ⟨w.heap.size + 1 + 1, 0, none⟩ x).setCell ⟨w.heap.size + 1 + 1, 1, none⟩ y).setCell ⟨w.heap.size + 1 + 1, 2, none⟩ z).setCell ⟨w.heap.size + 1 + 1, 3, none⟩ t).cell? ⟨w.heap.size, 1, none⟩ = some (Value.slice a1 (lms x1).length c1) ∧ ((((w'.setCell ⟨w.heap.size + 1 + 1, 0, none⟩ x).setCell ⟨w.heap.size + 1 + 1, 1, none⟩ y).setCell ⟨w.heap.size + 1 + 1, 2, none⟩ z).setCell ⟨w.heap.size + 1 + 1, 3, none⟩ t).cell? ⟨w.heap.size, 2, none⟩ = some (Value.bool (sgn y1)) ∧ ((((w'.setCell ⟨w.heap.size + 1 + 1, 0, none⟩ x).setCell ⟨w.heap.size + 1 + 1, 1, none⟩ y).setCell ⟨w.heap.size + 1 + 1, 2, none⟩ z).setCell ⟨w.heap.size + 1 + 1, 3, none⟩ t).cell? ⟨w.heap.size, 3, none⟩ = some (Value.slice b1 (lms y1).length e1) ∧ ((((w'.setCell ⟨w.heap.size + 1 + 1, 0, none⟩ x).setCell ⟨w.heap.size + 1 + 1, 1, none⟩ y).setCell ⟨w.heap.size + 1 + 1, 2, none⟩ z).setCell ⟨w.heap.size + 1 + 1, 3, none⟩ t).cell? ⟨w.heap.size + 1, 0, none⟩ = some (Value.bool (sgn x2)) ∧ ((((w'.setCell ⟨w.heap.size + 1 + 1, 0, none⟩ x).setCell ⟨w.heap.size + 1 + 1, 1, none⟩ y).setCell ⟨w.heap.size + 1 + 1, 2, none⟩ z).setCell ⟨w.heap.size + 1 + 1, 3, none⟩ t).cell? ⟨w.heap.size + 1, 1, none⟩ = some (Value.slice a2 (lms x2).length c2) ∧ ((((w'.setCell ⟨w.heap.size + 1 + 1, 0, none⟩ x).setCell ⟨w.heap.size + 1 + 1, 1, none⟩ y).setCell ⟨w.heap.size + 1 + 1, 2, none⟩ z).setCell ⟨w.heap.size + 1 + 1, 3, none⟩ t).cell? ⟨w.heap.size + 1, 2, none⟩ = some (Value.bool (sgn y2)) ∧ ((((w'.setCell ⟨w.heap.size + 1 + 1, 0, none⟩ x).setCell ⟨w.heap.size + 1 + 1, 1, none⟩ y).setCell ⟨w.heap.size + 1 + 1, 2, none⟩ z).setCell ⟨w.heap.size + 1 + 1, 3, none⟩ t).cell? ⟨w.heap.size + 1, 3, none⟩ = some (Value.slice b2 (lms y2).length e2))) := hide (fun w' hb x y z t => ⟨(cell_four (p := ⟨w.heap.size, 0, none⟩) (by dsimp only; omega)).trans ((hb.cell (p := ⟨w.heap.size, 0, none⟩) (by dsimp only; omega)).trans ka0), (cell_four (p := ⟨w.heap.size, 1, none⟩) (by dsimp only; omega)).trans ((hb.cell (p := ⟨w.heap.size, 1, none⟩) (by dsimp only; omega)).trans ka1), (cell_four (p := ⟨w.heap.size, 2, none⟩) (by dsimp only; omega)).trans ((hb.cell (p := ⟨w.heap.size, 2, none⟩) (by dsimp only; omega)).trans ka2), (cell_four (p := ⟨w.heap.size, 3, none⟩) (by dsimp only; omega)).trans ((hb.cell (p := ⟨w.heap.size, 3, none⟩) (by dsimp only; omega)).trans ka3), (cell_four (p := ⟨w.heap.size + 1, 0, none⟩) (by dsimp only; omega)).trans ((hb.cell (p := ⟨w.heap.size + 1, 0, none⟩) (by dsimp only; omega)).trans kb0), (cell_four (p := ⟨w.heap.size + 1, 1, none⟩) (by dsimp only; omega)).trans ((hb.cell (p := ⟨w.heap.size + 1, 1, none⟩) (by dsimp only; omega)).trans kb1), (cell_four (p := ⟨w.heap.size + 1, 2, none⟩) (by dsimp only; omega)).trans ((hb.cell (p := ⟨w.heap.size + 1, 2, none⟩) (by dsimp only; omega)).trans kb2), (cell_four (p := ⟨w.heap.size + 1, 3, none⟩) (by dsimp only; omega)).trans ((hb.cell (p := ⟨w.heap.size + 1, 3, none⟩) (by dsimp only; omega)).trans kb3)⟩)
  go_region_held3 (fun w' => w'.cell? ⟨w.heap.size, 0, none⟩ = some (Value.bool (sgn x1)) ∧ w'.cell? ⟨w.heap.size, 1, none⟩ = some (Value.slice a1 (lms x1).length c1) ∧ w'.cell? ⟨w.heap.size, 2, none⟩ = some (Value.bool (sgn y1)) ∧ w'.cell? ⟨w.heap.size, 3, none⟩ = some (Value.slice b1 (lms y1).length e1) ∧ w'.cell? ⟨w.heap.size + 1, 0, none⟩ = some (Value.bool (sgn x2)) ∧ w'.cell? ⟨w.heap.size + 1, 1, none⟩ = some (Value.slice a2 (lms x2).length c2) ∧ w'.cell? ⟨w.heap.size + 1, 2, none⟩ = some (Value.bool (sgn y2)) ∧ w'.cell? ⟨w.heap.size + 1, 3, none⟩ = some (Value.slice b2 (lms y2).length e2))
    (first | with_reducible exact KP.out _ (bl_refl w1).drew | with_reducible exact KP4.out _ hbC _ _ _ _ | with_reducible exact KP.out _ hbC | with_reducible exact KP.out _ hbB | with_reducible exact KP.out _ hbA)
    (first
      | (have hq := hbB; go_at_call 39; refine (shortI' (mulZ x1 y2) (mulZ y1 x2) uA vA uB vB _ ((hoA.seg).below hbBr) (hoB.seg) HY.out (by omega) (by omega)).mono ?_; rintro e wC ⟨d1, f1, d2, f2, rfl, ho1, ho2, hap, hbCr⟩; have hbC : Below w1.heap.size w1 wC := bl_trans hbB hbCr; have qC := hbC.size; have qCr := hbB.size; have kr0 := (hbC.cell (p := ⟨w.heap.size + 1 + 1, 0, none⟩) (by dsimp only; omega)).trans kr0; have fr0 := (hbC.frozen (p := ⟨w.heap.size + 1 + 1, 0, none⟩) (by dsimp only; omega)).trans fr0; have kr1 := (hbC.cell (p := ⟨w.heap.size + 1 + 1, 1, none⟩) (by dsimp only; omega)).trans kr1; have fr1 := (hbC.frozen (p := ⟨w.heap.size + 1 + 1, 1, none⟩) (by dsimp only; omega)).trans fr1; have kr2 := (hbC.cell (p := ⟨w.heap.size + 1 + 1, 2, none⟩) (by dsimp only; omega)).trans kr2; have fr2 := (hbC.frozen (p := ⟨w.heap.size + 1 + 1, 2, none⟩) (by dsimp only; omega)).trans fr2; have kr3 := (hbC.cell (p := ⟨w.heap.size + 1 + 1, 3, none⟩) (by dsimp only; omega)).trans kr3; have fr3 := (hbC.frozen (p := ⟨w.heap.size + 1 + 1, 3, none⟩) (by dsimp only; omega)).trans fr3; have HO1 := hide ho1; have HO2 := hide ho2; have HAP := hide hap; clear ho1 ho2 hap; clear hq)
      | (have hq := hbA; go_at_call 52; refine (prodL _ _ y1 x2 _ ⟨b1, e1, rfl, T1.out.below hbA⟩ ⟨a2, c2, rfl, S2.out.below hbA⟩ (by omega) (by omega)).mono ?_; rintro e wB ⟨_, rfl, ⟨uB, vB, rfl, hoB⟩, hbBr⟩; have hbB : Below w1.heap.size w1 wB := bl_trans hbA hbBr; clear hq)
      | (go_at_call 52; refine (prodL _ _ x1 y2 _ ⟨a1, c1, rfl, S1.out.below (bl_refl w1).drew⟩ ⟨b2, e2, rfl, T2.out.below (bl_refl w1).drew⟩ (by omega) (by omega)).mono ?_; rintro e wA ⟨_, rfl, ⟨uA, vA, rfl, hoA⟩, hbAr⟩; have hbA : Below w1.heap.size w1 wA := (bl_refl w1).drew.trans hbAr))
  replace HB := hide (bl_trans HB.out hbC)
  clear KP KP4 hbA hbAr hbB hbBr hbC hbCr hoA hoB
  go_wp2
  refine bodyPost_ret (v := (Value.agg #[Value.bool (sgn ((mulZ x1 y2) / sgG ((mulZ x1 y2)) ((mulZ y1 x2)))), Value.slice d1 (lms ((mulZ x1 y2) / sgG ((mulZ x1 y2)) ((mulZ y1 x2)))).length f1, Value.bool (sgn ((mulZ y1 x2) / sgG ((mulZ x1 y2)) ((mulZ y1 x2)))), Value.slice d2 (lms ((mulZ y1 x2) / sgG ((mulZ x1 y2)) ((mulZ y1 x2)))).length f2])) (by simp [results, Try.results26, go_sem, kr0, kr1, kr2, kr3]) rfl ?_
  obtain ⟨h1, h2, h3⟩ := fin_four (N := w.heap.size + 1 + 1) HO1.out HO2.out (by omega) (by omega) (by omega) HB.out (Value.bool (sgn ((mulZ x1 y2) / sgG ((mulZ x1 y2)) ((mulZ y1 x2))))) (Value.slice d1 (lms ((mulZ x1 y2) / sgG ((mulZ x1 y2)) ((mulZ y1 x2)))).length f1) (Value.bool (sgn ((mulZ y1 x2) / sgG ((mulZ x1 y2)) ((mulZ y1 x2))))) (Value.slice d2 (lms ((mulZ y1 x2) / sgG ((mulZ x1 y2)) ((mulZ y1 x2)))).length f2)
  exact ⟨d1, f1, d2, f2, rfl, h1, h2, HAP.out, h3⟩

set_option maxHeartbeats 1600000 in
theorem addRS (x1 y1 x2 y2 : Int) (a1 : Option Addr) (c1 : Nat) (b1 : Option Addr) (e1 : Nat) (a2 : Option Addr) (c2 : Nat) (b2 : Option Addr) (e2 : Nat) (w : World) (m1 : (lms x1).length ≤ 1000) (m2 : (lms y1).length ≤ 1000) (m3 : (lms x2).length ≤ 1000) (m4 : (lms y2).length ≤ 1000)
    (s1 : Seg w a1 (lms x1).length c1 (lms x1)) (t1 : Seg w b1 (lms y1).length e1 (lms y1)) (s2 : Seg w a2 (lms x2).length c2 (lms x2)) (t2 : Seg w b2 (lms y2).length e2 (lms y2)) (hY : (mulZ y1 y2) ≠ 0) :
    Calls Try.prog 28 #[Value.agg #[Value.bool (sgn x1), Value.slice a1 (lms x1).length c1, Value.bool (sgn y1), Value.slice b1 (lms y1).length e1], Value.agg #[Value.bool (sgn x2), Value.slice a2 (lms x2).length c2, Value.bool (sgn y2), Value.slice b2 (lms y2).length e2]] w fun e w' => StAns ((addZ (mulZ x1 y2) (mulZ x2 y1))) ((mulZ y1 y2)) w w' e := by
  have HY := hide hY
  clear hY
  have hm0 : (lms (mulZ x1 y2)).length ≤ 2000 := len_mul (m := 1000) (n := 1000) m1 m4
  have hm1 : (lms (mulZ x2 y1)).length ≤ 2000 := len_mul (m := 1000) (n := 1000) m3 m2
  have hm2 : (lms (mulZ y1 y2)).length ≤ 2000 := len_mul (m := 1000) (n := 1000) m2 m4
  have hm3 : (lms (addZ (mulZ x1 y2) (mulZ x2 y1))).length ≤ 2001 := len_add hm0 hm1
  have ka0 : (((w.alloc (Obj.cells #[Value.bool (sgn x1), Value.slice a1 (lms x1).length c1, Value.bool (sgn y1), Value.slice b1 (lms y1).length e1] 28)).alloc (Obj.cells #[Value.bool (sgn x2), Value.slice a2 (lms x2).length c2, Value.bool (sgn y2), Value.slice b2 (lms y2).length e2] 28)).alloc (Obj.cells #[Value.bool false, Value.slice none 0 0, Value.bool false, Value.slice none 0 0] 28)).cell? ⟨w.heap.size, 0, none⟩ = some (Value.bool (sgn x1)) := by go_simp
  have ka1 : (((w.alloc (Obj.cells #[Value.bool (sgn x1), Value.slice a1 (lms x1).length c1, Value.bool (sgn y1), Value.slice b1 (lms y1).length e1] 28)).alloc (Obj.cells #[Value.bool (sgn x2), Value.slice a2 (lms x2).length c2, Value.bool (sgn y2), Value.slice b2 (lms y2).length e2] 28)).alloc (Obj.cells #[Value.bool false, Value.slice none 0 0, Value.bool false, Value.slice none 0 0] 28)).cell? ⟨w.heap.size, 1, none⟩ = some (Value.slice a1 (lms x1).length c1) := by go_simp
  have ka2 : (((w.alloc (Obj.cells #[Value.bool (sgn x1), Value.slice a1 (lms x1).length c1, Value.bool (sgn y1), Value.slice b1 (lms y1).length e1] 28)).alloc (Obj.cells #[Value.bool (sgn x2), Value.slice a2 (lms x2).length c2, Value.bool (sgn y2), Value.slice b2 (lms y2).length e2] 28)).alloc (Obj.cells #[Value.bool false, Value.slice none 0 0, Value.bool false, Value.slice none 0 0] 28)).cell? ⟨w.heap.size, 2, none⟩ = some (Value.bool (sgn y1)) := by go_simp
  have ka3 : (((w.alloc (Obj.cells #[Value.bool (sgn x1), Value.slice a1 (lms x1).length c1, Value.bool (sgn y1), Value.slice b1 (lms y1).length e1] 28)).alloc (Obj.cells #[Value.bool (sgn x2), Value.slice a2 (lms x2).length c2, Value.bool (sgn y2), Value.slice b2 (lms y2).length e2] 28)).alloc (Obj.cells #[Value.bool false, Value.slice none 0 0, Value.bool false, Value.slice none 0 0] 28)).cell? ⟨w.heap.size, 3, none⟩ = some (Value.slice b1 (lms y1).length e1) := by go_simp
  have kb0 : (((w.alloc (Obj.cells #[Value.bool (sgn x1), Value.slice a1 (lms x1).length c1, Value.bool (sgn y1), Value.slice b1 (lms y1).length e1] 28)).alloc (Obj.cells #[Value.bool (sgn x2), Value.slice a2 (lms x2).length c2, Value.bool (sgn y2), Value.slice b2 (lms y2).length e2] 28)).alloc (Obj.cells #[Value.bool false, Value.slice none 0 0, Value.bool false, Value.slice none 0 0] 28)).cell? ⟨w.heap.size + 1, 0, none⟩ = some (Value.bool (sgn x2)) := by go_simp
  have kb1 : (((w.alloc (Obj.cells #[Value.bool (sgn x1), Value.slice a1 (lms x1).length c1, Value.bool (sgn y1), Value.slice b1 (lms y1).length e1] 28)).alloc (Obj.cells #[Value.bool (sgn x2), Value.slice a2 (lms x2).length c2, Value.bool (sgn y2), Value.slice b2 (lms y2).length e2] 28)).alloc (Obj.cells #[Value.bool false, Value.slice none 0 0, Value.bool false, Value.slice none 0 0] 28)).cell? ⟨w.heap.size + 1, 1, none⟩ = some (Value.slice a2 (lms x2).length c2) := by go_simp
  have kb2 : (((w.alloc (Obj.cells #[Value.bool (sgn x1), Value.slice a1 (lms x1).length c1, Value.bool (sgn y1), Value.slice b1 (lms y1).length e1] 28)).alloc (Obj.cells #[Value.bool (sgn x2), Value.slice a2 (lms x2).length c2, Value.bool (sgn y2), Value.slice b2 (lms y2).length e2] 28)).alloc (Obj.cells #[Value.bool false, Value.slice none 0 0, Value.bool false, Value.slice none 0 0] 28)).cell? ⟨w.heap.size + 1, 2, none⟩ = some (Value.bool (sgn y2)) := by go_simp
  have kb3 : (((w.alloc (Obj.cells #[Value.bool (sgn x1), Value.slice a1 (lms x1).length c1, Value.bool (sgn y1), Value.slice b1 (lms y1).length e1] 28)).alloc (Obj.cells #[Value.bool (sgn x2), Value.slice a2 (lms x2).length c2, Value.bool (sgn y2), Value.slice b2 (lms y2).length e2] 28)).alloc (Obj.cells #[Value.bool false, Value.slice none 0 0, Value.bool false, Value.slice none 0 0] 28)).cell? ⟨w.heap.size + 1, 3, none⟩ = some (Value.slice b2 (lms y2).length e2) := by go_simp
  have kr0 : (((w.alloc (Obj.cells #[Value.bool (sgn x1), Value.slice a1 (lms x1).length c1, Value.bool (sgn y1), Value.slice b1 (lms y1).length e1] 28)).alloc (Obj.cells #[Value.bool (sgn x2), Value.slice a2 (lms x2).length c2, Value.bool (sgn y2), Value.slice b2 (lms y2).length e2] 28)).alloc (Obj.cells #[Value.bool false, Value.slice none 0 0, Value.bool false, Value.slice none 0 0] 28)).cell? ⟨w.heap.size + 1 + 1, 0, none⟩ = some (Value.bool false) := by go_simp
  have fr0 : (((w.alloc (Obj.cells #[Value.bool (sgn x1), Value.slice a1 (lms x1).length c1, Value.bool (sgn y1), Value.slice b1 (lms y1).length e1] 28)).alloc (Obj.cells #[Value.bool (sgn x2), Value.slice a2 (lms x2).length c2, Value.bool (sgn y2), Value.slice b2 (lms y2).length e2] 28)).alloc (Obj.cells #[Value.bool false, Value.slice none 0 0, Value.bool false, Value.slice none 0 0] 28)).frozen? ⟨w.heap.size + 1 + 1, 0, none⟩ = false := by go_simp
  have kr1 : (((w.alloc (Obj.cells #[Value.bool (sgn x1), Value.slice a1 (lms x1).length c1, Value.bool (sgn y1), Value.slice b1 (lms y1).length e1] 28)).alloc (Obj.cells #[Value.bool (sgn x2), Value.slice a2 (lms x2).length c2, Value.bool (sgn y2), Value.slice b2 (lms y2).length e2] 28)).alloc (Obj.cells #[Value.bool false, Value.slice none 0 0, Value.bool false, Value.slice none 0 0] 28)).cell? ⟨w.heap.size + 1 + 1, 1, none⟩ = some (Value.slice none 0 0) := by go_simp
  have fr1 : (((w.alloc (Obj.cells #[Value.bool (sgn x1), Value.slice a1 (lms x1).length c1, Value.bool (sgn y1), Value.slice b1 (lms y1).length e1] 28)).alloc (Obj.cells #[Value.bool (sgn x2), Value.slice a2 (lms x2).length c2, Value.bool (sgn y2), Value.slice b2 (lms y2).length e2] 28)).alloc (Obj.cells #[Value.bool false, Value.slice none 0 0, Value.bool false, Value.slice none 0 0] 28)).frozen? ⟨w.heap.size + 1 + 1, 1, none⟩ = false := by go_simp
  have kr2 : (((w.alloc (Obj.cells #[Value.bool (sgn x1), Value.slice a1 (lms x1).length c1, Value.bool (sgn y1), Value.slice b1 (lms y1).length e1] 28)).alloc (Obj.cells #[Value.bool (sgn x2), Value.slice a2 (lms x2).length c2, Value.bool (sgn y2), Value.slice b2 (lms y2).length e2] 28)).alloc (Obj.cells #[Value.bool false, Value.slice none 0 0, Value.bool false, Value.slice none 0 0] 28)).cell? ⟨w.heap.size + 1 + 1, 2, none⟩ = some (Value.bool false) := by go_simp
  have fr2 : (((w.alloc (Obj.cells #[Value.bool (sgn x1), Value.slice a1 (lms x1).length c1, Value.bool (sgn y1), Value.slice b1 (lms y1).length e1] 28)).alloc (Obj.cells #[Value.bool (sgn x2), Value.slice a2 (lms x2).length c2, Value.bool (sgn y2), Value.slice b2 (lms y2).length e2] 28)).alloc (Obj.cells #[Value.bool false, Value.slice none 0 0, Value.bool false, Value.slice none 0 0] 28)).frozen? ⟨w.heap.size + 1 + 1, 2, none⟩ = false := by go_simp
  have kr3 : (((w.alloc (Obj.cells #[Value.bool (sgn x1), Value.slice a1 (lms x1).length c1, Value.bool (sgn y1), Value.slice b1 (lms y1).length e1] 28)).alloc (Obj.cells #[Value.bool (sgn x2), Value.slice a2 (lms x2).length c2, Value.bool (sgn y2), Value.slice b2 (lms y2).length e2] 28)).alloc (Obj.cells #[Value.bool false, Value.slice none 0 0, Value.bool false, Value.slice none 0 0] 28)).cell? ⟨w.heap.size + 1 + 1, 3, none⟩ = some (Value.slice none 0 0) := by go_simp
  have fr3 : (((w.alloc (Obj.cells #[Value.bool (sgn x1), Value.slice a1 (lms x1).length c1, Value.bool (sgn y1), Value.slice b1 (lms y1).length e1] 28)).alloc (Obj.cells #[Value.bool (sgn x2), Value.slice a2 (lms x2).length c2, Value.bool (sgn y2), Value.slice b2 (lms y2).length e2] 28)).alloc (Obj.cells #[Value.bool false, Value.slice none 0 0, Value.bool false, Value.slice none 0 0] 28)).frozen? ⟨w.heap.size + 1 + 1, 3, none⟩ = false := by go_simp
  have zr : w.heap.size + 1 + 1 < (((w.alloc (Obj.cells #[Value.bool (sgn x1), Value.slice a1 (lms x1).length c1, Value.bool (sgn y1), Value.slice b1 (lms y1).length e1] 28)).alloc (Obj.cells #[Value.bool (sgn x2), Value.slice a2 (lms x2).length c2, Value.bool (sgn y2), Value.slice b2 (lms y2).length e2] 28)).alloc (Obj.cells #[Value.bool false, Value.slice none 0 0, Value.bool false, Value.slice none 0 0] 28)).heap.size := by simp only [World.size_alloc]; omega
  have HB := hide (bl_alloc (bl_alloc (bl_alloc (bl_refl w) (Obj.cells #[Value.bool (sgn x1), Value.slice a1 (lms x1).length c1, Value.bool (sgn y1), Value.slice b1 (lms y1).length e1] 28)) (Obj.cells #[Value.bool (sgn x2), Value.slice a2 (lms x2).length c2, Value.bool (sgn y2), Value.slice b2 (lms y2).length e2] 28)) (Obj.cells #[Value.bool false, Value.slice none 0 0, Value.bool false, Value.slice none 0 0] 28))
  have S1 := hide (s1.below HB.out)
  have T1 := hide (t1.below HB.out)
  have S2 := hide (s2.below HB.out)
  have T2 := hide (t2.below HB.out)
  clear s1
  clear t1
  clear s2
  clear t2
  go_enter Try.func28, Try.ntmps28
  go_wp2_with fail
  generalize (((w.alloc (Obj.cells #[Value.bool (sgn x1), Value.slice a1 (lms x1).length c1, Value.bool (sgn y1), Value.slice b1 (lms y1).length e1] 28)).alloc (Obj.cells #[Value.bool (sgn x2), Value.slice a2 (lms x2).length c2, Value.bool (sgn y2), Value.slice b2 (lms y2).length e2] 28)).alloc (Obj.cells #[Value.bool false, Value.slice none 0 0, Value.bool false, Value.slice none 0 0] 28)) = w1 at *
  have z0 := zr
  have KP : Hid (∀ w', Below w1.heap.size w1 w' → (w'.cell? ⟨w.heap.size, 0, none⟩ = some (Value.bool (sgn x1)) ∧ w'.cell? ⟨w.heap.size, 1, none⟩ = some (Value.slice a1 (lms x1).length c1) ∧ w'.cell? ⟨w.heap.size, 2, none⟩ = some (Value.bool (sgn y1)) ∧ w'.cell? ⟨w.heap.size, 3, none⟩ = some (Value.slice b1 (lms y1).length e1) ∧ w'.cell? ⟨w.heap.size + 1, 0, none⟩ = some (Value.bool (sgn x2)) ∧ w'.cell? ⟨w.heap.size + 1, 1, none⟩ = some (Value.slice a2 (lms x2).length c2) ∧ w'.cell? ⟨w.heap.size + 1, 2, none⟩ = some (Value.bool (sgn y2)) ∧ w'.cell? ⟨w.heap.size + 1, 3, none⟩ = some (Value.slice b2 (lms y2).length e2))) := hide (fun w' hb => ⟨(hb.cell (p := ⟨w.heap.size, 0, none⟩) (by dsimp only; omega)).trans ka0, (hb.cell (p := ⟨w.heap.size, 1, none⟩) (by dsimp only; omega)).trans ka1, (hb.cell (p := ⟨w.heap.size, 2, none⟩) (by dsimp only; omega)).trans ka2, (hb.cell (p := ⟨w.heap.size, 3, none⟩) (by dsimp only; omega)).trans ka3, (hb.cell (p := ⟨w.heap.size + 1, 0, none⟩) (by dsimp only; omega)).trans kb0, (hb.cell (p := ⟨w.heap.size + 1, 1, none⟩) (by dsimp only; omega)).trans kb1, (hb.cell (p := ⟨w.heap.size + 1, 2, none⟩) (by dsimp only; omega)).trans kb2, (hb.cell (p := ⟨w.heap.size + 1, 3, none⟩) (by dsimp only; omega)).trans kb3⟩)
  have KP4 : Hid (∀ w', Below w1.heap.size w1 w' → ∀ x y z t, (((((w'.setCell ⟨w.heap.size + 1 + 1, 0, none⟩ x).setCell ⟨w.heap.size + 1 + 1, 1, none⟩ y).setCell ⟨w.heap.size + 1 + 1, 2, none⟩ z).setCell ⟨w.heap.size + 1 + 1, 3, none⟩ t).cell? ⟨w.heap.size, 0, none⟩ = some (Value.bool (sgn x1)) ∧ ((((w'.setCell ⟨w.heap.size + 1 + 1, 0, none⟩ x).setCell ⟨w.heap.size + 1 + 1, 1, none⟩ y).setCell ⟨w.heap.size + 1 + 1, 2, none⟩ z).setCell ⟨w.heap.size + 1 + 1, 3, none⟩ t).cell? ⟨w.heap.size, 1, none⟩ = some (Value.slice a1 (lms x1).length c1) ∧ ((((w'.setCell ⟨w.heap.size + 1 + 1, 0, none⟩ x).setCell ⟨w.heap.size + 1 + 1, 1, none⟩ y).setCell ⟨w.heap.size + 1 + 1, 2, none⟩ z).setCell ⟨w.heap.size + 1 + 1, 3, none⟩ t).cell? ⟨w.heap.size, 2, none⟩ = some (Value.bool (sgn y1)) ∧ ((((w'.setCell ⟨w.heap.size + 1 + 1, 0, none⟩ x).setCell ⟨w.heap.size + 1 + 1, 1, none⟩ y).setCell ⟨w.heap.size + 1 + 1, 2, none⟩ z).setCell ⟨w.heap.size + 1 + 1, 3, none⟩ t).cell? ⟨w.heap.size, 3, none⟩ = some (Value.slice b1 (lms y1).length e1) ∧ ((((w'.setCell ⟨w.heap.size + 1 + 1, 0, none⟩ x).setCell ⟨w.heap.size + 1 + 1, 1, none⟩ y).setCell ⟨w.heap.size + 1 + 1, 2, none⟩ z).setCell ⟨w.heap.size + 1 + 1, 3, none⟩ t).cell? ⟨w.heap.size + 1, 0, none⟩ = some (Value.bool (sgn x2)) ∧ ((((w'.setCell ⟨w.heap.size + 1 + 1, 0, none⟩ x).setCell ⟨w.heap.size + 1 + 1, 1, none⟩ y).setCell ⟨w.heap.size + 1 + 1, 2, none⟩ z).setCell ⟨w.heap.size + 1 + 1, 3, none⟩ t).cell? ⟨w.heap.size + 1, 1, none⟩ = some (Value.slice a2 (lms x2).length c2) ∧ ((((w'.setCell ⟨w.heap.size + 1 + 1, 0, none⟩ x).setCell ⟨w.heap.size + 1 + 1, 1, none⟩ y).setCell ⟨w.heap.size + 1 + 1, 2, none⟩ z).setCell ⟨w.heap.size + 1 + 1, 3, none⟩ t).cell? ⟨w.heap.size + 1, 2, none⟩ = some (Value.bool (sgn y2)) ∧ ((((w'.setCell ⟨w.heap.size + 1 + 1, 0, none⟩ x).setCell ⟨w.heap.size + 1 + 1, 1, none⟩ y).setCell ⟨w.heap.size + 1 + 1, 2, none⟩ z).setCell ⟨w.heap.size + 1 + 1, 3, none⟩ t).cell? ⟨w.heap.size + 1, 3, none⟩ = some (Value.slice b2 (lms y2).length e2))) := hide (fun w' hb x y z t => ⟨(cell_four (p := ⟨w.heap.size, 0, none⟩) (by dsimp only; omega)).trans ((hb.cell (p := ⟨w.heap.size, 0, none⟩) (by dsimp only; omega)).trans ka0), (cell_four (p := ⟨w.heap.size, 1, none⟩) (by dsimp only; omega)).trans ((hb.cell (p := ⟨w.heap.size, 1, none⟩) (by dsimp only; omega)).trans ka1), (cell_four (p := ⟨w.heap.size, 2, none⟩) (by dsimp only; omega)).trans ((hb.cell (p := ⟨w.heap.size, 2, none⟩) (by dsimp only; omega)).trans ka2), (cell_four (p := ⟨w.heap.size, 3, none⟩) (by dsimp only; omega)).trans ((hb.cell (p := ⟨w.heap.size, 3, none⟩) (by dsimp only; omega)).trans ka3), (cell_four (p := ⟨w.heap.size + 1, 0, none⟩) (by dsimp only; omega)).trans ((hb.cell (p := ⟨w.heap.size + 1, 0, none⟩) (by dsimp only; omega)).trans kb0), (cell_four (p := ⟨w.heap.size + 1, 1, none⟩) (by dsimp only; omega)).trans ((hb.cell (p := ⟨w.heap.size + 1, 1, none⟩) (by dsimp only; omega)).trans kb1), (cell_four (p := ⟨w.heap.size + 1, 2, none⟩) (by dsimp only; omega)).trans ((hb.cell (p := ⟨w.heap.size + 1, 2, none⟩) (by dsimp only; omega)).trans kb2), (cell_four (p := ⟨w.heap.size + 1, 3, none⟩) (by dsimp only; omega)).trans ((hb.cell (p := ⟨w.heap.size + 1, 3, none⟩) (by dsimp only; omega)).trans kb3)⟩)
  go_region_held3 (fun w' => w'.cell? ⟨w.heap.size, 0, none⟩ = some (Value.bool (sgn x1)) ∧ w'.cell? ⟨w.heap.size, 1, none⟩ = some (Value.slice a1 (lms x1).length c1) ∧ w'.cell? ⟨w.heap.size, 2, none⟩ = some (Value.bool (sgn y1)) ∧ w'.cell? ⟨w.heap.size, 3, none⟩ = some (Value.slice b1 (lms y1).length e1) ∧ w'.cell? ⟨w.heap.size + 1, 0, none⟩ = some (Value.bool (sgn x2)) ∧ w'.cell? ⟨w.heap.size + 1, 1, none⟩ = some (Value.slice a2 (lms x2).length c2) ∧ w'.cell? ⟨w.heap.size + 1, 2, none⟩ = some (Value.bool (sgn y2)) ∧ w'.cell? ⟨w.heap.size + 1, 3, none⟩ = some (Value.slice b2 (lms y2).length e2))
    (first | with_reducible exact KP.out _ (bl_refl w1).drew | with_reducible exact KP4.out _ hbE _ _ _ _ | with_reducible exact KP.out _ hbE | with_reducible exact KP.out _ hbD | with_reducible exact KP.out _ hbC | with_reducible exact KP.out _ hbB | with_reducible exact KP.out _ hbA)
    (first
      | (have hq := hbD; go_at_call 53; refine (makeR (addZ (mulZ x1 y2) (mulZ x2 y1)) (mulZ y1 y2) uC vC uD vD _ ((hoC.seg).below hbDr) (hoD.seg) HY.out (by omega) (by omega)).mono ?_; rintro e wE ⟨d1, f1, d2, f2, rfl, ho1, ho2, hap, hbEr⟩; have hbE : Below w1.heap.size w1 wE := bl_trans hbD hbEr; have qE := hbE.size; have qEr := hbD.size; have kr0 := (hbE.cell (p := ⟨w.heap.size + 1 + 1, 0, none⟩) (by dsimp only; omega)).trans kr0; have fr0 := (hbE.frozen (p := ⟨w.heap.size + 1 + 1, 0, none⟩) (by dsimp only; omega)).trans fr0; have kr1 := (hbE.cell (p := ⟨w.heap.size + 1 + 1, 1, none⟩) (by dsimp only; omega)).trans kr1; have fr1 := (hbE.frozen (p := ⟨w.heap.size + 1 + 1, 1, none⟩) (by dsimp only; omega)).trans fr1; have kr2 := (hbE.cell (p := ⟨w.heap.size + 1 + 1, 2, none⟩) (by dsimp only; omega)).trans kr2; have fr2 := (hbE.frozen (p := ⟨w.heap.size + 1 + 1, 2, none⟩) (by dsimp only; omega)).trans fr2; have kr3 := (hbE.cell (p := ⟨w.heap.size + 1 + 1, 3, none⟩) (by dsimp only; omega)).trans kr3; have fr3 := (hbE.frozen (p := ⟨w.heap.size + 1 + 1, 3, none⟩) (by dsimp only; omega)).trans fr3; have HO1 := hide ho1; have HO2 := hide ho2; have HAP := hide hap; clear ho1 ho2 hap; clear hq)
      | (have hq := hbC; go_at_call 48; refine (mulL _ _ y1 y2 _ ⟨b1, e1, rfl, T1.out.below hbC⟩ ⟨b2, e2, rfl, T2.out.below hbC⟩ (by omega) (by omega)).mono ?_; rintro e wD ⟨_, rfl, ⟨uD, vD, rfl, hoD⟩, hbDr⟩; have hbD : Below w1.heap.size w1 wD := bl_trans hbC hbDr; clear hq)
      | (have hq := hbB; go_at_call 54; refine (addL _ _ (mulZ x1 y2) (mulZ x2 y1) _ ⟨uA, vA, rfl, (hoA.seg).below hbBr⟩ ⟨uB, vB, rfl, hoB.seg⟩ (by omega) (by omega)).mono ?_; rintro e wC ⟨_, rfl, ⟨uC, vC, rfl, hoC⟩, hbCr⟩; have hbC : Below w1.heap.size w1 wC := bl_trans hbB hbCr; clear hq)
      | (have hq := hbA; go_at_call 48; refine (mulL _ _ x2 y1 _ ⟨a2, c2, rfl, S2.out.below hbA⟩ ⟨b1, e1, rfl, T1.out.below hbA⟩ (by omega) (by omega)).mono ?_; rintro e wB ⟨_, rfl, ⟨uB, vB, rfl, hoB⟩, hbBr⟩; have hbB : Below w1.heap.size w1 wB := bl_trans hbA hbBr; clear hq)
      | (go_at_call 48; refine (mulL _ _ x1 y2 _ ⟨a1, c1, rfl, S1.out.below (bl_refl w1).drew⟩ ⟨b2, e2, rfl, T2.out.below (bl_refl w1).drew⟩ (by omega) (by omega)).mono ?_; rintro e wA ⟨_, rfl, ⟨uA, vA, rfl, hoA⟩, hbAr⟩; have hbA : Below w1.heap.size w1 wA := (bl_refl w1).drew.trans hbAr))
  replace HB := hide (bl_trans HB.out hbE)
  clear KP KP4 hbA hbAr hbB hbBr hbC hbCr hbD hbDr hbE hbEr hoA hoB hoC hoD
  go_wp2
  refine bodyPost_ret (v := (Value.agg #[Value.bool (sgn ((addZ (mulZ x1 y2) (mulZ x2 y1)) / sgG ((addZ (mulZ x1 y2) (mulZ x2 y1))) ((mulZ y1 y2)))), Value.slice d1 (lms ((addZ (mulZ x1 y2) (mulZ x2 y1)) / sgG ((addZ (mulZ x1 y2) (mulZ x2 y1))) ((mulZ y1 y2)))).length f1, Value.bool (sgn ((mulZ y1 y2) / sgG ((addZ (mulZ x1 y2) (mulZ x2 y1))) ((mulZ y1 y2)))), Value.slice d2 (lms ((mulZ y1 y2) / sgG ((addZ (mulZ x1 y2) (mulZ x2 y1))) ((mulZ y1 y2)))).length f2])) (by simp [results, Try.results28, go_sem, kr0, kr1, kr2, kr3]) rfl ?_
  obtain ⟨h1, h2, h3⟩ := fin_four (N := w.heap.size + 1 + 1) HO1.out HO2.out (by omega) (by omega) (by omega) HB.out (Value.bool (sgn ((addZ (mulZ x1 y2) (mulZ x2 y1)) / sgG ((addZ (mulZ x1 y2) (mulZ x2 y1))) ((mulZ y1 y2))))) (Value.slice d1 (lms ((addZ (mulZ x1 y2) (mulZ x2 y1)) / sgG ((addZ (mulZ x1 y2) (mulZ x2 y1))) ((mulZ y1 y2)))).length f1) (Value.bool (sgn ((mulZ y1 y2) / sgG ((addZ (mulZ x1 y2) (mulZ x2 y1))) ((mulZ y1 y2))))) (Value.slice d2 (lms ((mulZ y1 y2) / sgG ((addZ (mulZ x1 y2) (mulZ x2 y1))) ((mulZ y1 y2)))).length f2)
  exact ⟨d1, f1, d2, f2, rfl, h1, h2, HAP.out, h3⟩


end Go.Proofs.Ytpjckilmbidbgaa

/- Turning a fraction's sign, turning a fraction, and what that means for differences and quotients. -/
namespace Go.Proofs.Ytpjckilmbidbgaa
open Go.RowKit
set_option linter.unusedVariables false

theorem fitS_t (p q : Int) (a : Option Addr) (c : Nat) (b : Option Addr) (d : Nat) (w : World) (s1 : Seg w a (lms p).length c (lms p)) (s2 : Seg w b (lms q).length d (lms q)) (h : ftT p q = true) :
    Calls Try.prog 27 #[.agg #[.bool (sgn p), .slice a (lms p).length c, .bool (sgn q), .slice b (lms q).length d]] w fun e w' => e = .returned (.tuple #[.agg #[.bool (sgn p), .slice a (lms p).length c, .bool (sgn q), .slice b (lms q).length d], .bool true]) ∧ Below w.heap.size w w' := by
  have := fitS p q a c b d w s1 s2
  rw [ftV_t h, h] at this
  exact this
theorem fitS_f (p q : Int) (a : Option Addr) (c : Nat) (b : Option Addr) (d : Nat) (w : World) (s1 : Seg w a (lms p).length c (lms p)) (s2 : Seg w b (lms q).length d (lms q)) (h : ftT p q = false) :
    Calls Try.prog 27 #[.agg #[.bool (sgn p), .slice a (lms p).length c, .bool (sgn q), .slice b (lms q).length d]] w fun e w' => e = .returned (.tuple #[.agg #[.bool false, .slice none 0 0, .bool false, .slice none 0 0], .bool false]) ∧ Below w.heap.size w w' := by
  have := fitS p q a c b d w s1 s2
  rw [ftV_f h, h] at this
  exact this
theorem sub_neg (x1 y1 x2 y2 : Int) : addZ (mulZ x1 y2) (mulZ (-x2) y1) = subZ (mulZ x1 y2) (mulZ x2 y1) := by
  unfold addZ subZ mulZ; rw [Int.neg_mul]; omega
theorem sgG_dvd (x y : Int) : sgG x y ∣ x ∧ sgG x y ∣ y := by
  unfold sgG; split
  · exact ⟨Int.neg_dvd.2 (Int.gcd_dvd_left ..), Int.neg_dvd.2 (Int.gcd_dvd_right ..)⟩
  · exact ⟨Int.gcd_dvd_left .., Int.gcd_dvd_right ..⟩
theorem sgG_neg {x y : Int} (hy : y ≠ 0) : sgG (-x) (-y) = -sgG x y := by
  unfold sgG; rw [Int.neg_gcd, Int.gcd_neg]
  by_cases h : y < 0
  · rw [if_neg (by omega), if_pos h]; omega
  · rw [if_pos (by omega), if_neg h]
theorem div_neg_neg {x g : Int} (h : g ∣ x) : -x / -g = x / g := by
  rw [Int.ediv_neg, Int.neg_ediv_of_dvd h, Int.neg_neg]
theorem turn_one {x y : Int} (hg : Int.gcd x y = 1) (hx : x ≠ 0) : (y / sgG y x = y ∧ x / sgG y x = x) ∨ (y / sgG y x = -y ∧ x / sgG y x = -x) := by
  have : Int.gcd y x = 1 := by rw [Int.gcd_comm]; exact hg
  unfold sgG; rw [this]
  by_cases h : x < 0
  · right; rw [if_pos h]; constructor <;> simp
  · left; rw [if_neg h]; constructor <;> simp
theorem ans_quo {x1 y1 x2 y2 : Int} (hg : Int.gcd x2 y2 = 1) (hx : x2 ≠ 0) (hY : mulZ y1 x2 ≠ 0) {w w' : World} {e : Ending} (h : StAns (mulZ x1 (y2 / sgG y2 x2)) (mulZ y1 (x2 / sgG y2 x2)) w w' e) : StAns (mulZ x1 y2) (mulZ y1 x2) w w' e := by
  rcases turn_one hg hx with ⟨h1, h2⟩ | ⟨h1, h2⟩
  · rw [h1, h2] at h; exact h
  · rw [h1, h2] at h
    have e1 : mulZ x1 (-y2) = -mulZ x1 y2 := by unfold mulZ; rw [Int.mul_neg]
    have e2 : mulZ y1 (-x2) = -mulZ y1 x2 := by unfold mulZ; rw [Int.mul_neg]
    rw [e1, e2] at h
    unfold StAns at *
    rw [sgG_neg hY, div_neg_neg (sgG_dvd _ _).1, div_neg_neg (sgG_dvd _ _).2] at h
    exact h
theorem len_turn {x y : Int} (hg : Int.gcd x y = 1) (hx : x ≠ 0) : lms (y / sgG y x) = lms y ∧ lms (x / sgG y x) = lms x := by
  rcases turn_one hg hx with ⟨h1, h2⟩ | ⟨h1, h2⟩ <;> rw [h1, h2] <;> unfold lms <;> simp
theorem subRS (x1 y1 x2 y2 : Int) (a1 : Option Addr) (c1 : Nat) (b1 : Option Addr) (e1 : Nat) (a2 : Option Addr) (c2 : Nat) (b2 : Option Addr) (e2 : Nat) (w : World) (m1 : (lms x1).length ≤ 1000) (m2 : (lms y1).length ≤ 1000) (m3 : (lms x2).length ≤ 1000) (m4 : (lms y2).length ≤ 1000)
    (s1 : Seg w a1 (lms x1).length c1 (lms x1)) (t1 : Seg w b1 (lms y1).length e1 (lms y1)) (s2 : Seg w a2 (lms (-x2)).length c2 (lms (-x2))) (t2 : Seg w b2 (lms y2).length e2 (lms y2)) (hY : mulZ y1 y2 ≠ 0) :
    Calls Try.prog 28 #[Value.agg #[Value.bool (sgn x1), Value.slice a1 (lms x1).length c1, Value.bool (sgn y1), Value.slice b1 (lms y1).length e1], Value.agg #[Value.bool (sgn (-x2)), Value.slice a2 (lms (-x2)).length c2, Value.bool (sgn y2), Value.slice b2 (lms y2).length e2]] w fun e w' => StAns (subZ (mulZ x1 y2) (mulZ x2 y1)) (mulZ y1 y2) w w' e := by
  have := addRS x1 y1 (-x2) y2 a1 c1 b1 e1 a2 c2 b2 e2 w m1 m2 (by rw [neg_len]; exact m3) m4 s1 t1 s2 t2 hY
  rw [sub_neg] at this
  exact this
theorem quoRS (x1 y1 x2 y2 : Int) (a1 : Option Addr) (c1 : Nat) (b1 : Option Addr) (e1 : Nat) (a2 : Option Addr) (c2 : Nat) (b2 : Option Addr) (e2 : Nat) (w : World) (m1 : (lms x1).length ≤ 1000) (m2 : (lms y1).length ≤ 1000) (m3 : (lms x2).length ≤ 1000) (m4 : (lms y2).length ≤ 1000)
    (s1 : Seg w a1 (lms x1).length c1 (lms x1)) (t1 : Seg w b1 (lms y1).length e1 (lms y1)) (s2 : Seg w a2 (lms (y2 / sgG y2 x2)).length c2 (lms (y2 / sgG y2 x2))) (t2 : Seg w b2 (lms (x2 / sgG y2 x2)).length e2 (lms (x2 / sgG y2 x2))) (hg : Int.gcd x2 y2 = 1) (hx : x2 ≠ 0) (hY : mulZ y1 x2 ≠ 0) :
    Calls Try.prog 29 #[Value.agg #[Value.bool (sgn x1), Value.slice a1 (lms x1).length c1, Value.bool (sgn y1), Value.slice b1 (lms y1).length e1], Value.agg #[Value.bool (sgn (y2 / sgG y2 x2)), Value.slice a2 (lms (y2 / sgG y2 x2)).length c2, Value.bool (sgn (x2 / sgG y2 x2)), Value.slice b2 (lms (x2 / sgG y2 x2)).length e2]] w fun e w' => StAns (mulZ x1 y2) (mulZ y1 x2) w w' e :=
  (mulRS x1 y1 (y2 / sgG y2 x2) (x2 / sgG y2 x2) a1 c1 b1 e1 a2 c2 b2 e2 w m1 m2 (by rw [(len_turn hg hx).1]; exact m4) (by rw [(len_turn hg hx).2]; exact m3) s1 t1 s2 t2 (by
    rcases turn_one hg hx with ⟨h1, h2⟩ | ⟨h1, h2⟩ <;> rw [h2]
    · exact hY
    · unfold mulZ at *; rw [Int.mul_neg]; omega)).mono fun e w' h => ans_quo hg hx hY h

set_option maxHeartbeats 800000 in
theorem turnRS (x y : Int) (a : Option Addr) (c : Nat) (b : Option Addr) (d : Nat) (w : World) (m1 : (lms x).length ≤ 1000) (m2 : (lms y).length ≤ 1000) (s1 : Seg w a (lms x).length c (lms x)) (s2 : Seg w b (lms y).length d (lms y)) (hx : x ≠ 0) :
    Calls Try.prog 30 #[Value.agg #[Value.bool (sgn x), Value.slice a (lms x).length c, Value.bool (sgn y), Value.slice b (lms y).length d]] w fun e w' => StAns y x w w' e := by
  have HX := hide hx
  clear hx
  have ka0 : ((w.alloc (Obj.cells #[Value.bool (sgn x), Value.slice a (lms x).length c, Value.bool (sgn y), Value.slice b (lms y).length d] 28)).alloc (Obj.cells #[Value.bool false, Value.slice none 0 0, Value.bool false, Value.slice none 0 0] 28)).cell? ⟨w.heap.size, 0, none⟩ = some (Value.bool (sgn x)) := by go_simp
  have ka1 : ((w.alloc (Obj.cells #[Value.bool (sgn x), Value.slice a (lms x).length c, Value.bool (sgn y), Value.slice b (lms y).length d] 28)).alloc (Obj.cells #[Value.bool false, Value.slice none 0 0, Value.bool false, Value.slice none 0 0] 28)).cell? ⟨w.heap.size, 1, none⟩ = some (Value.slice a (lms x).length c) := by go_simp
  have ka2 : ((w.alloc (Obj.cells #[Value.bool (sgn x), Value.slice a (lms x).length c, Value.bool (sgn y), Value.slice b (lms y).length d] 28)).alloc (Obj.cells #[Value.bool false, Value.slice none 0 0, Value.bool false, Value.slice none 0 0] 28)).cell? ⟨w.heap.size, 2, none⟩ = some (Value.bool (sgn y)) := by go_simp
  have ka3 : ((w.alloc (Obj.cells #[Value.bool (sgn x), Value.slice a (lms x).length c, Value.bool (sgn y), Value.slice b (lms y).length d] 28)).alloc (Obj.cells #[Value.bool false, Value.slice none 0 0, Value.bool false, Value.slice none 0 0] 28)).cell? ⟨w.heap.size, 3, none⟩ = some (Value.slice b (lms y).length d) := by go_simp
  have kr0 : ((w.alloc (Obj.cells #[Value.bool (sgn x), Value.slice a (lms x).length c, Value.bool (sgn y), Value.slice b (lms y).length d] 28)).alloc (Obj.cells #[Value.bool false, Value.slice none 0 0, Value.bool false, Value.slice none 0 0] 28)).cell? ⟨w.heap.size + 1, 0, none⟩ = some (Value.bool false) := by go_simp
  have fr0 : ((w.alloc (Obj.cells #[Value.bool (sgn x), Value.slice a (lms x).length c, Value.bool (sgn y), Value.slice b (lms y).length d] 28)).alloc (Obj.cells #[Value.bool false, Value.slice none 0 0, Value.bool false, Value.slice none 0 0] 28)).frozen? ⟨w.heap.size + 1, 0, none⟩ = false := by go_simp
  have kr1 : ((w.alloc (Obj.cells #[Value.bool (sgn x), Value.slice a (lms x).length c, Value.bool (sgn y), Value.slice b (lms y).length d] 28)).alloc (Obj.cells #[Value.bool false, Value.slice none 0 0, Value.bool false, Value.slice none 0 0] 28)).cell? ⟨w.heap.size + 1, 1, none⟩ = some (Value.slice none 0 0) := by go_simp
  have fr1 : ((w.alloc (Obj.cells #[Value.bool (sgn x), Value.slice a (lms x).length c, Value.bool (sgn y), Value.slice b (lms y).length d] 28)).alloc (Obj.cells #[Value.bool false, Value.slice none 0 0, Value.bool false, Value.slice none 0 0] 28)).frozen? ⟨w.heap.size + 1, 1, none⟩ = false := by go_simp
  have kr2 : ((w.alloc (Obj.cells #[Value.bool (sgn x), Value.slice a (lms x).length c, Value.bool (sgn y), Value.slice b (lms y).length d] 28)).alloc (Obj.cells #[Value.bool false, Value.slice none 0 0, Value.bool false, Value.slice none 0 0] 28)).cell? ⟨w.heap.size + 1, 2, none⟩ = some (Value.bool false) := by go_simp
  have fr2 : ((w.alloc (Obj.cells #[Value.bool (sgn x), Value.slice a (lms x).length c, Value.bool (sgn y), Value.slice b (lms y).length d] 28)).alloc (Obj.cells #[Value.bool false, Value.slice none 0 0, Value.bool false, Value.slice none 0 0] 28)).frozen? ⟨w.heap.size + 1, 2, none⟩ = false := by go_simp
  have kr3 : ((w.alloc (Obj.cells #[Value.bool (sgn x), Value.slice a (lms x).length c, Value.bool (sgn y), Value.slice b (lms y).length d] 28)).alloc (Obj.cells #[Value.bool false, Value.slice none 0 0, Value.bool false, Value.slice none 0 0] 28)).cell? ⟨w.heap.size + 1, 3, none⟩ = some (Value.slice none 0 0) := by go_simp
  have fr3 : ((w.alloc (Obj.cells #[Value.bool (sgn x), Value.slice a (lms x).length c, Value.bool (sgn y), Value.slice b (lms y).length d] 28)).alloc (Obj.cells #[Value.bool false, Value.slice none 0 0, Value.bool false, Value.slice none 0 0] 28)).frozen? ⟨w.heap.size + 1, 3, none⟩ = false := by go_simp
  have zr : w.heap.size + 1 < ((w.alloc (Obj.cells #[Value.bool (sgn x), Value.slice a (lms x).length c, Value.bool (sgn y), Value.slice b (lms y).length d] 28)).alloc (Obj.cells #[Value.bool false, Value.slice none 0 0, Value.bool false, Value.slice none 0 0] 28)).heap.size := by simp only [World.size_alloc]; omega
  have HB := hide (bl_alloc (bl_alloc (bl_refl w) (Obj.cells #[Value.bool (sgn x), Value.slice a (lms x).length c, Value.bool (sgn y), Value.slice b (lms y).length d] 28)) (Obj.cells #[Value.bool false, Value.slice none 0 0, Value.bool false, Value.slice none 0 0] 28))
  have S1 := hide (s1.below HB.out)
  have S2 := hide (s2.below HB.out)
  clear s1
  clear s2
  go_enter Try.func30, Try.ntmps30
  go_wp2_with fail
  generalize ((w.alloc (Obj.cells #[Value.bool (sgn x), Value.slice a (lms x).length c, Value.bool (sgn y), Value.slice b (lms y).length d] 28)).alloc (Obj.cells #[Value.bool false, Value.slice none 0 0, Value.bool false, Value.slice none 0 0] 28)) = w1 at *
  have z0 := zr
  refine (makeR y x b d a c _ S2.out S1.out HX.out (by omega) (by omega)).mono ?_
  rintro e w2 ⟨d1, f1, d2, f2, rfl, ho1, ho2, hap, hb⟩
  have yw2 := hb.size
  replace ka0 := (hb.cell (p := ⟨w.heap.size, 0, none⟩) (by dsimp only; omega)).trans ka0
  replace ka1 := (hb.cell (p := ⟨w.heap.size, 1, none⟩) (by dsimp only; omega)).trans ka1
  replace ka2 := (hb.cell (p := ⟨w.heap.size, 2, none⟩) (by dsimp only; omega)).trans ka2
  replace ka3 := (hb.cell (p := ⟨w.heap.size, 3, none⟩) (by dsimp only; omega)).trans ka3
  replace kr0 := (hb.cell (p := ⟨w.heap.size + 1, 0, none⟩) (by dsimp only; omega)).trans kr0
  replace fr0 := (hb.frozen (p := ⟨w.heap.size + 1, 0, none⟩) (by dsimp only; omega)).trans fr0
  replace kr1 := (hb.cell (p := ⟨w.heap.size + 1, 1, none⟩) (by dsimp only; omega)).trans kr1
  replace fr1 := (hb.frozen (p := ⟨w.heap.size + 1, 1, none⟩) (by dsimp only; omega)).trans fr1
  replace kr2 := (hb.cell (p := ⟨w.heap.size + 1, 2, none⟩) (by dsimp only; omega)).trans kr2
  replace fr2 := (hb.frozen (p := ⟨w.heap.size + 1, 2, none⟩) (by dsimp only; omega)).trans fr2
  replace kr3 := (hb.cell (p := ⟨w.heap.size + 1, 3, none⟩) (by dsimp only; omega)).trans kr3
  replace fr3 := (hb.frozen (p := ⟨w.heap.size + 1, 3, none⟩) (by dsimp only; omega)).trans fr3
  replace S1 := hide (S1.out.below hb)
  replace S2 := hide (S2.out.below hb)
  replace zr := Nat.lt_of_lt_of_le zr hb.size
  replace HB := hide (bl_trans HB.out hb)
  clear hb
  have HO1 := hide ho1
  have HO2 := hide ho2
  have HAP := hide hap
  clear ho1 ho2 hap
  go_wp2
  refine bodyPost_ret (v := (Value.agg #[Value.bool (sgn (y / sgG y x)), Value.slice d1 (lms (y / sgG y x)).length f1, Value.bool (sgn (x / sgG y x)), Value.slice d2 (lms (x / sgG y x)).length f2])) (by simp [results, Try.results30, go_sem, kr0, kr1, kr2, kr3]) rfl ?_
  obtain ⟨h1, h2, h3⟩ := fin_four (N := w.heap.size + 1) HO1.out HO2.out (by omega) (by omega) (by omega) HB.out (Value.bool (sgn (y / sgG y x))) (Value.slice d1 (lms (y / sgG y x)).length f1) (Value.bool (sgn (x / sgG y x))) (Value.slice d2 (lms (x / sgG y x)).length f2)
  exact ⟨d1, f1, d2, f2, rfl, h1, h2, HAP.out, h3⟩

end Go.Proofs.Ytpjckilmbidbgaa

/- The walks of the specification's RatAdd, RatSub, RatMul, RatQuo. -/
namespace Go.Proofs.Ytpjckilmbidbgaa
open Go.RowKit
set_option linter.unusedVariables false

set_option maxHeartbeats 4000000 in
theorem RatAddQ (n1 : Bool) (xs1 : List Nat) (m1 : Bool) (ys1 : List Nat) (n2 : Bool) (xs2 : List Nat) (m2 : Bool) (ys2 : List Nat) (a1 : Option Addr) (c1 : Nat) (b1 : Option Addr) (e1 : Nat) (a2 : Option Addr) (c2 : Nat) (b2 : Option Addr) (e2 : Nat) (w : World)
    (s1 : Seg w a1 xs1.length c1 xs1) (t1 : Seg w b1 ys1.length e1 ys1) (s2 : Seg w a2 xs2.length c2 xs2) (t2 : Seg w b2 ys2.length e2 ys2) :
    Calls Try.prog 9 #[Value.agg #[Value.bool n1, Value.slice a1 xs1.length c1, Value.bool m1, Value.slice b1 ys1.length e1], Value.agg #[Value.bool n2, Value.slice a2 xs2.length c2, Value.bool m2, Value.slice b2 ys2.length e2]] w fun e w' => RatAns (ratB n1 xs1 m1 ys1 && ratB n2 xs2 m2 ys2) (addZ (mulZ (mk n1 (Num.nat xs1)) (mk m2 (Num.nat ys2))) (mulZ (mk n2 (Num.nat xs2)) (mk m1 (Num.nat ys1)))) (mulZ (mk m1 (Num.nat ys1)) (mk m2 (Num.nat ys2))) w w' e := by
  have G1 := hide s1.2.2.2.1
  have G2 := hide t1.2.2.2.1
  have G3 := hide s2.2.2.2.1
  have G4 := hide t2.2.2.2.1
  have ka0 : (((w.alloc (Obj.cells #[Value.bool n1, Value.slice a1 xs1.length c1, Value.bool m1, Value.slice b1 ys1.length e1] 28)).alloc (Obj.cells #[Value.bool n2, Value.slice a2 xs2.length c2, Value.bool m2, Value.slice b2 ys2.length e2] 28)).alloc (Obj.cells #[Value.bool false, Value.slice none 0 0, Value.bool false, Value.slice none 0 0] 28)).cell? ⟨w.heap.size, 0, none⟩ = some (Value.bool n1) := by go_simp
  have ka1 : (((w.alloc (Obj.cells #[Value.bool n1, Value.slice a1 xs1.length c1, Value.bool m1, Value.slice b1 ys1.length e1] 28)).alloc (Obj.cells #[Value.bool n2, Value.slice a2 xs2.length c2, Value.bool m2, Value.slice b2 ys2.length e2] 28)).alloc (Obj.cells #[Value.bool false, Value.slice none 0 0, Value.bool false, Value.slice none 0 0] 28)).cell? ⟨w.heap.size, 1, none⟩ = some (Value.slice a1 xs1.length c1) := by go_simp
  have ka2 : (((w.alloc (Obj.cells #[Value.bool n1, Value.slice a1 xs1.length c1, Value.bool m1, Value.slice b1 ys1.length e1] 28)).alloc (Obj.cells #[Value.bool n2, Value.slice a2 xs2.length c2, Value.bool m2, Value.slice b2 ys2.length e2] 28)).alloc (Obj.cells #[Value.bool false, Value.slice none 0 0, Value.bool false, Value.slice none 0 0] 28)).cell? ⟨w.heap.size, 2, none⟩ = some (Value.bool m1) := by go_simp
  have ka3 : (((w.alloc (Obj.cells #[Value.bool n1, Value.slice a1 xs1.length c1, Value.bool m1, Value.slice b1 ys1.length e1] 28)).alloc (Obj.cells #[Value.bool n2, Value.slice a2 xs2.length c2, Value.bool m2, Value.slice b2 ys2.length e2] 28)).alloc (Obj.cells #[Value.bool false, Value.slice none 0 0, Value.bool false, Value.slice none 0 0] 28)).cell? ⟨w.heap.size, 3, none⟩ = some (Value.slice b1 ys1.length e1) := by go_simp
  have kb0 : (((w.alloc (Obj.cells #[Value.bool n1, Value.slice a1 xs1.length c1, Value.bool m1, Value.slice b1 ys1.length e1] 28)).alloc (Obj.cells #[Value.bool n2, Value.slice a2 xs2.length c2, Value.bool m2, Value.slice b2 ys2.length e2] 28)).alloc (Obj.cells #[Value.bool false, Value.slice none 0 0, Value.bool false, Value.slice none 0 0] 28)).cell? ⟨w.heap.size + 1, 0, none⟩ = some (Value.bool n2) := by go_simp
  have kb1 : (((w.alloc (Obj.cells #[Value.bool n1, Value.slice a1 xs1.length c1, Value.bool m1, Value.slice b1 ys1.length e1] 28)).alloc (Obj.cells #[Value.bool n2, Value.slice a2 xs2.length c2, Value.bool m2, Value.slice b2 ys2.length e2] 28)).alloc (Obj.cells #[Value.bool false, Value.slice none 0 0, Value.bool false, Value.slice none 0 0] 28)).cell? ⟨w.heap.size + 1, 1, none⟩ = some (Value.slice a2 xs2.length c2) := by go_simp
  have kb2 : (((w.alloc (Obj.cells #[Value.bool n1, Value.slice a1 xs1.length c1, Value.bool m1, Value.slice b1 ys1.length e1] 28)).alloc (Obj.cells #[Value.bool n2, Value.slice a2 xs2.length c2, Value.bool m2, Value.slice b2 ys2.length e2] 28)).alloc (Obj.cells #[Value.bool false, Value.slice none 0 0, Value.bool false, Value.slice none 0 0] 28)).cell? ⟨w.heap.size + 1, 2, none⟩ = some (Value.bool m2) := by go_simp
  have kb3 : (((w.alloc (Obj.cells #[Value.bool n1, Value.slice a1 xs1.length c1, Value.bool m1, Value.slice b1 ys1.length e1] 28)).alloc (Obj.cells #[Value.bool n2, Value.slice a2 xs2.length c2, Value.bool m2, Value.slice b2 ys2.length e2] 28)).alloc (Obj.cells #[Value.bool false, Value.slice none 0 0, Value.bool false, Value.slice none 0 0] 28)).cell? ⟨w.heap.size + 1, 3, none⟩ = some (Value.slice b2 ys2.length e2) := by go_simp
  have kr0 : (((w.alloc (Obj.cells #[Value.bool n1, Value.slice a1 xs1.length c1, Value.bool m1, Value.slice b1 ys1.length e1] 28)).alloc (Obj.cells #[Value.bool n2, Value.slice a2 xs2.length c2, Value.bool m2, Value.slice b2 ys2.length e2] 28)).alloc (Obj.cells #[Value.bool false, Value.slice none 0 0, Value.bool false, Value.slice none 0 0] 28)).cell? ⟨w.heap.size + 1 + 1, 0, none⟩ = some (Value.bool false) := by go_simp
  have fr0 : (((w.alloc (Obj.cells #[Value.bool n1, Value.slice a1 xs1.length c1, Value.bool m1, Value.slice b1 ys1.length e1] 28)).alloc (Obj.cells #[Value.bool n2, Value.slice a2 xs2.length c2, Value.bool m2, Value.slice b2 ys2.length e2] 28)).alloc (Obj.cells #[Value.bool false, Value.slice none 0 0, Value.bool false, Value.slice none 0 0] 28)).frozen? ⟨w.heap.size + 1 + 1, 0, none⟩ = false := by go_simp
  have kr1 : (((w.alloc (Obj.cells #[Value.bool n1, Value.slice a1 xs1.length c1, Value.bool m1, Value.slice b1 ys1.length e1] 28)).alloc (Obj.cells #[Value.bool n2, Value.slice a2 xs2.length c2, Value.bool m2, Value.slice b2 ys2.length e2] 28)).alloc (Obj.cells #[Value.bool false, Value.slice none 0 0, Value.bool false, Value.slice none 0 0] 28)).cell? ⟨w.heap.size + 1 + 1, 1, none⟩ = some (Value.slice none 0 0) := by go_simp
  have fr1 : (((w.alloc (Obj.cells #[Value.bool n1, Value.slice a1 xs1.length c1, Value.bool m1, Value.slice b1 ys1.length e1] 28)).alloc (Obj.cells #[Value.bool n2, Value.slice a2 xs2.length c2, Value.bool m2, Value.slice b2 ys2.length e2] 28)).alloc (Obj.cells #[Value.bool false, Value.slice none 0 0, Value.bool false, Value.slice none 0 0] 28)).frozen? ⟨w.heap.size + 1 + 1, 1, none⟩ = false := by go_simp
  have kr2 : (((w.alloc (Obj.cells #[Value.bool n1, Value.slice a1 xs1.length c1, Value.bool m1, Value.slice b1 ys1.length e1] 28)).alloc (Obj.cells #[Value.bool n2, Value.slice a2 xs2.length c2, Value.bool m2, Value.slice b2 ys2.length e2] 28)).alloc (Obj.cells #[Value.bool false, Value.slice none 0 0, Value.bool false, Value.slice none 0 0] 28)).cell? ⟨w.heap.size + 1 + 1, 2, none⟩ = some (Value.bool false) := by go_simp
  have fr2 : (((w.alloc (Obj.cells #[Value.bool n1, Value.slice a1 xs1.length c1, Value.bool m1, Value.slice b1 ys1.length e1] 28)).alloc (Obj.cells #[Value.bool n2, Value.slice a2 xs2.length c2, Value.bool m2, Value.slice b2 ys2.length e2] 28)).alloc (Obj.cells #[Value.bool false, Value.slice none 0 0, Value.bool false, Value.slice none 0 0] 28)).frozen? ⟨w.heap.size + 1 + 1, 2, none⟩ = false := by go_simp
  have kr3 : (((w.alloc (Obj.cells #[Value.bool n1, Value.slice a1 xs1.length c1, Value.bool m1, Value.slice b1 ys1.length e1] 28)).alloc (Obj.cells #[Value.bool n2, Value.slice a2 xs2.length c2, Value.bool m2, Value.slice b2 ys2.length e2] 28)).alloc (Obj.cells #[Value.bool false, Value.slice none 0 0, Value.bool false, Value.slice none 0 0] 28)).cell? ⟨w.heap.size + 1 + 1, 3, none⟩ = some (Value.slice none 0 0) := by go_simp
  have fr3 : (((w.alloc (Obj.cells #[Value.bool n1, Value.slice a1 xs1.length c1, Value.bool m1, Value.slice b1 ys1.length e1] 28)).alloc (Obj.cells #[Value.bool n2, Value.slice a2 xs2.length c2, Value.bool m2, Value.slice b2 ys2.length e2] 28)).alloc (Obj.cells #[Value.bool false, Value.slice none 0 0, Value.bool false, Value.slice none 0 0] 28)).frozen? ⟨w.heap.size + 1 + 1, 3, none⟩ = false := by go_simp
  have zr : w.heap.size + 1 + 1 < (((w.alloc (Obj.cells #[Value.bool n1, Value.slice a1 xs1.length c1, Value.bool m1, Value.slice b1 ys1.length e1] 28)).alloc (Obj.cells #[Value.bool n2, Value.slice a2 xs2.length c2, Value.bool m2, Value.slice b2 ys2.length e2] 28)).alloc (Obj.cells #[Value.bool false, Value.slice none 0 0, Value.bool false, Value.slice none 0 0] 28)).heap.size := by simp only [World.size_alloc]; omega
  have HB := hide (bl_alloc (bl_alloc (bl_alloc (bl_refl w) (Obj.cells #[Value.bool n1, Value.slice a1 xs1.length c1, Value.bool m1, Value.slice b1 ys1.length e1] 28)) (Obj.cells #[Value.bool n2, Value.slice a2 xs2.length c2, Value.bool m2, Value.slice b2 ys2.length e2] 28)) (Obj.cells #[Value.bool false, Value.slice none 0 0, Value.bool false, Value.slice none 0 0] 28))
  have S1 := hide (s1.below HB.out)
  have T1 := hide (t1.below HB.out)
  have S2 := hide (s2.below HB.out)
  have T2 := hide (t2.below HB.out)
  clear s1
  clear t1
  clear s2
  clear t2
  go_enter Try.func9, Try.ntmps9
  go_wp2_with fail
  generalize (((w.alloc (Obj.cells #[Value.bool n1, Value.slice a1 xs1.length c1, Value.bool m1, Value.slice b1 ys1.length e1] 28)).alloc (Obj.cells #[Value.bool n2, Value.slice a2 xs2.length c2, Value.bool m2, Value.slice b2 ys2.length e2] 28)).alloc (Obj.cells #[Value.bool false, Value.slice none 0 0, Value.bool false, Value.slice none 0 0] 28)) = w1 at *
  have z0 := zr
  refine (RatOkQ n1 xs1 m1 ys1 a1 c1 b1 e1 _ S1.out T1.out).mono ?_
  rintro e w2 ⟨rfl, hb⟩
  have yw2 := hb.size
  replace ka0 := (hb.cell (p := ⟨w.heap.size, 0, none⟩) (by dsimp only; omega)).trans ka0
  replace ka1 := (hb.cell (p := ⟨w.heap.size, 1, none⟩) (by dsimp only; omega)).trans ka1
  replace ka2 := (hb.cell (p := ⟨w.heap.size, 2, none⟩) (by dsimp only; omega)).trans ka2
  replace ka3 := (hb.cell (p := ⟨w.heap.size, 3, none⟩) (by dsimp only; omega)).trans ka3
  replace kb0 := (hb.cell (p := ⟨w.heap.size + 1, 0, none⟩) (by dsimp only; omega)).trans kb0
  replace kb1 := (hb.cell (p := ⟨w.heap.size + 1, 1, none⟩) (by dsimp only; omega)).trans kb1
  replace kb2 := (hb.cell (p := ⟨w.heap.size + 1, 2, none⟩) (by dsimp only; omega)).trans kb2
  replace kb3 := (hb.cell (p := ⟨w.heap.size + 1, 3, none⟩) (by dsimp only; omega)).trans kb3
  replace kr0 := (hb.cell (p := ⟨w.heap.size + 1 + 1, 0, none⟩) (by dsimp only; omega)).trans kr0
  replace fr0 := (hb.frozen (p := ⟨w.heap.size + 1 + 1, 0, none⟩) (by dsimp only; omega)).trans fr0
  replace kr1 := (hb.cell (p := ⟨w.heap.size + 1 + 1, 1, none⟩) (by dsimp only; omega)).trans kr1
  replace fr1 := (hb.frozen (p := ⟨w.heap.size + 1 + 1, 1, none⟩) (by dsimp only; omega)).trans fr1
  replace kr2 := (hb.cell (p := ⟨w.heap.size + 1 + 1, 2, none⟩) (by dsimp only; omega)).trans kr2
  replace fr2 := (hb.frozen (p := ⟨w.heap.size + 1 + 1, 2, none⟩) (by dsimp only; omega)).trans fr2
  replace kr3 := (hb.cell (p := ⟨w.heap.size + 1 + 1, 3, none⟩) (by dsimp only; omega)).trans kr3
  replace fr3 := (hb.frozen (p := ⟨w.heap.size + 1 + 1, 3, none⟩) (by dsimp only; omega)).trans fr3
  replace S1 := hide (S1.out.below hb)
  replace T1 := hide (T1.out.below hb)
  replace S2 := hide (S2.out.below hb)
  replace T2 := hide (T2.out.below hb)
  replace zr := Nat.lt_of_lt_of_le zr hb.size
  replace HB := hide (bl_trans HB.out hb)
  clear hb
  cases h1 : ratB n1 xs1 m1 ys1 with
  | false =>
    have E1 := hide h1
    clear h1
    have HE : Hid (rtT (ratB n1 xs1 m1 ys1 && ratB n2 xs2 m2 ys2) (addZ (mulZ (mk n1 (Num.nat xs1)) (mk m2 (Num.nat ys2))) (mulZ (mk n2 (Num.nat xs2)) (mk m1 (Num.nat ys1)))) (mulZ (mk m1 (Num.nat ys1)) (mk m2 (Num.nat ys2))) = false) := hide (ans_f (by rw [E1.out]; rfl))
    go_wp2
    refine bodyPost_ret (v := (.tuple #[.agg #[.bool false, .slice none 0 0, .bool false, .slice none 0 0], .bool false])) (by simp [results, Try.results9, go_sem, kr0, kr1, kr2, kr3]) rfl ?_
    exact ans_no HE.out (by first | exact HB.out | exact set_four (N := w.heap.size + 1 + 1) (by omega) HB.out _ _ _ _)
  | true =>
  have R1 := hide h1
  clear h1
  go_wp2_with fail
  refine (RatOkQ n2 xs2 m2 ys2 a2 c2 b2 e2 _ S2.out T2.out).mono ?_
  rintro e w3 ⟨rfl, hb⟩
  have yw3 := hb.size
  replace ka0 := (hb.cell (p := ⟨w.heap.size, 0, none⟩) (by dsimp only; omega)).trans ka0
  replace ka1 := (hb.cell (p := ⟨w.heap.size, 1, none⟩) (by dsimp only; omega)).trans ka1
  replace ka2 := (hb.cell (p := ⟨w.heap.size, 2, none⟩) (by dsimp only; omega)).trans ka2
  replace ka3 := (hb.cell (p := ⟨w.heap.size, 3, none⟩) (by dsimp only; omega)).trans ka3
  replace kb0 := (hb.cell (p := ⟨w.heap.size + 1, 0, none⟩) (by dsimp only; omega)).trans kb0
  replace kb1 := (hb.cell (p := ⟨w.heap.size + 1, 1, none⟩) (by dsimp only; omega)).trans kb1
  replace kb2 := (hb.cell (p := ⟨w.heap.size + 1, 2, none⟩) (by dsimp only; omega)).trans kb2
  replace kb3 := (hb.cell (p := ⟨w.heap.size + 1, 3, none⟩) (by dsimp only; omega)).trans kb3
  replace kr0 := (hb.cell (p := ⟨w.heap.size + 1 + 1, 0, none⟩) (by dsimp only; omega)).trans kr0
  replace fr0 := (hb.frozen (p := ⟨w.heap.size + 1 + 1, 0, none⟩) (by dsimp only; omega)).trans fr0
  replace kr1 := (hb.cell (p := ⟨w.heap.size + 1 + 1, 1, none⟩) (by dsimp only; omega)).trans kr1
  replace fr1 := (hb.frozen (p := ⟨w.heap.size + 1 + 1, 1, none⟩) (by dsimp only; omega)).trans fr1
  replace kr2 := (hb.cell (p := ⟨w.heap.size + 1 + 1, 2, none⟩) (by dsimp only; omega)).trans kr2
  replace fr2 := (hb.frozen (p := ⟨w.heap.size + 1 + 1, 2, none⟩) (by dsimp only; omega)).trans fr2
  replace kr3 := (hb.cell (p := ⟨w.heap.size + 1 + 1, 3, none⟩) (by dsimp only; omega)).trans kr3
  replace fr3 := (hb.frozen (p := ⟨w.heap.size + 1 + 1, 3, none⟩) (by dsimp only; omega)).trans fr3
  replace S1 := hide (S1.out.below hb)
  replace T1 := hide (T1.out.below hb)
  replace S2 := hide (S2.out.below hb)
  replace T2 := hide (T2.out.below hb)
  replace zr := Nat.lt_of_lt_of_le zr hb.size
  replace HB := hide (bl_trans HB.out hb)
  clear hb
  cases h2 : ratB n2 xs2 m2 ys2 with
  | false =>
    have E2 := hide h2
    clear h2
    have HE : Hid (rtT (ratB n1 xs1 m1 ys1 && ratB n2 xs2 m2 ys2) (addZ (mulZ (mk n1 (Num.nat xs1)) (mk m2 (Num.nat ys2))) (mulZ (mk n2 (Num.nat xs2)) (mk m1 (Num.nat ys1)))) (mulZ (mk m1 (Num.nat ys1)) (mk m2 (Num.nat ys2))) = false) := hide (ans_f (by rw [E2.out, Bool.and_false]))
    go_wp2
    refine bodyPost_ret (v := (.tuple #[.agg #[.bool false, .slice none 0 0, .bool false, .slice none 0 0], .bool false])) (by simp [results, Try.results9, go_sem, kr0, kr1, kr2, kr3]) rfl ?_
    exact ans_no HE.out (by first | exact HB.out | exact set_four (N := w.heap.size + 1 + 1) (by omega) HB.out _ _ _ _)
  | true =>
  have R2 := hide h2
  clear h2
  have HT : Hid ((ratB n1 xs1 m1 ys1 && ratB n2 xs2 m2 ys2) = true) := hide (by rw [R1.out, R2.out]; rfl)
  obtain ⟨x1, y1, rfl, rfl, rfl, rfl, hx1, hy1, hp1, hg1⟩ := rat_num G1.out G2.out R1.out
  obtain ⟨x2, y2, rfl, rfl, rfl, rfl, hx2, hy2, hp2, hg2⟩ := rat_num G3.out G4.out R2.out
  have l1 : (lms x1).length ≤ 1000 := Nat.le_trans (Num.limbs_len.2 hx1) (by decide)
  have l2 : (lms y1).length ≤ 1000 := Nat.le_trans (Num.limbs_len.2 hy1) (by decide)
  have l3 : (lms x2).length ≤ 1000 := Nat.le_trans (Num.limbs_len.2 hx2) (by decide)
  have l4 : (lms y2).length ≤ 1000 := Nat.le_trans (Num.limbs_len.2 hy2) (by decide)
  have HP1 := hide hp1
  have HP2 := hide hp2
  have HG2 := hide hg2
  clear hx1 hy1 hx2 hy2 hp1 hp2 hg1 hg2 R1 R2 G1 G2 G3 G4
  have HY : Hid ((mulZ y1 y2) ≠ 0) := hide (by unfold mulZ; exact Int.mul_ne_zero (by have := HP1.out; omega) (by have := HP2.out; omega))
  go_wp2_with fail
  refine (addRS x1 y1 x2 y2 a1 c1 b1 e1 a2 c2 b2 e2 _ l1 l2 l3 l4 S1.out T1.out S2.out T2.out HY.out).mono ?_
  rintro e w4 ⟨d1, f1, d2, f2, rfl, ho1, ho2, hap, hb⟩
  have yw4 := hb.size
  replace ka0 := (hb.cell (p := ⟨w.heap.size, 0, none⟩) (by dsimp only; omega)).trans ka0
  replace ka1 := (hb.cell (p := ⟨w.heap.size, 1, none⟩) (by dsimp only; omega)).trans ka1
  replace ka2 := (hb.cell (p := ⟨w.heap.size, 2, none⟩) (by dsimp only; omega)).trans ka2
  replace ka3 := (hb.cell (p := ⟨w.heap.size, 3, none⟩) (by dsimp only; omega)).trans ka3
  replace kb0 := (hb.cell (p := ⟨w.heap.size + 1, 0, none⟩) (by dsimp only; omega)).trans kb0
  replace kb1 := (hb.cell (p := ⟨w.heap.size + 1, 1, none⟩) (by dsimp only; omega)).trans kb1
  replace kb2 := (hb.cell (p := ⟨w.heap.size + 1, 2, none⟩) (by dsimp only; omega)).trans kb2
  replace kb3 := (hb.cell (p := ⟨w.heap.size + 1, 3, none⟩) (by dsimp only; omega)).trans kb3
  replace kr0 := (hb.cell (p := ⟨w.heap.size + 1 + 1, 0, none⟩) (by dsimp only; omega)).trans kr0
  replace fr0 := (hb.frozen (p := ⟨w.heap.size + 1 + 1, 0, none⟩) (by dsimp only; omega)).trans fr0
  replace kr1 := (hb.cell (p := ⟨w.heap.size + 1 + 1, 1, none⟩) (by dsimp only; omega)).trans kr1
  replace fr1 := (hb.frozen (p := ⟨w.heap.size + 1 + 1, 1, none⟩) (by dsimp only; omega)).trans fr1
  replace kr2 := (hb.cell (p := ⟨w.heap.size + 1 + 1, 2, none⟩) (by dsimp only; omega)).trans kr2
  replace fr2 := (hb.frozen (p := ⟨w.heap.size + 1 + 1, 2, none⟩) (by dsimp only; omega)).trans fr2
  replace kr3 := (hb.cell (p := ⟨w.heap.size + 1 + 1, 3, none⟩) (by dsimp only; omega)).trans kr3
  replace fr3 := (hb.frozen (p := ⟨w.heap.size + 1 + 1, 3, none⟩) (by dsimp only; omega)).trans fr3
  replace S1 := hide (S1.out.below hb)
  replace T1 := hide (T1.out.below hb)
  replace S2 := hide (S2.out.below hb)
  replace T2 := hide (T2.out.below hb)
  replace zr := Nat.lt_of_lt_of_le zr hb.size
  replace HB := hide (bl_trans HB.out hb)
  clear hb
  have O1 := hide ho1
  have O2 := hide ho2
  have HAP := hide hap
  clear ho1 ho2 hap
  go_wp2_with fail
  refine (fitS ((addZ (mulZ x1 y2) (mulZ x2 y1)) / sgG (addZ (mulZ x1 y2) (mulZ x2 y1)) (mulZ y1 y2)) ((mulZ y1 y2) / sgG (addZ (mulZ x1 y2) (mulZ x2 y1)) (mulZ y1 y2)) d1 f1 d2 f2 _ O1.out.seg O2.out.seg).mono ?_
  rintro e w5 ⟨rfl, hb⟩
  have yw5 := hb.size
  replace ka0 := (hb.cell (p := ⟨w.heap.size, 0, none⟩) (by dsimp only; omega)).trans ka0
  replace ka1 := (hb.cell (p := ⟨w.heap.size, 1, none⟩) (by dsimp only; omega)).trans ka1
  replace ka2 := (hb.cell (p := ⟨w.heap.size, 2, none⟩) (by dsimp only; omega)).trans ka2
  replace ka3 := (hb.cell (p := ⟨w.heap.size, 3, none⟩) (by dsimp only; omega)).trans ka3
  replace kb0 := (hb.cell (p := ⟨w.heap.size + 1, 0, none⟩) (by dsimp only; omega)).trans kb0
  replace kb1 := (hb.cell (p := ⟨w.heap.size + 1, 1, none⟩) (by dsimp only; omega)).trans kb1
  replace kb2 := (hb.cell (p := ⟨w.heap.size + 1, 2, none⟩) (by dsimp only; omega)).trans kb2
  replace kb3 := (hb.cell (p := ⟨w.heap.size + 1, 3, none⟩) (by dsimp only; omega)).trans kb3
  replace kr0 := (hb.cell (p := ⟨w.heap.size + 1 + 1, 0, none⟩) (by dsimp only; omega)).trans kr0
  replace fr0 := (hb.frozen (p := ⟨w.heap.size + 1 + 1, 0, none⟩) (by dsimp only; omega)).trans fr0
  replace kr1 := (hb.cell (p := ⟨w.heap.size + 1 + 1, 1, none⟩) (by dsimp only; omega)).trans kr1
  replace fr1 := (hb.frozen (p := ⟨w.heap.size + 1 + 1, 1, none⟩) (by dsimp only; omega)).trans fr1
  replace kr2 := (hb.cell (p := ⟨w.heap.size + 1 + 1, 2, none⟩) (by dsimp only; omega)).trans kr2
  replace fr2 := (hb.frozen (p := ⟨w.heap.size + 1 + 1, 2, none⟩) (by dsimp only; omega)).trans fr2
  replace kr3 := (hb.cell (p := ⟨w.heap.size + 1 + 1, 3, none⟩) (by dsimp only; omega)).trans kr3
  replace fr3 := (hb.frozen (p := ⟨w.heap.size + 1 + 1, 3, none⟩) (by dsimp only; omega)).trans fr3
  replace S1 := hide (S1.out.below hb)
  replace T1 := hide (T1.out.below hb)
  replace S2 := hide (S2.out.below hb)
  replace T2 := hide (T2.out.below hb)
  replace O1 := hide (O1.out.below hb)
  replace O2 := hide (O2.out.below hb)
  replace zr := Nat.lt_of_lt_of_le zr hb.size
  replace HB := hide (bl_trans HB.out hb)
  clear hb
  cases e3 : ftT ((addZ (mulZ x1 y2) (mulZ x2 y1)) / sgG (addZ (mulZ x1 y2) (mulZ x2 y1)) (mulZ y1 y2)) ((mulZ y1 y2) / sgG (addZ (mulZ x1 y2) (mulZ x2 y1)) (mulZ y1 y2)) with
  | false =>
    rw [ftV_f e3]
    have HE := hide ((ans_ft HT.out HY.out).trans e3)
    clear e3
    go_wp2
    refine bodyPost_ret (v := (.tuple #[.agg #[.bool false, .slice none 0 0, .bool false, .slice none 0 0], .bool false])) (by simp [results, Try.results9, go_sem, kr0, kr1, kr2, kr3]) rfl ?_
    simp only [nat_lms, mk_self]
    exact ans_no HE.out (by first | exact HB.out | exact set_four (N := w.heap.size + 1 + 1) (by omega) HB.out _ _ _ _)
  | true =>
  rw [ftV_t e3]
  have HE := hide ((ans_ft HT.out HY.out).trans e3)
  clear e3
  go_wp2
  refine bodyPost_ret (v := (.tuple #[Value.agg #[Value.bool (sgn ((addZ (mulZ x1 y2) (mulZ x2 y1)) / sgG (addZ (mulZ x1 y2) (mulZ x2 y1)) (mulZ y1 y2))), Value.slice d1 (lms ((addZ (mulZ x1 y2) (mulZ x2 y1)) / sgG (addZ (mulZ x1 y2) (mulZ x2 y1)) (mulZ y1 y2))).length f1, Value.bool (sgn ((mulZ y1 y2) / sgG (addZ (mulZ x1 y2) (mulZ x2 y1)) (mulZ y1 y2))), Value.slice d2 (lms ((mulZ y1 y2) / sgG (addZ (mulZ x1 y2) (mulZ x2 y1)) (mulZ y1 y2))).length f2], .bool true])) (by simp [results, Try.results9, go_sem, kr0, kr1, kr2, kr3]) rfl ?_
  obtain ⟨h1, h2, h3⟩ := fin_four (N := w.heap.size + 1 + 1) O1.out O2.out (by omega) (by omega) (by omega) HB.out (Value.bool (sgn ((addZ (mulZ x1 y2) (mulZ x2 y1)) / sgG (addZ (mulZ x1 y2) (mulZ x2 y1)) (mulZ y1 y2)))) (Value.slice d1 (lms ((addZ (mulZ x1 y2) (mulZ x2 y1)) / sgG (addZ (mulZ x1 y2) (mulZ x2 y1)) (mulZ y1 y2))).length f1) (Value.bool (sgn ((mulZ y1 y2) / sgG (addZ (mulZ x1 y2) (mulZ x2 y1)) (mulZ y1 y2)))) (Value.slice d2 (lms ((mulZ y1 y2) / sgG (addZ (mulZ x1 y2) (mulZ x2 y1)) (mulZ y1 y2))).length f2)
  simp only [nat_lms, mk_self]
  exact ans_yes HE.out h1 h2 HAP.out h3

end Go.Proofs.Ytpjckilmbidbgaa

/- The walks of the specification's RatSub and RatQuo. -/
namespace Go.Proofs.Ytpjckilmbidbgaa
open Go.RowKit
set_option linter.unusedVariables false

set_option maxHeartbeats 4000000 in
theorem RatQuoQ (n1 : Bool) (xs1 : List Nat) (m1 : Bool) (ys1 : List Nat) (n2 : Bool) (xs2 : List Nat) (m2 : Bool) (ys2 : List Nat) (a1 : Option Addr) (c1 : Nat) (b1 : Option Addr) (e1 : Nat) (a2 : Option Addr) (c2 : Nat) (b2 : Option Addr) (e2 : Nat) (w : World)
    (s1 : Seg w a1 xs1.length c1 xs1) (t1 : Seg w b1 ys1.length e1 ys1) (s2 : Seg w a2 xs2.length c2 xs2) (t2 : Seg w b2 ys2.length e2 ys2) :
    Calls Try.prog 10 #[Value.agg #[Value.bool n1, Value.slice a1 xs1.length c1, Value.bool m1, Value.slice b1 ys1.length e1], Value.agg #[Value.bool n2, Value.slice a2 xs2.length c2, Value.bool m2, Value.slice b2 ys2.length e2]] w fun e w' => RatAns (ratB n1 xs1 m1 ys1 && ratB n2 xs2 m2 ys2) (mulZ (mk n1 (Num.nat xs1)) (mk m2 (Num.nat ys2))) (mulZ (mk m1 (Num.nat ys1)) (mk n2 (Num.nat xs2))) w w' e := by
  have G1 := hide s1.2.2.2.1
  have G2 := hide t1.2.2.2.1
  have G3 := hide s2.2.2.2.1
  have G4 := hide t2.2.2.2.1
  have ka0 : (((w.alloc (Obj.cells #[Value.bool n1, Value.slice a1 xs1.length c1, Value.bool m1, Value.slice b1 ys1.length e1] 28)).alloc (Obj.cells #[Value.bool n2, Value.slice a2 xs2.length c2, Value.bool m2, Value.slice b2 ys2.length e2] 28)).alloc (Obj.cells #[Value.bool false, Value.slice none 0 0, Value.bool false, Value.slice none 0 0] 28)).cell? ⟨w.heap.size, 0, none⟩ = some (Value.bool n1) := by go_simp
  have ka1 : (((w.alloc (Obj.cells #[Value.bool n1, Value.slice a1 xs1.length c1, Value.bool m1, Value.slice b1 ys1.length e1] 28)).alloc (Obj.cells #[Value.bool n2, Value.slice a2 xs2.length c2, Value.bool m2, Value.slice b2 ys2.length e2] 28)).alloc (Obj.cells #[Value.bool false, Value.slice none 0 0, Value.bool false, Value.slice none 0 0] 28)).cell? ⟨w.heap.size, 1, none⟩ = some (Value.slice a1 xs1.length c1) := by go_simp
  have ka2 : (((w.alloc (Obj.cells #[Value.bool n1, Value.slice a1 xs1.length c1, Value.bool m1, Value.slice b1 ys1.length e1] 28)).alloc (Obj.cells #[Value.bool n2, Value.slice a2 xs2.length c2, Value.bool m2, Value.slice b2 ys2.length e2] 28)).alloc (Obj.cells #[Value.bool false, Value.slice none 0 0, Value.bool false, Value.slice none 0 0] 28)).cell? ⟨w.heap.size, 2, none⟩ = some (Value.bool m1) := by go_simp
  have ka3 : (((w.alloc (Obj.cells #[Value.bool n1, Value.slice a1 xs1.length c1, Value.bool m1, Value.slice b1 ys1.length e1] 28)).alloc (Obj.cells #[Value.bool n2, Value.slice a2 xs2.length c2, Value.bool m2, Value.slice b2 ys2.length e2] 28)).alloc (Obj.cells #[Value.bool false, Value.slice none 0 0, Value.bool false, Value.slice none 0 0] 28)).cell? ⟨w.heap.size, 3, none⟩ = some (Value.slice b1 ys1.length e1) := by go_simp
  have kb0 : (((w.alloc (Obj.cells #[Value.bool n1, Value.slice a1 xs1.length c1, Value.bool m1, Value.slice b1 ys1.length e1] 28)).alloc (Obj.cells #[Value.bool n2, Value.slice a2 xs2.length c2, Value.bool m2, Value.slice b2 ys2.length e2] 28)).alloc (Obj.cells #[Value.bool false, Value.slice none 0 0, Value.bool false, Value.slice none 0 0] 28)).cell? ⟨w.heap.size + 1, 0, none⟩ = some (Value.bool n2) := by go_simp
  have kb1 : (((w.alloc (Obj.cells #[Value.bool n1, Value.slice a1 xs1.length c1, Value.bool m1, Value.slice b1 ys1.length e1] 28)).alloc (Obj.cells #[Value.bool n2, Value.slice a2 xs2.length c2, Value.bool m2, Value.slice b2 ys2.length e2] 28)).alloc (Obj.cells #[Value.bool false, Value.slice none 0 0, Value.bool false, Value.slice none 0 0] 28)).cell? ⟨w.heap.size + 1, 1, none⟩ = some (Value.slice a2 xs2.length c2) := by go_simp
  have kb2 : (((w.alloc (Obj.cells #[Value.bool n1, Value.slice a1 xs1.length c1, Value.bool m1, Value.slice b1 ys1.length e1] 28)).alloc (Obj.cells #[Value.bool n2, Value.slice a2 xs2.length c2, Value.bool m2, Value.slice b2 ys2.length e2] 28)).alloc (Obj.cells #[Value.bool false, Value.slice none 0 0, Value.bool false, Value.slice none 0 0] 28)).cell? ⟨w.heap.size + 1, 2, none⟩ = some (Value.bool m2) := by go_simp
  have kb3 : (((w.alloc (Obj.cells #[Value.bool n1, Value.slice a1 xs1.length c1, Value.bool m1, Value.slice b1 ys1.length e1] 28)).alloc (Obj.cells #[Value.bool n2, Value.slice a2 xs2.length c2, Value.bool m2, Value.slice b2 ys2.length e2] 28)).alloc (Obj.cells #[Value.bool false, Value.slice none 0 0, Value.bool false, Value.slice none 0 0] 28)).cell? ⟨w.heap.size + 1, 3, none⟩ = some (Value.slice b2 ys2.length e2) := by go_simp
  have kr0 : (((w.alloc (Obj.cells #[Value.bool n1, Value.slice a1 xs1.length c1, Value.bool m1, Value.slice b1 ys1.length e1] 28)).alloc (Obj.cells #[Value.bool n2, Value.slice a2 xs2.length c2, Value.bool m2, Value.slice b2 ys2.length e2] 28)).alloc (Obj.cells #[Value.bool false, Value.slice none 0 0, Value.bool false, Value.slice none 0 0] 28)).cell? ⟨w.heap.size + 1 + 1, 0, none⟩ = some (Value.bool false) := by go_simp
  have fr0 : (((w.alloc (Obj.cells #[Value.bool n1, Value.slice a1 xs1.length c1, Value.bool m1, Value.slice b1 ys1.length e1] 28)).alloc (Obj.cells #[Value.bool n2, Value.slice a2 xs2.length c2, Value.bool m2, Value.slice b2 ys2.length e2] 28)).alloc (Obj.cells #[Value.bool false, Value.slice none 0 0, Value.bool false, Value.slice none 0 0] 28)).frozen? ⟨w.heap.size + 1 + 1, 0, none⟩ = false := by go_simp
  have kr1 : (((w.alloc (Obj.cells #[Value.bool n1, Value.slice a1 xs1.length c1, Value.bool m1, Value.slice b1 ys1.length e1] 28)).alloc (Obj.cells #[Value.bool n2, Value.slice a2 xs2.length c2, Value.bool m2, Value.slice b2 ys2.length e2] 28)).alloc (Obj.cells #[Value.bool false, Value.slice none 0 0, Value.bool false, Value.slice none 0 0] 28)).cell? ⟨w.heap.size + 1 + 1, 1, none⟩ = some (Value.slice none 0 0) := by go_simp
  have fr1 : (((w.alloc (Obj.cells #[Value.bool n1, Value.slice a1 xs1.length c1, Value.bool m1, Value.slice b1 ys1.length e1] 28)).alloc (Obj.cells #[Value.bool n2, Value.slice a2 xs2.length c2, Value.bool m2, Value.slice b2 ys2.length e2] 28)).alloc (Obj.cells #[Value.bool false, Value.slice none 0 0, Value.bool false, Value.slice none 0 0] 28)).frozen? ⟨w.heap.size + 1 + 1, 1, none⟩ = false := by go_simp
  have kr2 : (((w.alloc (Obj.cells #[Value.bool n1, Value.slice a1 xs1.length c1, Value.bool m1, Value.slice b1 ys1.length e1] 28)).alloc (Obj.cells #[Value.bool n2, Value.slice a2 xs2.length c2, Value.bool m2, Value.slice b2 ys2.length e2] 28)).alloc (Obj.cells #[Value.bool false, Value.slice none 0 0, Value.bool false, Value.slice none 0 0] 28)).cell? ⟨w.heap.size + 1 + 1, 2, none⟩ = some (Value.bool false) := by go_simp
  have fr2 : (((w.alloc (Obj.cells #[Value.bool n1, Value.slice a1 xs1.length c1, Value.bool m1, Value.slice b1 ys1.length e1] 28)).alloc (Obj.cells #[Value.bool n2, Value.slice a2 xs2.length c2, Value.bool m2, Value.slice b2 ys2.length e2] 28)).alloc (Obj.cells #[Value.bool false, Value.slice none 0 0, Value.bool false, Value.slice none 0 0] 28)).frozen? ⟨w.heap.size + 1 + 1, 2, none⟩ = false := by go_simp
  have kr3 : (((w.alloc (Obj.cells #[Value.bool n1, Value.slice a1 xs1.length c1, Value.bool m1, Value.slice b1 ys1.length e1] 28)).alloc (Obj.cells #[Value.bool n2, Value.slice a2 xs2.length c2, Value.bool m2, Value.slice b2 ys2.length e2] 28)).alloc (Obj.cells #[Value.bool false, Value.slice none 0 0, Value.bool false, Value.slice none 0 0] 28)).cell? ⟨w.heap.size + 1 + 1, 3, none⟩ = some (Value.slice none 0 0) := by go_simp
  have fr3 : (((w.alloc (Obj.cells #[Value.bool n1, Value.slice a1 xs1.length c1, Value.bool m1, Value.slice b1 ys1.length e1] 28)).alloc (Obj.cells #[Value.bool n2, Value.slice a2 xs2.length c2, Value.bool m2, Value.slice b2 ys2.length e2] 28)).alloc (Obj.cells #[Value.bool false, Value.slice none 0 0, Value.bool false, Value.slice none 0 0] 28)).frozen? ⟨w.heap.size + 1 + 1, 3, none⟩ = false := by go_simp
  have zr : w.heap.size + 1 + 1 < (((w.alloc (Obj.cells #[Value.bool n1, Value.slice a1 xs1.length c1, Value.bool m1, Value.slice b1 ys1.length e1] 28)).alloc (Obj.cells #[Value.bool n2, Value.slice a2 xs2.length c2, Value.bool m2, Value.slice b2 ys2.length e2] 28)).alloc (Obj.cells #[Value.bool false, Value.slice none 0 0, Value.bool false, Value.slice none 0 0] 28)).heap.size := by simp only [World.size_alloc]; omega
  have HB := hide (bl_alloc (bl_alloc (bl_alloc (bl_refl w) (Obj.cells #[Value.bool n1, Value.slice a1 xs1.length c1, Value.bool m1, Value.slice b1 ys1.length e1] 28)) (Obj.cells #[Value.bool n2, Value.slice a2 xs2.length c2, Value.bool m2, Value.slice b2 ys2.length e2] 28)) (Obj.cells #[Value.bool false, Value.slice none 0 0, Value.bool false, Value.slice none 0 0] 28))
  have S1 := hide (s1.below HB.out)
  have T1 := hide (t1.below HB.out)
  have S2 := hide (s2.below HB.out)
  have T2 := hide (t2.below HB.out)
  clear s1
  clear t1
  clear s2
  clear t2
  go_enter Try.func10, Try.ntmps10
  go_wp2_with fail
  generalize (((w.alloc (Obj.cells #[Value.bool n1, Value.slice a1 xs1.length c1, Value.bool m1, Value.slice b1 ys1.length e1] 28)).alloc (Obj.cells #[Value.bool n2, Value.slice a2 xs2.length c2, Value.bool m2, Value.slice b2 ys2.length e2] 28)).alloc (Obj.cells #[Value.bool false, Value.slice none 0 0, Value.bool false, Value.slice none 0 0] 28)) = w1 at *
  have z0 := zr
  refine (RatOkQ n1 xs1 m1 ys1 a1 c1 b1 e1 _ S1.out T1.out).mono ?_
  rintro e w2 ⟨rfl, hb⟩
  have yw2 := hb.size
  replace ka0 := (hb.cell (p := ⟨w.heap.size, 0, none⟩) (by dsimp only; omega)).trans ka0
  replace ka1 := (hb.cell (p := ⟨w.heap.size, 1, none⟩) (by dsimp only; omega)).trans ka1
  replace ka2 := (hb.cell (p := ⟨w.heap.size, 2, none⟩) (by dsimp only; omega)).trans ka2
  replace ka3 := (hb.cell (p := ⟨w.heap.size, 3, none⟩) (by dsimp only; omega)).trans ka3
  replace kb0 := (hb.cell (p := ⟨w.heap.size + 1, 0, none⟩) (by dsimp only; omega)).trans kb0
  replace kb1 := (hb.cell (p := ⟨w.heap.size + 1, 1, none⟩) (by dsimp only; omega)).trans kb1
  replace kb2 := (hb.cell (p := ⟨w.heap.size + 1, 2, none⟩) (by dsimp only; omega)).trans kb2
  replace kb3 := (hb.cell (p := ⟨w.heap.size + 1, 3, none⟩) (by dsimp only; omega)).trans kb3
  replace kr0 := (hb.cell (p := ⟨w.heap.size + 1 + 1, 0, none⟩) (by dsimp only; omega)).trans kr0
  replace fr0 := (hb.frozen (p := ⟨w.heap.size + 1 + 1, 0, none⟩) (by dsimp only; omega)).trans fr0
  replace kr1 := (hb.cell (p := ⟨w.heap.size + 1 + 1, 1, none⟩) (by dsimp only; omega)).trans kr1
  replace fr1 := (hb.frozen (p := ⟨w.heap.size + 1 + 1, 1, none⟩) (by dsimp only; omega)).trans fr1
  replace kr2 := (hb.cell (p := ⟨w.heap.size + 1 + 1, 2, none⟩) (by dsimp only; omega)).trans kr2
  replace fr2 := (hb.frozen (p := ⟨w.heap.size + 1 + 1, 2, none⟩) (by dsimp only; omega)).trans fr2
  replace kr3 := (hb.cell (p := ⟨w.heap.size + 1 + 1, 3, none⟩) (by dsimp only; omega)).trans kr3
  replace fr3 := (hb.frozen (p := ⟨w.heap.size + 1 + 1, 3, none⟩) (by dsimp only; omega)).trans fr3
  replace S1 := hide (S1.out.below hb)
  replace T1 := hide (T1.out.below hb)
  replace S2 := hide (S2.out.below hb)
  replace T2 := hide (T2.out.below hb)
  replace zr := Nat.lt_of_lt_of_le zr hb.size
  replace HB := hide (bl_trans HB.out hb)
  clear hb
  cases h1 : ratB n1 xs1 m1 ys1 with
  | false =>
    have E1 := hide h1
    clear h1
    have HE : Hid (rtT (ratB n1 xs1 m1 ys1 && ratB n2 xs2 m2 ys2) (mulZ (mk n1 (Num.nat xs1)) (mk m2 (Num.nat ys2))) (mulZ (mk m1 (Num.nat ys1)) (mk n2 (Num.nat xs2))) = false) := hide (ans_f (by rw [E1.out]; rfl))
    go_wp2
    refine bodyPost_ret (v := (.tuple #[.agg #[.bool false, .slice none 0 0, .bool false, .slice none 0 0], .bool false])) (by simp [results, Try.results10, go_sem, kr0, kr1, kr2, kr3]) rfl ?_
    exact ans_no HE.out (by first | exact HB.out | exact set_four (N := w.heap.size + 1 + 1) (by omega) HB.out _ _ _ _)
  | true =>
  have R1 := hide h1
  clear h1
  go_wp2_with fail
  refine (RatOkQ n2 xs2 m2 ys2 a2 c2 b2 e2 _ S2.out T2.out).mono ?_
  rintro e w3 ⟨rfl, hb⟩
  have yw3 := hb.size
  replace ka0 := (hb.cell (p := ⟨w.heap.size, 0, none⟩) (by dsimp only; omega)).trans ka0
  replace ka1 := (hb.cell (p := ⟨w.heap.size, 1, none⟩) (by dsimp only; omega)).trans ka1
  replace ka2 := (hb.cell (p := ⟨w.heap.size, 2, none⟩) (by dsimp only; omega)).trans ka2
  replace ka3 := (hb.cell (p := ⟨w.heap.size, 3, none⟩) (by dsimp only; omega)).trans ka3
  replace kb0 := (hb.cell (p := ⟨w.heap.size + 1, 0, none⟩) (by dsimp only; omega)).trans kb0
  replace kb1 := (hb.cell (p := ⟨w.heap.size + 1, 1, none⟩) (by dsimp only; omega)).trans kb1
  replace kb2 := (hb.cell (p := ⟨w.heap.size + 1, 2, none⟩) (by dsimp only; omega)).trans kb2
  replace kb3 := (hb.cell (p := ⟨w.heap.size + 1, 3, none⟩) (by dsimp only; omega)).trans kb3
  replace kr0 := (hb.cell (p := ⟨w.heap.size + 1 + 1, 0, none⟩) (by dsimp only; omega)).trans kr0
  replace fr0 := (hb.frozen (p := ⟨w.heap.size + 1 + 1, 0, none⟩) (by dsimp only; omega)).trans fr0
  replace kr1 := (hb.cell (p := ⟨w.heap.size + 1 + 1, 1, none⟩) (by dsimp only; omega)).trans kr1
  replace fr1 := (hb.frozen (p := ⟨w.heap.size + 1 + 1, 1, none⟩) (by dsimp only; omega)).trans fr1
  replace kr2 := (hb.cell (p := ⟨w.heap.size + 1 + 1, 2, none⟩) (by dsimp only; omega)).trans kr2
  replace fr2 := (hb.frozen (p := ⟨w.heap.size + 1 + 1, 2, none⟩) (by dsimp only; omega)).trans fr2
  replace kr3 := (hb.cell (p := ⟨w.heap.size + 1 + 1, 3, none⟩) (by dsimp only; omega)).trans kr3
  replace fr3 := (hb.frozen (p := ⟨w.heap.size + 1 + 1, 3, none⟩) (by dsimp only; omega)).trans fr3
  replace S1 := hide (S1.out.below hb)
  replace T1 := hide (T1.out.below hb)
  replace S2 := hide (S2.out.below hb)
  replace T2 := hide (T2.out.below hb)
  replace zr := Nat.lt_of_lt_of_le zr hb.size
  replace HB := hide (bl_trans HB.out hb)
  clear hb
  cases h2 : ratB n2 xs2 m2 ys2 with
  | false =>
    have E2 := hide h2
    clear h2
    have HE : Hid (rtT (ratB n1 xs1 m1 ys1 && ratB n2 xs2 m2 ys2) (mulZ (mk n1 (Num.nat xs1)) (mk m2 (Num.nat ys2))) (mulZ (mk m1 (Num.nat ys1)) (mk n2 (Num.nat xs2))) = false) := hide (ans_f (by rw [E2.out, Bool.and_false]))
    go_wp2
    refine bodyPost_ret (v := (.tuple #[.agg #[.bool false, .slice none 0 0, .bool false, .slice none 0 0], .bool false])) (by simp [results, Try.results10, go_sem, kr0, kr1, kr2, kr3]) rfl ?_
    exact ans_no HE.out (by first | exact HB.out | exact set_four (N := w.heap.size + 1 + 1) (by omega) HB.out _ _ _ _)
  | true =>
  have R2 := hide h2
  clear h2
  have HT : Hid ((ratB n1 xs1 m1 ys1 && ratB n2 xs2 m2 ys2) = true) := hide (by rw [R1.out, R2.out]; rfl)
  obtain ⟨x1, y1, rfl, rfl, rfl, rfl, hx1, hy1, hp1, hg1⟩ := rat_num G1.out G2.out R1.out
  obtain ⟨x2, y2, rfl, rfl, rfl, rfl, hx2, hy2, hp2, hg2⟩ := rat_num G3.out G4.out R2.out
  have l1 : (lms x1).length ≤ 1000 := Nat.le_trans (Num.limbs_len.2 hx1) (by decide)
  have l2 : (lms y1).length ≤ 1000 := Nat.le_trans (Num.limbs_len.2 hy1) (by decide)
  have l3 : (lms x2).length ≤ 1000 := Nat.le_trans (Num.limbs_len.2 hx2) (by decide)
  have l4 : (lms y2).length ≤ 1000 := Nat.le_trans (Num.limbs_len.2 hy2) (by decide)
  have HP1 := hide hp1
  have HP2 := hide hp2
  have HG2 := hide hg2
  clear hx1 hy1 hx2 hy2 hp1 hp2 hg1 hg2 R1 R2 G1 G2 G3 G4
  by_cases hy : x2 = 0
  · skip
    have hl : (((lms x2).length : Int) == 0) = true := by rw [hy, zero_lms]; rfl
    have HY := hide hy
    clear hy
    have HE : Hid (rtT (ratB (sgn x1) (lms x1) (sgn y1) (lms y1) && ratB (sgn x2) (lms x2) (sgn y2) (lms y2)) (mulZ x1 y2) (mulZ y1 x2) = false) := hide (ans_0 (by unfold mulZ; rw [HY.out, Int.mul_zero]))
    go_wp2
    refine bodyPost_ret (v := (.tuple #[.agg #[.bool false, .slice none 0 0, .bool false, .slice none 0 0], .bool false])) (by simp [results, Try.results10, go_sem, kr0, kr1, kr2, kr3]) rfl ?_
    simp only [nat_lms, mk_self]
    exact ans_no HE.out (by first | exact HB.out | exact set_four (N := w.heap.size + 1 + 1) (by omega) HB.out _ _ _ _)
  have hl : (((lms x2).length : Int) == 0) = false := by rw [beq_eq_false_iff_ne]; intro e; exact hy (sgn_lms_nil (by omega))
  have HX := hide hy
  clear hy
  have HY : Hid ((mulZ y1 x2) ≠ 0) := hide (by unfold mulZ; exact Int.mul_ne_zero (by have := HP1.out; omega) HX.out)
  go_upto_region 3 with fail
  clear hl
  have KP : Hid (∀ w', Below w3.heap.size w3 w' → (w'.cell? ⟨w.heap.size, 0, none⟩ = some (Value.bool (sgn x1)) ∧ w'.cell? ⟨w.heap.size, 1, none⟩ = some (Value.slice a1 (lms x1).length c1) ∧ w'.cell? ⟨w.heap.size, 2, none⟩ = some (Value.bool (sgn y1)) ∧ w'.cell? ⟨w.heap.size, 3, none⟩ = some (Value.slice b1 (lms y1).length e1) ∧ w'.cell? ⟨w.heap.size + 1, 0, none⟩ = some (Value.bool (sgn x2)) ∧ w'.cell? ⟨w.heap.size + 1, 1, none⟩ = some (Value.slice a2 (lms x2).length c2) ∧ w'.cell? ⟨w.heap.size + 1, 2, none⟩ = some (Value.bool (sgn y2)) ∧ w'.cell? ⟨w.heap.size + 1, 3, none⟩ = some (Value.slice b2 (lms y2).length e2))) := hide (fun w' hb => ⟨(hb.cell (p := ⟨w.heap.size, 0, none⟩) (by dsimp only; omega)).trans ka0, (hb.cell (p := ⟨w.heap.size, 1, none⟩) (by dsimp only; omega)).trans ka1, (hb.cell (p := ⟨w.heap.size, 2, none⟩) (by dsimp only; omega)).trans ka2, (hb.cell (p := ⟨w.heap.size, 3, none⟩) (by dsimp only; omega)).trans ka3, (hb.cell (p := ⟨w.heap.size + 1, 0, none⟩) (by dsimp only; omega)).trans kb0, (hb.cell (p := ⟨w.heap.size + 1, 1, none⟩) (by dsimp only; omega)).trans kb1, (hb.cell (p := ⟨w.heap.size + 1, 2, none⟩) (by dsimp only; omega)).trans kb2, (hb.cell (p := ⟨w.heap.size + 1, 3, none⟩) (by dsimp only; omega)).trans kb3⟩)
  have KP4 : Hid (∀ w', Below w3.heap.size w3 w' → ∀ x y z t, (((((w'.setCell ⟨w.heap.size + 1 + 1, 0, none⟩ x).setCell ⟨w.heap.size + 1 + 1, 1, none⟩ y).setCell ⟨w.heap.size + 1 + 1, 2, none⟩ z).setCell ⟨w.heap.size + 1 + 1, 3, none⟩ t).cell? ⟨w.heap.size, 0, none⟩ = some (Value.bool (sgn x1)) ∧ ((((w'.setCell ⟨w.heap.size + 1 + 1, 0, none⟩ x).setCell ⟨w.heap.size + 1 + 1, 1, none⟩ y).setCell ⟨w.heap.size + 1 + 1, 2, none⟩ z).setCell ⟨w.heap.size + 1 + 1, 3, none⟩ t).cell? ⟨w.heap.size, 1, none⟩ = some (Value.slice a1 (lms x1).length c1) ∧ ((((w'.setCell ⟨w.heap.size + 1 + 1, 0, none⟩ x).setCell ⟨w.heap.size + 1 + 1, 1, none⟩ y).setCell ⟨w.heap.size + 1 + 1, 2, none⟩ z).setCell ⟨w.heap.size + 1 + 1, 3, none⟩ t).cell? ⟨w.heap.size, 2, none⟩ = some (Value.bool (sgn y1)) ∧ ((((w'.setCell ⟨w.heap.size + 1 + 1, 0, none⟩ x).setCell ⟨w.heap.size + 1 + 1, 1, none⟩ y).setCell ⟨w.heap.size + 1 + 1, 2, none⟩ z).setCell ⟨w.heap.size + 1 + 1, 3, none⟩ t).cell? ⟨w.heap.size, 3, none⟩ = some (Value.slice b1 (lms y1).length e1) ∧ ((((w'.setCell ⟨w.heap.size + 1 + 1, 0, none⟩ x).setCell ⟨w.heap.size + 1 + 1, 1, none⟩ y).setCell ⟨w.heap.size + 1 + 1, 2, none⟩ z).setCell ⟨w.heap.size + 1 + 1, 3, none⟩ t).cell? ⟨w.heap.size + 1, 0, none⟩ = some (Value.bool (sgn x2)) ∧ ((((w'.setCell ⟨w.heap.size + 1 + 1, 0, none⟩ x).setCell ⟨w.heap.size + 1 + 1, 1, none⟩ y).setCell ⟨w.heap.size + 1 + 1, 2, none⟩ z).setCell ⟨w.heap.size + 1 + 1, 3, none⟩ t).cell? ⟨w.heap.size + 1, 1, none⟩ = some (Value.slice a2 (lms x2).length c2) ∧ ((((w'.setCell ⟨w.heap.size + 1 + 1, 0, none⟩ x).setCell ⟨w.heap.size + 1 + 1, 1, none⟩ y).setCell ⟨w.heap.size + 1 + 1, 2, none⟩ z).setCell ⟨w.heap.size + 1 + 1, 3, none⟩ t).cell? ⟨w.heap.size + 1, 2, none⟩ = some (Value.bool (sgn y2)) ∧ ((((w'.setCell ⟨w.heap.size + 1 + 1, 0, none⟩ x).setCell ⟨w.heap.size + 1 + 1, 1, none⟩ y).setCell ⟨w.heap.size + 1 + 1, 2, none⟩ z).setCell ⟨w.heap.size + 1 + 1, 3, none⟩ t).cell? ⟨w.heap.size + 1, 3, none⟩ = some (Value.slice b2 (lms y2).length e2))) := hide (fun w' hb x y z t => ⟨(cell_four (p := ⟨w.heap.size, 0, none⟩) (by dsimp only; omega)).trans ((hb.cell (p := ⟨w.heap.size, 0, none⟩) (by dsimp only; omega)).trans ka0), (cell_four (p := ⟨w.heap.size, 1, none⟩) (by dsimp only; omega)).trans ((hb.cell (p := ⟨w.heap.size, 1, none⟩) (by dsimp only; omega)).trans ka1), (cell_four (p := ⟨w.heap.size, 2, none⟩) (by dsimp only; omega)).trans ((hb.cell (p := ⟨w.heap.size, 2, none⟩) (by dsimp only; omega)).trans ka2), (cell_four (p := ⟨w.heap.size, 3, none⟩) (by dsimp only; omega)).trans ((hb.cell (p := ⟨w.heap.size, 3, none⟩) (by dsimp only; omega)).trans ka3), (cell_four (p := ⟨w.heap.size + 1, 0, none⟩) (by dsimp only; omega)).trans ((hb.cell (p := ⟨w.heap.size + 1, 0, none⟩) (by dsimp only; omega)).trans kb0), (cell_four (p := ⟨w.heap.size + 1, 1, none⟩) (by dsimp only; omega)).trans ((hb.cell (p := ⟨w.heap.size + 1, 1, none⟩) (by dsimp only; omega)).trans kb1), (cell_four (p := ⟨w.heap.size + 1, 2, none⟩) (by dsimp only; omega)).trans ((hb.cell (p := ⟨w.heap.size + 1, 2, none⟩) (by dsimp only; omega)).trans kb2), (cell_four (p := ⟨w.heap.size + 1, 3, none⟩) (by dsimp only; omega)).trans ((hb.cell (p := ⟨w.heap.size + 1, 3, none⟩) (by dsimp only; omega)).trans kb3)⟩)
  cases e3 : ftT ((mulZ x1 y2) / sgG (mulZ x1 y2) (mulZ y1 x2)) ((mulZ y1 x2) / sgG (mulZ x1 y2) (mulZ y1 x2)) with
  | false =>
    have E3 := hide e3
    have HE := hide ((ans_ft HT.out HY.out).trans e3)
    clear e3
    go_region_held3 (fun w' => w'.cell? ⟨w.heap.size, 0, none⟩ = some (Value.bool (sgn x1)) ∧ w'.cell? ⟨w.heap.size, 1, none⟩ = some (Value.slice a1 (lms x1).length c1) ∧ w'.cell? ⟨w.heap.size, 2, none⟩ = some (Value.bool (sgn y1)) ∧ w'.cell? ⟨w.heap.size, 3, none⟩ = some (Value.slice b1 (lms y1).length e1) ∧ w'.cell? ⟨w.heap.size + 1, 0, none⟩ = some (Value.bool (sgn x2)) ∧ w'.cell? ⟨w.heap.size + 1, 1, none⟩ = some (Value.slice a2 (lms x2).length c2) ∧ w'.cell? ⟨w.heap.size + 1, 2, none⟩ = some (Value.bool (sgn y2)) ∧ w'.cell? ⟨w.heap.size + 1, 3, none⟩ = some (Value.slice b2 (lms y2).length e2))
      (first | with_reducible exact KP.out _ (bl_refl w3).drew | with_reducible exact KP4.out _ hbC _ _ _ _ | with_reducible exact KP.out _ hbC | with_reducible exact KP.out _ hbB | with_reducible exact KP.out _ hbA)
      (first
        | (have hq := hbB; go_at_call 27; refine (fitS_f ((mulZ x1 y2) / sgG (mulZ x1 y2) (mulZ y1 x2)) ((mulZ y1 x2) / sgG (mulZ x1 y2) (mulZ y1 x2)) d1 f1 d2 f2 _ ho1.seg ho2.seg E3.out).mono ?_; rintro e wC ⟨rfl, hbCr⟩; have hbC : Below w3.heap.size w3 wC := bl_trans hbB hbCr; have qA := hbA.size; have qB := hbB.size; have qC := hbC.size; have kr0 := (hbC.cell (p := ⟨w.heap.size + 1 + 1, 0, none⟩) (by dsimp only; omega)).trans kr0; have fr0 := (hbC.frozen (p := ⟨w.heap.size + 1 + 1, 0, none⟩) (by dsimp only; omega)).trans fr0; have kr1 := (hbC.cell (p := ⟨w.heap.size + 1 + 1, 1, none⟩) (by dsimp only; omega)).trans kr1; have fr1 := (hbC.frozen (p := ⟨w.heap.size + 1 + 1, 1, none⟩) (by dsimp only; omega)).trans fr1; have kr2 := (hbC.cell (p := ⟨w.heap.size + 1 + 1, 2, none⟩) (by dsimp only; omega)).trans kr2; have fr2 := (hbC.frozen (p := ⟨w.heap.size + 1 + 1, 2, none⟩) (by dsimp only; omega)).trans fr2; have kr3 := (hbC.cell (p := ⟨w.heap.size + 1 + 1, 3, none⟩) (by dsimp only; omega)).trans kr3; have fr3 := (hbC.frozen (p := ⟨w.heap.size + 1 + 1, 3, none⟩) (by dsimp only; omega)).trans fr3; have HO1 := hide (ho1.below hbCr); have HO2 := hide (ho2.below hbCr); have HAP := hide hap; clear hq)
        | (have hq := hbA; go_at_call 29; refine (quoRS x1 y1 x2 y2 a1 c1 b1 e1 u v u' v' _ l1 l2 l3 l4 (S1.out.below hbA) (T1.out.below hbA) hoA.seg hoA'.seg HG2.out HX.out HY.out).mono ?_; rintro e wB ⟨d1, f1, d2, f2, rfl, ho1, ho2, hap, hbBr⟩; have hbB : Below w3.heap.size w3 wB := bl_trans hbA hbBr; clear hq)
        | (go_at_call 30; refine (turnRS x2 y2 a2 c2 b2 e2 _ l3 l4 (S2.out.below (bl_refl w3).drew) (T2.out.below (bl_refl w3).drew) HX.out).mono ?_; rintro e wA ⟨u, v, u', v', rfl, hoA, hoA', -, hbAr⟩; have hbA : Below w3.heap.size w3 wA := (bl_refl w3).drew.trans hbAr))
    replace HB := hide (bl_trans HB.out hbC)
    clear KP KP4 hbA hbAr hbB hbBr hbC hbCr ho1 ho2 hap hoA hoA'
    go_wp2
    refine bodyPost_ret (v := (.tuple #[.agg #[.bool false, .slice none 0 0, .bool false, .slice none 0 0], .bool false])) (by simp [results, Try.results10, go_sem, kr0, kr1, kr2, kr3]) rfl ?_
    simp only [nat_lms, mk_self]
    exact ans_no HE.out (set_four (N := w.heap.size + 1 + 1) (by omega) HB.out _ _ _ _)
  | true =>
  have E3 := hide e3
  have HE := hide ((ans_ft HT.out HY.out).trans e3)
  clear e3
  go_region_held3 (fun w' => w'.cell? ⟨w.heap.size, 0, none⟩ = some (Value.bool (sgn x1)) ∧ w'.cell? ⟨w.heap.size, 1, none⟩ = some (Value.slice a1 (lms x1).length c1) ∧ w'.cell? ⟨w.heap.size, 2, none⟩ = some (Value.bool (sgn y1)) ∧ w'.cell? ⟨w.heap.size, 3, none⟩ = some (Value.slice b1 (lms y1).length e1) ∧ w'.cell? ⟨w.heap.size + 1, 0, none⟩ = some (Value.bool (sgn x2)) ∧ w'.cell? ⟨w.heap.size + 1, 1, none⟩ = some (Value.slice a2 (lms x2).length c2) ∧ w'.cell? ⟨w.heap.size + 1, 2, none⟩ = some (Value.bool (sgn y2)) ∧ w'.cell? ⟨w.heap.size + 1, 3, none⟩ = some (Value.slice b2 (lms y2).length e2))
    (first | with_reducible exact KP.out _ (bl_refl w3).drew | with_reducible exact KP4.out _ hbC _ _ _ _ | with_reducible exact KP.out _ hbC | with_reducible exact KP.out _ hbB | with_reducible exact KP.out _ hbA)
    (first
      | (have hq := hbB; go_at_call 27; refine (fitS_t ((mulZ x1 y2) / sgG (mulZ x1 y2) (mulZ y1 x2)) ((mulZ y1 x2) / sgG (mulZ x1 y2) (mulZ y1 x2)) d1 f1 d2 f2 _ ho1.seg ho2.seg E3.out).mono ?_; rintro e wC ⟨rfl, hbCr⟩; have hbC : Below w3.heap.size w3 wC := bl_trans hbB hbCr; have qA := hbA.size; have qB := hbB.size; have qC := hbC.size; have kr0 := (hbC.cell (p := ⟨w.heap.size + 1 + 1, 0, none⟩) (by dsimp only; omega)).trans kr0; have fr0 := (hbC.frozen (p := ⟨w.heap.size + 1 + 1, 0, none⟩) (by dsimp only; omega)).trans fr0; have kr1 := (hbC.cell (p := ⟨w.heap.size + 1 + 1, 1, none⟩) (by dsimp only; omega)).trans kr1; have fr1 := (hbC.frozen (p := ⟨w.heap.size + 1 + 1, 1, none⟩) (by dsimp only; omega)).trans fr1; have kr2 := (hbC.cell (p := ⟨w.heap.size + 1 + 1, 2, none⟩) (by dsimp only; omega)).trans kr2; have fr2 := (hbC.frozen (p := ⟨w.heap.size + 1 + 1, 2, none⟩) (by dsimp only; omega)).trans fr2; have kr3 := (hbC.cell (p := ⟨w.heap.size + 1 + 1, 3, none⟩) (by dsimp only; omega)).trans kr3; have fr3 := (hbC.frozen (p := ⟨w.heap.size + 1 + 1, 3, none⟩) (by dsimp only; omega)).trans fr3; have HO1 := hide (ho1.below hbCr); have HO2 := hide (ho2.below hbCr); have HAP := hide hap; clear hq)
      | (have hq := hbA; go_at_call 29; refine (quoRS x1 y1 x2 y2 a1 c1 b1 e1 u v u' v' _ l1 l2 l3 l4 (S1.out.below hbA) (T1.out.below hbA) hoA.seg hoA'.seg HG2.out HX.out HY.out).mono ?_; rintro e wB ⟨d1, f1, d2, f2, rfl, ho1, ho2, hap, hbBr⟩; have hbB : Below w3.heap.size w3 wB := bl_trans hbA hbBr; clear hq)
      | (go_at_call 30; refine (turnRS x2 y2 a2 c2 b2 e2 _ l3 l4 (S2.out.below (bl_refl w3).drew) (T2.out.below (bl_refl w3).drew) HX.out).mono ?_; rintro e wA ⟨u, v, u', v', rfl, hoA, hoA', -, hbAr⟩; have hbA : Below w3.heap.size w3 wA := (bl_refl w3).drew.trans hbAr))
  replace HB := hide (bl_trans HB.out hbC)
  clear KP KP4 hbA hbAr hbB hbBr hbC hbCr ho1 ho2 hap hoA hoA'
  go_wp2
  refine bodyPost_ret (v := (.tuple #[Value.agg #[Value.bool (sgn ((mulZ x1 y2) / sgG (mulZ x1 y2) (mulZ y1 x2))), Value.slice d1 (lms ((mulZ x1 y2) / sgG (mulZ x1 y2) (mulZ y1 x2))).length f1, Value.bool (sgn ((mulZ y1 x2) / sgG (mulZ x1 y2) (mulZ y1 x2))), Value.slice d2 (lms ((mulZ y1 x2) / sgG (mulZ x1 y2) (mulZ y1 x2))).length f2], .bool true])) (by simp [results, Try.results10, go_sem, kr0, kr1, kr2, kr3]) rfl ?_
  obtain ⟨h1, h2, h3⟩ := fin_four (N := w.heap.size + 1 + 1) HO1.out HO2.out (by omega) (by omega) (by omega) HB.out (Value.bool (sgn ((mulZ x1 y2) / sgG (mulZ x1 y2) (mulZ y1 x2)))) (Value.slice d1 (lms ((mulZ x1 y2) / sgG (mulZ x1 y2) (mulZ y1 x2))).length f1) (Value.bool (sgn ((mulZ y1 x2) / sgG (mulZ x1 y2) (mulZ y1 x2)))) (Value.slice d2 (lms ((mulZ y1 x2) / sgG (mulZ x1 y2) (mulZ y1 x2))).length f2)
  simp only [nat_lms, mk_self]
  exact ans_yes HE.out h1 h2 HAP.out h3


end Go.Proofs.Ytpjckilmbidbgaa
