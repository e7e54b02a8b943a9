/- My texts Divide, RootA, in this order. -/
import Derived.Test.YthjapjbiclkhcaaPk12
import Derived.Test.YthjapjbiclkhcaaPk01
import Derived.Test.YthjapjbiclkhcaaPk05
import Derived.Test.YthjapjbiclkhcaaPk11
import Derived.Test.YthjapjbiclkhcaaPk04
/- The walk of bigDivide: a whole number divided by another, quotient and rest in memory of their own. -/
namespace Go.Proofs.Ythjapjbiclkhcaa
open Go.RowKit
set_option linter.unusedVariables false

theorem bigOfI3 (neg : Bool) (a : Option Addr) (n cap m : Nat) (base : Nat) (w : World) (ho : Own w base a n cap (Num.limbs m)) :
    Calls Try.prog 67 #[.bool neg, .slice a n cap] w fun e w' => ∃ a' c', e = .returned (.agg #[.bool (sgn (mk neg m)), .slice a' (lms (mk neg m)).length c']) ∧ (∀ W, Own W base a n cap (Num.limbs m) → Own W base a' (lms (mk neg m)).length c' (lms (mk neg m))) ∧ (a' = none ∨ a' = a) ∧ Below w.heap.size w w' := by
  have := bigOfI2 neg a n cap (Num.limbs m) base w ho
  rw [Num.nat_limbs] at this
  exact this
theorem one_len : (lms 1).length ≤ 400000 := by unfold lms; rw [show Int.natAbs 1 = 1 from rfl, Num.limbs_pos (by decide)]; simp [Num.limbs_zero]
theorem rest_pos {x y : Int} (hr : ¬ mk (sgn x) (x.natAbs % y.natAbs) < 0) : (0 ≤ x ∨ x.natAbs % y.natAbs = 0) ∧ mk (sgn x) (x.natAbs % y.natAbs) = ((x.natAbs % y.natAbs : Nat) : Int) := by
  unfold mk sgn at *
  generalize x.natAbs % y.natAbs = m at *
  by_cases h : x < 0
  · simp [h] at hr ⊢
    omega
  · simp [h]
    omega
theorem sumQ (v1 v2 : Value) (x y : Int) (w : World) (h1 : Is w v1 x) (h2 : Is w v2 y) (l1 : (lms x).length ≤ 400000) (l2 : (lms y).length ≤ 400000) :
    Calls Try.prog 36 #[v1, v2] w fun e w' => ∃ v, e = .returned v ∧ New w' w.heap.size v (x + y) ∧ Below w.heap.size w w' := by
  have := sumI v1 v2 (sgn x) (sgn y) x.natAbs y.natAbs w h1 h2 (Nat.le_trans l1 (by decide)) (Nat.le_trans l2 (by decide))
  rw [mk_self, mk_self] at this
  exact this
theorem diffQ (v1 v2 : Value) (x y : Int) (w : World) (h1 : Is w v1 x) (h2 : Is w v2 y) (l1 : (lms x).length ≤ 400000) (l2 : (lms y).length ≤ 400000) :
    Calls Try.prog 84 #[v1, v2] w fun e w' => ∃ v, e = .returned v ∧ New w' w.heap.size v (x - y) ∧ Below w.heap.size w w' := by
  have := diffI v1 v2 (sgn x) (sgn y) x.natAbs y.natAbs w h1 h2 (Nat.le_trans l1 (by decide)) (Nat.le_trans l2 (by decide))
  rw [mk_self, mk_self] at this
  exact this
theorem len_mono {a b k : Nat} (h : a ≤ b) (hl : (Num.limbs b).length ≤ k) : (Num.limbs a).length ≤ k := Num.limbs_len.2 (Nat.lt_of_le_of_lt h (Num.limbs_len.1 hl))
theorem div_len {A B k : Nat} (hl : (Num.limbs A).length ≤ k) : (Num.limbs (A / B)).length ≤ k := len_mono (Nat.div_le_self _ _) hl
theorem mod_len {A B k : Nat} (hl : (Num.limbs A).length ≤ k) : (Num.limbs (A % B)).length ≤ k := len_mono (Nat.mod_le _ _) hl
theorem apart_own {W W' : World} {b1 n m c c' : Nat} {a a' : Option Addr} {xs ys : List Nat} (h : Own W b1 a n c xs) (h' : Own W' W.heap.size a' m c' ys) : Apart a a' := by
  rcases h.cases with ⟨rfl, _⟩ | ⟨g, rfl, h1, h2⟩
  · exact Apart.none _
  · rcases h'.cases with ⟨rfl, _⟩ | ⟨g', rfl, h3, h4⟩
    · exact Apart.none' _
    · exact Apart.blocks (by omega)
/-- two lists are stored in two boxes of the call's own -/
theorem fin_two' {w w1 : World} {N M base n1 c1 n2 c2 : Nat} {a1 a2 : Option Addr} {xs1 xs2 : List Nat} (h1 : Own w1 base a1 n1 c1 xs1) (h2 : Own w1 base a2 n2 c2 xs2) (hap : Apart a1 a2) (hN : N < base) (hM : M < base) (wN : w.heap.size ≤ N) (wM : w.heap.size ≤ M) (hb : Below w.heap.size w w1) (x y z t : Value) :
    Own ((((w1.setCell ⟨N, 0, none⟩ x).setCell ⟨N, 1, none⟩ y).setCell ⟨M, 0, none⟩ z).setCell ⟨M, 1, none⟩ t) w.heap.size a1 n1 c1 xs1 ∧ Own ((((w1.setCell ⟨N, 0, none⟩ x).setCell ⟨N, 1, none⟩ y).setCell ⟨M, 0, none⟩ z).setCell ⟨M, 1, none⟩ t) w.heap.size a2 n2 c2 xs2 ∧ Apart a1 a2 ∧
      Below w.heap.size w ((((w1.setCell ⟨N, 0, none⟩ x).setCell ⟨N, 1, none⟩ y).setCell ⟨M, 0, none⟩ z).setCell ⟨M, 1, none⟩ t) :=
  ⟨((((h1.setCell (p := ⟨N, 0, none⟩) hN x).setCell (p := ⟨N, 1, none⟩) hN y).setCell (p := ⟨M, 0, none⟩) hM z).setCell (p := ⟨M, 1, none⟩) hM t).mono (by omega),
   ((((h2.setCell (p := ⟨N, 0, none⟩) hN x).setCell (p := ⟨N, 1, none⟩) hN y).setCell (p := ⟨M, 0, none⟩) hM z).setCell (p := ⟨M, 1, none⟩) hM t).mono (by omega), hap,
   (((hb.setCell (p := ⟨N, 0, none⟩) wN x).setCell (p := ⟨N, 1, none⟩) wN y).setCell (p := ⟨M, 0, none⟩) wM z).setCell (p := ⟨M, 1, none⟩) wM t⟩

theorem fin_drew {w W : World} {b n1 c1 n2 c2 : Nat} {a1 a2 : Option Addr} {xs1 xs2 : List Nat} (h : Own W b a1 n1 c1 xs1 ∧ Own W b a2 n2 c2 xs2 ∧ Apart a1 a2 ∧ Below w.heap.size w W) : Own W.drew b a1 n1 c1 xs1 ∧ Own W.drew b a2 n2 c2 xs2 ∧ Apart a1 a2 ∧ Below w.heap.size w W.drew :=
  ⟨h.1.below (bl_refl _).drew, h.2.1.below (bl_refl _).drew, h.2.2.1, bl_trans h.2.2.2 (bl_refl _).drew⟩

set_option maxHeartbeats 4000000 in
set_option maxRecDepth 20000 in
theorem divI (v1 v2 : Value) (x y : Int) (w : World) (h1 : Is w v1 x) (h2 : Is w v2 y) (hy : y ≠ 0) (l1 : (lms x).length ≤ 400000) (l2 : (lms y).length ≤ 400000) :
    Calls Try.prog 59 #[v1, v2] w fun e w' => ∃ a1 c1 a2 c2, e = .returned (.tuple #[.agg #[.bool (sgn (x / y)), .slice a1 (lms (x / y)).length c1], .agg #[.bool (sgn (x % y)), .slice a2 (lms (x % y)).length c2]]) ∧ Own w' w.heap.size a1 (lms (x / y)).length c1 (lms (x / y)) ∧ Own w' w.heap.size a2 (lms (x % y)).length c2 (lms (x % y)) ∧ Apart a1 a2 ∧ Below w.heap.size w w' := by
  obtain ⟨a, ca, rfl, ha⟩ := h1
  obtain ⟨b, cb, rfl, hb⟩ := h2
  have HA := hide ha
  have HBB := hide hb
  clear ha hb
  have kA0 : ((((w.alloc (Obj.cells #[Value.bool (sgn x), Value.slice a (lms x).length ca] 26)).alloc (Obj.cells #[Value.bool (sgn y), Value.slice b (lms y).length cb] 26)).alloc (Obj.cells #[Value.bool false, Value.slice none 0 0] 26)).alloc (Obj.cells #[Value.bool false, Value.slice none 0 0] 26)).cell? ⟨w.heap.size, 0, none⟩ = some (Value.bool (sgn x)) := by go_simp
  have kA1 : ((((w.alloc (Obj.cells #[Value.bool (sgn x), Value.slice a (lms x).length ca] 26)).alloc (Obj.cells #[Value.bool (sgn y), Value.slice b (lms y).length cb] 26)).alloc (Obj.cells #[Value.bool false, Value.slice none 0 0] 26)).alloc (Obj.cells #[Value.bool false, Value.slice none 0 0] 26)).cell? ⟨w.heap.size, 1, none⟩ = some (Value.slice a (lms x).length ca) := by go_simp
  have zA : w.heap.size < ((((w.alloc (Obj.cells #[Value.bool (sgn x), Value.slice a (lms x).length ca] 26)).alloc (Obj.cells #[Value.bool (sgn y), Value.slice b (lms y).length cb] 26)).alloc (Obj.cells #[Value.bool false, Value.slice none 0 0] 26)).alloc (Obj.cells #[Value.bool false, Value.slice none 0 0] 26)).heap.size := by simp only [World.size_alloc]; omega
  have kB0 : ((((w.alloc (Obj.cells #[Value.bool (sgn x), Value.slice a (lms x).length ca] 26)).alloc (Obj.cells #[Value.bool (sgn y), Value.slice b (lms y).length cb] 26)).alloc (Obj.cells #[Value.bool false, Value.slice none 0 0] 26)).alloc (Obj.cells #[Value.bool false, Value.slice none 0 0] 26)).cell? ⟨w.heap.size + 1, 0, none⟩ = some (Value.bool (sgn y)) := by go_simp
  have kB1 : ((((w.alloc (Obj.cells #[Value.bool (sgn x), Value.slice a (lms x).length ca] 26)).alloc (Obj.cells #[Value.bool (sgn y), Value.slice b (lms y).length cb] 26)).alloc (Obj.cells #[Value.bool false, Value.slice none 0 0] 26)).alloc (Obj.cells #[Value.bool false, Value.slice none 0 0] 26)).cell? ⟨w.heap.size + 1, 1, none⟩ = some (Value.slice b (lms y).length cb) := by go_simp
  have zB : w.heap.size + 1 < ((((w.alloc (Obj.cells #[Value.bool (sgn x), Value.slice a (lms x).length ca] 26)).alloc (Obj.cells #[Value.bool (sgn y), Value.slice b (lms y).length cb] 26)).alloc (Obj.cells #[Value.bool false, Value.slice none 0 0] 26)).alloc (Obj.cells #[Value.bool false, Value.slice none 0 0] 26)).heap.size := by simp only [World.size_alloc]; omega
  have kR0 : ((((w.alloc (Obj.cells #[Value.bool (sgn x), Value.slice a (lms x).length ca] 26)).alloc (Obj.cells #[Value.bool (sgn y), Value.slice b (lms y).length cb] 26)).alloc (Obj.cells #[Value.bool false, Value.slice none 0 0] 26)).alloc (Obj.cells #[Value.bool false, Value.slice none 0 0] 26)).cell? ⟨w.heap.size + 1 + 1, 0, none⟩ = some (Value.bool false) := by go_simp
  have fR0 : ((((w.alloc (Obj.cells #[Value.bool (sgn x), Value.slice a (lms x).length ca] 26)).alloc (Obj.cells #[Value.bool (sgn y), Value.slice b (lms y).length cb] 26)).alloc (Obj.cells #[Value.bool false, Value.slice none 0 0] 26)).alloc (Obj.cells #[Value.bool false, Value.slice none 0 0] 26)).frozen? ⟨w.heap.size + 1 + 1, 0, none⟩ = false := by go_simp
  have kR1 : ((((w.alloc (Obj.cells #[Value.bool (sgn x), Value.slice a (lms x).length ca] 26)).alloc (Obj.cells #[Value.bool (sgn y), Value.slice b (lms y).length cb] 26)).alloc (Obj.cells #[Value.bool false, Value.slice none 0 0] 26)).alloc (Obj.cells #[Value.bool false, Value.slice none 0 0] 26)).cell? ⟨w.heap.size + 1 + 1, 1, none⟩ = some (Value.slice none 0 0) := by go_simp
  have fR1 : ((((w.alloc (Obj.cells #[Value.bool (sgn x), Value.slice a (lms x).length ca] 26)).alloc (Obj.cells #[Value.bool (sgn y), Value.slice b (lms y).length cb] 26)).alloc (Obj.cells #[Value.bool false, Value.slice none 0 0] 26)).alloc (Obj.cells #[Value.bool false, Value.slice none 0 0] 26)).frozen? ⟨w.heap.size + 1 + 1, 1, none⟩ = false := by go_simp
  have zR : w.heap.size + 1 + 1 < ((((w.alloc (Obj.cells #[Value.bool (sgn x), Value.slice a (lms x).length ca] 26)).alloc (Obj.cells #[Value.bool (sgn y), Value.slice b (lms y).length cb] 26)).alloc (Obj.cells #[Value.bool false, Value.slice none 0 0] 26)).alloc (Obj.cells #[Value.bool false, Value.slice none 0 0] 26)).heap.size := by simp only [World.size_alloc]; omega
  have kT0 : ((((w.alloc (Obj.cells #[Value.bool (sgn x), Value.slice a (lms x).length ca] 26)).alloc (Obj.cells #[Value.bool (sgn y), Value.slice b (lms y).length cb] 26)).alloc (Obj.cells #[Value.bool false, Value.slice none 0 0] 26)).alloc (Obj.cells #[Value.bool false, Value.slice none 0 0] 26)).cell? ⟨w.heap.size + 1 + 1 + 1, 0, none⟩ = some (Value.bool false) := by go_simp
  have fT0 : ((((w.alloc (Obj.cells #[Value.bool (sgn x), Value.slice a (lms x).length ca] 26)).alloc (Obj.cells #[Value.bool (sgn y), Value.slice b (lms y).length cb] 26)).alloc (Obj.cells #[Value.bool false, Value.slice none 0 0] 26)).alloc (Obj.cells #[Value.bool false, Value.slice none 0 0] 26)).frozen? ⟨w.heap.size + 1 + 1 + 1, 0, none⟩ = false := by go_simp
  have kT1 : ((((w.alloc (Obj.cells #[Value.bool (sgn x), Value.slice a (lms x).length ca] 26)).alloc (Obj.cells #[Value.bool (sgn y), Value.slice b (lms y).length cb] 26)).alloc (Obj.cells #[Value.bool false, Value.slice none 0 0] 26)).alloc (Obj.cells #[Value.bool false, Value.slice none 0 0] 26)).cell? ⟨w.heap.size + 1 + 1 + 1, 1, none⟩ = some (Value.slice none 0 0) := by go_simp
  have fT1 : ((((w.alloc (Obj.cells #[Value.bool (sgn x), Value.slice a (lms x).length ca] 26)).alloc (Obj.cells #[Value.bool (sgn y), Value.slice b (lms y).length cb] 26)).alloc (Obj.cells #[Value.bool false, Value.slice none 0 0] 26)).alloc (Obj.cells #[Value.bool false, Value.slice none 0 0] 26)).frozen? ⟨w.heap.size + 1 + 1 + 1, 1, none⟩ = false := by go_simp
  have zT : w.heap.size + 1 + 1 + 1 < ((((w.alloc (Obj.cells #[Value.bool (sgn x), Value.slice a (lms x).length ca] 26)).alloc (Obj.cells #[Value.bool (sgn y), Value.slice b (lms y).length cb] 26)).alloc (Obj.cells #[Value.bool false, Value.slice none 0 0] 26)).alloc (Obj.cells #[Value.bool false, Value.slice none 0 0] 26)).heap.size := by simp only [World.size_alloc]; omega
  have HB := hide (bl_alloc (bl_alloc (bl_alloc (bl_alloc (bl_refl w) (Obj.cells #[Value.bool (sgn x), Value.slice a (lms x).length ca] 26)) (Obj.cells #[Value.bool (sgn y), Value.slice b (lms y).length cb] 26)) (Obj.cells #[Value.bool false, Value.slice none 0 0] 26)) (Obj.cells #[Value.bool false, Value.slice none 0 0] 26))
  replace HA := hide (HA.out.below HB.out)
  replace HBB := hide (HBB.out.below HB.out)
  have y0 : ((((w.alloc (Obj.cells #[Value.bool (sgn x), Value.slice a (lms x).length ca] 26)).alloc (Obj.cells #[Value.bool (sgn y), Value.slice b (lms y).length cb] 26)).alloc (Obj.cells #[Value.bool false, Value.slice none 0 0] 26)).alloc (Obj.cells #[Value.bool false, Value.slice none 0 0] 26)).heap.size = w.heap.size + 4 := by simp only [World.size_alloc]
  go_enter Try.func59, Try.ntmps59
  go_wp2_with fail
  generalize ((((w.alloc (Obj.cells #[Value.bool (sgn x), Value.slice a (lms x).length ca] 26)).alloc (Obj.cells #[Value.bool (sgn y), Value.slice b (lms y).length cb] 26)).alloc (Obj.cells #[Value.bool false, Value.slice none 0 0] 26)).alloc (Obj.cells #[Value.bool false, Value.slice none 0 0] 26)) = w1 at *
  refine (dlimbsI a b _ _ ca cb x.natAbs y.natAbs _ HA.out HBB.out (by omega) l1 l2).mono ?_
  rintro e w2 ⟨aq, cq, ar, cr, rfl, hoq, hor, hap, hbw2⟩
  have yw2 := hbw2.size
  replace kA0 := (hbw2.cell (p := ⟨w.heap.size, 0, none⟩) zA).trans kA0
  replace kA1 := (hbw2.cell (p := ⟨w.heap.size, 1, none⟩) zA).trans kA1
  replace zA := Nat.lt_of_lt_of_le zA hbw2.size
  replace kB0 := (hbw2.cell (p := ⟨w.heap.size + 1, 0, none⟩) zB).trans kB0
  replace kB1 := (hbw2.cell (p := ⟨w.heap.size + 1, 1, none⟩) zB).trans kB1
  replace zB := Nat.lt_of_lt_of_le zB hbw2.size
  replace kR0 := (hbw2.cell (p := ⟨w.heap.size + 1 + 1, 0, none⟩) zR).trans kR0
  replace fR0 := (hbw2.frozen (p := ⟨w.heap.size + 1 + 1, 0, none⟩) zR).trans fR0
  replace kR1 := (hbw2.cell (p := ⟨w.heap.size + 1 + 1, 1, none⟩) zR).trans kR1
  replace fR1 := (hbw2.frozen (p := ⟨w.heap.size + 1 + 1, 1, none⟩) zR).trans fR1
  replace zR := Nat.lt_of_lt_of_le zR hbw2.size
  replace kT0 := (hbw2.cell (p := ⟨w.heap.size + 1 + 1 + 1, 0, none⟩) zT).trans kT0
  replace fT0 := (hbw2.frozen (p := ⟨w.heap.size + 1 + 1 + 1, 0, none⟩) zT).trans fT0
  replace kT1 := (hbw2.cell (p := ⟨w.heap.size + 1 + 1 + 1, 1, none⟩) zT).trans kT1
  replace fT1 := (hbw2.frozen (p := ⟨w.heap.size + 1 + 1 + 1, 1, none⟩) zT).trans fT1
  replace zT := Nat.lt_of_lt_of_le zT hbw2.size
  replace HA := hide (HA.out.below hbw2)
  replace HBB := hide (HBB.out.below hbw2)
  replace HB := hide (bl_trans HB.out hbw2)
  clear hbw2
  have HQ := hide hoq
  have HR := hide hor
  have HAP := hide hap
  clear hoq hor hap
  go_wp2_with fail
  refine (bigOfI3 (!sgn x == sgn y) aq _ cq _ w1.heap.size _ HQ.out).mono ?_
  rintro e w3 ⟨aq', cq', rfl, hoq, haq, hbw3⟩
  have yw3 := hbw3.size
  replace kA0 := (hbw3.cell (p := ⟨w.heap.size, 0, none⟩) zA).trans kA0
  replace kA1 := (hbw3.cell (p := ⟨w.heap.size, 1, none⟩) zA).trans kA1
  replace zA := Nat.lt_of_lt_of_le zA hbw3.size
  replace kB0 := (hbw3.cell (p := ⟨w.heap.size + 1, 0, none⟩) zB).trans kB0
  replace kB1 := (hbw3.cell (p := ⟨w.heap.size + 1, 1, none⟩) zB).trans kB1
  replace zB := Nat.lt_of_lt_of_le zB hbw3.size
  replace kR0 := (hbw3.cell (p := ⟨w.heap.size + 1 + 1, 0, none⟩) zR).trans kR0
  replace fR0 := (hbw3.frozen (p := ⟨w.heap.size + 1 + 1, 0, none⟩) zR).trans fR0
  replace kR1 := (hbw3.cell (p := ⟨w.heap.size + 1 + 1, 1, none⟩) zR).trans kR1
  replace fR1 := (hbw3.frozen (p := ⟨w.heap.size + 1 + 1, 1, none⟩) zR).trans fR1
  replace zR := Nat.lt_of_lt_of_le zR hbw3.size
  replace kT0 := (hbw3.cell (p := ⟨w.heap.size + 1 + 1 + 1, 0, none⟩) zT).trans kT0
  replace fT0 := (hbw3.frozen (p := ⟨w.heap.size + 1 + 1 + 1, 0, none⟩) zT).trans fT0
  replace kT1 := (hbw3.cell (p := ⟨w.heap.size + 1 + 1 + 1, 1, none⟩) zT).trans kT1
  replace fT1 := (hbw3.frozen (p := ⟨w.heap.size + 1 + 1 + 1, 1, none⟩) zT).trans fT1
  replace zT := Nat.lt_of_lt_of_le zT hbw3.size
  replace HA := hide (HA.out.below hbw3)
  replace HBB := hide (HBB.out.below hbw3)
  replace HQ := hide (HQ.out.below hbw3)
  replace HR := hide (HR.out.below hbw3)
  replace HB := hide (bl_trans HB.out hbw3)
  replace HQ := hide (hoq _ HQ.out)
  have HAQ := hide haq
  clear hoq haq
  clear hbw3
  go_wp2_with fail
  have kQ0 : (w3.alloc (Obj.cells #[Value.bool (sgn (mk (!sgn x == sgn y) (x.natAbs / y.natAbs))), Value.slice aq' (lms (mk (!sgn x == sgn y) (x.natAbs / y.natAbs))).length cq'] 26)).cell? ⟨w3.heap.size, 0, none⟩ = some (Value.bool (sgn (mk (!sgn x == sgn y) (x.natAbs / y.natAbs)))) := by go_simp
  have kQ1 : (w3.alloc (Obj.cells #[Value.bool (sgn (mk (!sgn x == sgn y) (x.natAbs / y.natAbs))), Value.slice aq' (lms (mk (!sgn x == sgn y) (x.natAbs / y.natAbs))).length cq'] 26)).cell? ⟨w3.heap.size, 1, none⟩ = some (Value.slice aq' (lms (mk (!sgn x == sgn y) (x.natAbs / y.natAbs))).length cq') := by go_simp
  have zQ : w3.heap.size < (w3.alloc (Obj.cells #[Value.bool (sgn (mk (!sgn x == sgn y) (x.natAbs / y.natAbs))), Value.slice aq' (lms (mk (!sgn x == sgn y) (x.natAbs / y.natAbs))).length cq'] 26)).heap.size := by simp only [World.size_alloc]; omega
  have yw4 := zQ
  have hbw4 := bl_alloc (bl_refl w3) (Obj.cells #[Value.bool (sgn (mk (!sgn x == sgn y) (x.natAbs / y.natAbs))), Value.slice aq' (lms (mk (!sgn x == sgn y) (x.natAbs / y.natAbs))).length cq'] 26)
  generalize w3.alloc (Obj.cells #[Value.bool (sgn (mk (!sgn x == sgn y) (x.natAbs / y.natAbs))), Value.slice aq' (lms (mk (!sgn x == sgn y) (x.natAbs / y.natAbs))).length cq'] 26) = w4 at *
  replace kA0 := (hbw4.cell (p := ⟨w.heap.size, 0, none⟩) zA).trans kA0
  replace kA1 := (hbw4.cell (p := ⟨w.heap.size, 1, none⟩) zA).trans kA1
  replace zA := Nat.lt_of_lt_of_le zA hbw4.size
  replace kB0 := (hbw4.cell (p := ⟨w.heap.size + 1, 0, none⟩) zB).trans kB0
  replace kB1 := (hbw4.cell (p := ⟨w.heap.size + 1, 1, none⟩) zB).trans kB1
  replace zB := Nat.lt_of_lt_of_le zB hbw4.size
  replace kR0 := (hbw4.cell (p := ⟨w.heap.size + 1 + 1, 0, none⟩) zR).trans kR0
  replace fR0 := (hbw4.frozen (p := ⟨w.heap.size + 1 + 1, 0, none⟩) zR).trans fR0
  replace kR1 := (hbw4.cell (p := ⟨w.heap.size + 1 + 1, 1, none⟩) zR).trans kR1
  replace fR1 := (hbw4.frozen (p := ⟨w.heap.size + 1 + 1, 1, none⟩) zR).trans fR1
  replace zR := Nat.lt_of_lt_of_le zR hbw4.size
  replace kT0 := (hbw4.cell (p := ⟨w.heap.size + 1 + 1 + 1, 0, none⟩) zT).trans kT0
  replace fT0 := (hbw4.frozen (p := ⟨w.heap.size + 1 + 1 + 1, 0, none⟩) zT).trans fT0
  replace kT1 := (hbw4.cell (p := ⟨w.heap.size + 1 + 1 + 1, 1, none⟩) zT).trans kT1
  replace fT1 := (hbw4.frozen (p := ⟨w.heap.size + 1 + 1 + 1, 1, none⟩) zT).trans fT1
  replace zT := Nat.lt_of_lt_of_le zT hbw4.size
  replace HA := hide (HA.out.below hbw4)
  replace HBB := hide (HBB.out.below hbw4)
  replace HQ := hide (HQ.out.below hbw4)
  replace HR := hide (HR.out.below hbw4)
  replace HB := hide (bl_trans HB.out hbw4)
  clear hbw4
  refine (bigOfI3 (sgn x) ar _ cr _ w1.heap.size _ HR.out).mono ?_
  rintro e w5 ⟨ar', cr', rfl, hor, har, hbw5⟩
  have yw5 := hbw5.size
  replace kA0 := (hbw5.cell (p := ⟨w.heap.size, 0, none⟩) zA).trans kA0
  replace kA1 := (hbw5.cell (p := ⟨w.heap.size, 1, none⟩) zA).trans kA1
  replace zA := Nat.lt_of_lt_of_le zA hbw5.size
  replace kB0 := (hbw5.cell (p := ⟨w.heap.size + 1, 0, none⟩) zB).trans kB0
  replace kB1 := (hbw5.cell (p := ⟨w.heap.size + 1, 1, none⟩) zB).trans kB1
  replace zB := Nat.lt_of_lt_of_le zB hbw5.size
  replace kR0 := (hbw5.cell (p := ⟨w.heap.size + 1 + 1, 0, none⟩) zR).trans kR0
  replace fR0 := (hbw5.frozen (p := ⟨w.heap.size + 1 + 1, 0, none⟩) zR).trans fR0
  replace kR1 := (hbw5.cell (p := ⟨w.heap.size + 1 + 1, 1, none⟩) zR).trans kR1
  replace fR1 := (hbw5.frozen (p := ⟨w.heap.size + 1 + 1, 1, none⟩) zR).trans fR1
  replace zR := Nat.lt_of_lt_of_le zR hbw5.size
  replace kT0 := (hbw5.cell (p := ⟨w.heap.size + 1 + 1 + 1, 0, none⟩) zT).trans kT0
  replace fT0 := (hbw5.frozen (p := ⟨w.heap.size + 1 + 1 + 1, 0, none⟩) zT).trans fT0
  replace kT1 := (hbw5.cell (p := ⟨w.heap.size + 1 + 1 + 1, 1, none⟩) zT).trans kT1
  replace fT1 := (hbw5.frozen (p := ⟨w.heap.size + 1 + 1 + 1, 1, none⟩) zT).trans fT1
  replace zT := Nat.lt_of_lt_of_le zT hbw5.size
  replace kQ0 := (hbw5.cell (p := ⟨w3.heap.size, 0, none⟩) zQ).trans kQ0
  replace kQ1 := (hbw5.cell (p := ⟨w3.heap.size, 1, none⟩) zQ).trans kQ1
  replace zQ := Nat.lt_of_lt_of_le zQ hbw5.size
  replace HA := hide (HA.out.below hbw5)
  replace HBB := hide (HBB.out.below hbw5)
  replace HQ := hide (HQ.out.below hbw5)
  replace HR := hide (HR.out.below hbw5)
  replace HB := hide (bl_trans HB.out hbw5)
  replace HR := hide (hor _ HR.out)
  have HAR := hide har
  clear hor har
  clear hbw5
  go_upto_region 4 with fail
  have kS0 : (w5.alloc (Obj.cells #[Value.bool (sgn (mk (sgn x) (x.natAbs % y.natAbs))), Value.slice ar' (lms (mk (sgn x) (x.natAbs % y.natAbs))).length cr'] 26)).cell? ⟨w5.heap.size, 0, none⟩ = some (Value.bool (sgn (mk (sgn x) (x.natAbs % y.natAbs)))) := by go_simp
  have kS1 : (w5.alloc (Obj.cells #[Value.bool (sgn (mk (sgn x) (x.natAbs % y.natAbs))), Value.slice ar' (lms (mk (sgn x) (x.natAbs % y.natAbs))).length cr'] 26)).cell? ⟨w5.heap.size, 1, none⟩ = some (Value.slice ar' (lms (mk (sgn x) (x.natAbs % y.natAbs))).length cr') := by go_simp
  have zS : w5.heap.size < (w5.alloc (Obj.cells #[Value.bool (sgn (mk (sgn x) (x.natAbs % y.natAbs))), Value.slice ar' (lms (mk (sgn x) (x.natAbs % y.natAbs))).length cr'] 26)).heap.size := by simp only [World.size_alloc]; omega
  have yw6 := zS
  have hbw6 := bl_alloc (bl_refl w5) (Obj.cells #[Value.bool (sgn (mk (sgn x) (x.natAbs % y.natAbs))), Value.slice ar' (lms (mk (sgn x) (x.natAbs % y.natAbs))).length cr'] 26)
  generalize w5.alloc (Obj.cells #[Value.bool (sgn (mk (sgn x) (x.natAbs % y.natAbs))), Value.slice ar' (lms (mk (sgn x) (x.natAbs % y.natAbs))).length cr'] 26) = w6 at *
  replace kA0 := (hbw6.cell (p := ⟨w.heap.size, 0, none⟩) zA).trans kA0
  replace kA1 := (hbw6.cell (p := ⟨w.heap.size, 1, none⟩) zA).trans kA1
  replace zA := Nat.lt_of_lt_of_le zA hbw6.size
  replace kB0 := (hbw6.cell (p := ⟨w.heap.size + 1, 0, none⟩) zB).trans kB0
  replace kB1 := (hbw6.cell (p := ⟨w.heap.size + 1, 1, none⟩) zB).trans kB1
  replace zB := Nat.lt_of_lt_of_le zB hbw6.size
  replace kR0 := (hbw6.cell (p := ⟨w.heap.size + 1 + 1, 0, none⟩) zR).trans kR0
  replace fR0 := (hbw6.frozen (p := ⟨w.heap.size + 1 + 1, 0, none⟩) zR).trans fR0
  replace kR1 := (hbw6.cell (p := ⟨w.heap.size + 1 + 1, 1, none⟩) zR).trans kR1
  replace fR1 := (hbw6.frozen (p := ⟨w.heap.size + 1 + 1, 1, none⟩) zR).trans fR1
  replace zR := Nat.lt_of_lt_of_le zR hbw6.size
  replace kT0 := (hbw6.cell (p := ⟨w.heap.size + 1 + 1 + 1, 0, none⟩) zT).trans kT0
  replace fT0 := (hbw6.frozen (p := ⟨w.heap.size + 1 + 1 + 1, 0, none⟩) zT).trans fT0
  replace kT1 := (hbw6.cell (p := ⟨w.heap.size + 1 + 1 + 1, 1, none⟩) zT).trans kT1
  replace fT1 := (hbw6.frozen (p := ⟨w.heap.size + 1 + 1 + 1, 1, none⟩) zT).trans fT1
  replace zT := Nat.lt_of_lt_of_le zT hbw6.size
  replace kQ0 := (hbw6.cell (p := ⟨w3.heap.size, 0, none⟩) zQ).trans kQ0
  replace kQ1 := (hbw6.cell (p := ⟨w3.heap.size, 1, none⟩) zQ).trans kQ1
  replace zQ := Nat.lt_of_lt_of_le zQ hbw6.size
  replace HA := hide (HA.out.below hbw6)
  replace HBB := hide (HBB.out.below hbw6)
  replace HQ := hide (HQ.out.below hbw6)
  replace HR := hide (HR.out.below hbw6)
  replace HB := hide (bl_trans HB.out hbw6)
  clear hbw6
  replace HAP := hide (HAP.out.sub HAQ.out HAR.out)
  clear HAQ HAR
  by_cases hr : mk (sgn x) (x.natAbs % y.natAbs) < 0
  · have hsr : sgn (mk (sgn x) (x.natAbs % y.natAbs)) = true := decide_eq_true hr
    have hx : x < 0 := by unfold mk sgn at hr; by_cases h : x < 0; exact h; simp [h] at hr; omega
    have hm : x.natAbs % y.natAbs ≠ 0 := by intro e; rw [e] at hr; unfold mk at hr; split at hr <;> omega
    have HDB := hide (div_back x y hy hx hm)
    have HLQ : Hid ((lms (mk (!sgn x == sgn y) (x.natAbs / y.natAbs))).length ≤ 400000) := hide (by rw [mk_lms]; exact div_len l1)
    have HLR : Hid ((lms (mk (sgn x) (x.natAbs % y.natAbs))).length ≤ 400000) := hide (by rw [mk_lms]; exact mod_len l1)
    generalize mk (!sgn x == sgn y) (x.natAbs / y.natAbs) = q at *
    generalize mk (sgn x) (x.natAbs % y.natAbs) = r at *
    clear hr hx hm
    by_cases hy0 : y < 0
    · have hsy : sgn y = true := decide_eq_true hy0
      have E1 := hide (HDB.out.1 hy0).1
      have E2 := hide (HDB.out.1 hy0).2
      clear HDB
      go_upto_region 7 with fail
      clear hsr hsy
      go_region_held3 (fun w' => w'.cell? ⟨w3.heap.size, 0, none⟩ = some (Value.bool (sgn (q))) ∧ w'.cell? ⟨w3.heap.size, 1, none⟩ = some (Value.slice aq' (lms (q)).length cq') ∧ w'.cell? ⟨w5.heap.size, 0, none⟩ = some (Value.bool (sgn (r))) ∧ w'.cell? ⟨w5.heap.size, 1, none⟩ = some (Value.slice ar' (lms (r)).length cr') ∧ w'.cell? ⟨w.heap.size + 1, 0, none⟩ = some (Value.bool (sgn y)) ∧ w'.cell? ⟨w.heap.size + 1, 1, none⟩ = some (Value.slice b (lms y).length cb))
        (first
          | exact ⟨(by (try rw [World.cell?_drew]); first | with_reducible assumption | (rw [cell_two (N := w.heap.size + 1 + 1) (p := ⟨w3.heap.size, 0, none⟩) (by dsimp only; omega)]; with_reducible assumption) | (rw [cell_two (N := w.heap.size + 1 + 1 + 1) (p := ⟨w3.heap.size, 0, none⟩) (by dsimp only; omega)]; with_reducible assumption) | (rw [cell_two (N := w.heap.size + 1 + 1) (p := ⟨w3.heap.size, 0, none⟩) (by dsimp only; omega), cell_two (N := w.heap.size + 1 + 1 + 1) (p := ⟨w3.heap.size, 0, none⟩) (by dsimp only; omega)]; with_reducible assumption) | (rw [cell_two (N := w.heap.size + 1 + 1 + 1) (p := ⟨w3.heap.size, 0, none⟩) (by dsimp only; omega), cell_two (N := w.heap.size + 1 + 1) (p := ⟨w3.heap.size, 0, none⟩) (by dsimp only; omega)]; with_reducible assumption)), (by (try rw [World.cell?_drew]); first | with_reducible assumption | (rw [cell_two (N := w.heap.size + 1 + 1) (p := ⟨w3.heap.size, 1, none⟩) (by dsimp only; omega)]; with_reducible assumption) | (rw [cell_two (N := w.heap.size + 1 + 1 + 1) (p := ⟨w3.heap.size, 1, none⟩) (by dsimp only; omega)]; with_reducible assumption) | (rw [cell_two (N := w.heap.size + 1 + 1) (p := ⟨w3.heap.size, 1, none⟩) (by dsimp only; omega), cell_two (N := w.heap.size + 1 + 1 + 1) (p := ⟨w3.heap.size, 1, none⟩) (by dsimp only; omega)]; with_reducible assumption) | (rw [cell_two (N := w.heap.size + 1 + 1 + 1) (p := ⟨w3.heap.size, 1, none⟩) (by dsimp only; omega), cell_two (N := w.heap.size + 1 + 1) (p := ⟨w3.heap.size, 1, none⟩) (by dsimp only; omega)]; with_reducible assumption)), (by (try rw [World.cell?_drew]); first | with_reducible assumption | (rw [cell_two (N := w.heap.size + 1 + 1) (p := ⟨w5.heap.size, 0, none⟩) (by dsimp only; omega)]; with_reducible assumption) | (rw [cell_two (N := w.heap.size + 1 + 1 + 1) (p := ⟨w5.heap.size, 0, none⟩) (by dsimp only; omega)]; with_reducible assumption) | (rw [cell_two (N := w.heap.size + 1 + 1) (p := ⟨w5.heap.size, 0, none⟩) (by dsimp only; omega), cell_two (N := w.heap.size + 1 + 1 + 1) (p := ⟨w5.heap.size, 0, none⟩) (by dsimp only; omega)]; with_reducible assumption) | (rw [cell_two (N := w.heap.size + 1 + 1 + 1) (p := ⟨w5.heap.size, 0, none⟩) (by dsimp only; omega), cell_two (N := w.heap.size + 1 + 1) (p := ⟨w5.heap.size, 0, none⟩) (by dsimp only; omega)]; with_reducible assumption)), (by (try rw [World.cell?_drew]); first | with_reducible assumption | (rw [cell_two (N := w.heap.size + 1 + 1) (p := ⟨w5.heap.size, 1, none⟩) (by dsimp only; omega)]; with_reducible assumption) | (rw [cell_two (N := w.heap.size + 1 + 1 + 1) (p := ⟨w5.heap.size, 1, none⟩) (by dsimp only; omega)]; with_reducible assumption) | (rw [cell_two (N := w.heap.size + 1 + 1) (p := ⟨w5.heap.size, 1, none⟩) (by dsimp only; omega), cell_two (N := w.heap.size + 1 + 1 + 1) (p := ⟨w5.heap.size, 1, none⟩) (by dsimp only; omega)]; with_reducible assumption) | (rw [cell_two (N := w.heap.size + 1 + 1 + 1) (p := ⟨w5.heap.size, 1, none⟩) (by dsimp only; omega), cell_two (N := w.heap.size + 1 + 1) (p := ⟨w5.heap.size, 1, none⟩) (by dsimp only; omega)]; with_reducible assumption)), (by (try rw [World.cell?_drew]); first | with_reducible assumption | (rw [cell_two (N := w.heap.size + 1 + 1) (p := ⟨w.heap.size + 1, 0, none⟩) (by dsimp only; omega)]; with_reducible assumption) | (rw [cell_two (N := w.heap.size + 1 + 1 + 1) (p := ⟨w.heap.size + 1, 0, none⟩) (by dsimp only; omega)]; with_reducible assumption) | (rw [cell_two (N := w.heap.size + 1 + 1) (p := ⟨w.heap.size + 1, 0, none⟩) (by dsimp only; omega), cell_two (N := w.heap.size + 1 + 1 + 1) (p := ⟨w.heap.size + 1, 0, none⟩) (by dsimp only; omega)]; with_reducible assumption) | (rw [cell_two (N := w.heap.size + 1 + 1 + 1) (p := ⟨w.heap.size + 1, 0, none⟩) (by dsimp only; omega), cell_two (N := w.heap.size + 1 + 1) (p := ⟨w.heap.size + 1, 0, none⟩) (by dsimp only; omega)]; with_reducible assumption)), (by (try rw [World.cell?_drew]); first | with_reducible assumption | (rw [cell_two (N := w.heap.size + 1 + 1) (p := ⟨w.heap.size + 1, 1, none⟩) (by dsimp only; omega)]; with_reducible assumption) | (rw [cell_two (N := w.heap.size + 1 + 1 + 1) (p := ⟨w.heap.size + 1, 1, none⟩) (by dsimp only; omega)]; with_reducible assumption) | (rw [cell_two (N := w.heap.size + 1 + 1) (p := ⟨w.heap.size + 1, 1, none⟩) (by dsimp only; omega), cell_two (N := w.heap.size + 1 + 1 + 1) (p := ⟨w.heap.size + 1, 1, none⟩) (by dsimp only; omega)]; with_reducible assumption) | (rw [cell_two (N := w.heap.size + 1 + 1 + 1) (p := ⟨w.heap.size + 1, 1, none⟩) (by dsimp only; omega), cell_two (N := w.heap.size + 1 + 1) (p := ⟨w.heap.size + 1, 1, none⟩) (by dsimp only; omega)]; with_reducible assumption))⟩)
        (first
          | (go_at_call 58; refine (fromI 1 _ (by decide) (by decide)).mono ?_; rintro e w7 ⟨v1, rfl, hn1, hbw7r⟩; have hbw7 : Below w6.heap.size w6 w7 := (bl_refl w6).drew.trans hbw7r; have yw7 := hbw7.size; have kQ0 := (hbw7r.cell (p := ⟨w3.heap.size, 0, none⟩) (by dsimp only; rw [World.size_drew]; omega)).trans kQ0; have kQ1 := (hbw7r.cell (p := ⟨w3.heap.size, 1, none⟩) (by dsimp only; rw [World.size_drew]; omega)).trans kQ1; have kS0 := (hbw7r.cell (p := ⟨w5.heap.size, 0, none⟩) (by dsimp only; rw [World.size_drew]; omega)).trans kS0; have kS1 := (hbw7r.cell (p := ⟨w5.heap.size, 1, none⟩) (by dsimp only; rw [World.size_drew]; omega)).trans kS1; have kB0 := (hbw7r.cell (p := ⟨w.heap.size + 1, 0, none⟩) (by dsimp only; rw [World.size_drew]; omega)).trans kB0; have kB1 := (hbw7r.cell (p := ⟨w.heap.size + 1, 1, none⟩) (by dsimp only; rw [World.size_drew]; omega)).trans kB1)
          | (go_at_call 36; refine (sumQ (.agg #[.bool (sgn q), .slice aq' (lms q).length cq']) v1 q 1 _ ⟨aq', cq', rfl, HQ.out.seg.below (hbw7)⟩ hn1.is HLQ.out one_len).mono ?_; rintro e w8 ⟨v2, rfl, hn2, hbw8r⟩; have hbw8 : Below w6.heap.size w6 w8 := bl_trans hbw7 hbw8r; have yw8 := hbw8.size; have kQ0 := (hbw8r.cell (p := ⟨w3.heap.size, 0, none⟩) (by dsimp only; omega)).trans kQ0; have kQ1 := (hbw8r.cell (p := ⟨w3.heap.size, 1, none⟩) (by dsimp only; omega)).trans kQ1; have kS0 := (hbw8r.cell (p := ⟨w5.heap.size, 0, none⟩) (by dsimp only; omega)).trans kS0; have kS1 := (hbw8r.cell (p := ⟨w5.heap.size, 1, none⟩) (by dsimp only; omega)).trans kS1; have kB0 := (hbw8r.cell (p := ⟨w.heap.size + 1, 0, none⟩) (by dsimp only; omega)).trans kB0; have kB1 := (hbw8r.cell (p := ⟨w.heap.size + 1, 1, none⟩) (by dsimp only; omega)).trans kB1; rw [E1.out] at hn2; obtain ⟨a2, c2, rfl, ho2⟩ := hn2; have HO1 := hide ho2; clear ho2)
          | (go_at_call 84; refine (diffQ (.agg #[.bool (sgn r), .slice ar' (lms r).length cr']) (.agg #[.bool (sgn y), .slice b (lms y).length cb]) r y _ ⟨ar', cr', rfl, HR.out.seg.below (hbw8)⟩ ⟨b, cb, rfl, HBB.out.below (hbw8)⟩ HLR.out (by omega)).mono ?_; rintro e w9 ⟨v3, rfl, hn3, hbw9r⟩; have hbw9 : Below w6.heap.size w6 w9 := bl_trans hbw8 hbw9r; have yw9 := hbw9.size; have kQ0 := (hbw9r.cell (p := ⟨w3.heap.size, 0, none⟩) (by dsimp only; omega)).trans kQ0; have kQ1 := (hbw9r.cell (p := ⟨w3.heap.size, 1, none⟩) (by dsimp only; omega)).trans kQ1; have kS0 := (hbw9r.cell (p := ⟨w5.heap.size, 0, none⟩) (by dsimp only; omega)).trans kS0; have kS1 := (hbw9r.cell (p := ⟨w5.heap.size, 1, none⟩) (by dsimp only; omega)).trans kS1; have kB0 := (hbw9r.cell (p := ⟨w.heap.size + 1, 0, none⟩) (by dsimp only; omega)).trans kB0; have kB1 := (hbw9r.cell (p := ⟨w.heap.size + 1, 1, none⟩) (by dsimp only; omega)).trans kB1; rw [E2.out] at hn3; obtain ⟨a3, c3, rfl, ho3⟩ := hn3; have HO3 := hide ho3; have HO2 := hide (HO1.out.below hbw9r); have HAP2 := hide (apart_own HO1.out ho3); clear ho3; have kR0 := (hbw9.cell (p := ⟨w.heap.size + 1 + 1, 0, none⟩) zR).trans kR0; have fR0 := (hbw9.frozen (p := ⟨w.heap.size + 1 + 1, 0, none⟩) zR).trans fR0; have kR1 := (hbw9.cell (p := ⟨w.heap.size + 1 + 1, 1, none⟩) zR).trans kR1; have fR1 := (hbw9.frozen (p := ⟨w.heap.size + 1 + 1, 1, none⟩) zR).trans fR1; have kT0 := (hbw9.cell (p := ⟨w.heap.size + 1 + 1 + 1, 0, none⟩) zT).trans kT0; have fT0 := (hbw9.frozen (p := ⟨w.heap.size + 1 + 1 + 1, 0, none⟩) zT).trans fT0; have kT1 := (hbw9.cell (p := ⟨w.heap.size + 1 + 1 + 1, 1, none⟩) zT).trans kT1; have fT1 := (hbw9.frozen (p := ⟨w.heap.size + 1 + 1 + 1, 1, none⟩) zT).trans fT1))
      all_goals go_wp2_with fail
      all_goals refine bodyPost_ret (v := .tuple #[.agg #[.bool (sgn (x / y)), .slice a2 (lms (x / y)).length c2], .agg #[.bool (sgn (x % y)), .slice a3 (lms (x % y)).length c3]]) (by simp [results, Try.results59, go_sem, kR0, kR1, kT0, kT1]) rfl ?_
      all_goals refine ⟨a2, c2, a3, c3, rfl, ?_⟩
      all_goals first | exact fin_two' (N := w.heap.size + 1 + 1) (M := w.heap.size + 1 + 1 + 1) (HO2.out.mono (base' := w6.heap.size) (by have := hbw7.size; omega)) (HO3.out.mono (base' := w6.heap.size) (by have := hbw8.size; omega)) HAP2.out (by omega) (by omega) (by omega) (by omega) (bl_trans HB.out hbw9) _ _ _ _ | exact fin_drew (fin_two' (N := w.heap.size + 1 + 1) (M := w.heap.size + 1 + 1 + 1) (HO2.out.mono (base' := w6.heap.size) (by have := hbw7.size; omega)) (HO3.out.mono (base' := w6.heap.size) (by have := hbw8.size; omega)) HAP2.out (by omega) (by omega) (by omega) (by omega) (bl_trans HB.out hbw9) _ _ _ _)
    · have hsy : sgn y = false := decide_eq_false hy0
      have E1 := hide (HDB.out.2 (by omega)).1
      have E2 := hide (HDB.out.2 (by omega)).2
      clear HDB
      go_upto_region 8 with fail
      clear hsr hsy
      go_region_held3 (fun w' => w'.cell? ⟨w3.heap.size, 0, none⟩ = some (Value.bool (sgn (q))) ∧ w'.cell? ⟨w3.heap.size, 1, none⟩ = some (Value.slice aq' (lms (q)).length cq') ∧ w'.cell? ⟨w5.heap.size, 0, none⟩ = some (Value.bool (sgn (r))) ∧ w'.cell? ⟨w5.heap.size, 1, none⟩ = some (Value.slice ar' (lms (r)).length cr') ∧ w'.cell? ⟨w.heap.size + 1, 0, none⟩ = some (Value.bool (sgn y)) ∧ w'.cell? ⟨w.heap.size + 1, 1, none⟩ = some (Value.slice b (lms y).length cb))
        (first
          | exact ⟨(by (try rw [World.cell?_drew]); first | with_reducible assumption | (rw [cell_two (N := w.heap.size + 1 + 1) (p := ⟨w3.heap.size, 0, none⟩) (by dsimp only; omega)]; with_reducible assumption) | (rw [cell_two (N := w.heap.size + 1 + 1 + 1) (p := ⟨w3.heap.size, 0, none⟩) (by dsimp only; omega)]; with_reducible assumption) | (rw [cell_two (N := w.heap.size + 1 + 1) (p := ⟨w3.heap.size, 0, none⟩) (by dsimp only; omega), cell_two (N := w.heap.size + 1 + 1 + 1) (p := ⟨w3.heap.size, 0, none⟩) (by dsimp only; omega)]; with_reducible assumption) | (rw [cell_two (N := w.heap.size + 1 + 1 + 1) (p := ⟨w3.heap.size, 0, none⟩) (by dsimp only; omega), cell_two (N := w.heap.size + 1 + 1) (p := ⟨w3.heap.size, 0, none⟩) (by dsimp only; omega)]; with_reducible assumption)), (by (try rw [World.cell?_drew]); first | with_reducible assumption | (rw [cell_two (N := w.heap.size + 1 + 1) (p := ⟨w3.heap.size, 1, none⟩) (by dsimp only; omega)]; with_reducible assumption) | (rw [cell_two (N := w.heap.size + 1 + 1 + 1) (p := ⟨w3.heap.size, 1, none⟩) (by dsimp only; omega)]; with_reducible assumption) | (rw [cell_two (N := w.heap.size + 1 + 1) (p := ⟨w3.heap.size, 1, none⟩) (by dsimp only; omega), cell_two (N := w.heap.size + 1 + 1 + 1) (p := ⟨w3.heap.size, 1, none⟩) (by dsimp only; omega)]; with_reducible assumption) | (rw [cell_two (N := w.heap.size + 1 + 1 + 1) (p := ⟨w3.heap.size, 1, none⟩) (by dsimp only; omega), cell_two (N := w.heap.size + 1 + 1) (p := ⟨w3.heap.size, 1, none⟩) (by dsimp only; omega)]; with_reducible assumption)), (by (try rw [World.cell?_drew]); first | with_reducible assumption | (rw [cell_two (N := w.heap.size + 1 + 1) (p := ⟨w5.heap.size, 0, none⟩) (by dsimp only; omega)]; with_reducible assumption) | (rw [cell_two (N := w.heap.size + 1 + 1 + 1) (p := ⟨w5.heap.size, 0, none⟩) (by dsimp only; omega)]; with_reducible assumption) | (rw [cell_two (N := w.heap.size + 1 + 1) (p := ⟨w5.heap.size, 0, none⟩) (by dsimp only; omega), cell_two (N := w.heap.size + 1 + 1 + 1) (p := ⟨w5.heap.size, 0, none⟩) (by dsimp only; omega)]; with_reducible assumption) | (rw [cell_two (N := w.heap.size + 1 + 1 + 1) (p := ⟨w5.heap.size, 0, none⟩) (by dsimp only; omega), cell_two (N := w.heap.size + 1 + 1) (p := ⟨w5.heap.size, 0, none⟩) (by dsimp only; omega)]; with_reducible assumption)), (by (try rw [World.cell?_drew]); first | with_reducible assumption | (rw [cell_two (N := w.heap.size + 1 + 1) (p := ⟨w5.heap.size, 1, none⟩) (by dsimp only; omega)]; with_reducible assumption) | (rw [cell_two (N := w.heap.size + 1 + 1 + 1) (p := ⟨w5.heap.size, 1, none⟩) (by dsimp only; omega)]; with_reducible assumption) | (rw [cell_two (N := w.heap.size + 1 + 1) (p := ⟨w5.heap.size, 1, none⟩) (by dsimp only; omega), cell_two (N := w.heap.size + 1 + 1 + 1) (p := ⟨w5.heap.size, 1, none⟩) (by dsimp only; omega)]; with_reducible assumption) | (rw [cell_two (N := w.heap.size + 1 + 1 + 1) (p := ⟨w5.heap.size, 1, none⟩) (by dsimp only; omega), cell_two (N := w.heap.size + 1 + 1) (p := ⟨w5.heap.size, 1, none⟩) (by dsimp only; omega)]; with_reducible assumption)), (by (try rw [World.cell?_drew]); first | with_reducible assumption | (rw [cell_two (N := w.heap.size + 1 + 1) (p := ⟨w.heap.size + 1, 0, none⟩) (by dsimp only; omega)]; with_reducible assumption) | (rw [cell_two (N := w.heap.size + 1 + 1 + 1) (p := ⟨w.heap.size + 1, 0, none⟩) (by dsimp only; omega)]; with_reducible assumption) | (rw [cell_two (N := w.heap.size + 1 + 1) (p := ⟨w.heap.size + 1, 0, none⟩) (by dsimp only; omega), cell_two (N := w.heap.size + 1 + 1 + 1) (p := ⟨w.heap.size + 1, 0, none⟩) (by dsimp only; omega)]; with_reducible assumption) | (rw [cell_two (N := w.heap.size + 1 + 1 + 1) (p := ⟨w.heap.size + 1, 0, none⟩) (by dsimp only; omega), cell_two (N := w.heap.size + 1 + 1) (p := ⟨w.heap.size + 1, 0, none⟩) (by dsimp only; omega)]; with_reducible assumption)), (by (try rw [World.cell?_drew]); first | with_reducible assumption | (rw [cell_two (N := w.heap.size + 1 + 1) (p := ⟨w.heap.size + 1, 1, none⟩) (by dsimp only; omega)]; with_reducible assumption) | (rw [cell_two (N := w.heap.size + 1 + 1 + 1) (p := ⟨w.heap.size + 1, 1, none⟩) (by dsimp only; omega)]; with_reducible assumption) | (rw [cell_two (N := w.heap.size + 1 + 1) (p := ⟨w.heap.size + 1, 1, none⟩) (by dsimp only; omega), cell_two (N := w.heap.size + 1 + 1 + 1) (p := ⟨w.heap.size + 1, 1, none⟩) (by dsimp only; omega)]; with_reducible assumption) | (rw [cell_two (N := w.heap.size + 1 + 1 + 1) (p := ⟨w.heap.size + 1, 1, none⟩) (by dsimp only; omega), cell_two (N := w.heap.size + 1 + 1) (p := ⟨w.heap.size + 1, 1, none⟩) (by dsimp only; omega)]; with_reducible assumption))⟩)
        (first
          | (go_at_call 58; refine (fromI 1 _ (by decide) (by decide)).mono ?_; rintro e w7 ⟨v1, rfl, hn1, hbw7r⟩; have hbw7 : Below w6.heap.size w6 w7 := (bl_refl w6).drew.trans hbw7r; have yw7 := hbw7.size; have kQ0 := (hbw7r.cell (p := ⟨w3.heap.size, 0, none⟩) (by dsimp only; rw [World.size_drew]; omega)).trans kQ0; have kQ1 := (hbw7r.cell (p := ⟨w3.heap.size, 1, none⟩) (by dsimp only; rw [World.size_drew]; omega)).trans kQ1; have kS0 := (hbw7r.cell (p := ⟨w5.heap.size, 0, none⟩) (by dsimp only; rw [World.size_drew]; omega)).trans kS0; have kS1 := (hbw7r.cell (p := ⟨w5.heap.size, 1, none⟩) (by dsimp only; rw [World.size_drew]; omega)).trans kS1; have kB0 := (hbw7r.cell (p := ⟨w.heap.size + 1, 0, none⟩) (by dsimp only; rw [World.size_drew]; omega)).trans kB0; have kB1 := (hbw7r.cell (p := ⟨w.heap.size + 1, 1, none⟩) (by dsimp only; rw [World.size_drew]; omega)).trans kB1)
          | (go_at_call 84; refine (diffQ (.agg #[.bool (sgn q), .slice aq' (lms q).length cq']) v1 q 1 _ ⟨aq', cq', rfl, HQ.out.seg.below (hbw7)⟩ hn1.is HLQ.out one_len).mono ?_; rintro e w8 ⟨v2, rfl, hn2, hbw8r⟩; have hbw8 : Below w6.heap.size w6 w8 := bl_trans hbw7 hbw8r; have yw8 := hbw8.size; have kQ0 := (hbw8r.cell (p := ⟨w3.heap.size, 0, none⟩) (by dsimp only; omega)).trans kQ0; have kQ1 := (hbw8r.cell (p := ⟨w3.heap.size, 1, none⟩) (by dsimp only; omega)).trans kQ1; have kS0 := (hbw8r.cell (p := ⟨w5.heap.size, 0, none⟩) (by dsimp only; omega)).trans kS0; have kS1 := (hbw8r.cell (p := ⟨w5.heap.size, 1, none⟩) (by dsimp only; omega)).trans kS1; have kB0 := (hbw8r.cell (p := ⟨w.heap.size + 1, 0, none⟩) (by dsimp only; omega)).trans kB0; have kB1 := (hbw8r.cell (p := ⟨w.heap.size + 1, 1, none⟩) (by dsimp only; omega)).trans kB1; rw [E1.out] at hn2; obtain ⟨a2, c2, rfl, ho2⟩ := hn2; have HO1 := hide ho2; clear ho2)
          | (go_at_call 36; refine (sumQ (.agg #[.bool (sgn r), .slice ar' (lms r).length cr']) (.agg #[.bool (sgn y), .slice b (lms y).length cb]) r y _ ⟨ar', cr', rfl, HR.out.seg.below (hbw8)⟩ ⟨b, cb, rfl, HBB.out.below (hbw8)⟩ HLR.out (by omega)).mono ?_; rintro e w9 ⟨v3, rfl, hn3, hbw9r⟩; have hbw9 : Below w6.heap.size w6 w9 := bl_trans hbw8 hbw9r; have yw9 := hbw9.size; have kQ0 := (hbw9r.cell (p := ⟨w3.heap.size, 0, none⟩) (by dsimp only; omega)).trans kQ0; have kQ1 := (hbw9r.cell (p := ⟨w3.heap.size, 1, none⟩) (by dsimp only; omega)).trans kQ1; have kS0 := (hbw9r.cell (p := ⟨w5.heap.size, 0, none⟩) (by dsimp only; omega)).trans kS0; have kS1 := (hbw9r.cell (p := ⟨w5.heap.size, 1, none⟩) (by dsimp only; omega)).trans kS1; have kB0 := (hbw9r.cell (p := ⟨w.heap.size + 1, 0, none⟩) (by dsimp only; omega)).trans kB0; have kB1 := (hbw9r.cell (p := ⟨w.heap.size + 1, 1, none⟩) (by dsimp only; omega)).trans kB1; rw [E2.out] at hn3; obtain ⟨a3, c3, rfl, ho3⟩ := hn3; have HO3 := hide ho3; have HO2 := hide (HO1.out.below hbw9r); have HAP2 := hide (apart_own HO1.out ho3); clear ho3; have kR0 := (hbw9.cell (p := ⟨w.heap.size + 1 + 1, 0, none⟩) zR).trans kR0; have fR0 := (hbw9.frozen (p := ⟨w.heap.size + 1 + 1, 0, none⟩) zR).trans fR0; have kR1 := (hbw9.cell (p := ⟨w.heap.size + 1 + 1, 1, none⟩) zR).trans kR1; have fR1 := (hbw9.frozen (p := ⟨w.heap.size + 1 + 1, 1, none⟩) zR).trans fR1; have kT0 := (hbw9.cell (p := ⟨w.heap.size + 1 + 1 + 1, 0, none⟩) zT).trans kT0; have fT0 := (hbw9.frozen (p := ⟨w.heap.size + 1 + 1 + 1, 0, none⟩) zT).trans fT0; have kT1 := (hbw9.cell (p := ⟨w.heap.size + 1 + 1 + 1, 1, none⟩) zT).trans kT1; have fT1 := (hbw9.frozen (p := ⟨w.heap.size + 1 + 1 + 1, 1, none⟩) zT).trans fT1))
      all_goals go_wp2_with fail
      all_goals refine bodyPost_ret (v := .tuple #[.agg #[.bool (sgn (x / y)), .slice a2 (lms (x / y)).length c2], .agg #[.bool (sgn (x % y)), .slice a3 (lms (x % y)).length c3]]) (by simp [results, Try.results59, go_sem, kR0, kR1, kT0, kT1]) rfl ?_
      all_goals refine ⟨a2, c2, a3, c3, rfl, ?_⟩
      all_goals first | exact fin_two' (N := w.heap.size + 1 + 1) (M := w.heap.size + 1 + 1 + 1) (HO2.out.mono (base' := w6.heap.size) (by have := hbw7.size; omega)) (HO3.out.mono (base' := w6.heap.size) (by have := hbw8.size; omega)) HAP2.out (by omega) (by omega) (by omega) (by omega) (bl_trans HB.out hbw9) _ _ _ _ | exact fin_drew (fin_two' (N := w.heap.size + 1 + 1) (M := w.heap.size + 1 + 1 + 1) (HO2.out.mono (base' := w6.heap.size) (by have := hbw7.size; omega)) (HO3.out.mono (base' := w6.heap.size) (by have := hbw8.size; omega)) HAP2.out (by omega) (by omega) (by omega) (by omega) (bl_trans HB.out hbw9) _ _ _ _)
  · have hsr : sgn (mk (sgn x) (x.natAbs % y.natAbs)) = false := decide_eq_false hr
    obtain ⟨e1, e2⟩ := div_same x y hy (rest_pos hr).1
    have e3 : mk (sgn x) (x.natAbs % y.natAbs) = x % y := by rw [e2]; exact (rest_pos hr).2
    have HE1 := hide e1
    have HE2 := hide e3
    clear e1 e2 e3 hr
    generalize mk (!sgn x == sgn y) (x.natAbs / y.natAbs) = q at *
    generalize mk (sgn x) (x.natAbs % y.natAbs) = r at *
    go_upto_region 5 with fail
    clear hsr
    have hq' := HE2.out; subst hq'
    have hq' := HE1.out.symm; subst hq'
    clear HE1 HE2
    go_region_held3 (fun w' => w'.cell? ⟨w3.heap.size, 0, none⟩ = some (Value.bool (sgn (x / y))) ∧ w'.cell? ⟨w3.heap.size, 1, none⟩ = some (Value.slice aq' (lms (x / y)).length cq') ∧ w'.cell? ⟨w5.heap.size, 0, none⟩ = some (Value.bool (sgn (x % y))) ∧ w'.cell? ⟨w5.heap.size, 1, none⟩ = some (Value.slice ar' (lms (x % y)).length cr'))
      (first
        | exact ⟨(by (try rw [World.cell?_drew]); first | with_reducible assumption | (rw [cell_two (N := w.heap.size + 1 + 1) (p := ⟨w3.heap.size, 0, none⟩) (by dsimp only; omega)]; with_reducible assumption) | (rw [cell_two (N := w.heap.size + 1 + 1 + 1) (p := ⟨w3.heap.size, 0, none⟩) (by dsimp only; omega)]; with_reducible assumption) | (rw [cell_two (N := w.heap.size + 1 + 1) (p := ⟨w3.heap.size, 0, none⟩) (by dsimp only; omega), cell_two (N := w.heap.size + 1 + 1 + 1) (p := ⟨w3.heap.size, 0, none⟩) (by dsimp only; omega)]; with_reducible assumption) | (rw [cell_two (N := w.heap.size + 1 + 1 + 1) (p := ⟨w3.heap.size, 0, none⟩) (by dsimp only; omega), cell_two (N := w.heap.size + 1 + 1) (p := ⟨w3.heap.size, 0, none⟩) (by dsimp only; omega)]; with_reducible assumption)), (by (try rw [World.cell?_drew]); first | with_reducible assumption | (rw [cell_two (N := w.heap.size + 1 + 1) (p := ⟨w3.heap.size, 1, none⟩) (by dsimp only; omega)]; with_reducible assumption) | (rw [cell_two (N := w.heap.size + 1 + 1 + 1) (p := ⟨w3.heap.size, 1, none⟩) (by dsimp only; omega)]; with_reducible assumption) | (rw [cell_two (N := w.heap.size + 1 + 1) (p := ⟨w3.heap.size, 1, none⟩) (by dsimp only; omega), cell_two (N := w.heap.size + 1 + 1 + 1) (p := ⟨w3.heap.size, 1, none⟩) (by dsimp only; omega)]; with_reducible assumption) | (rw [cell_two (N := w.heap.size + 1 + 1 + 1) (p := ⟨w3.heap.size, 1, none⟩) (by dsimp only; omega), cell_two (N := w.heap.size + 1 + 1) (p := ⟨w3.heap.size, 1, none⟩) (by dsimp only; omega)]; with_reducible assumption)), (by (try rw [World.cell?_drew]); first | with_reducible assumption | (rw [cell_two (N := w.heap.size + 1 + 1) (p := ⟨w5.heap.size, 0, none⟩) (by dsimp only; omega)]; with_reducible assumption) | (rw [cell_two (N := w.heap.size + 1 + 1 + 1) (p := ⟨w5.heap.size, 0, none⟩) (by dsimp only; omega)]; with_reducible assumption) | (rw [cell_two (N := w.heap.size + 1 + 1) (p := ⟨w5.heap.size, 0, none⟩) (by dsimp only; omega), cell_two (N := w.heap.size + 1 + 1 + 1) (p := ⟨w5.heap.size, 0, none⟩) (by dsimp only; omega)]; with_reducible assumption) | (rw [cell_two (N := w.heap.size + 1 + 1 + 1) (p := ⟨w5.heap.size, 0, none⟩) (by dsimp only; omega), cell_two (N := w.heap.size + 1 + 1) (p := ⟨w5.heap.size, 0, none⟩) (by dsimp only; omega)]; with_reducible assumption)), (by (try rw [World.cell?_drew]); first | with_reducible assumption | (rw [cell_two (N := w.heap.size + 1 + 1) (p := ⟨w5.heap.size, 1, none⟩) (by dsimp only; omega)]; with_reducible assumption) | (rw [cell_two (N := w.heap.size + 1 + 1 + 1) (p := ⟨w5.heap.size, 1, none⟩) (by dsimp only; omega)]; with_reducible assumption) | (rw [cell_two (N := w.heap.size + 1 + 1) (p := ⟨w5.heap.size, 1, none⟩) (by dsimp only; omega), cell_two (N := w.heap.size + 1 + 1 + 1) (p := ⟨w5.heap.size, 1, none⟩) (by dsimp only; omega)]; with_reducible assumption) | (rw [cell_two (N := w.heap.size + 1 + 1 + 1) (p := ⟨w5.heap.size, 1, none⟩) (by dsimp only; omega), cell_two (N := w.heap.size + 1 + 1) (p := ⟨w5.heap.size, 1, none⟩) (by dsimp only; omega)]; with_reducible assumption))⟩)
      (fail)
    all_goals go_wp2_with fail
    all_goals refine bodyPost_ret (v := .tuple #[.agg #[.bool (sgn (x / y)), .slice aq' (lms (x / y)).length cq'], .agg #[.bool (sgn (x % y)), .slice ar' (lms (x % y)).length cr']]) (by simp [results, Try.results59, go_sem, kR0, kR1, kT0, kT1]) rfl ?_
    all_goals refine ⟨aq', cq', ar', cr', rfl, ?_⟩
    all_goals first | exact fin_two' (N := w.heap.size + 1 + 1) (M := w.heap.size + 1 + 1 + 1) HQ.out HR.out HAP.out (by omega) (by omega) (by omega) (by omega) HB.out _ _ _ _ | exact fin_drew (fin_two' (N := w.heap.size + 1 + 1) (M := w.heap.size + 1 + 1 + 1) HQ.out HR.out HAP.out (by omega) (by omega) (by omega) (by omega) HB.out _ _ _ _)
end Go.Proofs.Ythjapjbiclkhcaa

/- What bigRoot's steps call, by whole numbers of 0 or more; and a variable's box, made ahead or behind. -/
namespace Go.Proofs.Ythjapjbiclkhcaa
open Go.RowKit
set_option linter.unusedVariables false

theorem bits_nat {x : Nat} (h0 : x ≠ 0) (hx : x < 4294967296 ^ 40) : ∃ B : Nat, bitsN (lms (x : Int)) = (B : Int) ∧ x < 2 ^ B ∧ 1 ≤ B ∧ B ≤ 1280 := by
  have hl0 : (lms (x : Int)).length ≠ 0 := fun e => h0 (by have := sgn_lms_nil e; omega)
  obtain ⟨b, h1, h2, h3, h4⟩ := bits_bounds (lms (x : Int)) (lms_small _) hl0 (lms_last _ hl0)
  rw [nat_lms, Int.natAbs_natCast] at h2 h3
  have l : (lms (x : Int)).length ≤ 40 := Num.limbs_len.2 (by rw [Int.natAbs_natCast]; exact hx)
  exact ⟨b + 1, by rw [h1]; rfl, h3, by omega, by omega⟩
theorem len_pow {y b : Nat} (h : y ≤ 2 ^ b) (hb : b ≤ 100000) : (lms (y : Int)).length ≤ 250000 := by
  have := pow_len (z := (y : Int)) (b := b) (j := 1) (by rw [Int.natAbs_natCast]; exact h) (by omega)
  rw [Int.pow_succ, Int.pow_zero, Int.one_mul] at this
  exact this
theorem pow2I (v1 : Value) (Q : Nat) (w : World) (h1 : Is w v1 2) (hQ : Q ≤ 2000) :
    Calls Try.prog 33 #[v1, .int .i64 Q] w fun e w' => ∃ v, e = .returned v ∧ New w' w.heap.size v ((2 ^ Q : Nat) : Int) ∧ Below w.heap.size w w' := by
  have := powI v1 2 Q w h1 (by omega) (fun j hj => pow_len (b := 1) (by decide) (by omega))
  rw [show (2 : Int) ^ Q = ((2 ^ Q : Nat) : Int) from (Int.natCast_pow 2 Q).symm] at this
  exact this
theorem powN (v1 : Value) (y K : Nat) (w : World) (h1 : Is w v1 (y : Int)) (hy : y ≤ 2 ^ 1280) (hK : K ≤ 64) :
    Calls Try.prog 33 #[v1, .int .i64 K] w fun e w' => ∃ v, e = .returned v ∧ New w' w.heap.size v ((y ^ K : Nat) : Int) ∧ Below w.heap.size w w' := by
  have := powI v1 y K w h1 (by omega) (fun j hj => pow_len (b := 1280) (by rw [Int.natAbs_natCast]; exact hy) (by omega))
  rw [show (y : Int) ^ K = ((y ^ K : Nat) : Int) from (Int.natCast_pow y K).symm] at this
  exact this
theorem divNN (v1 v2 : Value) (x y : Nat) (w : World) (h1 : Is w v1 (x : Int)) (h2 : Is w v2 (y : Int)) (hy : 0 < y) (l1 : (lms (x : Int)).length ≤ 300000) (l2 : (lms (y : Int)).length ≤ 300000) :
    Calls Try.prog 59 #[v1, v2] w fun e w' => ∃ a1 c1 a2 c2, e = .returned (.tuple #[.agg #[.bool (sgn ((x / y : Nat) : Int)), .slice a1 (lms ((x / y : Nat) : Int)).length c1], .agg #[.bool (sgn ((x % y : Nat) : Int)), .slice a2 (lms ((x % y : Nat) : Int)).length c2]]) ∧ Own w' w.heap.size a1 (lms ((x / y : Nat) : Int)).length c1 (lms ((x / y : Nat) : Int)) ∧ Own w' w.heap.size a2 (lms ((x % y : Nat) : Int)).length c2 (lms ((x % y : Nat) : Int)) ∧ Apart a1 a2 ∧ Below w.heap.size w w' :=
  divI v1 v2 x y w h1 h2 (by omega) (by omega) (by omega)
theorem prodNN (v1 v2 : Value) (x y : Nat) (w : World) (h1 : Is w v1 (x : Int)) (h2 : Is w v2 (y : Int)) (l1 : (lms (x : Int)).length ≤ 300000) (l2 : (lms (y : Int)).length ≤ 300000) :
    Calls Try.prog 60 #[v1, v2] w fun e w' => ∃ v, e = .returned v ∧ New w' w.heap.size v ((x * y : Nat) : Int) ∧ Below w.heap.size w w' := by
  have := prodI v1 v2 (sgn (x : Int)) (sgn (y : Int)) (x : Int).natAbs (y : Int).natAbs w h1 h2 (Nat.le_trans l1 (by decide)) (Nat.le_trans l2 (by decide))
  rw [mk_self, mk_self, show (x : Int) * (y : Int) = ((x * y : Nat) : Int) from (Int.natCast_mul x y).symm] at this
  exact this
theorem sumNN (v1 v2 : Value) (x y : Nat) (w : World) (h1 : Is w v1 (x : Int)) (h2 : Is w v2 (y : Int)) (l1 : (lms (x : Int)).length ≤ 300000) (l2 : (lms (y : Int)).length ≤ 300000) :
    Calls Try.prog 36 #[v1, v2] w fun e w' => ∃ v, e = .returned v ∧ New w' w.heap.size v ((x + y : Nat) : Int) ∧ Below w.heap.size w w' := by
  have := sumI v1 v2 (sgn (x : Int)) (sgn (y : Int)) (x : Int).natAbs (y : Int).natAbs w h1 h2 (Nat.le_trans l1 (by decide)) (Nat.le_trans l2 (by decide))
  rw [mk_self, mk_self, show (x : Int) + (y : Int) = ((x + y : Nat) : Int) from (Int.natCast_add x y).symm] at this
  exact this
theorem tresf_b {W0 wC : World} {b n c : Nat} {a : Option Addr} {xs : List Nat} {g : Bool} (h : Own wC b a n c xs) (hb : W0.heap.size ≤ b) (bC : Below W0.heap.size W0 wC) :
    W0.heap.size ≤ wC.heap.size ∧ wC.heap.size < (wC.alloc (Obj.cells #[Value.bool g, Value.slice a n c] 26)).heap.size ∧ (wC.alloc (Obj.cells #[Value.bool g, Value.slice a n c] 26)).cell? ⟨wC.heap.size, 0, none⟩ = some (Value.bool g) ∧ (wC.alloc (Obj.cells #[Value.bool g, Value.slice a n c] 26)).cell? ⟨wC.heap.size, 1, none⟩ = some (Value.slice a n c) ∧
      (wC.alloc (Obj.cells #[Value.bool g, Value.slice a n c] 26)).frozen? ⟨wC.heap.size, 0, none⟩ = false ∧ (wC.alloc (Obj.cells #[Value.bool g, Value.slice a n c] 26)).frozen? ⟨wC.heap.size, 1, none⟩ = false ∧
      Own (wC.alloc (Obj.cells #[Value.bool g, Value.slice a n c] 26)) W0.heap.size a n c xs ∧ Below W0.heap.size W0 (wC.alloc (Obj.cells #[Value.bool g, Value.slice a n c] 26)) :=
  ⟨bC.size, by simp only [World.size_alloc]; omega, by go_simp, by go_simp, by go_simp, by go_simp, (h.below (bl_alloc (bl_refl wC) _)).mono hb, bl_alloc bC _⟩
theorem tresf_a {W0 wC : World} {N b n c : Nat} {a : Option Addr} {xs : List Nat} {g : Bool} (h : Own wC b a n c xs) (hb : W0.heap.size ≤ b) (bC : Below W0.heap.size W0 wC) (hz : Zr wC N) (hN : W0.heap.size ≤ N) (hp : N < b) :
    W0.heap.size ≤ N ∧ N < ((wC.setCell ⟨N, 0, none⟩ (Value.bool g)).setCell ⟨N, 1, none⟩ (Value.slice a n c)).heap.size ∧ ((wC.setCell ⟨N, 0, none⟩ (Value.bool g)).setCell ⟨N, 1, none⟩ (Value.slice a n c)).cell? ⟨N, 0, none⟩ = some (Value.bool g) ∧ ((wC.setCell ⟨N, 0, none⟩ (Value.bool g)).setCell ⟨N, 1, none⟩ (Value.slice a n c)).cell? ⟨N, 1, none⟩ = some (Value.slice a n c) ∧
      ((wC.setCell ⟨N, 0, none⟩ (Value.bool g)).setCell ⟨N, 1, none⟩ (Value.slice a n c)).frozen? ⟨N, 0, none⟩ = false ∧ ((wC.setCell ⟨N, 0, none⟩ (Value.bool g)).setCell ⟨N, 1, none⟩ (Value.slice a n c)).frozen? ⟨N, 1, none⟩ = false ∧
      Own ((wC.setCell ⟨N, 0, none⟩ (Value.bool g)).setCell ⟨N, 1, none⟩ (Value.slice a n c)) W0.heap.size a n c xs ∧ Below W0.heap.size W0 ((wC.setCell ⟨N, 0, none⟩ (Value.bool g)).setCell ⟨N, 1, none⟩ (Value.slice a n c)) := by
  obtain ⟨q, c0, c1, f0, f1⟩ := hz
  exact ⟨hN, by simp; omega, by go_simp, by go_simp, by go_simp, by go_simp, ((h.setCell (p := ⟨N, 0, none⟩) hp _).setCell (p := ⟨N, 1, none⟩) hp _).mono hb, (bC.setCell (p := ⟨N, 0, none⟩) hN _).setCell (p := ⟨N, 1, none⟩) hN _⟩
end Go.Proofs.Ythjapjbiclkhcaa
