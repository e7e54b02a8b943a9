/- My texts MakeR, FitR, in this order. -/
import Derived.Test.YtpmgpdlminacaaaGreatDoorPk28
/- The walk of the specification's l03Make. -/
namespace Go.Proofs.YtpmgpdlminacaaaGreatDoor
open Go.RowKit
set_option linter.unusedVariables false

theorem fin_four {w w1 : World} {N b1 b2 n1 c1 n2 c2 : Nat} {a1 a2 : Option Addr} {xs1 xs2 : List Nat} (h1 : Own w1 b1 a1 n1 c1 xs1) (h2 : Own w1 b2 a2 n2 c2 xs2) (hN : N < b1) (hM : N < b2) (wN : w.heap.size ≤ N) (hb : Below w.heap.size w w1) (x y z t : Value) :
    Own ((((w1.setCell ⟨N, 0, none⟩ x).setCell ⟨N, 1, none⟩ y).setCell ⟨N, 2, none⟩ z).setCell ⟨N, 3, none⟩ t) w.heap.size a1 n1 c1 xs1 ∧ Own ((((w1.setCell ⟨N, 0, none⟩ x).setCell ⟨N, 1, none⟩ y).setCell ⟨N, 2, none⟩ z).setCell ⟨N, 3, none⟩ t) w.heap.size a2 n2 c2 xs2 ∧ Below w.heap.size w ((((w1.setCell ⟨N, 0, none⟩ x).setCell ⟨N, 1, none⟩ y).setCell ⟨N, 2, none⟩ z).setCell ⟨N, 3, none⟩ t) :=
  ⟨(((((h1).setCell (p := ⟨N, 0, none⟩) hN x).setCell (p := ⟨N, 1, none⟩) hN y).setCell (p := ⟨N, 2, none⟩) hN z).setCell (p := ⟨N, 3, none⟩) hN t).mono (by omega),
   (((((h2).setCell (p := ⟨N, 0, none⟩) hM x).setCell (p := ⟨N, 1, none⟩) hM y).setCell (p := ⟨N, 2, none⟩) hM z).setCell (p := ⟨N, 3, none⟩) hM t).mono (by omega),
   ((((hb).setCell (p := ⟨N, 0, none⟩) wN x).setCell (p := ⟨N, 1, none⟩) wN y).setCell (p := ⟨N, 2, none⟩) wN z).setCell (p := ⟨N, 3, none⟩) wN t⟩

set_option maxHeartbeats 600000 in
theorem makeRp (x y : Int) (a1 : Option Addr) (c1 : Nat) (a2 : Option Addr) (c2 : Nat) (w : World) (s1 : Seg w a1 (lms x).length c1 (lms x)) (s2 : Seg w a2 (lms y).length c2 (lms y)) (hy : y ≠ 0) (hn : ¬ y < 0) (l1 : (lms x).length ≤ 100000) (l2 : (lms y).length ≤ 100000) :
    Calls Tryz.prog 58 #[.agg #[Value.bool (sgn x), Value.slice a1 (lms x).length c1], .agg #[Value.bool (sgn y), Value.slice a2 (lms y).length c2]] w fun e w' => ∃ b1 e1 b2 e2, e = .returned (.agg #[.bool (sgn (x / sgG x y)), .slice b1 (lms (x / sgG x y)).length e1, .bool (sgn (y / sgG x y)), .slice b2 (lms (y / sgG x y)).length e2]) ∧ Own w' w.heap.size b1 (lms (x / sgG x y)).length e1 (lms (x / sgG x y)) ∧ Own w' w.heap.size b2 (lms (y / sgG x y)).length e2 (lms (y / sgG x y)) ∧ Apart b1 b2 ∧ Below w.heap.size w w' := by
  have ka0 : (((w.alloc (Obj.cells #[Value.bool (sgn x), Value.slice a1 (lms x).length c1] 24)).alloc (Obj.cells #[Value.bool (sgn y), Value.slice a2 (lms y).length c2] 24)).alloc (Obj.cells #[Value.bool false, Value.slice none 0 0, Value.bool false, Value.slice none 0 0] 26)).cell? ⟨w.heap.size, 0, none⟩ = some (Value.bool (sgn x)) := by go_simp
  have ka1 : (((w.alloc (Obj.cells #[Value.bool (sgn x), Value.slice a1 (lms x).length c1] 24)).alloc (Obj.cells #[Value.bool (sgn y), Value.slice a2 (lms y).length c2] 24)).alloc (Obj.cells #[Value.bool false, Value.slice none 0 0, Value.bool false, Value.slice none 0 0] 26)).cell? ⟨w.heap.size, 1, none⟩ = some (Value.slice a1 (lms x).length c1) := by go_simp
  have kb0 : (((w.alloc (Obj.cells #[Value.bool (sgn x), Value.slice a1 (lms x).length c1] 24)).alloc (Obj.cells #[Value.bool (sgn y), Value.slice a2 (lms y).length c2] 24)).alloc (Obj.cells #[Value.bool false, Value.slice none 0 0, Value.bool false, Value.slice none 0 0] 26)).cell? ⟨w.heap.size + 1, 0, none⟩ = some (Value.bool (sgn y)) := by go_simp
  have kb1 : (((w.alloc (Obj.cells #[Value.bool (sgn x), Value.slice a1 (lms x).length c1] 24)).alloc (Obj.cells #[Value.bool (sgn y), Value.slice a2 (lms y).length c2] 24)).alloc (Obj.cells #[Value.bool false, Value.slice none 0 0, Value.bool false, Value.slice none 0 0] 26)).cell? ⟨w.heap.size + 1, 1, none⟩ = some (Value.slice a2 (lms y).length c2) := by go_simp
  have kr0 : (((w.alloc (Obj.cells #[Value.bool (sgn x), Value.slice a1 (lms x).length c1] 24)).alloc (Obj.cells #[Value.bool (sgn y), Value.slice a2 (lms y).length c2] 24)).alloc (Obj.cells #[Value.bool false, Value.slice none 0 0, Value.bool false, Value.slice none 0 0] 26)).cell? ⟨w.heap.size + 1 + 1, 0, none⟩ = some (Value.bool false) := by go_simp
  have fr0 : (((w.alloc (Obj.cells #[Value.bool (sgn x), Value.slice a1 (lms x).length c1] 24)).alloc (Obj.cells #[Value.bool (sgn y), Value.slice a2 (lms y).length c2] 24)).alloc (Obj.cells #[Value.bool false, Value.slice none 0 0, Value.bool false, Value.slice none 0 0] 26)).frozen? ⟨w.heap.size + 1 + 1, 0, none⟩ = false := by go_simp
  have kr1 : (((w.alloc (Obj.cells #[Value.bool (sgn x), Value.slice a1 (lms x).length c1] 24)).alloc (Obj.cells #[Value.bool (sgn y), Value.slice a2 (lms y).length c2] 24)).alloc (Obj.cells #[Value.bool false, Value.slice none 0 0, Value.bool false, Value.slice none 0 0] 26)).cell? ⟨w.heap.size + 1 + 1, 1, none⟩ = some (Value.slice none 0 0) := by go_simp
  have fr1 : (((w.alloc (Obj.cells #[Value.bool (sgn x), Value.slice a1 (lms x).length c1] 24)).alloc (Obj.cells #[Value.bool (sgn y), Value.slice a2 (lms y).length c2] 24)).alloc (Obj.cells #[Value.bool false, Value.slice none 0 0, Value.bool false, Value.slice none 0 0] 26)).frozen? ⟨w.heap.size + 1 + 1, 1, none⟩ = false := by go_simp
  have kr2 : (((w.alloc (Obj.cells #[Value.bool (sgn x), Value.slice a1 (lms x).length c1] 24)).alloc (Obj.cells #[Value.bool (sgn y), Value.slice a2 (lms y).length c2] 24)).alloc (Obj.cells #[Value.bool false, Value.slice none 0 0, Value.bool false, Value.slice none 0 0] 26)).cell? ⟨w.heap.size + 1 + 1, 2, none⟩ = some (Value.bool false) := by go_simp
  have fr2 : (((w.alloc (Obj.cells #[Value.bool (sgn x), Value.slice a1 (lms x).length c1] 24)).alloc (Obj.cells #[Value.bool (sgn y), Value.slice a2 (lms y).length c2] 24)).alloc (Obj.cells #[Value.bool false, Value.slice none 0 0, Value.bool false, Value.slice none 0 0] 26)).frozen? ⟨w.heap.size + 1 + 1, 2, none⟩ = false := by go_simp
  have kr3 : (((w.alloc (Obj.cells #[Value.bool (sgn x), Value.slice a1 (lms x).length c1] 24)).alloc (Obj.cells #[Value.bool (sgn y), Value.slice a2 (lms y).length c2] 24)).alloc (Obj.cells #[Value.bool false, Value.slice none 0 0, Value.bool false, Value.slice none 0 0] 26)).cell? ⟨w.heap.size + 1 + 1, 3, none⟩ = some (Value.slice none 0 0) := by go_simp
  have fr3 : (((w.alloc (Obj.cells #[Value.bool (sgn x), Value.slice a1 (lms x).length c1] 24)).alloc (Obj.cells #[Value.bool (sgn y), Value.slice a2 (lms y).length c2] 24)).alloc (Obj.cells #[Value.bool false, Value.slice none 0 0, Value.bool false, Value.slice none 0 0] 26)).frozen? ⟨w.heap.size + 1 + 1, 3, none⟩ = false := by go_simp
  have zr : w.heap.size + 1 + 1 < (((w.alloc (Obj.cells #[Value.bool (sgn x), Value.slice a1 (lms x).length c1] 24)).alloc (Obj.cells #[Value.bool (sgn y), Value.slice a2 (lms y).length c2] 24)).alloc (Obj.cells #[Value.bool false, Value.slice none 0 0, Value.bool false, Value.slice none 0 0] 26)).heap.size := by simp only [World.size_alloc]; omega
  have HB := hide (bl_alloc (bl_alloc (bl_alloc (bl_refl w) (Obj.cells #[Value.bool (sgn x), Value.slice a1 (lms x).length c1] 24)) (Obj.cells #[Value.bool (sgn y), Value.slice a2 (lms y).length c2] 24)) (Obj.cells #[Value.bool false, Value.slice none 0 0, Value.bool false, Value.slice none 0 0] 26))
  have S1 := hide (s1.below HB.out)
  have S2 := hide (s2.below HB.out)
  have T1 := hide s1
  have T2 := hide s2
  clear s1 s2
  obtain ⟨hG0, hGs, hGl, hGL⟩ := sgG_facts hy (rfl : sgG x y = sgG x y) l2
  have hgL : (lms ((Int.gcd x y : Nat) : Int)).length ≤ 100000 := by rw [hGl]; exact hGL
  have eG : sgG x y = ((Int.gcd x y : Nat) : Int) := if_neg hn
  rw [eG] at hG0 hGL
  rw [eG]
  have hsy : sgn y = false := by unfold sgn; simp; omega
  have HSY := hide hsy
  clear eG hGs hGl hn hsy
  have HGC := hide (fun (w : World) h1 h2 => gcdS (.agg #[Value.bool (sgn x), Value.slice a1 (lms x).length c1]) (.agg #[Value.bool (sgn y), Value.slice a2 (lms y).length c2]) x y w h1 h2 l1 l2)
  generalize ((Int.gcd x y : Nat) : Int) = g at *
  go_enter Tryz.func58, Tryz.ntmps58
  go_wp2_with fail
  generalize (((w.alloc (Obj.cells #[Value.bool (sgn x), Value.slice a1 (lms x).length c1] 24)).alloc (Obj.cells #[Value.bool (sgn y), Value.slice a2 (lms y).length c2] 24)).alloc (Obj.cells #[Value.bool false, Value.slice none 0 0, Value.bool false, Value.slice none 0 0] 26)) = w1 at *
  refine (HGC.out _ ⟨a1, c1, rfl, S1.out⟩ ⟨a2, c2, rfl, S2.out⟩).mono ?_
  rintro e w2 ⟨v, rfl, ⟨ag, cg, rfl, hrg⟩, hb⟩
  replace ka0 := (hb.cell (p := ⟨w.heap.size, 0, none⟩) (by dsimp only; omega)).trans ka0
  replace ka1 := (hb.cell (p := ⟨w.heap.size, 1, none⟩) (by dsimp only; omega)).trans ka1
  replace kb0 := (hb.cell (p := ⟨w.heap.size + 1, 0, none⟩) (by dsimp only; omega)).trans kb0
  replace kb1 := (hb.cell (p := ⟨w.heap.size + 1, 1, none⟩) (by dsimp only; omega)).trans kb1
  replace kr0 := (hb.cell (p := ⟨w.heap.size + 1 + 1, 0, none⟩) (by dsimp only; omega)).trans kr0
  replace fr0 := (hb.frozen (p := ⟨w.heap.size + 1 + 1, 0, none⟩) (by dsimp only; omega)).trans fr0
  replace kr1 := (hb.cell (p := ⟨w.heap.size + 1 + 1, 1, none⟩) (by dsimp only; omega)).trans kr1
  replace fr1 := (hb.frozen (p := ⟨w.heap.size + 1 + 1, 1, none⟩) (by dsimp only; omega)).trans fr1
  replace kr2 := (hb.cell (p := ⟨w.heap.size + 1 + 1, 2, none⟩) (by dsimp only; omega)).trans kr2
  replace fr2 := (hb.frozen (p := ⟨w.heap.size + 1 + 1, 2, none⟩) (by dsimp only; omega)).trans fr2
  replace kr3 := (hb.cell (p := ⟨w.heap.size + 1 + 1, 3, none⟩) (by dsimp only; omega)).trans kr3
  replace fr3 := (hb.frozen (p := ⟨w.heap.size + 1 + 1, 3, none⟩) (by dsimp only; omega)).trans fr3
  replace S1 := hide (S1.out.below hb)
  replace S2 := hide (S2.out.below hb)
  replace zr := Nat.lt_of_lt_of_le zr hb.size
  replace HB := hide (bl_trans HB.out hb)
  clear hb
  have SG := hide hrg.1
  clear hrg HGC
  go_upto_region 2 with fail
  have yw3 : w2.heap.size + 1 ≤ (w2.alloc (Obj.cells #[Value.bool (sgn g), Value.slice ag (lms g).length cg] 24)).heap.size := by simp only [World.size_alloc]; omega
  have kg0 : (w2.alloc (Obj.cells #[Value.bool (sgn g), Value.slice ag (lms g).length cg] 24)).cell? ⟨w2.heap.size, 0, none⟩ = some (Value.bool (sgn g)) := by go_simp
  have fg0 : (w2.alloc (Obj.cells #[Value.bool (sgn g), Value.slice ag (lms g).length cg] 24)).frozen? ⟨w2.heap.size, 0, none⟩ = false := by go_simp
  have kg1 : (w2.alloc (Obj.cells #[Value.bool (sgn g), Value.slice ag (lms g).length cg] 24)).cell? ⟨w2.heap.size, 1, none⟩ = some (Value.slice ag (lms g).length cg) := by go_simp
  have fg1 : (w2.alloc (Obj.cells #[Value.bool (sgn g), Value.slice ag (lms g).length cg] 24)).frozen? ⟨w2.heap.size, 1, none⟩ = false := by go_simp
  have hbn := (bl_alloc (bl_refl w2) (Obj.cells #[Value.bool (sgn g), Value.slice ag (lms g).length cg] 24))
  have zw3 := zr
  replace ka0 := (hbn.cell (p := ⟨w.heap.size, 0, none⟩) (by dsimp only; omega)).trans ka0
  replace ka1 := (hbn.cell (p := ⟨w.heap.size, 1, none⟩) (by dsimp only; omega)).trans ka1
  replace kb0 := (hbn.cell (p := ⟨w.heap.size + 1, 0, none⟩) (by dsimp only; omega)).trans kb0
  replace kb1 := (hbn.cell (p := ⟨w.heap.size + 1, 1, none⟩) (by dsimp only; omega)).trans kb1
  replace kr0 := (hbn.cell (p := ⟨w.heap.size + 1 + 1, 0, none⟩) (by dsimp only; omega)).trans kr0
  replace fr0 := (hbn.frozen (p := ⟨w.heap.size + 1 + 1, 0, none⟩) (by dsimp only; omega)).trans fr0
  replace kr1 := (hbn.cell (p := ⟨w.heap.size + 1 + 1, 1, none⟩) (by dsimp only; omega)).trans kr1
  replace fr1 := (hbn.frozen (p := ⟨w.heap.size + 1 + 1, 1, none⟩) (by dsimp only; omega)).trans fr1
  replace kr2 := (hbn.cell (p := ⟨w.heap.size + 1 + 1, 2, none⟩) (by dsimp only; omega)).trans kr2
  replace fr2 := (hbn.frozen (p := ⟨w.heap.size + 1 + 1, 2, none⟩) (by dsimp only; omega)).trans fr2
  replace kr3 := (hbn.cell (p := ⟨w.heap.size + 1 + 1, 3, none⟩) (by dsimp only; omega)).trans kr3
  replace fr3 := (hbn.frozen (p := ⟨w.heap.size + 1 + 1, 3, none⟩) (by dsimp only; omega)).trans fr3
  replace S1 := hide (S1.out.below hbn)
  replace S2 := hide (S2.out.below hbn)
  replace SG := hide (SG.out.below hbn)
  replace zr := Nat.lt_of_lt_of_le zr hbn.size
  replace HB := hide (bl_trans HB.out hbn)
  clear hbn
  generalize (w2.alloc (Obj.cells #[Value.bool (sgn g), Value.slice ag (lms g).length cg] 24)) = w3 at *
  rw [HSY.out] at kb0
  go_wp2_with fail
  rw [← HSY.out] at kb0
  refine (divS (.agg #[.bool (sgn x), .slice a1 (lms x).length c1]) (.agg #[.bool (sgn g), .slice ag (lms g).length cg]) x g _ ⟨a1, c1, rfl, S1.out⟩ ⟨ag, cg, rfl, SG.out⟩ hG0 l1 hgL).mono ?_
  rintro e w4 ⟨aq1, cq1, ar1, cr1, rfl, ho1, hor1, hb⟩
  have yw4 := hb.size
  replace ka0 := (hb.cell (p := ⟨w.heap.size, 0, none⟩) (by dsimp only; omega)).trans ka0
  replace ka1 := (hb.cell (p := ⟨w.heap.size, 1, none⟩) (by dsimp only; omega)).trans ka1
  replace kb0 := (hb.cell (p := ⟨w.heap.size + 1, 0, none⟩) (by dsimp only; omega)).trans kb0
  replace kb1 := (hb.cell (p := ⟨w.heap.size + 1, 1, none⟩) (by dsimp only; omega)).trans kb1
  replace kr0 := (hb.cell (p := ⟨w.heap.size + 1 + 1, 0, none⟩) (by dsimp only; omega)).trans kr0
  replace fr0 := (hb.frozen (p := ⟨w.heap.size + 1 + 1, 0, none⟩) (by dsimp only; omega)).trans fr0
  replace kr1 := (hb.cell (p := ⟨w.heap.size + 1 + 1, 1, none⟩) (by dsimp only; omega)).trans kr1
  replace fr1 := (hb.frozen (p := ⟨w.heap.size + 1 + 1, 1, none⟩) (by dsimp only; omega)).trans fr1
  replace kr2 := (hb.cell (p := ⟨w.heap.size + 1 + 1, 2, none⟩) (by dsimp only; omega)).trans kr2
  replace fr2 := (hb.frozen (p := ⟨w.heap.size + 1 + 1, 2, none⟩) (by dsimp only; omega)).trans fr2
  replace kr3 := (hb.cell (p := ⟨w.heap.size + 1 + 1, 3, none⟩) (by dsimp only; omega)).trans kr3
  replace fr3 := (hb.frozen (p := ⟨w.heap.size + 1 + 1, 3, none⟩) (by dsimp only; omega)).trans fr3
  replace kg0 := (hb.cell (p := ⟨w2.heap.size, 0, none⟩) (by dsimp only; omega)).trans kg0
  replace fg0 := (hb.frozen (p := ⟨w2.heap.size, 0, none⟩) (by dsimp only; omega)).trans fg0
  replace kg1 := (hb.cell (p := ⟨w2.heap.size, 1, none⟩) (by dsimp only; omega)).trans kg1
  replace fg1 := (hb.frozen (p := ⟨w2.heap.size, 1, none⟩) (by dsimp only; omega)).trans fg1
  replace S1 := hide (S1.out.below hb)
  replace S2 := hide (S2.out.below hb)
  replace SG := hide (SG.out.below hb)
  replace zr := Nat.lt_of_lt_of_le zr hb.size
  replace HB := hide (bl_trans HB.out hb)
  clear hb
  clear hor1
  have O1 := hide ho1
  clear ho1
  go_upto_region 5 with fail
  have yw5 : w4.heap.size + 2 ≤ ((w4.alloc (Obj.cells #[Value.bool (sgn (x / g)), Value.slice aq1 (lms (x / g)).length cq1] 24)).alloc (Obj.cells #[Value.bool (sgn (x % g)), Value.slice ar1 (lms (x % g)).length cr1] 24)).heap.size := by simp only [World.size_alloc]; omega
  have kq10 : ((w4.alloc (Obj.cells #[Value.bool (sgn (x / g)), Value.slice aq1 (lms (x / g)).length cq1] 24)).alloc (Obj.cells #[Value.bool (sgn (x % g)), Value.slice ar1 (lms (x % g)).length cr1] 24)).cell? ⟨w4.heap.size, 0, none⟩ = some (Value.bool (sgn (x / g))) := by go_simp
  have kq11 : ((w4.alloc (Obj.cells #[Value.bool (sgn (x / g)), Value.slice aq1 (lms (x / g)).length cq1] 24)).alloc (Obj.cells #[Value.bool (sgn (x % g)), Value.slice ar1 (lms (x % g)).length cr1] 24)).cell? ⟨w4.heap.size, 1, none⟩ = some (Value.slice aq1 (lms (x / g)).length cq1) := by go_simp
  have hbn := (bl_alloc (bl_alloc (bl_refl w4) (Obj.cells #[Value.bool (sgn (x / g)), Value.slice aq1 (lms (x / g)).length cq1] 24)) (Obj.cells #[Value.bool (sgn (x % g)), Value.slice ar1 (lms (x % g)).length cr1] 24))
  have zw5 := zr
  replace ka0 := (hbn.cell (p := ⟨w.heap.size, 0, none⟩) (by dsimp only; omega)).trans ka0
  replace ka1 := (hbn.cell (p := ⟨w.heap.size, 1, none⟩) (by dsimp only; omega)).trans ka1
  replace kb0 := (hbn.cell (p := ⟨w.heap.size + 1, 0, none⟩) (by dsimp only; omega)).trans kb0
  replace kb1 := (hbn.cell (p := ⟨w.heap.size + 1, 1, none⟩) (by dsimp only; omega)).trans kb1
  replace kr0 := (hbn.cell (p := ⟨w.heap.size + 1 + 1, 0, none⟩) (by dsimp only; omega)).trans kr0
  replace fr0 := (hbn.frozen (p := ⟨w.heap.size + 1 + 1, 0, none⟩) (by dsimp only; omega)).trans fr0
  replace kr1 := (hbn.cell (p := ⟨w.heap.size + 1 + 1, 1, none⟩) (by dsimp only; omega)).trans kr1
  replace fr1 := (hbn.frozen (p := ⟨w.heap.size + 1 + 1, 1, none⟩) (by dsimp only; omega)).trans fr1
  replace kr2 := (hbn.cell (p := ⟨w.heap.size + 1 + 1, 2, none⟩) (by dsimp only; omega)).trans kr2
  replace fr2 := (hbn.frozen (p := ⟨w.heap.size + 1 + 1, 2, none⟩) (by dsimp only; omega)).trans fr2
  replace kr3 := (hbn.cell (p := ⟨w.heap.size + 1 + 1, 3, none⟩) (by dsimp only; omega)).trans kr3
  replace fr3 := (hbn.frozen (p := ⟨w.heap.size + 1 + 1, 3, none⟩) (by dsimp only; omega)).trans fr3
  replace kg0 := (hbn.cell (p := ⟨w2.heap.size, 0, none⟩) (by dsimp only; omega)).trans kg0
  replace fg0 := (hbn.frozen (p := ⟨w2.heap.size, 0, none⟩) (by dsimp only; omega)).trans fg0
  replace kg1 := (hbn.cell (p := ⟨w2.heap.size, 1, none⟩) (by dsimp only; omega)).trans kg1
  replace fg1 := (hbn.frozen (p := ⟨w2.heap.size, 1, none⟩) (by dsimp only; omega)).trans fg1
  replace S1 := hide (S1.out.below hbn)
  replace S2 := hide (S2.out.below hbn)
  replace SG := hide (SG.out.below hbn)
  replace O1 := hide (O1.out.below hbn)
  replace zr := Nat.lt_of_lt_of_le zr hbn.size
  replace HB := hide (bl_trans HB.out hbn)
  clear hbn
  generalize ((w4.alloc (Obj.cells #[Value.bool (sgn (x / g)), Value.slice aq1 (lms (x / g)).length cq1] 24)).alloc (Obj.cells #[Value.bool (sgn (x % g)), Value.slice ar1 (lms (x % g)).length cr1] 24)) = w5 at *
  go_wp2_with fail
  refine (divS (.agg #[.bool (sgn y), .slice a2 (lms y).length c2]) (.agg #[.bool (sgn g), .slice ag (lms g).length cg]) y g _ ⟨a2, c2, rfl, S2.out⟩ ⟨ag, cg, rfl, SG.out⟩ hG0 l2 hgL).mono ?_
  rintro e w6 ⟨aq2, cq2, ar2, cr2, rfl, ho2, hor2, hb⟩
  have HAP := hide (apart_two O1.out ho2)
  have yw6 := hb.size
  replace ka0 := (hb.cell (p := ⟨w.heap.size, 0, none⟩) (by dsimp only; omega)).trans ka0
  replace ka1 := (hb.cell (p := ⟨w.heap.size, 1, none⟩) (by dsimp only; omega)).trans ka1
  replace kb0 := (hb.cell (p := ⟨w.heap.size + 1, 0, none⟩) (by dsimp only; omega)).trans kb0
  replace kb1 := (hb.cell (p := ⟨w.heap.size + 1, 1, none⟩) (by dsimp only; omega)).trans kb1
  replace kr0 := (hb.cell (p := ⟨w.heap.size + 1 + 1, 0, none⟩) (by dsimp only; omega)).trans kr0
  replace fr0 := (hb.frozen (p := ⟨w.heap.size + 1 + 1, 0, none⟩) (by dsimp only; omega)).trans fr0
  replace kr1 := (hb.cell (p := ⟨w.heap.size + 1 + 1, 1, none⟩) (by dsimp only; omega)).trans kr1
  replace fr1 := (hb.frozen (p := ⟨w.heap.size + 1 + 1, 1, none⟩) (by dsimp only; omega)).trans fr1
  replace kr2 := (hb.cell (p := ⟨w.heap.size + 1 + 1, 2, none⟩) (by dsimp only; omega)).trans kr2
  replace fr2 := (hb.frozen (p := ⟨w.heap.size + 1 + 1, 2, none⟩) (by dsimp only; omega)).trans fr2
  replace kr3 := (hb.cell (p := ⟨w.heap.size + 1 + 1, 3, none⟩) (by dsimp only; omega)).trans kr3
  replace fr3 := (hb.frozen (p := ⟨w.heap.size + 1 + 1, 3, none⟩) (by dsimp only; omega)).trans fr3
  replace kg0 := (hb.cell (p := ⟨w2.heap.size, 0, none⟩) (by dsimp only; omega)).trans kg0
  replace fg0 := (hb.frozen (p := ⟨w2.heap.size, 0, none⟩) (by dsimp only; omega)).trans fg0
  replace kg1 := (hb.cell (p := ⟨w2.heap.size, 1, none⟩) (by dsimp only; omega)).trans kg1
  replace fg1 := (hb.frozen (p := ⟨w2.heap.size, 1, none⟩) (by dsimp only; omega)).trans fg1
  replace kq10 := (hb.cell (p := ⟨w4.heap.size, 0, none⟩) (by dsimp only; omega)).trans kq10
  replace kq11 := (hb.cell (p := ⟨w4.heap.size, 1, none⟩) (by dsimp only; omega)).trans kq11
  replace S1 := hide (S1.out.below hb)
  replace S2 := hide (S2.out.below hb)
  replace SG := hide (SG.out.below hb)
  replace O1 := hide (O1.out.below hb)
  replace zr := Nat.lt_of_lt_of_le zr hb.size
  replace HB := hide (bl_trans HB.out hb)
  clear hb
  clear hor2
  have O2 := hide ho2
  clear ho2
  go_upto_region 6 with fail
  have yw7 : w6.heap.size + 2 ≤ ((w6.alloc (Obj.cells #[Value.bool (sgn (y / g)), Value.slice aq2 (lms (y / g)).length cq2] 24)).alloc (Obj.cells #[Value.bool (sgn (y % g)), Value.slice ar2 (lms (y % g)).length cr2] 24)).heap.size := by simp only [World.size_alloc]; omega
  have kq20 : ((w6.alloc (Obj.cells #[Value.bool (sgn (y / g)), Value.slice aq2 (lms (y / g)).length cq2] 24)).alloc (Obj.cells #[Value.bool (sgn (y % g)), Value.slice ar2 (lms (y % g)).length cr2] 24)).cell? ⟨w6.heap.size, 0, none⟩ = some (Value.bool (sgn (y / g))) := by go_simp
  have kq21 : ((w6.alloc (Obj.cells #[Value.bool (sgn (y / g)), Value.slice aq2 (lms (y / g)).length cq2] 24)).alloc (Obj.cells #[Value.bool (sgn (y % g)), Value.slice ar2 (lms (y % g)).length cr2] 24)).cell? ⟨w6.heap.size, 1, none⟩ = some (Value.slice aq2 (lms (y / g)).length cq2) := by go_simp
  have hbn := (bl_alloc (bl_alloc (bl_refl w6) (Obj.cells #[Value.bool (sgn (y / g)), Value.slice aq2 (lms (y / g)).length cq2] 24)) (Obj.cells #[Value.bool (sgn (y % g)), Value.slice ar2 (lms (y % g)).length cr2] 24))
  have zw7 := zr
  replace ka0 := (hbn.cell (p := ⟨w.heap.size, 0, none⟩) (by dsimp only; omega)).trans ka0
  replace ka1 := (hbn.cell (p := ⟨w.heap.size, 1, none⟩) (by dsimp only; omega)).trans ka1
  replace kb0 := (hbn.cell (p := ⟨w.heap.size + 1, 0, none⟩) (by dsimp only; omega)).trans kb0
  replace kb1 := (hbn.cell (p := ⟨w.heap.size + 1, 1, none⟩) (by dsimp only; omega)).trans kb1
  replace kr0 := (hbn.cell (p := ⟨w.heap.size + 1 + 1, 0, none⟩) (by dsimp only; omega)).trans kr0
  replace fr0 := (hbn.frozen (p := ⟨w.heap.size + 1 + 1, 0, none⟩) (by dsimp only; omega)).trans fr0
  replace kr1 := (hbn.cell (p := ⟨w.heap.size + 1 + 1, 1, none⟩) (by dsimp only; omega)).trans kr1
  replace fr1 := (hbn.frozen (p := ⟨w.heap.size + 1 + 1, 1, none⟩) (by dsimp only; omega)).trans fr1
  replace kr2 := (hbn.cell (p := ⟨w.heap.size + 1 + 1, 2, none⟩) (by dsimp only; omega)).trans kr2
  replace fr2 := (hbn.frozen (p := ⟨w.heap.size + 1 + 1, 2, none⟩) (by dsimp only; omega)).trans fr2
  replace kr3 := (hbn.cell (p := ⟨w.heap.size + 1 + 1, 3, none⟩) (by dsimp only; omega)).trans kr3
  replace fr3 := (hbn.frozen (p := ⟨w.heap.size + 1 + 1, 3, none⟩) (by dsimp only; omega)).trans fr3
  replace kg0 := (hbn.cell (p := ⟨w2.heap.size, 0, none⟩) (by dsimp only; omega)).trans kg0
  replace fg0 := (hbn.frozen (p := ⟨w2.heap.size, 0, none⟩) (by dsimp only; omega)).trans fg0
  replace kg1 := (hbn.cell (p := ⟨w2.heap.size, 1, none⟩) (by dsimp only; omega)).trans kg1
  replace fg1 := (hbn.frozen (p := ⟨w2.heap.size, 1, none⟩) (by dsimp only; omega)).trans fg1
  replace kq10 := (hbn.cell (p := ⟨w4.heap.size, 0, none⟩) (by dsimp only; omega)).trans kq10
  replace kq11 := (hbn.cell (p := ⟨w4.heap.size, 1, none⟩) (by dsimp only; omega)).trans kq11
  replace S1 := hide (S1.out.below hbn)
  replace S2 := hide (S2.out.below hbn)
  replace SG := hide (SG.out.below hbn)
  replace O1 := hide (O1.out.below hbn)
  replace O2 := hide (O2.out.below hbn)
  replace zr := Nat.lt_of_lt_of_le zr hbn.size
  replace HB := hide (bl_trans HB.out hbn)
  clear hbn
  generalize ((w6.alloc (Obj.cells #[Value.bool (sgn (y / g)), Value.slice aq2 (lms (y / g)).length cq2] 24)).alloc (Obj.cells #[Value.bool (sgn (y % g)), Value.slice ar2 (lms (y % g)).length cr2] 24)) = w7 at *
  go_wp2_with fail
  refine bodyPost_ret (v := .agg #[.bool (sgn (x / g)), .slice aq1 (lms (x / g)).length cq1, .bool (sgn (y / g)), .slice aq2 (lms (y / g)).length cq2]) (by simp [results, Tryz.results58, go_sem, kr0, kr1, kr2, kr3]) rfl ?_
  obtain ⟨h1, h2, h3⟩ := fin_four (N := w.heap.size + 1 + 1) O1.out O2.out (by omega) (by omega) (by omega) HB.out (Value.bool (sgn (x / g))) (Value.slice aq1 (lms (x / g)).length cq1) (Value.bool (sgn (y / g))) (Value.slice aq2 (lms (y / g)).length cq2)
  exact ⟨aq1, cq1, aq2, cq2, rfl, h1, h2, HAP.out, h3⟩

set_option maxHeartbeats 600000 in
theorem makeRn (x y : Int) (a1 : Option Addr) (c1 : Nat) (a2 : Option Addr) (c2 : Nat) (w : World) (s1 : Seg w a1 (lms x).length c1 (lms x)) (s2 : Seg w a2 (lms y).length c2 (lms y)) (hy : y ≠ 0) (hn : y < 0) (l1 : (lms x).length ≤ 100000) (l2 : (lms y).length ≤ 100000) :
    Calls Tryz.prog 58 #[.agg #[Value.bool (sgn x), Value.slice a1 (lms x).length c1], .agg #[Value.bool (sgn y), Value.slice a2 (lms y).length c2]] w fun e w' => ∃ b1 e1 b2 e2, e = .returned (.agg #[.bool (sgn (x / sgG x y)), .slice b1 (lms (x / sgG x y)).length e1, .bool (sgn (y / sgG x y)), .slice b2 (lms (y / sgG x y)).length e2]) ∧ Own w' w.heap.size b1 (lms (x / sgG x y)).length e1 (lms (x / sgG x y)) ∧ Own w' w.heap.size b2 (lms (y / sgG x y)).length e2 (lms (y / sgG x y)) ∧ Apart b1 b2 ∧ Below w.heap.size w w' := by
  have ka0 : (((w.alloc (Obj.cells #[Value.bool (sgn x), Value.slice a1 (lms x).length c1] 24)).alloc (Obj.cells #[Value.bool (sgn y), Value.slice a2 (lms y).length c2] 24)).alloc (Obj.cells #[Value.bool false, Value.slice none 0 0, Value.bool false, Value.slice none 0 0] 26)).cell? ⟨w.heap.size, 0, none⟩ = some (Value.bool (sgn x)) := by go_simp
  have ka1 : (((w.alloc (Obj.cells #[Value.bool (sgn x), Value.slice a1 (lms x).length c1] 24)).alloc (Obj.cells #[Value.bool (sgn y), Value.slice a2 (lms y).length c2] 24)).alloc (Obj.cells #[Value.bool false, Value.slice none 0 0, Value.bool false, Value.slice none 0 0] 26)).cell? ⟨w.heap.size, 1, none⟩ = some (Value.slice a1 (lms x).length c1) := by go_simp
  have kb0 : (((w.alloc (Obj.cells #[Value.bool (sgn x), Value.slice a1 (lms x).length c1] 24)).alloc (Obj.cells #[Value.bool (sgn y), Value.slice a2 (lms y).length c2] 24)).alloc (Obj.cells #[Value.bool false, Value.slice none 0 0, Value.bool false, Value.slice none 0 0] 26)).cell? ⟨w.heap.size + 1, 0, none⟩ = some (Value.bool (sgn y)) := by go_simp
  have kb1 : (((w.alloc (Obj.cells #[Value.bool (sgn x), Value.slice a1 (lms x).length c1] 24)).alloc (Obj.cells #[Value.bool (sgn y), Value.slice a2 (lms y).length c2] 24)).alloc (Obj.cells #[Value.bool false, Value.slice none 0 0, Value.bool false, Value.slice none 0 0] 26)).cell? ⟨w.heap.size + 1, 1, none⟩ = some (Value.slice a2 (lms y).length c2) := by go_simp
  have kr0 : (((w.alloc (Obj.cells #[Value.bool (sgn x), Value.slice a1 (lms x).length c1] 24)).alloc (Obj.cells #[Value.bool (sgn y), Value.slice a2 (lms y).length c2] 24)).alloc (Obj.cells #[Value.bool false, Value.slice none 0 0, Value.bool false, Value.slice none 0 0] 26)).cell? ⟨w.heap.size + 1 + 1, 0, none⟩ = some (Value.bool false) := by go_simp
  have fr0 : (((w.alloc (Obj.cells #[Value.bool (sgn x), Value.slice a1 (lms x).length c1] 24)).alloc (Obj.cells #[Value.bool (sgn y), Value.slice a2 (lms y).length c2] 24)).alloc (Obj.cells #[Value.bool false, Value.slice none 0 0, Value.bool false, Value.slice none 0 0] 26)).frozen? ⟨w.heap.size + 1 + 1, 0, none⟩ = false := by go_simp
  have kr1 : (((w.alloc (Obj.cells #[Value.bool (sgn x), Value.slice a1 (lms x).length c1] 24)).alloc (Obj.cells #[Value.bool (sgn y), Value.slice a2 (lms y).length c2] 24)).alloc (Obj.cells #[Value.bool false, Value.slice none 0 0, Value.bool false, Value.slice none 0 0] 26)).cell? ⟨w.heap.size + 1 + 1, 1, none⟩ = some (Value.slice none 0 0) := by go_simp
  have fr1 : (((w.alloc (Obj.cells #[Value.bool (sgn x), Value.slice a1 (lms x).length c1] 24)).alloc (Obj.cells #[Value.bool (sgn y), Value.slice a2 (lms y).length c2] 24)).alloc (Obj.cells #[Value.bool false, Value.slice none 0 0, Value.bool false, Value.slice none 0 0] 26)).frozen? ⟨w.heap.size + 1 + 1, 1, none⟩ = false := by go_simp
  have kr2 : (((w.alloc (Obj.cells #[Value.bool (sgn x), Value.slice a1 (lms x).length c1] 24)).alloc (Obj.cells #[Value.bool (sgn y), Value.slice a2 (lms y).length c2] 24)).alloc (Obj.cells #[Value.bool false, Value.slice none 0 0, Value.bool false, Value.slice none 0 0] 26)).cell? ⟨w.heap.size + 1 + 1, 2, none⟩ = some (Value.bool false) := by go_simp
  have fr2 : (((w.alloc (Obj.cells #[Value.bool (sgn x), Value.slice a1 (lms x).length c1] 24)).alloc (Obj.cells #[Value.bool (sgn y), Value.slice a2 (lms y).length c2] 24)).alloc (Obj.cells #[Value.bool false, Value.slice none 0 0, Value.bool false, Value.slice none 0 0] 26)).frozen? ⟨w.heap.size + 1 + 1, 2, none⟩ = false := by go_simp
  have kr3 : (((w.alloc (Obj.cells #[Value.bool (sgn x), Value.slice a1 (lms x).length c1] 24)).alloc (Obj.cells #[Value.bool (sgn y), Value.slice a2 (lms y).length c2] 24)).alloc (Obj.cells #[Value.bool false, Value.slice none 0 0, Value.bool false, Value.slice none 0 0] 26)).cell? ⟨w.heap.size + 1 + 1, 3, none⟩ = some (Value.slice none 0 0) := by go_simp
  have fr3 : (((w.alloc (Obj.cells #[Value.bool (sgn x), Value.slice a1 (lms x).length c1] 24)).alloc (Obj.cells #[Value.bool (sgn y), Value.slice a2 (lms y).length c2] 24)).alloc (Obj.cells #[Value.bool false, Value.slice none 0 0, Value.bool false, Value.slice none 0 0] 26)).frozen? ⟨w.heap.size + 1 + 1, 3, none⟩ = false := by go_simp
  have zr : w.heap.size + 1 + 1 < (((w.alloc (Obj.cells #[Value.bool (sgn x), Value.slice a1 (lms x).length c1] 24)).alloc (Obj.cells #[Value.bool (sgn y), Value.slice a2 (lms y).length c2] 24)).alloc (Obj.cells #[Value.bool false, Value.slice none 0 0, Value.bool false, Value.slice none 0 0] 26)).heap.size := by simp only [World.size_alloc]; omega
  have HB := hide (bl_alloc (bl_alloc (bl_alloc (bl_refl w) (Obj.cells #[Value.bool (sgn x), Value.slice a1 (lms x).length c1] 24)) (Obj.cells #[Value.bool (sgn y), Value.slice a2 (lms y).length c2] 24)) (Obj.cells #[Value.bool false, Value.slice none 0 0, Value.bool false, Value.slice none 0 0] 26))
  have S1 := hide (s1.below HB.out)
  have S2 := hide (s2.below HB.out)
  have T1 := hide s1
  have T2 := hide s2
  clear s1 s2
  obtain ⟨hG0, hGs, hGl, hGL⟩ := sgG_facts hy (rfl : sgG x y = sgG x y) l2
  have hgL : (lms ((Int.gcd x y : Nat) : Int)).length ≤ 100000 := by rw [hGl]; exact hGL
  have eG : sgG x y = -((Int.gcd x y : Nat) : Int) := if_pos hn
  rw [eG] at hG0 hGL
  rw [eG]
  have hsy : sgn y = true := by unfold sgn; simp; omega
  have HSY := hide hsy
  clear eG hGs hGl hn hsy
  have HGC := hide (fun (w : World) h1 h2 => gcdS (.agg #[Value.bool (sgn x), Value.slice a1 (lms x).length c1]) (.agg #[Value.bool (sgn y), Value.slice a2 (lms y).length c2]) x y w h1 h2 l1 l2)
  generalize ((Int.gcd x y : Nat) : Int) = g at *
  go_enter Tryz.func58, Tryz.ntmps58
  go_wp2_with fail
  generalize (((w.alloc (Obj.cells #[Value.bool (sgn x), Value.slice a1 (lms x).length c1] 24)).alloc (Obj.cells #[Value.bool (sgn y), Value.slice a2 (lms y).length c2] 24)).alloc (Obj.cells #[Value.bool false, Value.slice none 0 0, Value.bool false, Value.slice none 0 0] 26)) = w1 at *
  refine (HGC.out _ ⟨a1, c1, rfl, S1.out⟩ ⟨a2, c2, rfl, S2.out⟩).mono ?_
  rintro e w2 ⟨v, rfl, ⟨ag, cg, rfl, hrg⟩, hb⟩
  replace ka0 := (hb.cell (p := ⟨w.heap.size, 0, none⟩) (by dsimp only; omega)).trans ka0
  replace ka1 := (hb.cell (p := ⟨w.heap.size, 1, none⟩) (by dsimp only; omega)).trans ka1
  replace kb0 := (hb.cell (p := ⟨w.heap.size + 1, 0, none⟩) (by dsimp only; omega)).trans kb0
  replace kb1 := (hb.cell (p := ⟨w.heap.size + 1, 1, none⟩) (by dsimp only; omega)).trans kb1
  replace kr0 := (hb.cell (p := ⟨w.heap.size + 1 + 1, 0, none⟩) (by dsimp only; omega)).trans kr0
  replace fr0 := (hb.frozen (p := ⟨w.heap.size + 1 + 1, 0, none⟩) (by dsimp only; omega)).trans fr0
  replace kr1 := (hb.cell (p := ⟨w.heap.size + 1 + 1, 1, none⟩) (by dsimp only; omega)).trans kr1
  replace fr1 := (hb.frozen (p := ⟨w.heap.size + 1 + 1, 1, none⟩) (by dsimp only; omega)).trans fr1
  replace kr2 := (hb.cell (p := ⟨w.heap.size + 1 + 1, 2, none⟩) (by dsimp only; omega)).trans kr2
  replace fr2 := (hb.frozen (p := ⟨w.heap.size + 1 + 1, 2, none⟩) (by dsimp only; omega)).trans fr2
  replace kr3 := (hb.cell (p := ⟨w.heap.size + 1 + 1, 3, none⟩) (by dsimp only; omega)).trans kr3
  replace fr3 := (hb.frozen (p := ⟨w.heap.size + 1 + 1, 3, none⟩) (by dsimp only; omega)).trans fr3
  replace S1 := hide (S1.out.below hb)
  replace S2 := hide (S2.out.below hb)
  replace zr := Nat.lt_of_lt_of_le zr hb.size
  replace HB := hide (bl_trans HB.out hb)
  clear hb
  have SG := hide hrg.1
  clear hrg HGC
  go_upto_region 2 with fail
  have yw3 : w2.heap.size + 1 ≤ (w2.alloc (Obj.cells #[Value.bool (sgn g), Value.slice ag (lms g).length cg] 24)).heap.size := by simp only [World.size_alloc]; omega
  have kg0 : (w2.alloc (Obj.cells #[Value.bool (sgn g), Value.slice ag (lms g).length cg] 24)).cell? ⟨w2.heap.size, 0, none⟩ = some (Value.bool (sgn g)) := by go_simp
  have fg0 : (w2.alloc (Obj.cells #[Value.bool (sgn g), Value.slice ag (lms g).length cg] 24)).frozen? ⟨w2.heap.size, 0, none⟩ = false := by go_simp
  have kg1 : (w2.alloc (Obj.cells #[Value.bool (sgn g), Value.slice ag (lms g).length cg] 24)).cell? ⟨w2.heap.size, 1, none⟩ = some (Value.slice ag (lms g).length cg) := by go_simp
  have fg1 : (w2.alloc (Obj.cells #[Value.bool (sgn g), Value.slice ag (lms g).length cg] 24)).frozen? ⟨w2.heap.size, 1, none⟩ = false := by go_simp
  have hbn := (bl_alloc (bl_refl w2) (Obj.cells #[Value.bool (sgn g), Value.slice ag (lms g).length cg] 24))
  have zw3 := zr
  replace ka0 := (hbn.cell (p := ⟨w.heap.size, 0, none⟩) (by dsimp only; omega)).trans ka0
  replace ka1 := (hbn.cell (p := ⟨w.heap.size, 1, none⟩) (by dsimp only; omega)).trans ka1
  replace kb0 := (hbn.cell (p := ⟨w.heap.size + 1, 0, none⟩) (by dsimp only; omega)).trans kb0
  replace kb1 := (hbn.cell (p := ⟨w.heap.size + 1, 1, none⟩) (by dsimp only; omega)).trans kb1
  replace kr0 := (hbn.cell (p := ⟨w.heap.size + 1 + 1, 0, none⟩) (by dsimp only; omega)).trans kr0
  replace fr0 := (hbn.frozen (p := ⟨w.heap.size + 1 + 1, 0, none⟩) (by dsimp only; omega)).trans fr0
  replace kr1 := (hbn.cell (p := ⟨w.heap.size + 1 + 1, 1, none⟩) (by dsimp only; omega)).trans kr1
  replace fr1 := (hbn.frozen (p := ⟨w.heap.size + 1 + 1, 1, none⟩) (by dsimp only; omega)).trans fr1
  replace kr2 := (hbn.cell (p := ⟨w.heap.size + 1 + 1, 2, none⟩) (by dsimp only; omega)).trans kr2
  replace fr2 := (hbn.frozen (p := ⟨w.heap.size + 1 + 1, 2, none⟩) (by dsimp only; omega)).trans fr2
  replace kr3 := (hbn.cell (p := ⟨w.heap.size + 1 + 1, 3, none⟩) (by dsimp only; omega)).trans kr3
  replace fr3 := (hbn.frozen (p := ⟨w.heap.size + 1 + 1, 3, none⟩) (by dsimp only; omega)).trans fr3
  replace S1 := hide (S1.out.below hbn)
  replace S2 := hide (S2.out.below hbn)
  replace SG := hide (SG.out.below hbn)
  replace zr := Nat.lt_of_lt_of_le zr hbn.size
  replace HB := hide (bl_trans HB.out hbn)
  clear hbn
  generalize (w2.alloc (Obj.cells #[Value.bool (sgn g), Value.slice ag (lms g).length cg] 24)) = w3 at *
  rw [HSY.out] at kb0
  go_wp2_with fail
  refine (negS (.agg #[.bool (sgn g), .slice ag (lms g).length cg]) g _ ⟨ag, cg, rfl, SG.out⟩ (by omega)).mono ?_
  rintro e w30 ⟨v, rfl, ⟨an, cn, rfl, hn⟩, hb⟩
  have yw30 := hb.size
  replace ka0 := (hb.cell (p := ⟨w.heap.size, 0, none⟩) (by dsimp only; omega)).trans ka0
  replace ka1 := (hb.cell (p := ⟨w.heap.size, 1, none⟩) (by dsimp only; omega)).trans ka1
  replace kb0 := (hb.cell (p := ⟨w.heap.size + 1, 0, none⟩) (by dsimp only; omega)).trans kb0
  replace kb1 := (hb.cell (p := ⟨w.heap.size + 1, 1, none⟩) (by dsimp only; omega)).trans kb1
  replace kr0 := (hb.cell (p := ⟨w.heap.size + 1 + 1, 0, none⟩) (by dsimp only; omega)).trans kr0
  replace fr0 := (hb.frozen (p := ⟨w.heap.size + 1 + 1, 0, none⟩) (by dsimp only; omega)).trans fr0
  replace kr1 := (hb.cell (p := ⟨w.heap.size + 1 + 1, 1, none⟩) (by dsimp only; omega)).trans kr1
  replace fr1 := (hb.frozen (p := ⟨w.heap.size + 1 + 1, 1, none⟩) (by dsimp only; omega)).trans fr1
  replace kr2 := (hb.cell (p := ⟨w.heap.size + 1 + 1, 2, none⟩) (by dsimp only; omega)).trans kr2
  replace fr2 := (hb.frozen (p := ⟨w.heap.size + 1 + 1, 2, none⟩) (by dsimp only; omega)).trans fr2
  replace kr3 := (hb.cell (p := ⟨w.heap.size + 1 + 1, 3, none⟩) (by dsimp only; omega)).trans kr3
  replace fr3 := (hb.frozen (p := ⟨w.heap.size + 1 + 1, 3, none⟩) (by dsimp only; omega)).trans fr3
  replace kg0 := (hb.cell (p := ⟨w2.heap.size, 0, none⟩) (by dsimp only; omega)).trans kg0
  replace fg0 := (hb.frozen (p := ⟨w2.heap.size, 0, none⟩) (by dsimp only; omega)).trans fg0
  replace kg1 := (hb.cell (p := ⟨w2.heap.size, 1, none⟩) (by dsimp only; omega)).trans kg1
  replace fg1 := (hb.frozen (p := ⟨w2.heap.size, 1, none⟩) (by dsimp only; omega)).trans fg1
  replace S1 := hide (S1.out.below hb)
  replace S2 := hide (S2.out.below hb)
  replace SG := hide (SG.out.below hb)
  replace zr := Nat.lt_of_lt_of_le zr hb.size
  replace HB := hide (bl_trans HB.out hb)
  clear hb
  clear SG
  have ON := hide hn
  clear hn
  go_upto_region 4 with fail
  replace ka0 := (cell_two (w := w30) (N := w2.heap.size) (x := (Value.bool (sgn (-g)))) (y := (Value.slice an (lms (-g)).length cn)) (p := ⟨w.heap.size, 0, none⟩) (by dsimp only; omega)).trans ka0
  replace ka1 := (cell_two (w := w30) (N := w2.heap.size) (x := (Value.bool (sgn (-g)))) (y := (Value.slice an (lms (-g)).length cn)) (p := ⟨w.heap.size, 1, none⟩) (by dsimp only; omega)).trans ka1
  replace kb0 := (cell_two (w := w30) (N := w2.heap.size) (x := (Value.bool (sgn (-g)))) (y := (Value.slice an (lms (-g)).length cn)) (p := ⟨w.heap.size + 1, 0, none⟩) (by dsimp only; omega)).trans kb0
  replace kb1 := (cell_two (w := w30) (N := w2.heap.size) (x := (Value.bool (sgn (-g)))) (y := (Value.slice an (lms (-g)).length cn)) (p := ⟨w.heap.size + 1, 1, none⟩) (by dsimp only; omega)).trans kb1
  replace kr0 := (cell_two (w := w30) (N := w2.heap.size) (x := (Value.bool (sgn (-g)))) (y := (Value.slice an (lms (-g)).length cn)) (p := ⟨w.heap.size + 1 + 1, 0, none⟩) (by dsimp only; omega)).trans kr0
  replace fr0 := (frozen_two (w := w30) (N := w2.heap.size) (x := (Value.bool (sgn (-g)))) (y := (Value.slice an (lms (-g)).length cn)) (p := ⟨w.heap.size + 1 + 1, 0, none⟩) (by dsimp only; omega)).trans fr0
  replace kr1 := (cell_two (w := w30) (N := w2.heap.size) (x := (Value.bool (sgn (-g)))) (y := (Value.slice an (lms (-g)).length cn)) (p := ⟨w.heap.size + 1 + 1, 1, none⟩) (by dsimp only; omega)).trans kr1
  replace fr1 := (frozen_two (w := w30) (N := w2.heap.size) (x := (Value.bool (sgn (-g)))) (y := (Value.slice an (lms (-g)).length cn)) (p := ⟨w.heap.size + 1 + 1, 1, none⟩) (by dsimp only; omega)).trans fr1
  replace kr2 := (cell_two (w := w30) (N := w2.heap.size) (x := (Value.bool (sgn (-g)))) (y := (Value.slice an (lms (-g)).length cn)) (p := ⟨w.heap.size + 1 + 1, 2, none⟩) (by dsimp only; omega)).trans kr2
  replace fr2 := (frozen_two (w := w30) (N := w2.heap.size) (x := (Value.bool (sgn (-g)))) (y := (Value.slice an (lms (-g)).length cn)) (p := ⟨w.heap.size + 1 + 1, 2, none⟩) (by dsimp only; omega)).trans fr2
  replace kr3 := (cell_two (w := w30) (N := w2.heap.size) (x := (Value.bool (sgn (-g)))) (y := (Value.slice an (lms (-g)).length cn)) (p := ⟨w.heap.size + 1 + 1, 3, none⟩) (by dsimp only; omega)).trans kr3
  replace fr3 := (frozen_two (w := w30) (N := w2.heap.size) (x := (Value.bool (sgn (-g)))) (y := (Value.slice an (lms (-g)).length cn)) (p := ⟨w.heap.size + 1 + 1, 3, none⟩) (by dsimp only; omega)).trans fr3
  have mg0 : ((w30.setCell ⟨w2.heap.size, 0, none⟩ (Value.bool (sgn (-g)))).setCell ⟨w2.heap.size, 1, none⟩ (Value.slice an (lms (-g)).length cn)).cell? ⟨w2.heap.size, 0, none⟩ = some (Value.bool (sgn (-g))) := by first | go_simp | simp [go_sem, kg0, kg1, fg0, fg1]
  have hg0 : ((w30.setCell ⟨w2.heap.size, 0, none⟩ (Value.bool (sgn (-g)))).setCell ⟨w2.heap.size, 1, none⟩ (Value.slice an (lms (-g)).length cn)).frozen? ⟨w2.heap.size, 0, none⟩ = false := by rw [World.frozen?_setCell, World.frozen?_setCell]; exact fg0
  have mg1 : ((w30.setCell ⟨w2.heap.size, 0, none⟩ (Value.bool (sgn (-g)))).setCell ⟨w2.heap.size, 1, none⟩ (Value.slice an (lms (-g)).length cn)).cell? ⟨w2.heap.size, 1, none⟩ = some (Value.slice an (lms (-g)).length cn) := by first | go_simp | simp [go_sem, kg0, kg1, fg0, fg1]
  have hg1 : ((w30.setCell ⟨w2.heap.size, 0, none⟩ (Value.bool (sgn (-g)))).setCell ⟨w2.heap.size, 1, none⟩ (Value.slice an (lms (-g)).length cn)).frozen? ⟨w2.heap.size, 1, none⟩ = false := by rw [World.frozen?_setCell, World.frozen?_setCell]; exact fg1
  clear kg0 kg1 fg0 fg1
  have kg0 := mg0
  clear mg0
  have kg1 := mg1
  clear mg1
  have fg0 := hg0
  clear hg0
  have fg1 := hg1
  clear hg1
  have yw31 : w30.heap.size ≤ ((w30.setCell ⟨w2.heap.size, 0, none⟩ (Value.bool (sgn (-g)))).setCell ⟨w2.heap.size, 1, none⟩ (Value.slice an (lms (-g)).length cn)).heap.size := by simp
  replace zr : w.heap.size + 1 + 1 < ((w30.setCell ⟨w2.heap.size, 0, none⟩ (Value.bool (sgn (-g)))).setCell ⟨w2.heap.size, 1, none⟩ (Value.slice an (lms (-g)).length cn)).heap.size := Nat.lt_of_lt_of_le zr yw31
  replace HB := hide ((HB.out.setCell (p := ⟨w2.heap.size, 0, none⟩) (by dsimp only; omega) (Value.bool (sgn (-g)))).setCell (p := ⟨w2.heap.size, 1, none⟩) (by dsimp only; omega) (Value.slice an (lms (-g)).length cn))
  replace S1 := hide (T1.out.below HB.out)
  replace S2 := hide (T2.out.below HB.out)
  have SG := hide ((ON.out.setCell (p := ⟨w2.heap.size, 0, none⟩) (by dsimp only; omega) (Value.bool (sgn (-g)))).setCell (p := ⟨w2.heap.size, 1, none⟩) (by dsimp only; omega) (Value.slice an (lms (-g)).length cn)).seg
  clear ON
  generalize ((w30.setCell ⟨w2.heap.size, 0, none⟩ (Value.bool (sgn (-g)))).setCell ⟨w2.heap.size, 1, none⟩ (Value.slice an (lms (-g)).length cn)) = w31 at *
  generalize hgh : -g = h at *
  have HGH := hide hgh
  clear hgh
  go_wp2_with fail
  rw [← HSY.out] at kb0
  refine (divS (.agg #[.bool (sgn x), .slice a1 (lms x).length c1]) (.agg #[.bool (sgn h), .slice an (lms h).length cn]) x h _ ⟨a1, c1, rfl, S1.out⟩ ⟨an, cn, rfl, SG.out⟩ hG0 l1 hGL).mono ?_
  rintro e w4 ⟨aq1, cq1, ar1, cr1, rfl, ho1, hor1, hb⟩
  have yw4 := hb.size
  replace ka0 := (hb.cell (p := ⟨w.heap.size, 0, none⟩) (by dsimp only; omega)).trans ka0
  replace ka1 := (hb.cell (p := ⟨w.heap.size, 1, none⟩) (by dsimp only; omega)).trans ka1
  replace kb0 := (hb.cell (p := ⟨w.heap.size + 1, 0, none⟩) (by dsimp only; omega)).trans kb0
  replace kb1 := (hb.cell (p := ⟨w.heap.size + 1, 1, none⟩) (by dsimp only; omega)).trans kb1
  replace kr0 := (hb.cell (p := ⟨w.heap.size + 1 + 1, 0, none⟩) (by dsimp only; omega)).trans kr0
  replace fr0 := (hb.frozen (p := ⟨w.heap.size + 1 + 1, 0, none⟩) (by dsimp only; omega)).trans fr0
  replace kr1 := (hb.cell (p := ⟨w.heap.size + 1 + 1, 1, none⟩) (by dsimp only; omega)).trans kr1
  replace fr1 := (hb.frozen (p := ⟨w.heap.size + 1 + 1, 1, none⟩) (by dsimp only; omega)).trans fr1
  replace kr2 := (hb.cell (p := ⟨w.heap.size + 1 + 1, 2, none⟩) (by dsimp only; omega)).trans kr2
  replace fr2 := (hb.frozen (p := ⟨w.heap.size + 1 + 1, 2, none⟩) (by dsimp only; omega)).trans fr2
  replace kr3 := (hb.cell (p := ⟨w.heap.size + 1 + 1, 3, none⟩) (by dsimp only; omega)).trans kr3
  replace fr3 := (hb.frozen (p := ⟨w.heap.size + 1 + 1, 3, none⟩) (by dsimp only; omega)).trans fr3
  replace kg0 := (hb.cell (p := ⟨w2.heap.size, 0, none⟩) (by dsimp only; omega)).trans kg0
  replace fg0 := (hb.frozen (p := ⟨w2.heap.size, 0, none⟩) (by dsimp only; omega)).trans fg0
  replace kg1 := (hb.cell (p := ⟨w2.heap.size, 1, none⟩) (by dsimp only; omega)).trans kg1
  replace fg1 := (hb.frozen (p := ⟨w2.heap.size, 1, none⟩) (by dsimp only; omega)).trans fg1
  replace S1 := hide (S1.out.below hb)
  replace S2 := hide (S2.out.below hb)
  replace SG := hide (SG.out.below hb)
  replace zr := Nat.lt_of_lt_of_le zr hb.size
  replace HB := hide (bl_trans HB.out hb)
  clear hb
  clear hor1
  have O1 := hide ho1
  clear ho1
  go_upto_region 5 with fail
  have yw5 : w4.heap.size + 2 ≤ ((w4.alloc (Obj.cells #[Value.bool (sgn (x / h)), Value.slice aq1 (lms (x / h)).length cq1] 24)).alloc (Obj.cells #[Value.bool (sgn (x % h)), Value.slice ar1 (lms (x % h)).length cr1] 24)).heap.size := by simp only [World.size_alloc]; omega
  have kq10 : ((w4.alloc (Obj.cells #[Value.bool (sgn (x / h)), Value.slice aq1 (lms (x / h)).length cq1] 24)).alloc (Obj.cells #[Value.bool (sgn (x % h)), Value.slice ar1 (lms (x % h)).length cr1] 24)).cell? ⟨w4.heap.size, 0, none⟩ = some (Value.bool (sgn (x / h))) := by go_simp
  have kq11 : ((w4.alloc (Obj.cells #[Value.bool (sgn (x / h)), Value.slice aq1 (lms (x / h)).length cq1] 24)).alloc (Obj.cells #[Value.bool (sgn (x % h)), Value.slice ar1 (lms (x % h)).length cr1] 24)).cell? ⟨w4.heap.size, 1, none⟩ = some (Value.slice aq1 (lms (x / h)).length cq1) := by go_simp
  have hbn := (bl_alloc (bl_alloc (bl_refl w4) (Obj.cells #[Value.bool (sgn (x / h)), Value.slice aq1 (lms (x / h)).length cq1] 24)) (Obj.cells #[Value.bool (sgn (x % h)), Value.slice ar1 (lms (x % h)).length cr1] 24))
  have zw5 := zr
  replace ka0 := (hbn.cell (p := ⟨w.heap.size, 0, none⟩) (by dsimp only; omega)).trans ka0
  replace ka1 := (hbn.cell (p := ⟨w.heap.size, 1, none⟩) (by dsimp only; omega)).trans ka1
  replace kb0 := (hbn.cell (p := ⟨w.heap.size + 1, 0, none⟩) (by dsimp only; omega)).trans kb0
  replace kb1 := (hbn.cell (p := ⟨w.heap.size + 1, 1, none⟩) (by dsimp only; omega)).trans kb1
  replace kr0 := (hbn.cell (p := ⟨w.heap.size + 1 + 1, 0, none⟩) (by dsimp only; omega)).trans kr0
  replace fr0 := (hbn.frozen (p := ⟨w.heap.size + 1 + 1, 0, none⟩) (by dsimp only; omega)).trans fr0
  replace kr1 := (hbn.cell (p := ⟨w.heap.size + 1 + 1, 1, none⟩) (by dsimp only; omega)).trans kr1
  replace fr1 := (hbn.frozen (p := ⟨w.heap.size + 1 + 1, 1, none⟩) (by dsimp only; omega)).trans fr1
  replace kr2 := (hbn.cell (p := ⟨w.heap.size + 1 + 1, 2, none⟩) (by dsimp only; omega)).trans kr2
  replace fr2 := (hbn.frozen (p := ⟨w.heap.size + 1 + 1, 2, none⟩) (by dsimp only; omega)).trans fr2
  replace kr3 := (hbn.cell (p := ⟨w.heap.size + 1 + 1, 3, none⟩) (by dsimp only; omega)).trans kr3
  replace fr3 := (hbn.frozen (p := ⟨w.heap.size + 1 + 1, 3, none⟩) (by dsimp only; omega)).trans fr3
  replace kg0 := (hbn.cell (p := ⟨w2.heap.size, 0, none⟩) (by dsimp only; omega)).trans kg0
  replace fg0 := (hbn.frozen (p := ⟨w2.heap.size, 0, none⟩) (by dsimp only; omega)).trans fg0
  replace kg1 := (hbn.cell (p := ⟨w2.heap.size, 1, none⟩) (by dsimp only; omega)).trans kg1
  replace fg1 := (hbn.frozen (p := ⟨w2.heap.size, 1, none⟩) (by dsimp only; omega)).trans fg1
  replace S1 := hide (S1.out.below hbn)
  replace S2 := hide (S2.out.below hbn)
  replace SG := hide (SG.out.below hbn)
  replace O1 := hide (O1.out.below hbn)
  replace zr := Nat.lt_of_lt_of_le zr hbn.size
  replace HB := hide (bl_trans HB.out hbn)
  clear hbn
  generalize ((w4.alloc (Obj.cells #[Value.bool (sgn (x / h)), Value.slice aq1 (lms (x / h)).length cq1] 24)).alloc (Obj.cells #[Value.bool (sgn (x % h)), Value.slice ar1 (lms (x % h)).length cr1] 24)) = w5 at *
  go_wp2_with fail
  refine (divS (.agg #[.bool (sgn y), .slice a2 (lms y).length c2]) (.agg #[.bool (sgn h), .slice an (lms h).length cn]) y h _ ⟨a2, c2, rfl, S2.out⟩ ⟨an, cn, rfl, SG.out⟩ hG0 l2 hGL).mono ?_
  rintro e w6 ⟨aq2, cq2, ar2, cr2, rfl, ho2, hor2, hb⟩
  have HAP := hide (apart_two O1.out ho2)
  have yw6 := hb.size
  replace ka0 := (hb.cell (p := ⟨w.heap.size, 0, none⟩) (by dsimp only; omega)).trans ka0
  replace ka1 := (hb.cell (p := ⟨w.heap.size, 1, none⟩) (by dsimp only; omega)).trans ka1
  replace kb0 := (hb.cell (p := ⟨w.heap.size + 1, 0, none⟩) (by dsimp only; omega)).trans kb0
  replace kb1 := (hb.cell (p := ⟨w.heap.size + 1, 1, none⟩) (by dsimp only; omega)).trans kb1
  replace kr0 := (hb.cell (p := ⟨w.heap.size + 1 + 1, 0, none⟩) (by dsimp only; omega)).trans kr0
  replace fr0 := (hb.frozen (p := ⟨w.heap.size + 1 + 1, 0, none⟩) (by dsimp only; omega)).trans fr0
  replace kr1 := (hb.cell (p := ⟨w.heap.size + 1 + 1, 1, none⟩) (by dsimp only; omega)).trans kr1
  replace fr1 := (hb.frozen (p := ⟨w.heap.size + 1 + 1, 1, none⟩) (by dsimp only; omega)).trans fr1
  replace kr2 := (hb.cell (p := ⟨w.heap.size + 1 + 1, 2, none⟩) (by dsimp only; omega)).trans kr2
  replace fr2 := (hb.frozen (p := ⟨w.heap.size + 1 + 1, 2, none⟩) (by dsimp only; omega)).trans fr2
  replace kr3 := (hb.cell (p := ⟨w.heap.size + 1 + 1, 3, none⟩) (by dsimp only; omega)).trans kr3
  replace fr3 := (hb.frozen (p := ⟨w.heap.size + 1 + 1, 3, none⟩) (by dsimp only; omega)).trans fr3
  replace kg0 := (hb.cell (p := ⟨w2.heap.size, 0, none⟩) (by dsimp only; omega)).trans kg0
  replace fg0 := (hb.frozen (p := ⟨w2.heap.size, 0, none⟩) (by dsimp only; omega)).trans fg0
  replace kg1 := (hb.cell (p := ⟨w2.heap.size, 1, none⟩) (by dsimp only; omega)).trans kg1
  replace fg1 := (hb.frozen (p := ⟨w2.heap.size, 1, none⟩) (by dsimp only; omega)).trans fg1
  replace kq10 := (hb.cell (p := ⟨w4.heap.size, 0, none⟩) (by dsimp only; omega)).trans kq10
  replace kq11 := (hb.cell (p := ⟨w4.heap.size, 1, none⟩) (by dsimp only; omega)).trans kq11
  replace S1 := hide (S1.out.below hb)
  replace S2 := hide (S2.out.below hb)
  replace SG := hide (SG.out.below hb)
  replace O1 := hide (O1.out.below hb)
  replace zr := Nat.lt_of_lt_of_le zr hb.size
  replace HB := hide (bl_trans HB.out hb)
  clear hb
  clear hor2
  have O2 := hide ho2
  clear ho2
  go_upto_region 6 with fail
  have yw7 : w6.heap.size + 2 ≤ ((w6.alloc (Obj.cells #[Value.bool (sgn (y / h)), Value.slice aq2 (lms (y / h)).length cq2] 24)).alloc (Obj.cells #[Value.bool (sgn (y % h)), Value.slice ar2 (lms (y % h)).length cr2] 24)).heap.size := by simp only [World.size_alloc]; omega
  have kq20 : ((w6.alloc (Obj.cells #[Value.bool (sgn (y / h)), Value.slice aq2 (lms (y / h)).length cq2] 24)).alloc (Obj.cells #[Value.bool (sgn (y % h)), Value.slice ar2 (lms (y % h)).length cr2] 24)).cell? ⟨w6.heap.size, 0, none⟩ = some (Value.bool (sgn (y / h))) := by go_simp
  have kq21 : ((w6.alloc (Obj.cells #[Value.bool (sgn (y / h)), Value.slice aq2 (lms (y / h)).length cq2] 24)).alloc (Obj.cells #[Value.bool (sgn (y % h)), Value.slice ar2 (lms (y % h)).length cr2] 24)).cell? ⟨w6.heap.size, 1, none⟩ = some (Value.slice aq2 (lms (y / h)).length cq2) := by go_simp
  have hbn := (bl_alloc (bl_alloc (bl_refl w6) (Obj.cells #[Value.bool (sgn (y / h)), Value.slice aq2 (lms (y / h)).length cq2] 24)) (Obj.cells #[Value.bool (sgn (y % h)), Value.slice ar2 (lms (y % h)).length cr2] 24))
  have zw7 := zr
  replace ka0 := (hbn.cell (p := ⟨w.heap.size, 0, none⟩) (by dsimp only; omega)).trans ka0
  replace ka1 := (hbn.cell (p := ⟨w.heap.size, 1, none⟩) (by dsimp only; omega)).trans ka1
  replace kb0 := (hbn.cell (p := ⟨w.heap.size + 1, 0, none⟩) (by dsimp only; omega)).trans kb0
  replace kb1 := (hbn.cell (p := ⟨w.heap.size + 1, 1, none⟩) (by dsimp only; omega)).trans kb1
  replace kr0 := (hbn.cell (p := ⟨w.heap.size + 1 + 1, 0, none⟩) (by dsimp only; omega)).trans kr0
  replace fr0 := (hbn.frozen (p := ⟨w.heap.size + 1 + 1, 0, none⟩) (by dsimp only; omega)).trans fr0
  replace kr1 := (hbn.cell (p := ⟨w.heap.size + 1 + 1, 1, none⟩) (by dsimp only; omega)).trans kr1
  replace fr1 := (hbn.frozen (p := ⟨w.heap.size + 1 + 1, 1, none⟩) (by dsimp only; omega)).trans fr1
  replace kr2 := (hbn.cell (p := ⟨w.heap.size + 1 + 1, 2, none⟩) (by dsimp only; omega)).trans kr2
  replace fr2 := (hbn.frozen (p := ⟨w.heap.size + 1 + 1, 2, none⟩) (by dsimp only; omega)).trans fr2
  replace kr3 := (hbn.cell (p := ⟨w.heap.size + 1 + 1, 3, none⟩) (by dsimp only; omega)).trans kr3
  replace fr3 := (hbn.frozen (p := ⟨w.heap.size + 1 + 1, 3, none⟩) (by dsimp only; omega)).trans fr3
  replace kg0 := (hbn.cell (p := ⟨w2.heap.size, 0, none⟩) (by dsimp only; omega)).trans kg0
  replace fg0 := (hbn.frozen (p := ⟨w2.heap.size, 0, none⟩) (by dsimp only; omega)).trans fg0
  replace kg1 := (hbn.cell (p := ⟨w2.heap.size, 1, none⟩) (by dsimp only; omega)).trans kg1
  replace fg1 := (hbn.frozen (p := ⟨w2.heap.size, 1, none⟩) (by dsimp only; omega)).trans fg1
  replace kq10 := (hbn.cell (p := ⟨w4.heap.size, 0, none⟩) (by dsimp only; omega)).trans kq10
  replace kq11 := (hbn.cell (p := ⟨w4.heap.size, 1, none⟩) (by dsimp only; omega)).trans kq11
  replace S1 := hide (S1.out.below hbn)
  replace S2 := hide (S2.out.below hbn)
  replace SG := hide (SG.out.below hbn)
  replace O1 := hide (O1.out.below hbn)
  replace O2 := hide (O2.out.below hbn)
  replace zr := Nat.lt_of_lt_of_le zr hbn.size
  replace HB := hide (bl_trans HB.out hbn)
  clear hbn
  generalize ((w6.alloc (Obj.cells #[Value.bool (sgn (y / h)), Value.slice aq2 (lms (y / h)).length cq2] 24)).alloc (Obj.cells #[Value.bool (sgn (y % h)), Value.slice ar2 (lms (y % h)).length cr2] 24)) = w7 at *
  go_wp2_with fail
  have hgh := HGH.out
  clear HGH
  subst hgh
  refine bodyPost_ret (v := .agg #[.bool (sgn (x / (-g))), .slice aq1 (lms (x / (-g))).length cq1, .bool (sgn (y / (-g))), .slice aq2 (lms (y / (-g))).length cq2]) (by simp [results, Tryz.results58, go_sem, kr0, kr1, kr2, kr3]) rfl ?_
  obtain ⟨h1, h2, h3⟩ := fin_four (N := w.heap.size + 1 + 1) O1.out O2.out (by omega) (by omega) (by omega) HB.out (Value.bool (sgn (x / (-g)))) (Value.slice aq1 (lms (x / (-g))).length cq1) (Value.bool (sgn (y / (-g)))) (Value.slice aq2 (lms (y / (-g))).length cq2)
  exact ⟨aq1, cq1, aq2, cq2, rfl, h1, h2, HAP.out, h3⟩

theorem makeR (x y : Int) (a1 : Option Addr) (c1 : Nat) (a2 : Option Addr) (c2 : Nat) (w : World) (s1 : Seg w a1 (lms x).length c1 (lms x)) (s2 : Seg w a2 (lms y).length c2 (lms y)) (hy : y ≠ 0) (l1 : (lms x).length ≤ 100000) (l2 : (lms y).length ≤ 100000) :
    Calls Tryz.prog 58 #[.agg #[Value.bool (sgn x), Value.slice a1 (lms x).length c1], .agg #[Value.bool (sgn y), Value.slice a2 (lms y).length c2]] w fun e w' => ∃ b1 e1 b2 e2, e = .returned (.agg #[.bool (sgn (x / sgG x y)), .slice b1 (lms (x / sgG x y)).length e1, .bool (sgn (y / sgG x y)), .slice b2 (lms (y / sgG x y)).length e2]) ∧ Own w' w.heap.size b1 (lms (x / sgG x y)).length e1 (lms (x / sgG x y)) ∧ Own w' w.heap.size b2 (lms (y / sgG x y)).length e2 (lms (y / sgG x y)) ∧ Apart b1 b2 ∧ Below w.heap.size w w' :=
  if hn : y < 0 then makeRn x y a1 c1 a2 c2 w s1 s2 hy hn l1 l2 else makeRp x y a1 c1 a2 c2 w s1 s2 hy hn l1 l2

end Go.Proofs.YtpmgpdlminacaaaGreatDoor

/- The walks of ifRight and l03Fit: a fraction where it fits. -/
namespace Go.Proofs.YtpmgpdlminacaaaGreatDoor
open Go.RowKit
set_option linter.unusedVariables false

/-- whether a fraction fits -/
def ftT (p q : Int) : Bool := fits p && fits q
/-- a fraction where it fits, else nothing -/
def ftV (p q : Int) (a : Option Addr) (c : Nat) (b : Option Addr) (d : Nat) : Value :=
  if ftT p q = true then .agg #[.bool (sgn p), .slice a (lms p).length c, .bool (sgn q), .slice b (lms q).length d] else .agg #[.bool false, .slice none 0 0, .bool false, .slice none 0 0]
theorem ok_fits (z : Int) : okB (sgn z) (lms z) = fits z := ok_of_num z
theorem set_four {w w1 : World} {N : Nat} (hN : w.heap.size ≤ N) (hb : Below w.heap.size w w1) (x y z t : Value) : Below w.heap.size w ((((w1.setCell ⟨N, 0, none⟩ x).setCell ⟨N, 1, none⟩ y).setCell ⟨N, 2, none⟩ z).setCell ⟨N, 3, none⟩ t) :=
  ((((hb).setCell (p := ⟨N, 0, none⟩) hN x).setCell (p := ⟨N, 1, none⟩) hN y).setCell (p := ⟨N, 2, none⟩) hN z).setCell (p := ⟨N, 3, none⟩) hN t

set_option maxHeartbeats 800000 in
theorem fitI (p q : Int) (a : Option Addr) (c : Nat) (b : Option Addr) (d : Nat) (w : World) (s1 : Seg w a (lms p).length c (lms p)) (s2 : Seg w b (lms q).length d (lms q)) :
    Calls Tryz.prog 68 #[Value.agg #[Value.bool (sgn p), Value.slice a (lms p).length c, Value.bool (sgn q), Value.slice b (lms q).length d]] w fun e w' => e = .returned (.tuple #[ftV p q a c b d, .bool (ftT p q)]) ∧ Below w.heap.size w w' := by
  have ka0 : ((w.alloc (Obj.cells #[Value.bool (sgn p), Value.slice a (lms p).length c, Value.bool (sgn q), Value.slice b (lms q).length d] 26)).alloc (Obj.cells #[Value.bool false, Value.slice none 0 0, Value.bool false, Value.slice none 0 0] 26)).cell? ⟨w.heap.size, 0, none⟩ = some (Value.bool (sgn p)) := by go_simp
  have ka1 : ((w.alloc (Obj.cells #[Value.bool (sgn p), Value.slice a (lms p).length c, Value.bool (sgn q), Value.slice b (lms q).length d] 26)).alloc (Obj.cells #[Value.bool false, Value.slice none 0 0, Value.bool false, Value.slice none 0 0] 26)).cell? ⟨w.heap.size, 1, none⟩ = some (Value.slice a (lms p).length c) := by go_simp
  have ka2 : ((w.alloc (Obj.cells #[Value.bool (sgn p), Value.slice a (lms p).length c, Value.bool (sgn q), Value.slice b (lms q).length d] 26)).alloc (Obj.cells #[Value.bool false, Value.slice none 0 0, Value.bool false, Value.slice none 0 0] 26)).cell? ⟨w.heap.size, 2, none⟩ = some (Value.bool (sgn q)) := by go_simp
  have ka3 : ((w.alloc (Obj.cells #[Value.bool (sgn p), Value.slice a (lms p).length c, Value.bool (sgn q), Value.slice b (lms q).length d] 26)).alloc (Obj.cells #[Value.bool false, Value.slice none 0 0, Value.bool false, Value.slice none 0 0] 26)).cell? ⟨w.heap.size, 3, none⟩ = some (Value.slice b (lms q).length d) := by go_simp
  have kr0 : ((w.alloc (Obj.cells #[Value.bool (sgn p), Value.slice a (lms p).length c, Value.bool (sgn q), Value.slice b (lms q).length d] 26)).alloc (Obj.cells #[Value.bool false, Value.slice none 0 0, Value.bool false, Value.slice none 0 0] 26)).cell? ⟨w.heap.size + 1, 0, none⟩ = some (Value.bool false) := by go_simp
  have fr0 : ((w.alloc (Obj.cells #[Value.bool (sgn p), Value.slice a (lms p).length c, Value.bool (sgn q), Value.slice b (lms q).length d] 26)).alloc (Obj.cells #[Value.bool false, Value.slice none 0 0, Value.bool false, Value.slice none 0 0] 26)).frozen? ⟨w.heap.size + 1, 0, none⟩ = false := by go_simp
  have kr1 : ((w.alloc (Obj.cells #[Value.bool (sgn p), Value.slice a (lms p).length c, Value.bool (sgn q), Value.slice b (lms q).length d] 26)).alloc (Obj.cells #[Value.bool false, Value.slice none 0 0, Value.bool false, Value.slice none 0 0] 26)).cell? ⟨w.heap.size + 1, 1, none⟩ = some (Value.slice none 0 0) := by go_simp
  have fr1 : ((w.alloc (Obj.cells #[Value.bool (sgn p), Value.slice a (lms p).length c, Value.bool (sgn q), Value.slice b (lms q).length d] 26)).alloc (Obj.cells #[Value.bool false, Value.slice none 0 0, Value.bool false, Value.slice none 0 0] 26)).frozen? ⟨w.heap.size + 1, 1, none⟩ = false := by go_simp
  have kr2 : ((w.alloc (Obj.cells #[Value.bool (sgn p), Value.slice a (lms p).length c, Value.bool (sgn q), Value.slice b (lms q).length d] 26)).alloc (Obj.cells #[Value.bool false, Value.slice none 0 0, Value.bool false, Value.slice none 0 0] 26)).cell? ⟨w.heap.size + 1, 2, none⟩ = some (Value.bool false) := by go_simp
  have fr2 : ((w.alloc (Obj.cells #[Value.bool (sgn p), Value.slice a (lms p).length c, Value.bool (sgn q), Value.slice b (lms q).length d] 26)).alloc (Obj.cells #[Value.bool false, Value.slice none 0 0, Value.bool false, Value.slice none 0 0] 26)).frozen? ⟨w.heap.size + 1, 2, none⟩ = false := by go_simp
  have kr3 : ((w.alloc (Obj.cells #[Value.bool (sgn p), Value.slice a (lms p).length c, Value.bool (sgn q), Value.slice b (lms q).length d] 26)).alloc (Obj.cells #[Value.bool false, Value.slice none 0 0, Value.bool false, Value.slice none 0 0] 26)).cell? ⟨w.heap.size + 1, 3, none⟩ = some (Value.slice none 0 0) := by go_simp
  have fr3 : ((w.alloc (Obj.cells #[Value.bool (sgn p), Value.slice a (lms p).length c, Value.bool (sgn q), Value.slice b (lms q).length d] 26)).alloc (Obj.cells #[Value.bool false, Value.slice none 0 0, Value.bool false, Value.slice none 0 0] 26)).frozen? ⟨w.heap.size + 1, 3, none⟩ = false := by go_simp
  have zr : w.heap.size + 1 < ((w.alloc (Obj.cells #[Value.bool (sgn p), Value.slice a (lms p).length c, Value.bool (sgn q), Value.slice b (lms q).length d] 26)).alloc (Obj.cells #[Value.bool false, Value.slice none 0 0, Value.bool false, Value.slice none 0 0] 26)).heap.size := by simp only [World.size_alloc]; omega
  have HB := hide (bl_alloc (bl_alloc (bl_refl w) (Obj.cells #[Value.bool (sgn p), Value.slice a (lms p).length c, Value.bool (sgn q), Value.slice b (lms q).length d] 26)) (Obj.cells #[Value.bool false, Value.slice none 0 0, Value.bool false, Value.slice none 0 0] 26))
  have S1 := hide (s1.below HB.out)
  have S2 := hide (s2.below HB.out)
  clear s1
  clear s2
  go_enter Tryz.func68, Tryz.ntmps68
  go_wp2_with fail
  generalize ((w.alloc (Obj.cells #[Value.bool (sgn p), Value.slice a (lms p).length c, Value.bool (sgn q), Value.slice b (lms q).length d] 26)).alloc (Obj.cells #[Value.bool false, Value.slice none 0 0, Value.bool false, Value.slice none 0 0] 26)) = w1 at *
  refine (okI _ (sgn p) (lms p) _ ⟨a, c, rfl, S1.out⟩).mono ?_
  rintro e w2 ⟨rfl, hb⟩
  have yw2 := hb.size
  replace ka0 := (hb.cell (p := ⟨w.heap.size, 0, none⟩) (by dsimp only; omega)).trans ka0
  replace ka1 := (hb.cell (p := ⟨w.heap.size, 1, none⟩) (by dsimp only; omega)).trans ka1
  replace ka2 := (hb.cell (p := ⟨w.heap.size, 2, none⟩) (by dsimp only; omega)).trans ka2
  replace ka3 := (hb.cell (p := ⟨w.heap.size, 3, none⟩) (by dsimp only; omega)).trans ka3
  replace kr0 := (hb.cell (p := ⟨w.heap.size + 1, 0, none⟩) (by dsimp only; omega)).trans kr0
  replace fr0 := (hb.frozen (p := ⟨w.heap.size + 1, 0, none⟩) (by dsimp only; omega)).trans fr0
  replace kr1 := (hb.cell (p := ⟨w.heap.size + 1, 1, none⟩) (by dsimp only; omega)).trans kr1
  replace fr1 := (hb.frozen (p := ⟨w.heap.size + 1, 1, none⟩) (by dsimp only; omega)).trans fr1
  replace kr2 := (hb.cell (p := ⟨w.heap.size + 1, 2, none⟩) (by dsimp only; omega)).trans kr2
  replace fr2 := (hb.frozen (p := ⟨w.heap.size + 1, 2, none⟩) (by dsimp only; omega)).trans fr2
  replace kr3 := (hb.cell (p := ⟨w.heap.size + 1, 3, none⟩) (by dsimp only; omega)).trans kr3
  replace fr3 := (hb.frozen (p := ⟨w.heap.size + 1, 3, none⟩) (by dsimp only; omega)).trans fr3
  replace S1 := hide (S1.out.below hb)
  replace S2 := hide (S2.out.below hb)
  replace zr := Nat.lt_of_lt_of_le zr hb.size
  replace HB := hide (bl_trans HB.out hb)
  clear hb
  rw [ok_fits]
  cases e1 : fits p with
  | false =>
    have HE : Hid (ftT p q = false) := hide (by unfold ftT; rw [e1]; rfl)
    clear e1
    go_wp2
    refine bodyPost_ret (v := (.tuple #[.agg #[.bool false, .slice none 0 0, .bool false, .slice none 0 0], .bool false])) (by simp [results, Tryz.results68, go_sem, kr0, kr1, kr2, kr3]) rfl ?_
    exact ⟨by unfold ftV; rw [HE.out]; rfl, by first | exact HB.out | exact set_four (N := w.heap.size + 1) (by omega) HB.out _ _ _ _⟩
  | true =>
  have E1 := hide e1
  clear e1
  go_wp2_with fail
  refine (okI _ (sgn q) (lms q) _ ⟨b, d, rfl, S2.out⟩).mono ?_
  rintro e w3 ⟨rfl, hb⟩
  have yw3 := hb.size
  replace ka0 := (hb.cell (p := ⟨w.heap.size, 0, none⟩) (by dsimp only; omega)).trans ka0
  replace ka1 := (hb.cell (p := ⟨w.heap.size, 1, none⟩) (by dsimp only; omega)).trans ka1
  replace ka2 := (hb.cell (p := ⟨w.heap.size, 2, none⟩) (by dsimp only; omega)).trans ka2
  replace ka3 := (hb.cell (p := ⟨w.heap.size, 3, none⟩) (by dsimp only; omega)).trans ka3
  replace kr0 := (hb.cell (p := ⟨w.heap.size + 1, 0, none⟩) (by dsimp only; omega)).trans kr0
  replace fr0 := (hb.frozen (p := ⟨w.heap.size + 1, 0, none⟩) (by dsimp only; omega)).trans fr0
  replace kr1 := (hb.cell (p := ⟨w.heap.size + 1, 1, none⟩) (by dsimp only; omega)).trans kr1
  replace fr1 := (hb.frozen (p := ⟨w.heap.size + 1, 1, none⟩) (by dsimp only; omega)).trans fr1
  replace kr2 := (hb.cell (p := ⟨w.heap.size + 1, 2, none⟩) (by dsimp only; omega)).trans kr2
  replace fr2 := (hb.frozen (p := ⟨w.heap.size + 1, 2, none⟩) (by dsimp only; omega)).trans fr2
  replace kr3 := (hb.cell (p := ⟨w.heap.size + 1, 3, none⟩) (by dsimp only; omega)).trans kr3
  replace fr3 := (hb.frozen (p := ⟨w.heap.size + 1, 3, none⟩) (by dsimp only; omega)).trans fr3
  replace S1 := hide (S1.out.below hb)
  replace S2 := hide (S2.out.below hb)
  replace zr := Nat.lt_of_lt_of_le zr hb.size
  replace HB := hide (bl_trans HB.out hb)
  clear hb
  rw [ok_fits]
  cases e2 : fits q with
  | false =>
    have HE : Hid (ftT p q = false) := hide (by unfold ftT; rw [e2, Bool.and_false])
    clear e2
    go_wp2
    refine bodyPost_ret (v := (.tuple #[.agg #[.bool false, .slice none 0 0, .bool false, .slice none 0 0], .bool false])) (by simp [results, Tryz.results68, go_sem, kr0, kr1, kr2, kr3]) rfl ?_
    exact ⟨by unfold ftV; rw [HE.out]; rfl, by first | exact HB.out | exact set_four (N := w.heap.size + 1) (by omega) HB.out _ _ _ _⟩
  | true =>
  have HE : Hid (ftT p q = true) := hide (by unfold ftT; rw [E1.out, e2]; rfl)
  clear e2
  go_wp2
  refine bodyPost_ret (v := (.tuple #[Value.agg #[Value.bool (sgn p), Value.slice a (lms p).length c, Value.bool (sgn q), Value.slice b (lms q).length d], .bool true])) (by simp [results, Tryz.results68, go_sem, kr0, kr1, kr2, kr3]) rfl ?_
  exact ⟨by unfold ftV; rw [HE.out]; rfl, by first | exact HB.out | exact set_four (N := w.heap.size + 1) (by omega) HB.out _ _ _ _⟩

set_option maxHeartbeats 800000 in
theorem fitS (p q : Int) (a : Option Addr) (c : Nat) (b : Option Addr) (d : Nat) (w : World) (s1 : Seg w a (lms p).length c (lms p)) (s2 : Seg w b (lms q).length d (lms q)) :
    Calls Tryz.prog 25 #[Value.agg #[Value.bool (sgn p), Value.slice a (lms p).length c, Value.bool (sgn q), Value.slice b (lms q).length d]] w fun e w' => e = .returned (.tuple #[ftV p q a c b d, .bool (ftT p q)]) ∧ Below w.heap.size w w' := by
  have ka0 : ((w.alloc (Obj.cells #[Value.bool (sgn p), Value.slice a (lms p).length c, Value.bool (sgn q), Value.slice b (lms q).length d] 26)).alloc (Obj.cells #[Value.bool false, Value.slice none 0 0, Value.bool false, Value.slice none 0 0] 26)).cell? ⟨w.heap.size, 0, none⟩ = some (Value.bool (sgn p)) := by go_simp
  have ka1 : ((w.alloc (Obj.cells #[Value.bool (sgn p), Value.slice a (lms p).length c, Value.bool (sgn q), Value.slice b (lms q).length d] 26)).alloc (Obj.cells #[Value.bool false, Value.slice none 0 0, Value.bool false, Value.slice none 0 0] 26)).cell? ⟨w.heap.size, 1, none⟩ = some (Value.slice a (lms p).length c) := by go_simp
  have ka2 : ((w.alloc (Obj.cells #[Value.bool (sgn p), Value.slice a (lms p).length c, Value.bool (sgn q), Value.slice b (lms q).length d] 26)).alloc (Obj.cells #[Value.bool false, Value.slice none 0 0, Value.bool false, Value.slice none 0 0] 26)).cell? ⟨w.heap.size, 2, none⟩ = some (Value.bool (sgn q)) := by go_simp
  have ka3 : ((w.alloc (Obj.cells #[Value.bool (sgn p), Value.slice a (lms p).length c, Value.bool (sgn q), Value.slice b (lms q).length d] 26)).alloc (Obj.cells #[Value.bool false, Value.slice none 0 0, Value.bool false, Value.slice none 0 0] 26)).cell? ⟨w.heap.size, 3, none⟩ = some (Value.slice b (lms q).length d) := by go_simp
  have kr0 : ((w.alloc (Obj.cells #[Value.bool (sgn p), Value.slice a (lms p).length c, Value.bool (sgn q), Value.slice b (lms q).length d] 26)).alloc (Obj.cells #[Value.bool false, Value.slice none 0 0, Value.bool false, Value.slice none 0 0] 26)).cell? ⟨w.heap.size + 1, 0, none⟩ = some (Value.bool false) := by go_simp
  have fr0 : ((w.alloc (Obj.cells #[Value.bool (sgn p), Value.slice a (lms p).length c, Value.bool (sgn q), Value.slice b (lms q).length d] 26)).alloc (Obj.cells #[Value.bool false, Value.slice none 0 0, Value.bool false, Value.slice none 0 0] 26)).frozen? ⟨w.heap.size + 1, 0, none⟩ = false := by go_simp
  have kr1 : ((w.alloc (Obj.cells #[Value.bool (sgn p), Value.slice a (lms p).length c, Value.bool (sgn q), Value.slice b (lms q).length d] 26)).alloc (Obj.cells #[Value.bool false, Value.slice none 0 0, Value.bool false, Value.slice none 0 0] 26)).cell? ⟨w.heap.size + 1, 1, none⟩ = some (Value.slice none 0 0) := by go_simp
  have fr1 : ((w.alloc (Obj.cells #[Value.bool (sgn p), Value.slice a (lms p).length c, Value.bool (sgn q), Value.slice b (lms q).length d] 26)).alloc (Obj.cells #[Value.bool false, Value.slice none 0 0, Value.bool false, Value.slice none 0 0] 26)).frozen? ⟨w.heap.size + 1, 1, none⟩ = false := by go_simp
  have kr2 : ((w.alloc (Obj.cells #[Value.bool (sgn p), Value.slice a (lms p).length c, Value.bool (sgn q), Value.slice b (lms q).length d] 26)).alloc (Obj.cells #[Value.bool false, Value.slice none 0 0, Value.bool false, Value.slice none 0 0] 26)).cell? ⟨w.heap.size + 1, 2, none⟩ = some (Value.bool false) := by go_simp
  have fr2 : ((w.alloc (Obj.cells #[Value.bool (sgn p), Value.slice a (lms p).length c, Value.bool (sgn q), Value.slice b (lms q).length d] 26)).alloc (Obj.cells #[Value.bool false, Value.slice none 0 0, Value.bool false, Value.slice none 0 0] 26)).frozen? ⟨w.heap.size + 1, 2, none⟩ = false := by go_simp
  have kr3 : ((w.alloc (Obj.cells #[Value.bool (sgn p), Value.slice a (lms p).length c, Value.bool (sgn q), Value.slice b (lms q).length d] 26)).alloc (Obj.cells #[Value.bool false, Value.slice none 0 0, Value.bool false, Value.slice none 0 0] 26)).cell? ⟨w.heap.size + 1, 3, none⟩ = some (Value.slice none 0 0) := by go_simp
  have fr3 : ((w.alloc (Obj.cells #[Value.bool (sgn p), Value.slice a (lms p).length c, Value.bool (sgn q), Value.slice b (lms q).length d] 26)).alloc (Obj.cells #[Value.bool false, Value.slice none 0 0, Value.bool false, Value.slice none 0 0] 26)).frozen? ⟨w.heap.size + 1, 3, none⟩ = false := by go_simp
  have zr : w.heap.size + 1 < ((w.alloc (Obj.cells #[Value.bool (sgn p), Value.slice a (lms p).length c, Value.bool (sgn q), Value.slice b (lms q).length d] 26)).alloc (Obj.cells #[Value.bool false, Value.slice none 0 0, Value.bool false, Value.slice none 0 0] 26)).heap.size := by simp only [World.size_alloc]; omega
  have HB := hide (bl_alloc (bl_alloc (bl_refl w) (Obj.cells #[Value.bool (sgn p), Value.slice a (lms p).length c, Value.bool (sgn q), Value.slice b (lms q).length d] 26)) (Obj.cells #[Value.bool false, Value.slice none 0 0, Value.bool false, Value.slice none 0 0] 26))
  have S1 := hide (s1.below HB.out)
  have S2 := hide (s2.below HB.out)
  clear s1
  clear s2
  go_enter Tryz.func25, Tryz.ntmps25
  go_wp2_with fail
  generalize ((w.alloc (Obj.cells #[Value.bool (sgn p), Value.slice a (lms p).length c, Value.bool (sgn q), Value.slice b (lms q).length d] 26)).alloc (Obj.cells #[Value.bool false, Value.slice none 0 0, Value.bool false, Value.slice none 0 0] 26)) = w1 at *
  refine (okS _ (sgn p) (lms p) _ ⟨a, c, rfl, S1.out⟩).mono ?_
  rintro e w2 ⟨rfl, hb⟩
  have yw2 := hb.size
  replace ka0 := (hb.cell (p := ⟨w.heap.size, 0, none⟩) (by dsimp only; omega)).trans ka0
  replace ka1 := (hb.cell (p := ⟨w.heap.size, 1, none⟩) (by dsimp only; omega)).trans ka1
  replace ka2 := (hb.cell (p := ⟨w.heap.size, 2, none⟩) (by dsimp only; omega)).trans ka2
  replace ka3 := (hb.cell (p := ⟨w.heap.size, 3, none⟩) (by dsimp only; omega)).trans ka3
  replace kr0 := (hb.cell (p := ⟨w.heap.size + 1, 0, none⟩) (by dsimp only; omega)).trans kr0
  replace fr0 := (hb.frozen (p := ⟨w.heap.size + 1, 0, none⟩) (by dsimp only; omega)).trans fr0
  replace kr1 := (hb.cell (p := ⟨w.heap.size + 1, 1, none⟩) (by dsimp only; omega)).trans kr1
  replace fr1 := (hb.frozen (p := ⟨w.heap.size + 1, 1, none⟩) (by dsimp only; omega)).trans fr1
  replace kr2 := (hb.cell (p := ⟨w.heap.size + 1, 2, none⟩) (by dsimp only; omega)).trans kr2
  replace fr2 := (hb.frozen (p := ⟨w.heap.size + 1, 2, none⟩) (by dsimp only; omega)).trans fr2
  replace kr3 := (hb.cell (p := ⟨w.heap.size + 1, 3, none⟩) (by dsimp only; omega)).trans kr3
  replace fr3 := (hb.frozen (p := ⟨w.heap.size + 1, 3, none⟩) (by dsimp only; omega)).trans fr3
  replace S1 := hide (S1.out.below hb)
  replace S2 := hide (S2.out.below hb)
  replace zr := Nat.lt_of_lt_of_le zr hb.size
  replace HB := hide (bl_trans HB.out hb)
  clear hb
  rw [ok_fits]
  cases e1 : fits p with
  | false =>
    have HE : Hid (ftT p q = false) := hide (by unfold ftT; rw [e1]; rfl)
    clear e1
    go_wp2
    refine bodyPost_ret (v := (.tuple #[.agg #[.bool false, .slice none 0 0, .bool false, .slice none 0 0], .bool false])) (by simp [results, Tryz.results25, go_sem, kr0, kr1, kr2, kr3]) rfl ?_
    exact ⟨by unfold ftV; rw [HE.out]; rfl, by first | exact HB.out | exact set_four (N := w.heap.size + 1) (by omega) HB.out _ _ _ _⟩
  | true =>
  have E1 := hide e1
  clear e1
  go_wp2_with fail
  refine (okS _ (sgn q) (lms q) _ ⟨b, d, rfl, S2.out⟩).mono ?_
  rintro e w3 ⟨rfl, hb⟩
  have yw3 := hb.size
  replace ka0 := (hb.cell (p := ⟨w.heap.size, 0, none⟩) (by dsimp only; omega)).trans ka0
  replace ka1 := (hb.cell (p := ⟨w.heap.size, 1, none⟩) (by dsimp only; omega)).trans ka1
  replace ka2 := (hb.cell (p := ⟨w.heap.size, 2, none⟩) (by dsimp only; omega)).trans ka2
  replace ka3 := (hb.cell (p := ⟨w.heap.size, 3, none⟩) (by dsimp only; omega)).trans ka3
  replace kr0 := (hb.cell (p := ⟨w.heap.size + 1, 0, none⟩) (by dsimp only; omega)).trans kr0
  replace fr0 := (hb.frozen (p := ⟨w.heap.size + 1, 0, none⟩) (by dsimp only; omega)).trans fr0
  replace kr1 := (hb.cell (p := ⟨w.heap.size + 1, 1, none⟩) (by dsimp only; omega)).trans kr1
  replace fr1 := (hb.frozen (p := ⟨w.heap.size + 1, 1, none⟩) (by dsimp only; omega)).trans fr1
  replace kr2 := (hb.cell (p := ⟨w.heap.size + 1, 2, none⟩) (by dsimp only; omega)).trans kr2
  replace fr2 := (hb.frozen (p := ⟨w.heap.size + 1, 2, none⟩) (by dsimp only; omega)).trans fr2
  replace kr3 := (hb.cell (p := ⟨w.heap.size + 1, 3, none⟩) (by dsimp only; omega)).trans kr3
  replace fr3 := (hb.frozen (p := ⟨w.heap.size + 1, 3, none⟩) (by dsimp only; omega)).trans fr3
  replace S1 := hide (S1.out.below hb)
  replace S2 := hide (S2.out.below hb)
  replace zr := Nat.lt_of_lt_of_le zr hb.size
  replace HB := hide (bl_trans HB.out hb)
  clear hb
  rw [ok_fits]
  cases e2 : fits q with
  | false =>
    have HE : Hid (ftT p q = false) := hide (by unfold ftT; rw [e2, Bool.and_false])
    clear e2
    go_wp2
    refine bodyPost_ret (v := (.tuple #[.agg #[.bool false, .slice none 0 0, .bool false, .slice none 0 0], .bool false])) (by simp [results, Tryz.results25, go_sem, kr0, kr1, kr2, kr3]) rfl ?_
    exact ⟨by unfold ftV; rw [HE.out]; rfl, by first | exact HB.out | exact set_four (N := w.heap.size + 1) (by omega) HB.out _ _ _ _⟩
  | true =>
  have HE : Hid (ftT p q = true) := hide (by unfold ftT; rw [E1.out, e2]; rfl)
  clear e2
  go_wp2
  refine bodyPost_ret (v := (.tuple #[Value.agg #[Value.bool (sgn p), Value.slice a (lms p).length c, Value.bool (sgn q), Value.slice b (lms q).length d], .bool true])) (by simp [results, Tryz.results25, go_sem, kr0, kr1, kr2, kr3]) rfl ?_
  exact ⟨by unfold ftV; rw [HE.out]; rfl, by first | exact HB.out | exact set_four (N := w.heap.size + 1) (by omega) HB.out _ _ _ _⟩


end Go.Proofs.YtpmgpdlminacaaaGreatDoor
