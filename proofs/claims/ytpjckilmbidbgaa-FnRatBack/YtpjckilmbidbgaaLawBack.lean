/- The walk of FnRatBack: what is added is taken back, and what is divided is multiplied back. -/
import Derived.Test.YtpjckilmbidbgaaPk49
import Derived.Test.YtpjckilmbidbgaaPk47
namespace Go.Proofs.Ytpjckilmbidbgaa
open Go.RowKit
set_option linter.unusedVariables false

set_option maxHeartbeats 8000000 in
set_option maxRecDepth 20000 in
theorem walkBack (a0 : Option Addr) (len0 cap0 : Nat) (w : World) (hr : Row a0 len0 cap0 w) :
    Calls Try.prog 3 #[.slice a0 len0 cap0] w fun e w' => e = .returned (.bool true) ∧ Below w.heap.size w w' := by
  have HROW := hide hr
  have hcap : len0 ≤ 9223372036854775807 := Nat.le_trans hr.2.1 hr.2.2
  clear hr
  by_cases hbig : (1048576 : Int) < (len0 : Int)
  · go_enter Try.func3, Try.ntmps3
    go_wp2
    go_ret
    exact ⟨rfl, Below.refl _ _⟩
  go_enter Try.func3, Try.ntmps3
  go_wp2_with (first | (go_at_call 5; go_in) | fail)
  refine (drawRatQuo _ _ _ _ HROW.out).mono ?_
  rintro e w1 ⟨n1, a1, c1, xs1, m1, b1, e1, ys1, n2, a2, c2, xs2, m2, b2, e2, ys2, rfl, s1, t1, s2, t2, hb⟩
  have HB := hide hb
  have G1 := hide s1.2.2.2.1
  have G2 := hide t1.2.2.2.1
  have G3 := hide s2.2.2.2.1
  have G4 := hide t2.2.2.2.1
  have S1 := hide s1
  have T1 := hide t1
  have S2 := hide s2
  have T2 := hide t2
  clear hb s1 t1 s2 t2 HROW
  go_wp2_with fail
  have yw2 : w1.heap.size + 2 ≤ ((w1.alloc (Obj.cells #[Value.bool n1, Value.slice a1 xs1.length c1, Value.bool m1, Value.slice b1 ys1.length e1] 28)).alloc (Obj.cells #[Value.bool n2, Value.slice a2 xs2.length c2, Value.bool m2, Value.slice b2 ys2.length e2] 28)).heap.size := by simp only [World.size_alloc]; omega
  have kA0 : ((w1.alloc (Obj.cells #[Value.bool n1, Value.slice a1 xs1.length c1, Value.bool m1, Value.slice b1 ys1.length e1] 28)).alloc (Obj.cells #[Value.bool n2, Value.slice a2 xs2.length c2, Value.bool m2, Value.slice b2 ys2.length e2] 28)).cell? ⟨w1.heap.size, 0, none⟩ = some (Value.bool n1) := by go_simp
  have kA1 : ((w1.alloc (Obj.cells #[Value.bool n1, Value.slice a1 xs1.length c1, Value.bool m1, Value.slice b1 ys1.length e1] 28)).alloc (Obj.cells #[Value.bool n2, Value.slice a2 xs2.length c2, Value.bool m2, Value.slice b2 ys2.length e2] 28)).cell? ⟨w1.heap.size, 1, none⟩ = some (Value.slice a1 xs1.length c1) := by go_simp
  have kA2 : ((w1.alloc (Obj.cells #[Value.bool n1, Value.slice a1 xs1.length c1, Value.bool m1, Value.slice b1 ys1.length e1] 28)).alloc (Obj.cells #[Value.bool n2, Value.slice a2 xs2.length c2, Value.bool m2, Value.slice b2 ys2.length e2] 28)).cell? ⟨w1.heap.size, 2, none⟩ = some (Value.bool m1) := by go_simp
  have kA3 : ((w1.alloc (Obj.cells #[Value.bool n1, Value.slice a1 xs1.length c1, Value.bool m1, Value.slice b1 ys1.length e1] 28)).alloc (Obj.cells #[Value.bool n2, Value.slice a2 xs2.length c2, Value.bool m2, Value.slice b2 ys2.length e2] 28)).cell? ⟨w1.heap.size, 3, none⟩ = some (Value.slice b1 ys1.length e1) := by go_simp
  have zA : w1.heap.size < ((w1.alloc (Obj.cells #[Value.bool n1, Value.slice a1 xs1.length c1, Value.bool m1, Value.slice b1 ys1.length e1] 28)).alloc (Obj.cells #[Value.bool n2, Value.slice a2 xs2.length c2, Value.bool m2, Value.slice b2 ys2.length e2] 28)).heap.size := by simp only [World.size_alloc]; omega
  have kB0 : ((w1.alloc (Obj.cells #[Value.bool n1, Value.slice a1 xs1.length c1, Value.bool m1, Value.slice b1 ys1.length e1] 28)).alloc (Obj.cells #[Value.bool n2, Value.slice a2 xs2.length c2, Value.bool m2, Value.slice b2 ys2.length e2] 28)).cell? ⟨w1.heap.size + 1, 0, none⟩ = some (Value.bool n2) := by go_simp
  have kB1 : ((w1.alloc (Obj.cells #[Value.bool n1, Value.slice a1 xs1.length c1, Value.bool m1, Value.slice b1 ys1.length e1] 28)).alloc (Obj.cells #[Value.bool n2, Value.slice a2 xs2.length c2, Value.bool m2, Value.slice b2 ys2.length e2] 28)).cell? ⟨w1.heap.size + 1, 1, none⟩ = some (Value.slice a2 xs2.length c2) := by go_simp
  have kB2 : ((w1.alloc (Obj.cells #[Value.bool n1, Value.slice a1 xs1.length c1, Value.bool m1, Value.slice b1 ys1.length e1] 28)).alloc (Obj.cells #[Value.bool n2, Value.slice a2 xs2.length c2, Value.bool m2, Value.slice b2 ys2.length e2] 28)).cell? ⟨w1.heap.size + 1, 2, none⟩ = some (Value.bool m2) := by go_simp
  have kB3 : ((w1.alloc (Obj.cells #[Value.bool n1, Value.slice a1 xs1.length c1, Value.bool m1, Value.slice b1 ys1.length e1] 28)).alloc (Obj.cells #[Value.bool n2, Value.slice a2 xs2.length c2, Value.bool m2, Value.slice b2 ys2.length e2] 28)).cell? ⟨w1.heap.size + 1, 3, none⟩ = some (Value.slice b2 ys2.length e2) := by go_simp
  have zB : w1.heap.size + 1 < ((w1.alloc (Obj.cells #[Value.bool n1, Value.slice a1 xs1.length c1, Value.bool m1, Value.slice b1 ys1.length e1] 28)).alloc (Obj.cells #[Value.bool n2, Value.slice a2 xs2.length c2, Value.bool m2, Value.slice b2 ys2.length e2] 28)).heap.size := by simp only [World.size_alloc]; omega
  have hbn := (bl_alloc (bl_alloc (bl_refl w1) (Obj.cells #[Value.bool n1, Value.slice a1 xs1.length c1, Value.bool m1, Value.slice b1 ys1.length e1] 28)) (Obj.cells #[Value.bool n2, Value.slice a2 xs2.length c2, Value.bool m2, Value.slice b2 ys2.length e2] 28))
  replace S1 := hide (S1.out.below hbn)
  replace T1 := hide (T1.out.below hbn)
  replace S2 := hide (S2.out.below hbn)
  replace T2 := hide (T2.out.below hbn)
  replace HB := hide (bl_trans HB.out hbn)
  clear hbn
  generalize ((w1.alloc (Obj.cells #[Value.bool n1, Value.slice a1 xs1.length c1, Value.bool m1, Value.slice b1 ys1.length e1] 28)).alloc (Obj.cells #[Value.bool n2, Value.slice a2 xs2.length c2, Value.bool m2, Value.slice b2 ys2.length e2] 28)) = w2 at *
  refine (RatAddP n1 xs1 m1 ys1 n2 xs2 m2 ys2 a1 c1 b1 e1 a2 c2 b2 e2 _ S1.out T1.out S2.out T2.out).mono ?_
  rintro e w3 ⟨aC, cC, bC, eC, rfl, ho1, ho2, -, hb⟩
  have yw3 := hb.size
  replace kA0 := (hb.cell (p := ⟨w1.heap.size, 0, none⟩) zA).trans kA0
  replace kA1 := (hb.cell (p := ⟨w1.heap.size, 1, none⟩) zA).trans kA1
  replace kA2 := (hb.cell (p := ⟨w1.heap.size, 2, none⟩) zA).trans kA2
  replace kA3 := (hb.cell (p := ⟨w1.heap.size, 3, none⟩) zA).trans kA3
  replace zA := Nat.lt_of_lt_of_le zA hb.size
  replace kB0 := (hb.cell (p := ⟨w1.heap.size + 1, 0, none⟩) zB).trans kB0
  replace kB1 := (hb.cell (p := ⟨w1.heap.size + 1, 1, none⟩) zB).trans kB1
  replace kB2 := (hb.cell (p := ⟨w1.heap.size + 1, 2, none⟩) zB).trans kB2
  replace kB3 := (hb.cell (p := ⟨w1.heap.size + 1, 3, none⟩) zB).trans kB3
  replace zB := Nat.lt_of_lt_of_le zB hb.size
  replace S1 := hide (S1.out.below hb)
  replace T1 := hide (T1.out.below hb)
  replace S2 := hide (S2.out.below hb)
  replace T2 := hide (T2.out.below hb)
  replace HB := hide (bl_trans HB.out hb)
  clear hb
  have SC := hide ho1.seg
  have TC := hide ho2.seg
  clear ho1 ho2
  go_wp2_with fail
  have yw4 : w3.heap.size + 1 ≤ (w3.alloc (Obj.cells #[Value.bool (sgn (rtN (ratB n1 xs1 m1 ys1 && ratB n2 xs2 m2 ys2) (addZ (mulZ (mk n1 (Num.nat xs1)) (mk m2 (Num.nat ys2))) (mulZ (mk n2 (Num.nat xs2)) (mk m1 (Num.nat ys1)))) (mulZ (mk m1 (Num.nat ys1)) (mk m2 (Num.nat ys2))))), Value.slice aC (lms (rtN (ratB n1 xs1 m1 ys1 && ratB n2 xs2 m2 ys2) (addZ (mulZ (mk n1 (Num.nat xs1)) (mk m2 (Num.nat ys2))) (mulZ (mk n2 (Num.nat xs2)) (mk m1 (Num.nat ys1)))) (mulZ (mk m1 (Num.nat ys1)) (mk m2 (Num.nat ys2))))).length cC, Value.bool (sgn (rtD (ratB n1 xs1 m1 ys1 && ratB n2 xs2 m2 ys2) (addZ (mulZ (mk n1 (Num.nat xs1)) (mk m2 (Num.nat ys2))) (mulZ (mk n2 (Num.nat xs2)) (mk m1 (Num.nat ys1)))) (mulZ (mk m1 (Num.nat ys1)) (mk m2 (Num.nat ys2))))), Value.slice bC (lms (rtD (ratB n1 xs1 m1 ys1 && ratB n2 xs2 m2 ys2) (addZ (mulZ (mk n1 (Num.nat xs1)) (mk m2 (Num.nat ys2))) (mulZ (mk n2 (Num.nat xs2)) (mk m1 (Num.nat ys1)))) (mulZ (mk m1 (Num.nat ys1)) (mk m2 (Num.nat ys2))))).length eC] 28)).heap.size := by simp only [World.size_alloc]; omega
  have kC0 : (w3.alloc (Obj.cells #[Value.bool (sgn (rtN (ratB n1 xs1 m1 ys1 && ratB n2 xs2 m2 ys2) (addZ (mulZ (mk n1 (Num.nat xs1)) (mk m2 (Num.nat ys2))) (mulZ (mk n2 (Num.nat xs2)) (mk m1 (Num.nat ys1)))) (mulZ (mk m1 (Num.nat ys1)) (mk m2 (Num.nat ys2))))), Value.slice aC (lms (rtN (ratB n1 xs1 m1 ys1 && ratB n2 xs2 m2 ys2) (addZ (mulZ (mk n1 (Num.nat xs1)) (mk m2 (Num.nat ys2))) (mulZ (mk n2 (Num.nat xs2)) (mk m1 (Num.nat ys1)))) (mulZ (mk m1 (Num.nat ys1)) (mk m2 (Num.nat ys2))))).length cC, Value.bool (sgn (rtD (ratB n1 xs1 m1 ys1 && ratB n2 xs2 m2 ys2) (addZ (mulZ (mk n1 (Num.nat xs1)) (mk m2 (Num.nat ys2))) (mulZ (mk n2 (Num.nat xs2)) (mk m1 (Num.nat ys1)))) (mulZ (mk m1 (Num.nat ys1)) (mk m2 (Num.nat ys2))))), Value.slice bC (lms (rtD (ratB n1 xs1 m1 ys1 && ratB n2 xs2 m2 ys2) (addZ (mulZ (mk n1 (Num.nat xs1)) (mk m2 (Num.nat ys2))) (mulZ (mk n2 (Num.nat xs2)) (mk m1 (Num.nat ys1)))) (mulZ (mk m1 (Num.nat ys1)) (mk m2 (Num.nat ys2))))).length eC] 28)).cell? ⟨w3.heap.size, 0, none⟩ = some (Value.bool (sgn (rtN (ratB n1 xs1 m1 ys1 && ratB n2 xs2 m2 ys2) (addZ (mulZ (mk n1 (Num.nat xs1)) (mk m2 (Num.nat ys2))) (mulZ (mk n2 (Num.nat xs2)) (mk m1 (Num.nat ys1)))) (mulZ (mk m1 (Num.nat ys1)) (mk m2 (Num.nat ys2)))))) := by go_simp
  have kC1 : (w3.alloc (Obj.cells #[Value.bool (sgn (rtN (ratB n1 xs1 m1 ys1 && ratB n2 xs2 m2 ys2) (addZ (mulZ (mk n1 (Num.nat xs1)) (mk m2 (Num.nat ys2))) (mulZ (mk n2 (Num.nat xs2)) (mk m1 (Num.nat ys1)))) (mulZ (mk m1 (Num.nat ys1)) (mk m2 (Num.nat ys2))))), Value.slice aC (lms (rtN (ratB n1 xs1 m1 ys1 && ratB n2 xs2 m2 ys2) (addZ (mulZ (mk n1 (Num.nat xs1)) (mk m2 (Num.nat ys2))) (mulZ (mk n2 (Num.nat xs2)) (mk m1 (Num.nat ys1)))) (mulZ (mk m1 (Num.nat ys1)) (mk m2 (Num.nat ys2))))).length cC, Value.bool (sgn (rtD (ratB n1 xs1 m1 ys1 && ratB n2 xs2 m2 ys2) (addZ (mulZ (mk n1 (Num.nat xs1)) (mk m2 (Num.nat ys2))) (mulZ (mk n2 (Num.nat xs2)) (mk m1 (Num.nat ys1)))) (mulZ (mk m1 (Num.nat ys1)) (mk m2 (Num.nat ys2))))), Value.slice bC (lms (rtD (ratB n1 xs1 m1 ys1 && ratB n2 xs2 m2 ys2) (addZ (mulZ (mk n1 (Num.nat xs1)) (mk m2 (Num.nat ys2))) (mulZ (mk n2 (Num.nat xs2)) (mk m1 (Num.nat ys1)))) (mulZ (mk m1 (Num.nat ys1)) (mk m2 (Num.nat ys2))))).length eC] 28)).cell? ⟨w3.heap.size, 1, none⟩ = some (Value.slice aC (lms (rtN (ratB n1 xs1 m1 ys1 && ratB n2 xs2 m2 ys2) (addZ (mulZ (mk n1 (Num.nat xs1)) (mk m2 (Num.nat ys2))) (mulZ (mk n2 (Num.nat xs2)) (mk m1 (Num.nat ys1)))) (mulZ (mk m1 (Num.nat ys1)) (mk m2 (Num.nat ys2))))).length cC) := by go_simp
  have kC2 : (w3.alloc (Obj.cells #[Value.bool (sgn (rtN (ratB n1 xs1 m1 ys1 && ratB n2 xs2 m2 ys2) (addZ (mulZ (mk n1 (Num.nat xs1)) (mk m2 (Num.nat ys2))) (mulZ (mk n2 (Num.nat xs2)) (mk m1 (Num.nat ys1)))) (mulZ (mk m1 (Num.nat ys1)) (mk m2 (Num.nat ys2))))), Value.slice aC (lms (rtN (ratB n1 xs1 m1 ys1 && ratB n2 xs2 m2 ys2) (addZ (mulZ (mk n1 (Num.nat xs1)) (mk m2 (Num.nat ys2))) (mulZ (mk n2 (Num.nat xs2)) (mk m1 (Num.nat ys1)))) (mulZ (mk m1 (Num.nat ys1)) (mk m2 (Num.nat ys2))))).length cC, Value.bool (sgn (rtD (ratB n1 xs1 m1 ys1 && ratB n2 xs2 m2 ys2) (addZ (mulZ (mk n1 (Num.nat xs1)) (mk m2 (Num.nat ys2))) (mulZ (mk n2 (Num.nat xs2)) (mk m1 (Num.nat ys1)))) (mulZ (mk m1 (Num.nat ys1)) (mk m2 (Num.nat ys2))))), Value.slice bC (lms (rtD (ratB n1 xs1 m1 ys1 && ratB n2 xs2 m2 ys2) (addZ (mulZ (mk n1 (Num.nat xs1)) (mk m2 (Num.nat ys2))) (mulZ (mk n2 (Num.nat xs2)) (mk m1 (Num.nat ys1)))) (mulZ (mk m1 (Num.nat ys1)) (mk m2 (Num.nat ys2))))).length eC] 28)).cell? ⟨w3.heap.size, 2, none⟩ = some (Value.bool (sgn (rtD (ratB n1 xs1 m1 ys1 && ratB n2 xs2 m2 ys2) (addZ (mulZ (mk n1 (Num.nat xs1)) (mk m2 (Num.nat ys2))) (mulZ (mk n2 (Num.nat xs2)) (mk m1 (Num.nat ys1)))) (mulZ (mk m1 (Num.nat ys1)) (mk m2 (Num.nat ys2)))))) := by go_simp
  have kC3 : (w3.alloc (Obj.cells #[Value.bool (sgn (rtN (ratB n1 xs1 m1 ys1 && ratB n2 xs2 m2 ys2) (addZ (mulZ (mk n1 (Num.nat xs1)) (mk m2 (Num.nat ys2))) (mulZ (mk n2 (Num.nat xs2)) (mk m1 (Num.nat ys1)))) (mulZ (mk m1 (Num.nat ys1)) (mk m2 (Num.nat ys2))))), Value.slice aC (lms (rtN (ratB n1 xs1 m1 ys1 && ratB n2 xs2 m2 ys2) (addZ (mulZ (mk n1 (Num.nat xs1)) (mk m2 (Num.nat ys2))) (mulZ (mk n2 (Num.nat xs2)) (mk m1 (Num.nat ys1)))) (mulZ (mk m1 (Num.nat ys1)) (mk m2 (Num.nat ys2))))).length cC, Value.bool (sgn (rtD (ratB n1 xs1 m1 ys1 && ratB n2 xs2 m2 ys2) (addZ (mulZ (mk n1 (Num.nat xs1)) (mk m2 (Num.nat ys2))) (mulZ (mk n2 (Num.nat xs2)) (mk m1 (Num.nat ys1)))) (mulZ (mk m1 (Num.nat ys1)) (mk m2 (Num.nat ys2))))), Value.slice bC (lms (rtD (ratB n1 xs1 m1 ys1 && ratB n2 xs2 m2 ys2) (addZ (mulZ (mk n1 (Num.nat xs1)) (mk m2 (Num.nat ys2))) (mulZ (mk n2 (Num.nat xs2)) (mk m1 (Num.nat ys1)))) (mulZ (mk m1 (Num.nat ys1)) (mk m2 (Num.nat ys2))))).length eC] 28)).cell? ⟨w3.heap.size, 3, none⟩ = some (Value.slice bC (lms (rtD (ratB n1 xs1 m1 ys1 && ratB n2 xs2 m2 ys2) (addZ (mulZ (mk n1 (Num.nat xs1)) (mk m2 (Num.nat ys2))) (mulZ (mk n2 (Num.nat xs2)) (mk m1 (Num.nat ys1)))) (mulZ (mk m1 (Num.nat ys1)) (mk m2 (Num.nat ys2))))).length eC) := by go_simp
  have zC : w3.heap.size < (w3.alloc (Obj.cells #[Value.bool (sgn (rtN (ratB n1 xs1 m1 ys1 && ratB n2 xs2 m2 ys2) (addZ (mulZ (mk n1 (Num.nat xs1)) (mk m2 (Num.nat ys2))) (mulZ (mk n2 (Num.nat xs2)) (mk m1 (Num.nat ys1)))) (mulZ (mk m1 (Num.nat ys1)) (mk m2 (Num.nat ys2))))), Value.slice aC (lms (rtN (ratB n1 xs1 m1 ys1 && ratB n2 xs2 m2 ys2) (addZ (mulZ (mk n1 (Num.nat xs1)) (mk m2 (Num.nat ys2))) (mulZ (mk n2 (Num.nat xs2)) (mk m1 (Num.nat ys1)))) (mulZ (mk m1 (Num.nat ys1)) (mk m2 (Num.nat ys2))))).length cC, Value.bool (sgn (rtD (ratB n1 xs1 m1 ys1 && ratB n2 xs2 m2 ys2) (addZ (mulZ (mk n1 (Num.nat xs1)) (mk m2 (Num.nat ys2))) (mulZ (mk n2 (Num.nat xs2)) (mk m1 (Num.nat ys1)))) (mulZ (mk m1 (Num.nat ys1)) (mk m2 (Num.nat ys2))))), Value.slice bC (lms (rtD (ratB n1 xs1 m1 ys1 && ratB n2 xs2 m2 ys2) (addZ (mulZ (mk n1 (Num.nat xs1)) (mk m2 (Num.nat ys2))) (mulZ (mk n2 (Num.nat xs2)) (mk m1 (Num.nat ys1)))) (mulZ (mk m1 (Num.nat ys1)) (mk m2 (Num.nat ys2))))).length eC] 28)).heap.size := by simp only [World.size_alloc]; omega
  have hbn := (bl_alloc (bl_refl w3) (Obj.cells #[Value.bool (sgn (rtN (ratB n1 xs1 m1 ys1 && ratB n2 xs2 m2 ys2) (addZ (mulZ (mk n1 (Num.nat xs1)) (mk m2 (Num.nat ys2))) (mulZ (mk n2 (Num.nat xs2)) (mk m1 (Num.nat ys1)))) (mulZ (mk m1 (Num.nat ys1)) (mk m2 (Num.nat ys2))))), Value.slice aC (lms (rtN (ratB n1 xs1 m1 ys1 && ratB n2 xs2 m2 ys2) (addZ (mulZ (mk n1 (Num.nat xs1)) (mk m2 (Num.nat ys2))) (mulZ (mk n2 (Num.nat xs2)) (mk m1 (Num.nat ys1)))) (mulZ (mk m1 (Num.nat ys1)) (mk m2 (Num.nat ys2))))).length cC, Value.bool (sgn (rtD (ratB n1 xs1 m1 ys1 && ratB n2 xs2 m2 ys2) (addZ (mulZ (mk n1 (Num.nat xs1)) (mk m2 (Num.nat ys2))) (mulZ (mk n2 (Num.nat xs2)) (mk m1 (Num.nat ys1)))) (mulZ (mk m1 (Num.nat ys1)) (mk m2 (Num.nat ys2))))), Value.slice bC (lms (rtD (ratB n1 xs1 m1 ys1 && ratB n2 xs2 m2 ys2) (addZ (mulZ (mk n1 (Num.nat xs1)) (mk m2 (Num.nat ys2))) (mulZ (mk n2 (Num.nat xs2)) (mk m1 (Num.nat ys1)))) (mulZ (mk m1 (Num.nat ys1)) (mk m2 (Num.nat ys2))))).length eC] 28))
  replace kA0 := (hbn.cell (p := ⟨w1.heap.size, 0, none⟩) zA).trans kA0
  replace kA1 := (hbn.cell (p := ⟨w1.heap.size, 1, none⟩) zA).trans kA1
  replace kA2 := (hbn.cell (p := ⟨w1.heap.size, 2, none⟩) zA).trans kA2
  replace kA3 := (hbn.cell (p := ⟨w1.heap.size, 3, none⟩) zA).trans kA3
  replace zA := Nat.lt_of_lt_of_le zA hbn.size
  replace kB0 := (hbn.cell (p := ⟨w1.heap.size + 1, 0, none⟩) zB).trans kB0
  replace kB1 := (hbn.cell (p := ⟨w1.heap.size + 1, 1, none⟩) zB).trans kB1
  replace kB2 := (hbn.cell (p := ⟨w1.heap.size + 1, 2, none⟩) zB).trans kB2
  replace kB3 := (hbn.cell (p := ⟨w1.heap.size + 1, 3, none⟩) zB).trans kB3
  replace zB := Nat.lt_of_lt_of_le zB hbn.size
  replace S1 := hide (S1.out.below hbn)
  replace T1 := hide (T1.out.below hbn)
  replace S2 := hide (S2.out.below hbn)
  replace T2 := hide (T2.out.below hbn)
  replace SC := hide (SC.out.below hbn)
  replace TC := hide (TC.out.below hbn)
  replace HB := hide (bl_trans HB.out hbn)
  clear hbn
  generalize (w3.alloc (Obj.cells #[Value.bool (sgn (rtN (ratB n1 xs1 m1 ys1 && ratB n2 xs2 m2 ys2) (addZ (mulZ (mk n1 (Num.nat xs1)) (mk m2 (Num.nat ys2))) (mulZ (mk n2 (Num.nat xs2)) (mk m1 (Num.nat ys1)))) (mulZ (mk m1 (Num.nat ys1)) (mk m2 (Num.nat ys2))))), Value.slice aC (lms (rtN (ratB n1 xs1 m1 ys1 && ratB n2 xs2 m2 ys2) (addZ (mulZ (mk n1 (Num.nat xs1)) (mk m2 (Num.nat ys2))) (mulZ (mk n2 (Num.nat xs2)) (mk m1 (Num.nat ys1)))) (mulZ (mk m1 (Num.nat ys1)) (mk m2 (Num.nat ys2))))).length cC, Value.bool (sgn (rtD (ratB n1 xs1 m1 ys1 && ratB n2 xs2 m2 ys2) (addZ (mulZ (mk n1 (Num.nat xs1)) (mk m2 (Num.nat ys2))) (mulZ (mk n2 (Num.nat xs2)) (mk m1 (Num.nat ys1)))) (mulZ (mk m1 (Num.nat ys1)) (mk m2 (Num.nat ys2))))), Value.slice bC (lms (rtD (ratB n1 xs1 m1 ys1 && ratB n2 xs2 m2 ys2) (addZ (mulZ (mk n1 (Num.nat xs1)) (mk m2 (Num.nat ys2))) (mulZ (mk n2 (Num.nat xs2)) (mk m1 (Num.nat ys1)))) (mulZ (mk m1 (Num.nat ys1)) (mk m2 (Num.nat ys2))))).length eC] 28)) = w4 at *
  refine (RatQuoP n1 xs1 m1 ys1 n2 xs2 m2 ys2 a1 c1 b1 e1 a2 c2 b2 e2 _ S1.out T1.out S2.out T2.out).mono ?_
  rintro e w5 ⟨aD, cD, bD, eD, rfl, ho1, ho2, -, hb⟩
  have yw5 := hb.size
  replace kA0 := (hb.cell (p := ⟨w1.heap.size, 0, none⟩) zA).trans kA0
  replace kA1 := (hb.cell (p := ⟨w1.heap.size, 1, none⟩) zA).trans kA1
  replace kA2 := (hb.cell (p := ⟨w1.heap.size, 2, none⟩) zA).trans kA2
  replace kA3 := (hb.cell (p := ⟨w1.heap.size, 3, none⟩) zA).trans kA3
  replace zA := Nat.lt_of_lt_of_le zA hb.size
  replace kB0 := (hb.cell (p := ⟨w1.heap.size + 1, 0, none⟩) zB).trans kB0
  replace kB1 := (hb.cell (p := ⟨w1.heap.size + 1, 1, none⟩) zB).trans kB1
  replace kB2 := (hb.cell (p := ⟨w1.heap.size + 1, 2, none⟩) zB).trans kB2
  replace kB3 := (hb.cell (p := ⟨w1.heap.size + 1, 3, none⟩) zB).trans kB3
  replace zB := Nat.lt_of_lt_of_le zB hb.size
  replace kC0 := (hb.cell (p := ⟨w3.heap.size, 0, none⟩) zC).trans kC0
  replace kC1 := (hb.cell (p := ⟨w3.heap.size, 1, none⟩) zC).trans kC1
  replace kC2 := (hb.cell (p := ⟨w3.heap.size, 2, none⟩) zC).trans kC2
  replace kC3 := (hb.cell (p := ⟨w3.heap.size, 3, none⟩) zC).trans kC3
  replace zC := Nat.lt_of_lt_of_le zC hb.size
  replace S1 := hide (S1.out.below hb)
  replace T1 := hide (T1.out.below hb)
  replace S2 := hide (S2.out.below hb)
  replace T2 := hide (T2.out.below hb)
  replace SC := hide (SC.out.below hb)
  replace TC := hide (TC.out.below hb)
  replace HB := hide (bl_trans HB.out hb)
  clear hb
  have SD := hide ho1.seg
  have TD := hide ho2.seg
  clear ho1 ho2
  go_wp2_with fail
  have yw6 : w5.heap.size + 1 ≤ (w5.alloc (Obj.cells #[Value.bool (sgn (rtN (ratB n1 xs1 m1 ys1 && ratB n2 xs2 m2 ys2) (mulZ (mk n1 (Num.nat xs1)) (mk m2 (Num.nat ys2))) (mulZ (mk m1 (Num.nat ys1)) (mk n2 (Num.nat xs2))))), Value.slice aD (lms (rtN (ratB n1 xs1 m1 ys1 && ratB n2 xs2 m2 ys2) (mulZ (mk n1 (Num.nat xs1)) (mk m2 (Num.nat ys2))) (mulZ (mk m1 (Num.nat ys1)) (mk n2 (Num.nat xs2))))).length cD, Value.bool (sgn (rtD (ratB n1 xs1 m1 ys1 && ratB n2 xs2 m2 ys2) (mulZ (mk n1 (Num.nat xs1)) (mk m2 (Num.nat ys2))) (mulZ (mk m1 (Num.nat ys1)) (mk n2 (Num.nat xs2))))), Value.slice bD (lms (rtD (ratB n1 xs1 m1 ys1 && ratB n2 xs2 m2 ys2) (mulZ (mk n1 (Num.nat xs1)) (mk m2 (Num.nat ys2))) (mulZ (mk m1 (Num.nat ys1)) (mk n2 (Num.nat xs2))))).length eD] 28)).heap.size := by simp only [World.size_alloc]; omega
  have kD0 : (w5.alloc (Obj.cells #[Value.bool (sgn (rtN (ratB n1 xs1 m1 ys1 && ratB n2 xs2 m2 ys2) (mulZ (mk n1 (Num.nat xs1)) (mk m2 (Num.nat ys2))) (mulZ (mk m1 (Num.nat ys1)) (mk n2 (Num.nat xs2))))), Value.slice aD (lms (rtN (ratB n1 xs1 m1 ys1 && ratB n2 xs2 m2 ys2) (mulZ (mk n1 (Num.nat xs1)) (mk m2 (Num.nat ys2))) (mulZ (mk m1 (Num.nat ys1)) (mk n2 (Num.nat xs2))))).length cD, Value.bool (sgn (rtD (ratB n1 xs1 m1 ys1 && ratB n2 xs2 m2 ys2) (mulZ (mk n1 (Num.nat xs1)) (mk m2 (Num.nat ys2))) (mulZ (mk m1 (Num.nat ys1)) (mk n2 (Num.nat xs2))))), Value.slice bD (lms (rtD (ratB n1 xs1 m1 ys1 && ratB n2 xs2 m2 ys2) (mulZ (mk n1 (Num.nat xs1)) (mk m2 (Num.nat ys2))) (mulZ (mk m1 (Num.nat ys1)) (mk n2 (Num.nat xs2))))).length eD] 28)).cell? ⟨w5.heap.size, 0, none⟩ = some (Value.bool (sgn (rtN (ratB n1 xs1 m1 ys1 && ratB n2 xs2 m2 ys2) (mulZ (mk n1 (Num.nat xs1)) (mk m2 (Num.nat ys2))) (mulZ (mk m1 (Num.nat ys1)) (mk n2 (Num.nat xs2)))))) := by go_simp
  have kD1 : (w5.alloc (Obj.cells #[Value.bool (sgn (rtN (ratB n1 xs1 m1 ys1 && ratB n2 xs2 m2 ys2) (mulZ (mk n1 (Num.nat xs1)) (mk m2 (Num.nat ys2))) (mulZ (mk m1 (Num.nat ys1)) (mk n2 (Num.nat xs2))))), Value.slice aD (lms (rtN (ratB n1 xs1 m1 ys1 && ratB n2 xs2 m2 ys2) (mulZ (mk n1 (Num.nat xs1)) (mk m2 (Num.nat ys2))) (mulZ (mk m1 (Num.nat ys1)) (mk n2 (Num.nat xs2))))).length cD, Value.bool (sgn (rtD (ratB n1 xs1 m1 ys1 && ratB n2 xs2 m2 ys2) (mulZ (mk n1 (Num.nat xs1)) (mk m2 (Num.nat ys2))) (mulZ (mk m1 (Num.nat ys1)) (mk n2 (Num.nat xs2))))), Value.slice bD (lms (rtD (ratB n1 xs1 m1 ys1 && ratB n2 xs2 m2 ys2) (mulZ (mk n1 (Num.nat xs1)) (mk m2 (Num.nat ys2))) (mulZ (mk m1 (Num.nat ys1)) (mk n2 (Num.nat xs2))))).length eD] 28)).cell? ⟨w5.heap.size, 1, none⟩ = some (Value.slice aD (lms (rtN (ratB n1 xs1 m1 ys1 && ratB n2 xs2 m2 ys2) (mulZ (mk n1 (Num.nat xs1)) (mk m2 (Num.nat ys2))) (mulZ (mk m1 (Num.nat ys1)) (mk n2 (Num.nat xs2))))).length cD) := by go_simp
  have kD2 : (w5.alloc (Obj.cells #[Value.bool (sgn (rtN (ratB n1 xs1 m1 ys1 && ratB n2 xs2 m2 ys2) (mulZ (mk n1 (Num.nat xs1)) (mk m2 (Num.nat ys2))) (mulZ (mk m1 (Num.nat ys1)) (mk n2 (Num.nat xs2))))), Value.slice aD (lms (rtN (ratB n1 xs1 m1 ys1 && ratB n2 xs2 m2 ys2) (mulZ (mk n1 (Num.nat xs1)) (mk m2 (Num.nat ys2))) (mulZ (mk m1 (Num.nat ys1)) (mk n2 (Num.nat xs2))))).length cD, Value.bool (sgn (rtD (ratB n1 xs1 m1 ys1 && ratB n2 xs2 m2 ys2) (mulZ (mk n1 (Num.nat xs1)) (mk m2 (Num.nat ys2))) (mulZ (mk m1 (Num.nat ys1)) (mk n2 (Num.nat xs2))))), Value.slice bD (lms (rtD (ratB n1 xs1 m1 ys1 && ratB n2 xs2 m2 ys2) (mulZ (mk n1 (Num.nat xs1)) (mk m2 (Num.nat ys2))) (mulZ (mk m1 (Num.nat ys1)) (mk n2 (Num.nat xs2))))).length eD] 28)).cell? ⟨w5.heap.size, 2, none⟩ = some (Value.bool (sgn (rtD (ratB n1 xs1 m1 ys1 && ratB n2 xs2 m2 ys2) (mulZ (mk n1 (Num.nat xs1)) (mk m2 (Num.nat ys2))) (mulZ (mk m1 (Num.nat ys1)) (mk n2 (Num.nat xs2)))))) := by go_simp
  have kD3 : (w5.alloc (Obj.cells #[Value.bool (sgn (rtN (ratB n1 xs1 m1 ys1 && ratB n2 xs2 m2 ys2) (mulZ (mk n1 (Num.nat xs1)) (mk m2 (Num.nat ys2))) (mulZ (mk m1 (Num.nat ys1)) (mk n2 (Num.nat xs2))))), Value.slice aD (lms (rtN (ratB n1 xs1 m1 ys1 && ratB n2 xs2 m2 ys2) (mulZ (mk n1 (Num.nat xs1)) (mk m2 (Num.nat ys2))) (mulZ (mk m1 (Num.nat ys1)) (mk n2 (Num.nat xs2))))).length cD, Value.bool (sgn (rtD (ratB n1 xs1 m1 ys1 && ratB n2 xs2 m2 ys2) (mulZ (mk n1 (Num.nat xs1)) (mk m2 (Num.nat ys2))) (mulZ (mk m1 (Num.nat ys1)) (mk n2 (Num.nat xs2))))), Value.slice bD (lms (rtD (ratB n1 xs1 m1 ys1 && ratB n2 xs2 m2 ys2) (mulZ (mk n1 (Num.nat xs1)) (mk m2 (Num.nat ys2))) (mulZ (mk m1 (Num.nat ys1)) (mk n2 (Num.nat xs2))))).length eD] 28)).cell? ⟨w5.heap.size, 3, none⟩ = some (Value.slice bD (lms (rtD (ratB n1 xs1 m1 ys1 && ratB n2 xs2 m2 ys2) (mulZ (mk n1 (Num.nat xs1)) (mk m2 (Num.nat ys2))) (mulZ (mk m1 (Num.nat ys1)) (mk n2 (Num.nat xs2))))).length eD) := by go_simp
  have zD : w5.heap.size < (w5.alloc (Obj.cells #[Value.bool (sgn (rtN (ratB n1 xs1 m1 ys1 && ratB n2 xs2 m2 ys2) (mulZ (mk n1 (Num.nat xs1)) (mk m2 (Num.nat ys2))) (mulZ (mk m1 (Num.nat ys1)) (mk n2 (Num.nat xs2))))), Value.slice aD (lms (rtN (ratB n1 xs1 m1 ys1 && ratB n2 xs2 m2 ys2) (mulZ (mk n1 (Num.nat xs1)) (mk m2 (Num.nat ys2))) (mulZ (mk m1 (Num.nat ys1)) (mk n2 (Num.nat xs2))))).length cD, Value.bool (sgn (rtD (ratB n1 xs1 m1 ys1 && ratB n2 xs2 m2 ys2) (mulZ (mk n1 (Num.nat xs1)) (mk m2 (Num.nat ys2))) (mulZ (mk m1 (Num.nat ys1)) (mk n2 (Num.nat xs2))))), Value.slice bD (lms (rtD (ratB n1 xs1 m1 ys1 && ratB n2 xs2 m2 ys2) (mulZ (mk n1 (Num.nat xs1)) (mk m2 (Num.nat ys2))) (mulZ (mk m1 (Num.nat ys1)) (mk n2 (Num.nat xs2))))).length eD] 28)).heap.size := by simp only [World.size_alloc]; omega
  have hbn := (bl_alloc (bl_refl w5) (Obj.cells #[Value.bool (sgn (rtN (ratB n1 xs1 m1 ys1 && ratB n2 xs2 m2 ys2) (mulZ (mk n1 (Num.nat xs1)) (mk m2 (Num.nat ys2))) (mulZ (mk m1 (Num.nat ys1)) (mk n2 (Num.nat xs2))))), Value.slice aD (lms (rtN (ratB n1 xs1 m1 ys1 && ratB n2 xs2 m2 ys2) (mulZ (mk n1 (Num.nat xs1)) (mk m2 (Num.nat ys2))) (mulZ (mk m1 (Num.nat ys1)) (mk n2 (Num.nat xs2))))).length cD, Value.bool (sgn (rtD (ratB n1 xs1 m1 ys1 && ratB n2 xs2 m2 ys2) (mulZ (mk n1 (Num.nat xs1)) (mk m2 (Num.nat ys2))) (mulZ (mk m1 (Num.nat ys1)) (mk n2 (Num.nat xs2))))), Value.slice bD (lms (rtD (ratB n1 xs1 m1 ys1 && ratB n2 xs2 m2 ys2) (mulZ (mk n1 (Num.nat xs1)) (mk m2 (Num.nat ys2))) (mulZ (mk m1 (Num.nat ys1)) (mk n2 (Num.nat xs2))))).length eD] 28))
  replace kA0 := (hbn.cell (p := ⟨w1.heap.size, 0, none⟩) zA).trans kA0
  replace kA1 := (hbn.cell (p := ⟨w1.heap.size, 1, none⟩) zA).trans kA1
  replace kA2 := (hbn.cell (p := ⟨w1.heap.size, 2, none⟩) zA).trans kA2
  replace kA3 := (hbn.cell (p := ⟨w1.heap.size, 3, none⟩) zA).trans kA3
  replace zA := Nat.lt_of_lt_of_le zA hbn.size
  replace kB0 := (hbn.cell (p := ⟨w1.heap.size + 1, 0, none⟩) zB).trans kB0
  replace kB1 := (hbn.cell (p := ⟨w1.heap.size + 1, 1, none⟩) zB).trans kB1
  replace kB2 := (hbn.cell (p := ⟨w1.heap.size + 1, 2, none⟩) zB).trans kB2
  replace kB3 := (hbn.cell (p := ⟨w1.heap.size + 1, 3, none⟩) zB).trans kB3
  replace zB := Nat.lt_of_lt_of_le zB hbn.size
  replace kC0 := (hbn.cell (p := ⟨w3.heap.size, 0, none⟩) zC).trans kC0
  replace kC1 := (hbn.cell (p := ⟨w3.heap.size, 1, none⟩) zC).trans kC1
  replace kC2 := (hbn.cell (p := ⟨w3.heap.size, 2, none⟩) zC).trans kC2
  replace kC3 := (hbn.cell (p := ⟨w3.heap.size, 3, none⟩) zC).trans kC3
  replace zC := Nat.lt_of_lt_of_le zC hbn.size
  replace S1 := hide (S1.out.below hbn)
  replace T1 := hide (T1.out.below hbn)
  replace S2 := hide (S2.out.below hbn)
  replace T2 := hide (T2.out.below hbn)
  replace SC := hide (SC.out.below hbn)
  replace TC := hide (TC.out.below hbn)
  replace SD := hide (SD.out.below hbn)
  replace TD := hide (TD.out.below hbn)
  replace HB := hide (bl_trans HB.out hbn)
  clear hbn
  generalize (w5.alloc (Obj.cells #[Value.bool (sgn (rtN (ratB n1 xs1 m1 ys1 && ratB n2 xs2 m2 ys2) (mulZ (mk n1 (Num.nat xs1)) (mk m2 (Num.nat ys2))) (mulZ (mk m1 (Num.nat ys1)) (mk n2 (Num.nat xs2))))), Value.slice aD (lms (rtN (ratB n1 xs1 m1 ys1 && ratB n2 xs2 m2 ys2) (mulZ (mk n1 (Num.nat xs1)) (mk m2 (Num.nat ys2))) (mulZ (mk m1 (Num.nat ys1)) (mk n2 (Num.nat xs2))))).length cD, Value.bool (sgn (rtD (ratB n1 xs1 m1 ys1 && ratB n2 xs2 m2 ys2) (mulZ (mk n1 (Num.nat xs1)) (mk m2 (Num.nat ys2))) (mulZ (mk m1 (Num.nat ys1)) (mk n2 (Num.nat xs2))))), Value.slice bD (lms (rtD (ratB n1 xs1 m1 ys1 && ratB n2 xs2 m2 ys2) (mulZ (mk n1 (Num.nat xs1)) (mk m2 (Num.nat ys2))) (mulZ (mk m1 (Num.nat ys1)) (mk n2 (Num.nat xs2))))).length eD] 28)) = w6 at *
  refine (RatAddQ n1 xs1 m1 ys1 n2 xs2 m2 ys2 a1 c1 b1 e1 a2 c2 b2 e2 _ S1.out T1.out S2.out T2.out).mono ?_
  rintro e w7 ⟨aE, cE, bE, eE, rfl, ho1, ho2, -, hb⟩
  have yw7 := hb.size
  replace kA0 := (hb.cell (p := ⟨w1.heap.size, 0, none⟩) zA).trans kA0
  replace kA1 := (hb.cell (p := ⟨w1.heap.size, 1, none⟩) zA).trans kA1
  replace kA2 := (hb.cell (p := ⟨w1.heap.size, 2, none⟩) zA).trans kA2
  replace kA3 := (hb.cell (p := ⟨w1.heap.size, 3, none⟩) zA).trans kA3
  replace zA := Nat.lt_of_lt_of_le zA hb.size
  replace kB0 := (hb.cell (p := ⟨w1.heap.size + 1, 0, none⟩) zB).trans kB0
  replace kB1 := (hb.cell (p := ⟨w1.heap.size + 1, 1, none⟩) zB).trans kB1
  replace kB2 := (hb.cell (p := ⟨w1.heap.size + 1, 2, none⟩) zB).trans kB2
  replace kB3 := (hb.cell (p := ⟨w1.heap.size + 1, 3, none⟩) zB).trans kB3
  replace zB := Nat.lt_of_lt_of_le zB hb.size
  replace kC0 := (hb.cell (p := ⟨w3.heap.size, 0, none⟩) zC).trans kC0
  replace kC1 := (hb.cell (p := ⟨w3.heap.size, 1, none⟩) zC).trans kC1
  replace kC2 := (hb.cell (p := ⟨w3.heap.size, 2, none⟩) zC).trans kC2
  replace kC3 := (hb.cell (p := ⟨w3.heap.size, 3, none⟩) zC).trans kC3
  replace zC := Nat.lt_of_lt_of_le zC hb.size
  replace kD0 := (hb.cell (p := ⟨w5.heap.size, 0, none⟩) zD).trans kD0
  replace kD1 := (hb.cell (p := ⟨w5.heap.size, 1, none⟩) zD).trans kD1
  replace kD2 := (hb.cell (p := ⟨w5.heap.size, 2, none⟩) zD).trans kD2
  replace kD3 := (hb.cell (p := ⟨w5.heap.size, 3, none⟩) zD).trans kD3
  replace zD := Nat.lt_of_lt_of_le zD hb.size
  replace S1 := hide (S1.out.below hb)
  replace T1 := hide (T1.out.below hb)
  replace S2 := hide (S2.out.below hb)
  replace T2 := hide (T2.out.below hb)
  replace SC := hide (SC.out.below hb)
  replace TC := hide (TC.out.below hb)
  replace SD := hide (SD.out.below hb)
  replace TD := hide (TD.out.below hb)
  replace HB := hide (bl_trans HB.out hb)
  clear hb
  have SE := hide ho1.seg
  have TE := hide ho2.seg
  clear ho1 ho2
  go_wp2_with fail
  have yw8 : w7.heap.size + 1 ≤ (w7.alloc (Obj.cells #[Value.bool (sgn (rtN (ratB n1 xs1 m1 ys1 && ratB n2 xs2 m2 ys2) (addZ (mulZ (mk n1 (Num.nat xs1)) (mk m2 (Num.nat ys2))) (mulZ (mk n2 (Num.nat xs2)) (mk m1 (Num.nat ys1)))) (mulZ (mk m1 (Num.nat ys1)) (mk m2 (Num.nat ys2))))), Value.slice aE (lms (rtN (ratB n1 xs1 m1 ys1 && ratB n2 xs2 m2 ys2) (addZ (mulZ (mk n1 (Num.nat xs1)) (mk m2 (Num.nat ys2))) (mulZ (mk n2 (Num.nat xs2)) (mk m1 (Num.nat ys1)))) (mulZ (mk m1 (Num.nat ys1)) (mk m2 (Num.nat ys2))))).length cE, Value.bool (sgn (rtD (ratB n1 xs1 m1 ys1 && ratB n2 xs2 m2 ys2) (addZ (mulZ (mk n1 (Num.nat xs1)) (mk m2 (Num.nat ys2))) (mulZ (mk n2 (Num.nat xs2)) (mk m1 (Num.nat ys1)))) (mulZ (mk m1 (Num.nat ys1)) (mk m2 (Num.nat ys2))))), Value.slice bE (lms (rtD (ratB n1 xs1 m1 ys1 && ratB n2 xs2 m2 ys2) (addZ (mulZ (mk n1 (Num.nat xs1)) (mk m2 (Num.nat ys2))) (mulZ (mk n2 (Num.nat xs2)) (mk m1 (Num.nat ys1)))) (mulZ (mk m1 (Num.nat ys1)) (mk m2 (Num.nat ys2))))).length eE] 28)).heap.size := by simp only [World.size_alloc]; omega
  have kE0 : (w7.alloc (Obj.cells #[Value.bool (sgn (rtN (ratB n1 xs1 m1 ys1 && ratB n2 xs2 m2 ys2) (addZ (mulZ (mk n1 (Num.nat xs1)) (mk m2 (Num.nat ys2))) (mulZ (mk n2 (Num.nat xs2)) (mk m1 (Num.nat ys1)))) (mulZ (mk m1 (Num.nat ys1)) (mk m2 (Num.nat ys2))))), Value.slice aE (lms (rtN (ratB n1 xs1 m1 ys1 && ratB n2 xs2 m2 ys2) (addZ (mulZ (mk n1 (Num.nat xs1)) (mk m2 (Num.nat ys2))) (mulZ (mk n2 (Num.nat xs2)) (mk m1 (Num.nat ys1)))) (mulZ (mk m1 (Num.nat ys1)) (mk m2 (Num.nat ys2))))).length cE, Value.bool (sgn (rtD (ratB n1 xs1 m1 ys1 && ratB n2 xs2 m2 ys2) (addZ (mulZ (mk n1 (Num.nat xs1)) (mk m2 (Num.nat ys2))) (mulZ (mk n2 (Num.nat xs2)) (mk m1 (Num.nat ys1)))) (mulZ (mk m1 (Num.nat ys1)) (mk m2 (Num.nat ys2))))), Value.slice bE (lms (rtD (ratB n1 xs1 m1 ys1 && ratB n2 xs2 m2 ys2) (addZ (mulZ (mk n1 (Num.nat xs1)) (mk m2 (Num.nat ys2))) (mulZ (mk n2 (Num.nat xs2)) (mk m1 (Num.nat ys1)))) (mulZ (mk m1 (Num.nat ys1)) (mk m2 (Num.nat ys2))))).length eE] 28)).cell? ⟨w7.heap.size, 0, none⟩ = some (Value.bool (sgn (rtN (ratB n1 xs1 m1 ys1 && ratB n2 xs2 m2 ys2) (addZ (mulZ (mk n1 (Num.nat xs1)) (mk m2 (Num.nat ys2))) (mulZ (mk n2 (Num.nat xs2)) (mk m1 (Num.nat ys1)))) (mulZ (mk m1 (Num.nat ys1)) (mk m2 (Num.nat ys2)))))) := by go_simp
  have kE1 : (w7.alloc (Obj.cells #[Value.bool (sgn (rtN (ratB n1 xs1 m1 ys1 && ratB n2 xs2 m2 ys2) (addZ (mulZ (mk n1 (Num.nat xs1)) (mk m2 (Num.nat ys2))) (mulZ (mk n2 (Num.nat xs2)) (mk m1 (Num.nat ys1)))) (mulZ (mk m1 (Num.nat ys1)) (mk m2 (Num.nat ys2))))), Value.slice aE (lms (rtN (ratB n1 xs1 m1 ys1 && ratB n2 xs2 m2 ys2) (addZ (mulZ (mk n1 (Num.nat xs1)) (mk m2 (Num.nat ys2))) (mulZ (mk n2 (Num.nat xs2)) (mk m1 (Num.nat ys1)))) (mulZ (mk m1 (Num.nat ys1)) (mk m2 (Num.nat ys2))))).length cE, Value.bool (sgn (rtD (ratB n1 xs1 m1 ys1 && ratB n2 xs2 m2 ys2) (addZ (mulZ (mk n1 (Num.nat xs1)) (mk m2 (Num.nat ys2))) (mulZ (mk n2 (Num.nat xs2)) (mk m1 (Num.nat ys1)))) (mulZ (mk m1 (Num.nat ys1)) (mk m2 (Num.nat ys2))))), Value.slice bE (lms (rtD (ratB n1 xs1 m1 ys1 && ratB n2 xs2 m2 ys2) (addZ (mulZ (mk n1 (Num.nat xs1)) (mk m2 (Num.nat ys2))) (mulZ (mk n2 (Num.nat xs2)) (mk m1 (Num.nat ys1)))) (mulZ (mk m1 (Num.nat ys1)) (mk m2 (Num.nat ys2))))).length eE] 28)).cell? ⟨w7.heap.size, 1, none⟩ = some (Value.slice aE (lms (rtN (ratB n1 xs1 m1 ys1 && ratB n2 xs2 m2 ys2) (addZ (mulZ (mk n1 (Num.nat xs1)) (mk m2 (Num.nat ys2))) (mulZ (mk n2 (Num.nat xs2)) (mk m1 (Num.nat ys1)))) (mulZ (mk m1 (Num.nat ys1)) (mk m2 (Num.nat ys2))))).length cE) := by go_simp
  have kE2 : (w7.alloc (Obj.cells #[Value.bool (sgn (rtN (ratB n1 xs1 m1 ys1 && ratB n2 xs2 m2 ys2) (addZ (mulZ (mk n1 (Num.nat xs1)) (mk m2 (Num.nat ys2))) (mulZ (mk n2 (Num.nat xs2)) (mk m1 (Num.nat ys1)))) (mulZ (mk m1 (Num.nat ys1)) (mk m2 (Num.nat ys2))))), Value.slice aE (lms (rtN (ratB n1 xs1 m1 ys1 && ratB n2 xs2 m2 ys2) (addZ (mulZ (mk n1 (Num.nat xs1)) (mk m2 (Num.nat ys2))) (mulZ (mk n2 (Num.nat xs2)) (mk m1 (Num.nat ys1)))) (mulZ (mk m1 (Num.nat ys1)) (mk m2 (Num.nat ys2))))).length cE, Value.bool (sgn (rtD (ratB n1 xs1 m1 ys1 && ratB n2 xs2 m2 ys2) (addZ (mulZ (mk n1 (Num.nat xs1)) (mk m2 (Num.nat ys2))) (mulZ (mk n2 (Num.nat xs2)) (mk m1 (Num.nat ys1)))) (mulZ (mk m1 (Num.nat ys1)) (mk m2 (Num.nat ys2))))), Value.slice bE (lms (rtD (ratB n1 xs1 m1 ys1 && ratB n2 xs2 m2 ys2) (addZ (mulZ (mk n1 (Num.nat xs1)) (mk m2 (Num.nat ys2))) (mulZ (mk n2 (Num.nat xs2)) (mk m1 (Num.nat ys1)))) (mulZ (mk m1 (Num.nat ys1)) (mk m2 (Num.nat ys2))))).length eE] 28)).cell? ⟨w7.heap.size, 2, none⟩ = some (Value.bool (sgn (rtD (ratB n1 xs1 m1 ys1 && ratB n2 xs2 m2 ys2) (addZ (mulZ (mk n1 (Num.nat xs1)) (mk m2 (Num.nat ys2))) (mulZ (mk n2 (Num.nat xs2)) (mk m1 (Num.nat ys1)))) (mulZ (mk m1 (Num.nat ys1)) (mk m2 (Num.nat ys2)))))) := by go_simp
  have kE3 : (w7.alloc (Obj.cells #[Value.bool (sgn (rtN (ratB n1 xs1 m1 ys1 && ratB n2 xs2 m2 ys2) (addZ (mulZ (mk n1 (Num.nat xs1)) (mk m2 (Num.nat ys2))) (mulZ (mk n2 (Num.nat xs2)) (mk m1 (Num.nat ys1)))) (mulZ (mk m1 (Num.nat ys1)) (mk m2 (Num.nat ys2))))), Value.slice aE (lms (rtN (ratB n1 xs1 m1 ys1 && ratB n2 xs2 m2 ys2) (addZ (mulZ (mk n1 (Num.nat xs1)) (mk m2 (Num.nat ys2))) (mulZ (mk n2 (Num.nat xs2)) (mk m1 (Num.nat ys1)))) (mulZ (mk m1 (Num.nat ys1)) (mk m2 (Num.nat ys2))))).length cE, Value.bool (sgn (rtD (ratB n1 xs1 m1 ys1 && ratB n2 xs2 m2 ys2) (addZ (mulZ (mk n1 (Num.nat xs1)) (mk m2 (Num.nat ys2))) (mulZ (mk n2 (Num.nat xs2)) (mk m1 (Num.nat ys1)))) (mulZ (mk m1 (Num.nat ys1)) (mk m2 (Num.nat ys2))))), Value.slice bE (lms (rtD (ratB n1 xs1 m1 ys1 && ratB n2 xs2 m2 ys2) (addZ (mulZ (mk n1 (Num.nat xs1)) (mk m2 (Num.nat ys2))) (mulZ (mk n2 (Num.nat xs2)) (mk m1 (Num.nat ys1)))) (mulZ (mk m1 (Num.nat ys1)) (mk m2 (Num.nat ys2))))).length eE] 28)).cell? ⟨w7.heap.size, 3, none⟩ = some (Value.slice bE (lms (rtD (ratB n1 xs1 m1 ys1 && ratB n2 xs2 m2 ys2) (addZ (mulZ (mk n1 (Num.nat xs1)) (mk m2 (Num.nat ys2))) (mulZ (mk n2 (Num.nat xs2)) (mk m1 (Num.nat ys1)))) (mulZ (mk m1 (Num.nat ys1)) (mk m2 (Num.nat ys2))))).length eE) := by go_simp
  have zE : w7.heap.size < (w7.alloc (Obj.cells #[Value.bool (sgn (rtN (ratB n1 xs1 m1 ys1 && ratB n2 xs2 m2 ys2) (addZ (mulZ (mk n1 (Num.nat xs1)) (mk m2 (Num.nat ys2))) (mulZ (mk n2 (Num.nat xs2)) (mk m1 (Num.nat ys1)))) (mulZ (mk m1 (Num.nat ys1)) (mk m2 (Num.nat ys2))))), Value.slice aE (lms (rtN (ratB n1 xs1 m1 ys1 && ratB n2 xs2 m2 ys2) (addZ (mulZ (mk n1 (Num.nat xs1)) (mk m2 (Num.nat ys2))) (mulZ (mk n2 (Num.nat xs2)) (mk m1 (Num.nat ys1)))) (mulZ (mk m1 (Num.nat ys1)) (mk m2 (Num.nat ys2))))).length cE, Value.bool (sgn (rtD (ratB n1 xs1 m1 ys1 && ratB n2 xs2 m2 ys2) (addZ (mulZ (mk n1 (Num.nat xs1)) (mk m2 (Num.nat ys2))) (mulZ (mk n2 (Num.nat xs2)) (mk m1 (Num.nat ys1)))) (mulZ (mk m1 (Num.nat ys1)) (mk m2 (Num.nat ys2))))), Value.slice bE (lms (rtD (ratB n1 xs1 m1 ys1 && ratB n2 xs2 m2 ys2) (addZ (mulZ (mk n1 (Num.nat xs1)) (mk m2 (Num.nat ys2))) (mulZ (mk n2 (Num.nat xs2)) (mk m1 (Num.nat ys1)))) (mulZ (mk m1 (Num.nat ys1)) (mk m2 (Num.nat ys2))))).length eE] 28)).heap.size := by simp only [World.size_alloc]; omega
  have hbn := (bl_alloc (bl_refl w7) (Obj.cells #[Value.bool (sgn (rtN (ratB n1 xs1 m1 ys1 && ratB n2 xs2 m2 ys2) (addZ (mulZ (mk n1 (Num.nat xs1)) (mk m2 (Num.nat ys2))) (mulZ (mk n2 (Num.nat xs2)) (mk m1 (Num.nat ys1)))) (mulZ (mk m1 (Num.nat ys1)) (mk m2 (Num.nat ys2))))), Value.slice aE (lms (rtN (ratB n1 xs1 m1 ys1 && ratB n2 xs2 m2 ys2) (addZ (mulZ (mk n1 (Num.nat xs1)) (mk m2 (Num.nat ys2))) (mulZ (mk n2 (Num.nat xs2)) (mk m1 (Num.nat ys1)))) (mulZ (mk m1 (Num.nat ys1)) (mk m2 (Num.nat ys2))))).length cE, Value.bool (sgn (rtD (ratB n1 xs1 m1 ys1 && ratB n2 xs2 m2 ys2) (addZ (mulZ (mk n1 (Num.nat xs1)) (mk m2 (Num.nat ys2))) (mulZ (mk n2 (Num.nat xs2)) (mk m1 (Num.nat ys1)))) (mulZ (mk m1 (Num.nat ys1)) (mk m2 (Num.nat ys2))))), Value.slice bE (lms (rtD (ratB n1 xs1 m1 ys1 && ratB n2 xs2 m2 ys2) (addZ (mulZ (mk n1 (Num.nat xs1)) (mk m2 (Num.nat ys2))) (mulZ (mk n2 (Num.nat xs2)) (mk m1 (Num.nat ys1)))) (mulZ (mk m1 (Num.nat ys1)) (mk m2 (Num.nat ys2))))).length eE] 28))
  replace kA0 := (hbn.cell (p := ⟨w1.heap.size, 0, none⟩) zA).trans kA0
  replace kA1 := (hbn.cell (p := ⟨w1.heap.size, 1, none⟩) zA).trans kA1
  replace kA2 := (hbn.cell (p := ⟨w1.heap.size, 2, none⟩) zA).trans kA2
  replace kA3 := (hbn.cell (p := ⟨w1.heap.size, 3, none⟩) zA).trans kA3
  replace zA := Nat.lt_of_lt_of_le zA hbn.size
  replace kB0 := (hbn.cell (p := ⟨w1.heap.size + 1, 0, none⟩) zB).trans kB0
  replace kB1 := (hbn.cell (p := ⟨w1.heap.size + 1, 1, none⟩) zB).trans kB1
  replace kB2 := (hbn.cell (p := ⟨w1.heap.size + 1, 2, none⟩) zB).trans kB2
  replace kB3 := (hbn.cell (p := ⟨w1.heap.size + 1, 3, none⟩) zB).trans kB3
  replace zB := Nat.lt_of_lt_of_le zB hbn.size
  replace kC0 := (hbn.cell (p := ⟨w3.heap.size, 0, none⟩) zC).trans kC0
  replace kC1 := (hbn.cell (p := ⟨w3.heap.size, 1, none⟩) zC).trans kC1
  replace kC2 := (hbn.cell (p := ⟨w3.heap.size, 2, none⟩) zC).trans kC2
  replace kC3 := (hbn.cell (p := ⟨w3.heap.size, 3, none⟩) zC).trans kC3
  replace zC := Nat.lt_of_lt_of_le zC hbn.size
  replace kD0 := (hbn.cell (p := ⟨w5.heap.size, 0, none⟩) zD).trans kD0
  replace kD1 := (hbn.cell (p := ⟨w5.heap.size, 1, none⟩) zD).trans kD1
  replace kD2 := (hbn.cell (p := ⟨w5.heap.size, 2, none⟩) zD).trans kD2
  replace kD3 := (hbn.cell (p := ⟨w5.heap.size, 3, none⟩) zD).trans kD3
  replace zD := Nat.lt_of_lt_of_le zD hbn.size
  replace S1 := hide (S1.out.below hbn)
  replace T1 := hide (T1.out.below hbn)
  replace S2 := hide (S2.out.below hbn)
  replace T2 := hide (T2.out.below hbn)
  replace SC := hide (SC.out.below hbn)
  replace TC := hide (TC.out.below hbn)
  replace SD := hide (SD.out.below hbn)
  replace TD := hide (TD.out.below hbn)
  replace SE := hide (SE.out.below hbn)
  replace TE := hide (TE.out.below hbn)
  replace HB := hide (bl_trans HB.out hbn)
  clear hbn
  generalize (w7.alloc (Obj.cells #[Value.bool (sgn (rtN (ratB n1 xs1 m1 ys1 && ratB n2 xs2 m2 ys2) (addZ (mulZ (mk n1 (Num.nat xs1)) (mk m2 (Num.nat ys2))) (mulZ (mk n2 (Num.nat xs2)) (mk m1 (Num.nat ys1)))) (mulZ (mk m1 (Num.nat ys1)) (mk m2 (Num.nat ys2))))), Value.slice aE (lms (rtN (ratB n1 xs1 m1 ys1 && ratB n2 xs2 m2 ys2) (addZ (mulZ (mk n1 (Num.nat xs1)) (mk m2 (Num.nat ys2))) (mulZ (mk n2 (Num.nat xs2)) (mk m1 (Num.nat ys1)))) (mulZ (mk m1 (Num.nat ys1)) (mk m2 (Num.nat ys2))))).length cE, Value.bool (sgn (rtD (ratB n1 xs1 m1 ys1 && ratB n2 xs2 m2 ys2) (addZ (mulZ (mk n1 (Num.nat xs1)) (mk m2 (Num.nat ys2))) (mulZ (mk n2 (Num.nat xs2)) (mk m1 (Num.nat ys1)))) (mulZ (mk m1 (Num.nat ys1)) (mk m2 (Num.nat ys2))))), Value.slice bE (lms (rtD (ratB n1 xs1 m1 ys1 && ratB n2 xs2 m2 ys2) (addZ (mulZ (mk n1 (Num.nat xs1)) (mk m2 (Num.nat ys2))) (mulZ (mk n2 (Num.nat xs2)) (mk m1 (Num.nat ys1)))) (mulZ (mk m1 (Num.nat ys1)) (mk m2 (Num.nat ys2))))).length eE] 28)) = w8 at *
  refine (RatQuoQ n1 xs1 m1 ys1 n2 xs2 m2 ys2 a1 c1 b1 e1 a2 c2 b2 e2 _ S1.out T1.out S2.out T2.out).mono ?_
  rintro e w9 ⟨aF, cF, bF, eF, rfl, ho1, ho2, -, hb⟩
  have yw9 := hb.size
  replace kA0 := (hb.cell (p := ⟨w1.heap.size, 0, none⟩) zA).trans kA0
  replace kA1 := (hb.cell (p := ⟨w1.heap.size, 1, none⟩) zA).trans kA1
  replace kA2 := (hb.cell (p := ⟨w1.heap.size, 2, none⟩) zA).trans kA2
  replace kA3 := (hb.cell (p := ⟨w1.heap.size, 3, none⟩) zA).trans kA3
  replace zA := Nat.lt_of_lt_of_le zA hb.size
  replace kB0 := (hb.cell (p := ⟨w1.heap.size + 1, 0, none⟩) zB).trans kB0
  replace kB1 := (hb.cell (p := ⟨w1.heap.size + 1, 1, none⟩) zB).trans kB1
  replace kB2 := (hb.cell (p := ⟨w1.heap.size + 1, 2, none⟩) zB).trans kB2
  replace kB3 := (hb.cell (p := ⟨w1.heap.size + 1, 3, none⟩) zB).trans kB3
  replace zB := Nat.lt_of_lt_of_le zB hb.size
  replace kC0 := (hb.cell (p := ⟨w3.heap.size, 0, none⟩) zC).trans kC0
  replace kC1 := (hb.cell (p := ⟨w3.heap.size, 1, none⟩) zC).trans kC1
  replace kC2 := (hb.cell (p := ⟨w3.heap.size, 2, none⟩) zC).trans kC2
  replace kC3 := (hb.cell (p := ⟨w3.heap.size, 3, none⟩) zC).trans kC3
  replace zC := Nat.lt_of_lt_of_le zC hb.size
  replace kD0 := (hb.cell (p := ⟨w5.heap.size, 0, none⟩) zD).trans kD0
  replace kD1 := (hb.cell (p := ⟨w5.heap.size, 1, none⟩) zD).trans kD1
  replace kD2 := (hb.cell (p := ⟨w5.heap.size, 2, none⟩) zD).trans kD2
  replace kD3 := (hb.cell (p := ⟨w5.heap.size, 3, none⟩) zD).trans kD3
  replace zD := Nat.lt_of_lt_of_le zD hb.size
  replace kE0 := (hb.cell (p := ⟨w7.heap.size, 0, none⟩) zE).trans kE0
  replace kE1 := (hb.cell (p := ⟨w7.heap.size, 1, none⟩) zE).trans kE1
  replace kE2 := (hb.cell (p := ⟨w7.heap.size, 2, none⟩) zE).trans kE2
  replace kE3 := (hb.cell (p := ⟨w7.heap.size, 3, none⟩) zE).trans kE3
  replace zE := Nat.lt_of_lt_of_le zE hb.size
  replace S1 := hide (S1.out.below hb)
  replace T1 := hide (T1.out.below hb)
  replace S2 := hide (S2.out.below hb)
  replace T2 := hide (T2.out.below hb)
  replace SC := hide (SC.out.below hb)
  replace TC := hide (TC.out.below hb)
  replace SD := hide (SD.out.below hb)
  replace TD := hide (TD.out.below hb)
  replace SE := hide (SE.out.below hb)
  replace TE := hide (TE.out.below hb)
  replace HB := hide (bl_trans HB.out hb)
  clear hb
  have SF := hide ho1.seg
  have TF := hide ho2.seg
  clear ho1 ho2
  go_upto_region 8 with fail
  have yw10 : w9.heap.size + 1 ≤ (w9.alloc (Obj.cells #[Value.bool (sgn (rtN (ratB n1 xs1 m1 ys1 && ratB n2 xs2 m2 ys2) (mulZ (mk n1 (Num.nat xs1)) (mk m2 (Num.nat ys2))) (mulZ (mk m1 (Num.nat ys1)) (mk n2 (Num.nat xs2))))), Value.slice aF (lms (rtN (ratB n1 xs1 m1 ys1 && ratB n2 xs2 m2 ys2) (mulZ (mk n1 (Num.nat xs1)) (mk m2 (Num.nat ys2))) (mulZ (mk m1 (Num.nat ys1)) (mk n2 (Num.nat xs2))))).length cF, Value.bool (sgn (rtD (ratB n1 xs1 m1 ys1 && ratB n2 xs2 m2 ys2) (mulZ (mk n1 (Num.nat xs1)) (mk m2 (Num.nat ys2))) (mulZ (mk m1 (Num.nat ys1)) (mk n2 (Num.nat xs2))))), Value.slice bF (lms (rtD (ratB n1 xs1 m1 ys1 && ratB n2 xs2 m2 ys2) (mulZ (mk n1 (Num.nat xs1)) (mk m2 (Num.nat ys2))) (mulZ (mk m1 (Num.nat ys1)) (mk n2 (Num.nat xs2))))).length eF] 28)).heap.size := by simp only [World.size_alloc]; omega
  have kF0 : (w9.alloc (Obj.cells #[Value.bool (sgn (rtN (ratB n1 xs1 m1 ys1 && ratB n2 xs2 m2 ys2) (mulZ (mk n1 (Num.nat xs1)) (mk m2 (Num.nat ys2))) (mulZ (mk m1 (Num.nat ys1)) (mk n2 (Num.nat xs2))))), Value.slice aF (lms (rtN (ratB n1 xs1 m1 ys1 && ratB n2 xs2 m2 ys2) (mulZ (mk n1 (Num.nat xs1)) (mk m2 (Num.nat ys2))) (mulZ (mk m1 (Num.nat ys1)) (mk n2 (Num.nat xs2))))).length cF, Value.bool (sgn (rtD (ratB n1 xs1 m1 ys1 && ratB n2 xs2 m2 ys2) (mulZ (mk n1 (Num.nat xs1)) (mk m2 (Num.nat ys2))) (mulZ (mk m1 (Num.nat ys1)) (mk n2 (Num.nat xs2))))), Value.slice bF (lms (rtD (ratB n1 xs1 m1 ys1 && ratB n2 xs2 m2 ys2) (mulZ (mk n1 (Num.nat xs1)) (mk m2 (Num.nat ys2))) (mulZ (mk m1 (Num.nat ys1)) (mk n2 (Num.nat xs2))))).length eF] 28)).cell? ⟨w9.heap.size, 0, none⟩ = some (Value.bool (sgn (rtN (ratB n1 xs1 m1 ys1 && ratB n2 xs2 m2 ys2) (mulZ (mk n1 (Num.nat xs1)) (mk m2 (Num.nat ys2))) (mulZ (mk m1 (Num.nat ys1)) (mk n2 (Num.nat xs2)))))) := by go_simp
  have kF1 : (w9.alloc (Obj.cells #[Value.bool (sgn (rtN (ratB n1 xs1 m1 ys1 && ratB n2 xs2 m2 ys2) (mulZ (mk n1 (Num.nat xs1)) (mk m2 (Num.nat ys2))) (mulZ (mk m1 (Num.nat ys1)) (mk n2 (Num.nat xs2))))), Value.slice aF (lms (rtN (ratB n1 xs1 m1 ys1 && ratB n2 xs2 m2 ys2) (mulZ (mk n1 (Num.nat xs1)) (mk m2 (Num.nat ys2))) (mulZ (mk m1 (Num.nat ys1)) (mk n2 (Num.nat xs2))))).length cF, Value.bool (sgn (rtD (ratB n1 xs1 m1 ys1 && ratB n2 xs2 m2 ys2) (mulZ (mk n1 (Num.nat xs1)) (mk m2 (Num.nat ys2))) (mulZ (mk m1 (Num.nat ys1)) (mk n2 (Num.nat xs2))))), Value.slice bF (lms (rtD (ratB n1 xs1 m1 ys1 && ratB n2 xs2 m2 ys2) (mulZ (mk n1 (Num.nat xs1)) (mk m2 (Num.nat ys2))) (mulZ (mk m1 (Num.nat ys1)) (mk n2 (Num.nat xs2))))).length eF] 28)).cell? ⟨w9.heap.size, 1, none⟩ = some (Value.slice aF (lms (rtN (ratB n1 xs1 m1 ys1 && ratB n2 xs2 m2 ys2) (mulZ (mk n1 (Num.nat xs1)) (mk m2 (Num.nat ys2))) (mulZ (mk m1 (Num.nat ys1)) (mk n2 (Num.nat xs2))))).length cF) := by go_simp
  have kF2 : (w9.alloc (Obj.cells #[Value.bool (sgn (rtN (ratB n1 xs1 m1 ys1 && ratB n2 xs2 m2 ys2) (mulZ (mk n1 (Num.nat xs1)) (mk m2 (Num.nat ys2))) (mulZ (mk m1 (Num.nat ys1)) (mk n2 (Num.nat xs2))))), Value.slice aF (lms (rtN (ratB n1 xs1 m1 ys1 && ratB n2 xs2 m2 ys2) (mulZ (mk n1 (Num.nat xs1)) (mk m2 (Num.nat ys2))) (mulZ (mk m1 (Num.nat ys1)) (mk n2 (Num.nat xs2))))).length cF, Value.bool (sgn (rtD (ratB n1 xs1 m1 ys1 && ratB n2 xs2 m2 ys2) (mulZ (mk n1 (Num.nat xs1)) (mk m2 (Num.nat ys2))) (mulZ (mk m1 (Num.nat ys1)) (mk n2 (Num.nat xs2))))), Value.slice bF (lms (rtD (ratB n1 xs1 m1 ys1 && ratB n2 xs2 m2 ys2) (mulZ (mk n1 (Num.nat xs1)) (mk m2 (Num.nat ys2))) (mulZ (mk m1 (Num.nat ys1)) (mk n2 (Num.nat xs2))))).length eF] 28)).cell? ⟨w9.heap.size, 2, none⟩ = some (Value.bool (sgn (rtD (ratB n1 xs1 m1 ys1 && ratB n2 xs2 m2 ys2) (mulZ (mk n1 (Num.nat xs1)) (mk m2 (Num.nat ys2))) (mulZ (mk m1 (Num.nat ys1)) (mk n2 (Num.nat xs2)))))) := by go_simp
  have kF3 : (w9.alloc (Obj.cells #[Value.bool (sgn (rtN (ratB n1 xs1 m1 ys1 && ratB n2 xs2 m2 ys2) (mulZ (mk n1 (Num.nat xs1)) (mk m2 (Num.nat ys2))) (mulZ (mk m1 (Num.nat ys1)) (mk n2 (Num.nat xs2))))), Value.slice aF (lms (rtN (ratB n1 xs1 m1 ys1 && ratB n2 xs2 m2 ys2) (mulZ (mk n1 (Num.nat xs1)) (mk m2 (Num.nat ys2))) (mulZ (mk m1 (Num.nat ys1)) (mk n2 (Num.nat xs2))))).length cF, Value.bool (sgn (rtD (ratB n1 xs1 m1 ys1 && ratB n2 xs2 m2 ys2) (mulZ (mk n1 (Num.nat xs1)) (mk m2 (Num.nat ys2))) (mulZ (mk m1 (Num.nat ys1)) (mk n2 (Num.nat xs2))))), Value.slice bF (lms (rtD (ratB n1 xs1 m1 ys1 && ratB n2 xs2 m2 ys2) (mulZ (mk n1 (Num.nat xs1)) (mk m2 (Num.nat ys2))) (mulZ (mk m1 (Num.nat ys1)) (mk n2 (Num.nat xs2))))).length eF] 28)).cell? ⟨w9.heap.size, 3, none⟩ = some (Value.slice bF (lms (rtD (ratB n1 xs1 m1 ys1 && ratB n2 xs2 m2 ys2) (mulZ (mk n1 (Num.nat xs1)) (mk m2 (Num.nat ys2))) (mulZ (mk m1 (Num.nat ys1)) (mk n2 (Num.nat xs2))))).length eF) := by go_simp
  have zF : w9.heap.size < (w9.alloc (Obj.cells #[Value.bool (sgn (rtN (ratB n1 xs1 m1 ys1 && ratB n2 xs2 m2 ys2) (mulZ (mk n1 (Num.nat xs1)) (mk m2 (Num.nat ys2))) (mulZ (mk m1 (Num.nat ys1)) (mk n2 (Num.nat xs2))))), Value.slice aF (lms (rtN (ratB n1 xs1 m1 ys1 && ratB n2 xs2 m2 ys2) (mulZ (mk n1 (Num.nat xs1)) (mk m2 (Num.nat ys2))) (mulZ (mk m1 (Num.nat ys1)) (mk n2 (Num.nat xs2))))).length cF, Value.bool (sgn (rtD (ratB n1 xs1 m1 ys1 && ratB n2 xs2 m2 ys2) (mulZ (mk n1 (Num.nat xs1)) (mk m2 (Num.nat ys2))) (mulZ (mk m1 (Num.nat ys1)) (mk n2 (Num.nat xs2))))), Value.slice bF (lms (rtD (ratB n1 xs1 m1 ys1 && ratB n2 xs2 m2 ys2) (mulZ (mk n1 (Num.nat xs1)) (mk m2 (Num.nat ys2))) (mulZ (mk m1 (Num.nat ys1)) (mk n2 (Num.nat xs2))))).length eF] 28)).heap.size := by simp only [World.size_alloc]; omega
  have hbn := (bl_alloc (bl_refl w9) (Obj.cells #[Value.bool (sgn (rtN (ratB n1 xs1 m1 ys1 && ratB n2 xs2 m2 ys2) (mulZ (mk n1 (Num.nat xs1)) (mk m2 (Num.nat ys2))) (mulZ (mk m1 (Num.nat ys1)) (mk n2 (Num.nat xs2))))), Value.slice aF (lms (rtN (ratB n1 xs1 m1 ys1 && ratB n2 xs2 m2 ys2) (mulZ (mk n1 (Num.nat xs1)) (mk m2 (Num.nat ys2))) (mulZ (mk m1 (Num.nat ys1)) (mk n2 (Num.nat xs2))))).length cF, Value.bool (sgn (rtD (ratB n1 xs1 m1 ys1 && ratB n2 xs2 m2 ys2) (mulZ (mk n1 (Num.nat xs1)) (mk m2 (Num.nat ys2))) (mulZ (mk m1 (Num.nat ys1)) (mk n2 (Num.nat xs2))))), Value.slice bF (lms (rtD (ratB n1 xs1 m1 ys1 && ratB n2 xs2 m2 ys2) (mulZ (mk n1 (Num.nat xs1)) (mk m2 (Num.nat ys2))) (mulZ (mk m1 (Num.nat ys1)) (mk n2 (Num.nat xs2))))).length eF] 28))
  replace kA0 := (hbn.cell (p := ⟨w1.heap.size, 0, none⟩) zA).trans kA0
  replace kA1 := (hbn.cell (p := ⟨w1.heap.size, 1, none⟩) zA).trans kA1
  replace kA2 := (hbn.cell (p := ⟨w1.heap.size, 2, none⟩) zA).trans kA2
  replace kA3 := (hbn.cell (p := ⟨w1.heap.size, 3, none⟩) zA).trans kA3
  replace zA := Nat.lt_of_lt_of_le zA hbn.size
  replace kB0 := (hbn.cell (p := ⟨w1.heap.size + 1, 0, none⟩) zB).trans kB0
  replace kB1 := (hbn.cell (p := ⟨w1.heap.size + 1, 1, none⟩) zB).trans kB1
  replace kB2 := (hbn.cell (p := ⟨w1.heap.size + 1, 2, none⟩) zB).trans kB2
  replace kB3 := (hbn.cell (p := ⟨w1.heap.size + 1, 3, none⟩) zB).trans kB3
  replace zB := Nat.lt_of_lt_of_le zB hbn.size
  replace kC0 := (hbn.cell (p := ⟨w3.heap.size, 0, none⟩) zC).trans kC0
  replace kC1 := (hbn.cell (p := ⟨w3.heap.size, 1, none⟩) zC).trans kC1
  replace kC2 := (hbn.cell (p := ⟨w3.heap.size, 2, none⟩) zC).trans kC2
  replace kC3 := (hbn.cell (p := ⟨w3.heap.size, 3, none⟩) zC).trans kC3
  replace zC := Nat.lt_of_lt_of_le zC hbn.size
  replace kD0 := (hbn.cell (p := ⟨w5.heap.size, 0, none⟩) zD).trans kD0
  replace kD1 := (hbn.cell (p := ⟨w5.heap.size, 1, none⟩) zD).trans kD1
  replace kD2 := (hbn.cell (p := ⟨w5.heap.size, 2, none⟩) zD).trans kD2
  replace kD3 := (hbn.cell (p := ⟨w5.heap.size, 3, none⟩) zD).trans kD3
  replace zD := Nat.lt_of_lt_of_le zD hbn.size
  replace kE0 := (hbn.cell (p := ⟨w7.heap.size, 0, none⟩) zE).trans kE0
  replace kE1 := (hbn.cell (p := ⟨w7.heap.size, 1, none⟩) zE).trans kE1
  replace kE2 := (hbn.cell (p := ⟨w7.heap.size, 2, none⟩) zE).trans kE2
  replace kE3 := (hbn.cell (p := ⟨w7.heap.size, 3, none⟩) zE).trans kE3
  replace zE := Nat.lt_of_lt_of_le zE hbn.size
  replace S1 := hide (S1.out.below hbn)
  replace T1 := hide (T1.out.below hbn)
  replace S2 := hide (S2.out.below hbn)
  replace T2 := hide (T2.out.below hbn)
  replace SC := hide (SC.out.below hbn)
  replace TC := hide (TC.out.below hbn)
  replace SD := hide (SD.out.below hbn)
  replace TD := hide (TD.out.below hbn)
  replace SE := hide (SE.out.below hbn)
  replace TE := hide (TE.out.below hbn)
  replace SF := hide (SF.out.below hbn)
  replace TF := hide (TF.out.below hbn)
  replace HB := hide (bl_trans HB.out hbn)
  clear hbn
  generalize (w9.alloc (Obj.cells #[Value.bool (sgn (rtN (ratB n1 xs1 m1 ys1 && ratB n2 xs2 m2 ys2) (mulZ (mk n1 (Num.nat xs1)) (mk m2 (Num.nat ys2))) (mulZ (mk m1 (Num.nat ys1)) (mk n2 (Num.nat xs2))))), Value.slice aF (lms (rtN (ratB n1 xs1 m1 ys1 && ratB n2 xs2 m2 ys2) (mulZ (mk n1 (Num.nat xs1)) (mk m2 (Num.nat ys2))) (mulZ (mk m1 (Num.nat ys1)) (mk n2 (Num.nat xs2))))).length cF, Value.bool (sgn (rtD (ratB n1 xs1 m1 ys1 && ratB n2 xs2 m2 ys2) (mulZ (mk n1 (Num.nat xs1)) (mk m2 (Num.nat ys2))) (mulZ (mk m1 (Num.nat ys1)) (mk n2 (Num.nat xs2))))), Value.slice bF (lms (rtD (ratB n1 xs1 m1 ys1 && ratB n2 xs2 m2 ys2) (mulZ (mk n1 (Num.nat xs1)) (mk m2 (Num.nat ys2))) (mulZ (mk m1 (Num.nat ys1)) (mk n2 (Num.nat xs2))))).length eF] 28)) = w10 at *
  have HBA := hide (fun h => add_back n1 xs1 m1 ys1 n2 xs2 m2 ys2 G1.out G2.out G3.out G4.out h)
  have HBQ := hide (fun h => quo_back n1 xs1 m1 ys1 n2 xs2 m2 ys2 G1.out G2.out G3.out G4.out h)
  generalize hCN : rtN (ratB n1 xs1 m1 ys1 && ratB n2 xs2 m2 ys2) (addZ (mulZ (mk n1 (Num.nat xs1)) (mk m2 (Num.nat ys2))) (mulZ (mk n2 (Num.nat xs2)) (mk m1 (Num.nat ys1)))) (mulZ (mk m1 (Num.nat ys1)) (mk m2 (Num.nat ys2))) = CN at *
  generalize hCD : rtD (ratB n1 xs1 m1 ys1 && ratB n2 xs2 m2 ys2) (addZ (mulZ (mk n1 (Num.nat xs1)) (mk m2 (Num.nat ys2))) (mulZ (mk n2 (Num.nat xs2)) (mk m1 (Num.nat ys1)))) (mulZ (mk m1 (Num.nat ys1)) (mk m2 (Num.nat ys2))) = CD at *
  generalize hCT : rtT (ratB n1 xs1 m1 ys1 && ratB n2 xs2 m2 ys2) (addZ (mulZ (mk n1 (Num.nat xs1)) (mk m2 (Num.nat ys2))) (mulZ (mk n2 (Num.nat xs2)) (mk m1 (Num.nat ys1)))) (mulZ (mk m1 (Num.nat ys1)) (mk m2 (Num.nat ys2))) = CT at *
  generalize hDN : rtN (ratB n1 xs1 m1 ys1 && ratB n2 xs2 m2 ys2) (mulZ (mk n1 (Num.nat xs1)) (mk m2 (Num.nat ys2))) (mulZ (mk m1 (Num.nat ys1)) (mk n2 (Num.nat xs2))) = DN at *
  generalize hDD : rtD (ratB n1 xs1 m1 ys1 && ratB n2 xs2 m2 ys2) (mulZ (mk n1 (Num.nat xs1)) (mk m2 (Num.nat ys2))) (mulZ (mk m1 (Num.nat ys1)) (mk n2 (Num.nat xs2))) = DD at *
  generalize hDT : rtT (ratB n1 xs1 m1 ys1 && ratB n2 xs2 m2 ys2) (mulZ (mk n1 (Num.nat xs1)) (mk m2 (Num.nat ys2))) (mulZ (mk m1 (Num.nat ys1)) (mk n2 (Num.nat xs2))) = DT at *
  clear hCN hCD hCT hDN hDD hDT
  have f1 : (CT != CT) = false := by cases CT <;> rfl
  have f2 : (DT != DT) = false := by cases DT <;> rfl
  cases CT with
  | false =>
    clear HBA
    go_upto_region 14 with fail
    cases DT with
    | false =>
      go_wp2
      go_ret
      exact ⟨rfl, HB.out⟩
    | true =>
    go_wp2_with fail
    refine (RatMulP (sgn DN) (lms DN) (sgn DD) (lms DD) n2 xs2 m2 ys2 aD cD bD eD a2 c2 b2 e2 _ SD.out TD.out S2.out T2.out).mono ?_
    rintro e w11 ⟨aH, cH, bH, eH, rfl, ho1, ho2, -, hb⟩
    have yw11 := hb.size
    replace kA0 := (hb.cell (p := ⟨w1.heap.size, 0, none⟩) zA).trans kA0
    replace kA1 := (hb.cell (p := ⟨w1.heap.size, 1, none⟩) zA).trans kA1
    replace kA2 := (hb.cell (p := ⟨w1.heap.size, 2, none⟩) zA).trans kA2
    replace kA3 := (hb.cell (p := ⟨w1.heap.size, 3, none⟩) zA).trans kA3
    replace zA := Nat.lt_of_lt_of_le zA hb.size
    replace kB0 := (hb.cell (p := ⟨w1.heap.size + 1, 0, none⟩) zB).trans kB0
    replace kB1 := (hb.cell (p := ⟨w1.heap.size + 1, 1, none⟩) zB).trans kB1
    replace kB2 := (hb.cell (p := ⟨w1.heap.size + 1, 2, none⟩) zB).trans kB2
    replace kB3 := (hb.cell (p := ⟨w1.heap.size + 1, 3, none⟩) zB).trans kB3
    replace zB := Nat.lt_of_lt_of_le zB hb.size
    replace kC0 := (hb.cell (p := ⟨w3.heap.size, 0, none⟩) zC).trans kC0
    replace kC1 := (hb.cell (p := ⟨w3.heap.size, 1, none⟩) zC).trans kC1
    replace kC2 := (hb.cell (p := ⟨w3.heap.size, 2, none⟩) zC).trans kC2
    replace kC3 := (hb.cell (p := ⟨w3.heap.size, 3, none⟩) zC).trans kC3
    replace zC := Nat.lt_of_lt_of_le zC hb.size
    replace kD0 := (hb.cell (p := ⟨w5.heap.size, 0, none⟩) zD).trans kD0
    replace kD1 := (hb.cell (p := ⟨w5.heap.size, 1, none⟩) zD).trans kD1
    replace kD2 := (hb.cell (p := ⟨w5.heap.size, 2, none⟩) zD).trans kD2
    replace kD3 := (hb.cell (p := ⟨w5.heap.size, 3, none⟩) zD).trans kD3
    replace zD := Nat.lt_of_lt_of_le zD hb.size
    replace kE0 := (hb.cell (p := ⟨w7.heap.size, 0, none⟩) zE).trans kE0
    replace kE1 := (hb.cell (p := ⟨w7.heap.size, 1, none⟩) zE).trans kE1
    replace kE2 := (hb.cell (p := ⟨w7.heap.size, 2, none⟩) zE).trans kE2
    replace kE3 := (hb.cell (p := ⟨w7.heap.size, 3, none⟩) zE).trans kE3
    replace zE := Nat.lt_of_lt_of_le zE hb.size
    replace kF0 := (hb.cell (p := ⟨w9.heap.size, 0, none⟩) zF).trans kF0
    replace kF1 := (hb.cell (p := ⟨w9.heap.size, 1, none⟩) zF).trans kF1
    replace kF2 := (hb.cell (p := ⟨w9.heap.size, 2, none⟩) zF).trans kF2
    replace kF3 := (hb.cell (p := ⟨w9.heap.size, 3, none⟩) zF).trans kF3
    replace zF := Nat.lt_of_lt_of_le zF hb.size
    replace S1 := hide (S1.out.below hb)
    replace T1 := hide (T1.out.below hb)
    replace S2 := hide (S2.out.below hb)
    replace T2 := hide (T2.out.below hb)
    replace SC := hide (SC.out.below hb)
    replace TC := hide (TC.out.below hb)
    replace SD := hide (SD.out.below hb)
    replace TD := hide (TD.out.below hb)
    replace SE := hide (SE.out.below hb)
    replace TE := hide (TE.out.below hb)
    replace SF := hide (SF.out.below hb)
    replace TF := hide (TF.out.below hb)
    replace HB := hide (bl_trans HB.out hb)
    clear hb
    obtain ⟨q1, q2, q3, q4, q5⟩ := HBQ.out (by trivial)
    rw [q3] at ho1
    rw [q5] at ho2
    rw [q1, q2, q3, q4, q5]
    clear q1 q2 q3 q4 q5 HBQ
    have SH := hide ho1.seg
    have TH := hide ho2.seg
    clear ho1 ho2
    go_upto_region 16 with fail
    have yw12 : w11.heap.size + 1 ≤ (w11.alloc (Obj.cells #[Value.bool n1, Value.slice aH xs1.length cH, Value.bool m1, Value.slice bH ys1.length eH] 28)).heap.size := by simp only [World.size_alloc]; omega
    have kH0 : (w11.alloc (Obj.cells #[Value.bool n1, Value.slice aH xs1.length cH, Value.bool m1, Value.slice bH ys1.length eH] 28)).cell? ⟨w11.heap.size, 0, none⟩ = some (Value.bool n1) := by go_simp
    have kH1 : (w11.alloc (Obj.cells #[Value.bool n1, Value.slice aH xs1.length cH, Value.bool m1, Value.slice bH ys1.length eH] 28)).cell? ⟨w11.heap.size, 1, none⟩ = some (Value.slice aH xs1.length cH) := by go_simp
    have kH2 : (w11.alloc (Obj.cells #[Value.bool n1, Value.slice aH xs1.length cH, Value.bool m1, Value.slice bH ys1.length eH] 28)).cell? ⟨w11.heap.size, 2, none⟩ = some (Value.bool m1) := by go_simp
    have kH3 : (w11.alloc (Obj.cells #[Value.bool n1, Value.slice aH xs1.length cH, Value.bool m1, Value.slice bH ys1.length eH] 28)).cell? ⟨w11.heap.size, 3, none⟩ = some (Value.slice bH ys1.length eH) := by go_simp
    have zH : w11.heap.size < (w11.alloc (Obj.cells #[Value.bool n1, Value.slice aH xs1.length cH, Value.bool m1, Value.slice bH ys1.length eH] 28)).heap.size := by simp only [World.size_alloc]; omega
    have hbn := (bl_alloc (bl_refl w11) (Obj.cells #[Value.bool n1, Value.slice aH xs1.length cH, Value.bool m1, Value.slice bH ys1.length eH] 28))
    replace kA0 := (hbn.cell (p := ⟨w1.heap.size, 0, none⟩) zA).trans kA0
    replace kA1 := (hbn.cell (p := ⟨w1.heap.size, 1, none⟩) zA).trans kA1
    replace kA2 := (hbn.cell (p := ⟨w1.heap.size, 2, none⟩) zA).trans kA2
    replace kA3 := (hbn.cell (p := ⟨w1.heap.size, 3, none⟩) zA).trans kA3
    replace zA := Nat.lt_of_lt_of_le zA hbn.size
    replace kB0 := (hbn.cell (p := ⟨w1.heap.size + 1, 0, none⟩) zB).trans kB0
    replace kB1 := (hbn.cell (p := ⟨w1.heap.size + 1, 1, none⟩) zB).trans kB1
    replace kB2 := (hbn.cell (p := ⟨w1.heap.size + 1, 2, none⟩) zB).trans kB2
    replace kB3 := (hbn.cell (p := ⟨w1.heap.size + 1, 3, none⟩) zB).trans kB3
    replace zB := Nat.lt_of_lt_of_le zB hbn.size
    replace kC0 := (hbn.cell (p := ⟨w3.heap.size, 0, none⟩) zC).trans kC0
    replace kC1 := (hbn.cell (p := ⟨w3.heap.size, 1, none⟩) zC).trans kC1
    replace kC2 := (hbn.cell (p := ⟨w3.heap.size, 2, none⟩) zC).trans kC2
    replace kC3 := (hbn.cell (p := ⟨w3.heap.size, 3, none⟩) zC).trans kC3
    replace zC := Nat.lt_of_lt_of_le zC hbn.size
    replace kD0 := (hbn.cell (p := ⟨w5.heap.size, 0, none⟩) zD).trans kD0
    replace kD1 := (hbn.cell (p := ⟨w5.heap.size, 1, none⟩) zD).trans kD1
    replace kD2 := (hbn.cell (p := ⟨w5.heap.size, 2, none⟩) zD).trans kD2
    replace kD3 := (hbn.cell (p := ⟨w5.heap.size, 3, none⟩) zD).trans kD3
    replace zD := Nat.lt_of_lt_of_le zD hbn.size
    replace kE0 := (hbn.cell (p := ⟨w7.heap.size, 0, none⟩) zE).trans kE0
    replace kE1 := (hbn.cell (p := ⟨w7.heap.size, 1, none⟩) zE).trans kE1
    replace kE2 := (hbn.cell (p := ⟨w7.heap.size, 2, none⟩) zE).trans kE2
    replace kE3 := (hbn.cell (p := ⟨w7.heap.size, 3, none⟩) zE).trans kE3
    replace zE := Nat.lt_of_lt_of_le zE hbn.size
    replace kF0 := (hbn.cell (p := ⟨w9.heap.size, 0, none⟩) zF).trans kF0
    replace kF1 := (hbn.cell (p := ⟨w9.heap.size, 1, none⟩) zF).trans kF1
    replace kF2 := (hbn.cell (p := ⟨w9.heap.size, 2, none⟩) zF).trans kF2
    replace kF3 := (hbn.cell (p := ⟨w9.heap.size, 3, none⟩) zF).trans kF3
    replace zF := Nat.lt_of_lt_of_le zF hbn.size
    replace S1 := hide (S1.out.below hbn)
    replace T1 := hide (T1.out.below hbn)
    replace S2 := hide (S2.out.below hbn)
    replace T2 := hide (T2.out.below hbn)
    replace SC := hide (SC.out.below hbn)
    replace TC := hide (TC.out.below hbn)
    replace SD := hide (SD.out.below hbn)
    replace TD := hide (TD.out.below hbn)
    replace SE := hide (SE.out.below hbn)
    replace TE := hide (TE.out.below hbn)
    replace SF := hide (SF.out.below hbn)
    replace TF := hide (TF.out.below hbn)
    replace SH := hide (SH.out.below hbn)
    replace TH := hide (TH.out.below hbn)
    replace HB := hide (bl_trans HB.out hbn)
    clear hbn
    generalize (w11.alloc (Obj.cells #[Value.bool n1, Value.slice aH xs1.length cH, Value.bool m1, Value.slice bH ys1.length eH] 28)) = w12 at *
    go_wp2_with fail
    refine (sameR n1 xs1 m1 ys1 aH cH bH eH a1 c1 b1 e1 _ SH.out TH.out S1.out T1.out).mono ?_
    rintro e w13 ⟨rfl, hb⟩
    have yw13 := hb.size
    replace kA0 := (hb.cell (p := ⟨w1.heap.size, 0, none⟩) zA).trans kA0
    replace kA1 := (hb.cell (p := ⟨w1.heap.size, 1, none⟩) zA).trans kA1
    replace kA2 := (hb.cell (p := ⟨w1.heap.size, 2, none⟩) zA).trans kA2
    replace kA3 := (hb.cell (p := ⟨w1.heap.size, 3, none⟩) zA).trans kA3
    replace zA := Nat.lt_of_lt_of_le zA hb.size
    replace kB0 := (hb.cell (p := ⟨w1.heap.size + 1, 0, none⟩) zB).trans kB0
    replace kB1 := (hb.cell (p := ⟨w1.heap.size + 1, 1, none⟩) zB).trans kB1
    replace kB2 := (hb.cell (p := ⟨w1.heap.size + 1, 2, none⟩) zB).trans kB2
    replace kB3 := (hb.cell (p := ⟨w1.heap.size + 1, 3, none⟩) zB).trans kB3
    replace zB := Nat.lt_of_lt_of_le zB hb.size
    replace kC0 := (hb.cell (p := ⟨w3.heap.size, 0, none⟩) zC).trans kC0
    replace kC1 := (hb.cell (p := ⟨w3.heap.size, 1, none⟩) zC).trans kC1
    replace kC2 := (hb.cell (p := ⟨w3.heap.size, 2, none⟩) zC).trans kC2
    replace kC3 := (hb.cell (p := ⟨w3.heap.size, 3, none⟩) zC).trans kC3
    replace zC := Nat.lt_of_lt_of_le zC hb.size
    replace kD0 := (hb.cell (p := ⟨w5.heap.size, 0, none⟩) zD).trans kD0
    replace kD1 := (hb.cell (p := ⟨w5.heap.size, 1, none⟩) zD).trans kD1
    replace kD2 := (hb.cell (p := ⟨w5.heap.size, 2, none⟩) zD).trans kD2
    replace kD3 := (hb.cell (p := ⟨w5.heap.size, 3, none⟩) zD).trans kD3
    replace zD := Nat.lt_of_lt_of_le zD hb.size
    replace kE0 := (hb.cell (p := ⟨w7.heap.size, 0, none⟩) zE).trans kE0
    replace kE1 := (hb.cell (p := ⟨w7.heap.size, 1, none⟩) zE).trans kE1
    replace kE2 := (hb.cell (p := ⟨w7.heap.size, 2, none⟩) zE).trans kE2
    replace kE3 := (hb.cell (p := ⟨w7.heap.size, 3, none⟩) zE).trans kE3
    replace zE := Nat.lt_of_lt_of_le zE hb.size
    replace kF0 := (hb.cell (p := ⟨w9.heap.size, 0, none⟩) zF).trans kF0
    replace kF1 := (hb.cell (p := ⟨w9.heap.size, 1, none⟩) zF).trans kF1
    replace kF2 := (hb.cell (p := ⟨w9.heap.size, 2, none⟩) zF).trans kF2
    replace kF3 := (hb.cell (p := ⟨w9.heap.size, 3, none⟩) zF).trans kF3
    replace zF := Nat.lt_of_lt_of_le zF hb.size
    replace kH0 := (hb.cell (p := ⟨w11.heap.size, 0, none⟩) zH).trans kH0
    replace kH1 := (hb.cell (p := ⟨w11.heap.size, 1, none⟩) zH).trans kH1
    replace kH2 := (hb.cell (p := ⟨w11.heap.size, 2, none⟩) zH).trans kH2
    replace kH3 := (hb.cell (p := ⟨w11.heap.size, 3, none⟩) zH).trans kH3
    replace zH := Nat.lt_of_lt_of_le zH hb.size
    replace S1 := hide (S1.out.below hb)
    replace T1 := hide (T1.out.below hb)
    replace S2 := hide (S2.out.below hb)
    replace T2 := hide (T2.out.below hb)
    replace SC := hide (SC.out.below hb)
    replace TC := hide (TC.out.below hb)
    replace SD := hide (SD.out.below hb)
    replace TD := hide (TD.out.below hb)
    replace SE := hide (SE.out.below hb)
    replace TE := hide (TE.out.below hb)
    replace SF := hide (SF.out.below hb)
    replace TF := hide (TF.out.below hb)
    replace SH := hide (SH.out.below hb)
    replace TH := hide (TH.out.below hb)
    replace HB := hide (bl_trans HB.out hb)
    clear hb
    go_wp2
    go_ret
    exact ⟨rfl, HB.out⟩
  | true =>
  go_wp2_with fail
  refine (RatSubP (sgn CN) (lms CN) (sgn CD) (lms CD) n2 xs2 m2 ys2 aC cC bC eC a2 c2 b2 e2 _ SC.out TC.out S2.out T2.out).mono ?_
  rintro e w14 ⟨aG, cG, bG, eG, rfl, ho1, ho2, -, hb⟩
  have yw14 := hb.size
  replace kA0 := (hb.cell (p := ⟨w1.heap.size, 0, none⟩) zA).trans kA0
  replace kA1 := (hb.cell (p := ⟨w1.heap.size, 1, none⟩) zA).trans kA1
  replace kA2 := (hb.cell (p := ⟨w1.heap.size, 2, none⟩) zA).trans kA2
  replace kA3 := (hb.cell (p := ⟨w1.heap.size, 3, none⟩) zA).trans kA3
  replace zA := Nat.lt_of_lt_of_le zA hb.size
  replace kB0 := (hb.cell (p := ⟨w1.heap.size + 1, 0, none⟩) zB).trans kB0
  replace kB1 := (hb.cell (p := ⟨w1.heap.size + 1, 1, none⟩) zB).trans kB1
  replace kB2 := (hb.cell (p := ⟨w1.heap.size + 1, 2, none⟩) zB).trans kB2
  replace kB3 := (hb.cell (p := ⟨w1.heap.size + 1, 3, none⟩) zB).trans kB3
  replace zB := Nat.lt_of_lt_of_le zB hb.size
  replace kC0 := (hb.cell (p := ⟨w3.heap.size, 0, none⟩) zC).trans kC0
  replace kC1 := (hb.cell (p := ⟨w3.heap.size, 1, none⟩) zC).trans kC1
  replace kC2 := (hb.cell (p := ⟨w3.heap.size, 2, none⟩) zC).trans kC2
  replace kC3 := (hb.cell (p := ⟨w3.heap.size, 3, none⟩) zC).trans kC3
  replace zC := Nat.lt_of_lt_of_le zC hb.size
  replace kD0 := (hb.cell (p := ⟨w5.heap.size, 0, none⟩) zD).trans kD0
  replace kD1 := (hb.cell (p := ⟨w5.heap.size, 1, none⟩) zD).trans kD1
  replace kD2 := (hb.cell (p := ⟨w5.heap.size, 2, none⟩) zD).trans kD2
  replace kD3 := (hb.cell (p := ⟨w5.heap.size, 3, none⟩) zD).trans kD3
  replace zD := Nat.lt_of_lt_of_le zD hb.size
  replace kE0 := (hb.cell (p := ⟨w7.heap.size, 0, none⟩) zE).trans kE0
  replace kE1 := (hb.cell (p := ⟨w7.heap.size, 1, none⟩) zE).trans kE1
  replace kE2 := (hb.cell (p := ⟨w7.heap.size, 2, none⟩) zE).trans kE2
  replace kE3 := (hb.cell (p := ⟨w7.heap.size, 3, none⟩) zE).trans kE3
  replace zE := Nat.lt_of_lt_of_le zE hb.size
  replace kF0 := (hb.cell (p := ⟨w9.heap.size, 0, none⟩) zF).trans kF0
  replace kF1 := (hb.cell (p := ⟨w9.heap.size, 1, none⟩) zF).trans kF1
  replace kF2 := (hb.cell (p := ⟨w9.heap.size, 2, none⟩) zF).trans kF2
  replace kF3 := (hb.cell (p := ⟨w9.heap.size, 3, none⟩) zF).trans kF3
  replace zF := Nat.lt_of_lt_of_le zF hb.size
  replace S1 := hide (S1.out.below hb)
  replace T1 := hide (T1.out.below hb)
  replace S2 := hide (S2.out.below hb)
  replace T2 := hide (T2.out.below hb)
  replace SC := hide (SC.out.below hb)
  replace TC := hide (TC.out.below hb)
  replace SD := hide (SD.out.below hb)
  replace TD := hide (TD.out.below hb)
  replace SE := hide (SE.out.below hb)
  replace TE := hide (TE.out.below hb)
  replace SF := hide (SF.out.below hb)
  replace TF := hide (TF.out.below hb)
  replace HB := hide (bl_trans HB.out hb)
  clear hb
  obtain ⟨q1, q2, q3, q4, q5⟩ := HBA.out (by trivial)
  rw [q3] at ho1
  rw [q5] at ho2
  rw [q1, q2, q3, q4, q5]
  clear q1 q2 q3 q4 q5 HBA
  have SG := hide ho1.seg
  have TG := hide ho2.seg
  clear ho1 ho2
  go_upto_region 12 with fail
  have yw15 : w14.heap.size + 1 ≤ (w14.alloc (Obj.cells #[Value.bool n1, Value.slice aG xs1.length cG, Value.bool m1, Value.slice bG ys1.length eG] 28)).heap.size := by simp only [World.size_alloc]; omega
  have kG0 : (w14.alloc (Obj.cells #[Value.bool n1, Value.slice aG xs1.length cG, Value.bool m1, Value.slice bG ys1.length eG] 28)).cell? ⟨w14.heap.size, 0, none⟩ = some (Value.bool n1) := by go_simp
  have kG1 : (w14.alloc (Obj.cells #[Value.bool n1, Value.slice aG xs1.length cG, Value.bool m1, Value.slice bG ys1.length eG] 28)).cell? ⟨w14.heap.size, 1, none⟩ = some (Value.slice aG xs1.length cG) := by go_simp
  have kG2 : (w14.alloc (Obj.cells #[Value.bool n1, Value.slice aG xs1.length cG, Value.bool m1, Value.slice bG ys1.length eG] 28)).cell? ⟨w14.heap.size, 2, none⟩ = some (Value.bool m1) := by go_simp
  have kG3 : (w14.alloc (Obj.cells #[Value.bool n1, Value.slice aG xs1.length cG, Value.bool m1, Value.slice bG ys1.length eG] 28)).cell? ⟨w14.heap.size, 3, none⟩ = some (Value.slice bG ys1.length eG) := by go_simp
  have zG : w14.heap.size < (w14.alloc (Obj.cells #[Value.bool n1, Value.slice aG xs1.length cG, Value.bool m1, Value.slice bG ys1.length eG] 28)).heap.size := by simp only [World.size_alloc]; omega
  have hbn := (bl_alloc (bl_refl w14) (Obj.cells #[Value.bool n1, Value.slice aG xs1.length cG, Value.bool m1, Value.slice bG ys1.length eG] 28))
  replace kA0 := (hbn.cell (p := ⟨w1.heap.size, 0, none⟩) zA).trans kA0
  replace kA1 := (hbn.cell (p := ⟨w1.heap.size, 1, none⟩) zA).trans kA1
  replace kA2 := (hbn.cell (p := ⟨w1.heap.size, 2, none⟩) zA).trans kA2
  replace kA3 := (hbn.cell (p := ⟨w1.heap.size, 3, none⟩) zA).trans kA3
  replace zA := Nat.lt_of_lt_of_le zA hbn.size
  replace kB0 := (hbn.cell (p := ⟨w1.heap.size + 1, 0, none⟩) zB).trans kB0
  replace kB1 := (hbn.cell (p := ⟨w1.heap.size + 1, 1, none⟩) zB).trans kB1
  replace kB2 := (hbn.cell (p := ⟨w1.heap.size + 1, 2, none⟩) zB).trans kB2
  replace kB3 := (hbn.cell (p := ⟨w1.heap.size + 1, 3, none⟩) zB).trans kB3
  replace zB := Nat.lt_of_lt_of_le zB hbn.size
  replace kC0 := (hbn.cell (p := ⟨w3.heap.size, 0, none⟩) zC).trans kC0
  replace kC1 := (hbn.cell (p := ⟨w3.heap.size, 1, none⟩) zC).trans kC1
  replace kC2 := (hbn.cell (p := ⟨w3.heap.size, 2, none⟩) zC).trans kC2
  replace kC3 := (hbn.cell (p := ⟨w3.heap.size, 3, none⟩) zC).trans kC3
  replace zC := Nat.lt_of_lt_of_le zC hbn.size
  replace kD0 := (hbn.cell (p := ⟨w5.heap.size, 0, none⟩) zD).trans kD0
  replace kD1 := (hbn.cell (p := ⟨w5.heap.size, 1, none⟩) zD).trans kD1
  replace kD2 := (hbn.cell (p := ⟨w5.heap.size, 2, none⟩) zD).trans kD2
  replace kD3 := (hbn.cell (p := ⟨w5.heap.size, 3, none⟩) zD).trans kD3
  replace zD := Nat.lt_of_lt_of_le zD hbn.size
  replace kE0 := (hbn.cell (p := ⟨w7.heap.size, 0, none⟩) zE).trans kE0
  replace kE1 := (hbn.cell (p := ⟨w7.heap.size, 1, none⟩) zE).trans kE1
  replace kE2 := (hbn.cell (p := ⟨w7.heap.size, 2, none⟩) zE).trans kE2
  replace kE3 := (hbn.cell (p := ⟨w7.heap.size, 3, none⟩) zE).trans kE3
  replace zE := Nat.lt_of_lt_of_le zE hbn.size
  replace kF0 := (hbn.cell (p := ⟨w9.heap.size, 0, none⟩) zF).trans kF0
  replace kF1 := (hbn.cell (p := ⟨w9.heap.size, 1, none⟩) zF).trans kF1
  replace kF2 := (hbn.cell (p := ⟨w9.heap.size, 2, none⟩) zF).trans kF2
  replace kF3 := (hbn.cell (p := ⟨w9.heap.size, 3, none⟩) zF).trans kF3
  replace zF := Nat.lt_of_lt_of_le zF hbn.size
  replace S1 := hide (S1.out.below hbn)
  replace T1 := hide (T1.out.below hbn)
  replace S2 := hide (S2.out.below hbn)
  replace T2 := hide (T2.out.below hbn)
  replace SC := hide (SC.out.below hbn)
  replace TC := hide (TC.out.below hbn)
  replace SD := hide (SD.out.below hbn)
  replace TD := hide (TD.out.below hbn)
  replace SE := hide (SE.out.below hbn)
  replace TE := hide (TE.out.below hbn)
  replace SF := hide (SF.out.below hbn)
  replace TF := hide (TF.out.below hbn)
  replace SG := hide (SG.out.below hbn)
  replace TG := hide (TG.out.below hbn)
  replace HB := hide (bl_trans HB.out hbn)
  clear hbn
  generalize (w14.alloc (Obj.cells #[Value.bool n1, Value.slice aG xs1.length cG, Value.bool m1, Value.slice bG ys1.length eG] 28)) = w15 at *
  go_wp2_with fail
  refine (sameR n1 xs1 m1 ys1 aG cG bG eG a1 c1 b1 e1 _ SG.out TG.out S1.out T1.out).mono ?_
  rintro e w16 ⟨rfl, hb⟩
  have yw16 := hb.size
  replace kA0 := (hb.cell (p := ⟨w1.heap.size, 0, none⟩) zA).trans kA0
  replace kA1 := (hb.cell (p := ⟨w1.heap.size, 1, none⟩) zA).trans kA1
  replace kA2 := (hb.cell (p := ⟨w1.heap.size, 2, none⟩) zA).trans kA2
  replace kA3 := (hb.cell (p := ⟨w1.heap.size, 3, none⟩) zA).trans kA3
  replace zA := Nat.lt_of_lt_of_le zA hb.size
  replace kB0 := (hb.cell (p := ⟨w1.heap.size + 1, 0, none⟩) zB).trans kB0
  replace kB1 := (hb.cell (p := ⟨w1.heap.size + 1, 1, none⟩) zB).trans kB1
  replace kB2 := (hb.cell (p := ⟨w1.heap.size + 1, 2, none⟩) zB).trans kB2
  replace kB3 := (hb.cell (p := ⟨w1.heap.size + 1, 3, none⟩) zB).trans kB3
  replace zB := Nat.lt_of_lt_of_le zB hb.size
  replace kC0 := (hb.cell (p := ⟨w3.heap.size, 0, none⟩) zC).trans kC0
  replace kC1 := (hb.cell (p := ⟨w3.heap.size, 1, none⟩) zC).trans kC1
  replace kC2 := (hb.cell (p := ⟨w3.heap.size, 2, none⟩) zC).trans kC2
  replace kC3 := (hb.cell (p := ⟨w3.heap.size, 3, none⟩) zC).trans kC3
  replace zC := Nat.lt_of_lt_of_le zC hb.size
  replace kD0 := (hb.cell (p := ⟨w5.heap.size, 0, none⟩) zD).trans kD0
  replace kD1 := (hb.cell (p := ⟨w5.heap.size, 1, none⟩) zD).trans kD1
  replace kD2 := (hb.cell (p := ⟨w5.heap.size, 2, none⟩) zD).trans kD2
  replace kD3 := (hb.cell (p := ⟨w5.heap.size, 3, none⟩) zD).trans kD3
  replace zD := Nat.lt_of_lt_of_le zD hb.size
  replace kE0 := (hb.cell (p := ⟨w7.heap.size, 0, none⟩) zE).trans kE0
  replace kE1 := (hb.cell (p := ⟨w7.heap.size, 1, none⟩) zE).trans kE1
  replace kE2 := (hb.cell (p := ⟨w7.heap.size, 2, none⟩) zE).trans kE2
  replace kE3 := (hb.cell (p := ⟨w7.heap.size, 3, none⟩) zE).trans kE3
  replace zE := Nat.lt_of_lt_of_le zE hb.size
  replace kF0 := (hb.cell (p := ⟨w9.heap.size, 0, none⟩) zF).trans kF0
  replace kF1 := (hb.cell (p := ⟨w9.heap.size, 1, none⟩) zF).trans kF1
  replace kF2 := (hb.cell (p := ⟨w9.heap.size, 2, none⟩) zF).trans kF2
  replace kF3 := (hb.cell (p := ⟨w9.heap.size, 3, none⟩) zF).trans kF3
  replace zF := Nat.lt_of_lt_of_le zF hb.size
  replace kG0 := (hb.cell (p := ⟨w14.heap.size, 0, none⟩) zG).trans kG0
  replace kG1 := (hb.cell (p := ⟨w14.heap.size, 1, none⟩) zG).trans kG1
  replace kG2 := (hb.cell (p := ⟨w14.heap.size, 2, none⟩) zG).trans kG2
  replace kG3 := (hb.cell (p := ⟨w14.heap.size, 3, none⟩) zG).trans kG3
  replace zG := Nat.lt_of_lt_of_le zG hb.size
  replace S1 := hide (S1.out.below hb)
  replace T1 := hide (T1.out.below hb)
  replace S2 := hide (S2.out.below hb)
  replace T2 := hide (T2.out.below hb)
  replace SC := hide (SC.out.below hb)
  replace TC := hide (TC.out.below hb)
  replace SD := hide (SD.out.below hb)
  replace TD := hide (TD.out.below hb)
  replace SE := hide (SE.out.below hb)
  replace TE := hide (TE.out.below hb)
  replace SF := hide (SF.out.below hb)
  replace TF := hide (TF.out.below hb)
  replace SG := hide (SG.out.below hb)
  replace TG := hide (TG.out.below hb)
  replace HB := hide (bl_trans HB.out hb)
  clear hb
  go_upto_region 14 with fail
  cases DT with
  | false =>
    go_wp2
    go_ret
    exact ⟨rfl, HB.out⟩
  | true =>
  go_wp2_with fail
  refine (RatMulP (sgn DN) (lms DN) (sgn DD) (lms DD) n2 xs2 m2 ys2 aD cD bD eD a2 c2 b2 e2 _ SD.out TD.out S2.out T2.out).mono ?_
  rintro e w17 ⟨aH, cH, bH, eH, rfl, ho1, ho2, -, hb⟩
  have yw17 := hb.size
  replace kA0 := (hb.cell (p := ⟨w1.heap.size, 0, none⟩) zA).trans kA0
  replace kA1 := (hb.cell (p := ⟨w1.heap.size, 1, none⟩) zA).trans kA1
  replace kA2 := (hb.cell (p := ⟨w1.heap.size, 2, none⟩) zA).trans kA2
  replace kA3 := (hb.cell (p := ⟨w1.heap.size, 3, none⟩) zA).trans kA3
  replace zA := Nat.lt_of_lt_of_le zA hb.size
  replace kB0 := (hb.cell (p := ⟨w1.heap.size + 1, 0, none⟩) zB).trans kB0
  replace kB1 := (hb.cell (p := ⟨w1.heap.size + 1, 1, none⟩) zB).trans kB1
  replace kB2 := (hb.cell (p := ⟨w1.heap.size + 1, 2, none⟩) zB).trans kB2
  replace kB3 := (hb.cell (p := ⟨w1.heap.size + 1, 3, none⟩) zB).trans kB3
  replace zB := Nat.lt_of_lt_of_le zB hb.size
  replace kC0 := (hb.cell (p := ⟨w3.heap.size, 0, none⟩) zC).trans kC0
  replace kC1 := (hb.cell (p := ⟨w3.heap.size, 1, none⟩) zC).trans kC1
  replace kC2 := (hb.cell (p := ⟨w3.heap.size, 2, none⟩) zC).trans kC2
  replace kC3 := (hb.cell (p := ⟨w3.heap.size, 3, none⟩) zC).trans kC3
  replace zC := Nat.lt_of_lt_of_le zC hb.size
  replace kD0 := (hb.cell (p := ⟨w5.heap.size, 0, none⟩) zD).trans kD0
  replace kD1 := (hb.cell (p := ⟨w5.heap.size, 1, none⟩) zD).trans kD1
  replace kD2 := (hb.cell (p := ⟨w5.heap.size, 2, none⟩) zD).trans kD2
  replace kD3 := (hb.cell (p := ⟨w5.heap.size, 3, none⟩) zD).trans kD3
  replace zD := Nat.lt_of_lt_of_le zD hb.size
  replace kE0 := (hb.cell (p := ⟨w7.heap.size, 0, none⟩) zE).trans kE0
  replace kE1 := (hb.cell (p := ⟨w7.heap.size, 1, none⟩) zE).trans kE1
  replace kE2 := (hb.cell (p := ⟨w7.heap.size, 2, none⟩) zE).trans kE2
  replace kE3 := (hb.cell (p := ⟨w7.heap.size, 3, none⟩) zE).trans kE3
  replace zE := Nat.lt_of_lt_of_le zE hb.size
  replace kF0 := (hb.cell (p := ⟨w9.heap.size, 0, none⟩) zF).trans kF0
  replace kF1 := (hb.cell (p := ⟨w9.heap.size, 1, none⟩) zF).trans kF1
  replace kF2 := (hb.cell (p := ⟨w9.heap.size, 2, none⟩) zF).trans kF2
  replace kF3 := (hb.cell (p := ⟨w9.heap.size, 3, none⟩) zF).trans kF3
  replace zF := Nat.lt_of_lt_of_le zF hb.size
  replace kG0 := (hb.cell (p := ⟨w14.heap.size, 0, none⟩) zG).trans kG0
  replace kG1 := (hb.cell (p := ⟨w14.heap.size, 1, none⟩) zG).trans kG1
  replace kG2 := (hb.cell (p := ⟨w14.heap.size, 2, none⟩) zG).trans kG2
  replace kG3 := (hb.cell (p := ⟨w14.heap.size, 3, none⟩) zG).trans kG3
  replace zG := Nat.lt_of_lt_of_le zG hb.size
  replace S1 := hide (S1.out.below hb)
  replace T1 := hide (T1.out.below hb)
  replace S2 := hide (S2.out.below hb)
  replace T2 := hide (T2.out.below hb)
  replace SC := hide (SC.out.below hb)
  replace TC := hide (TC.out.below hb)
  replace SD := hide (SD.out.below hb)
  replace TD := hide (TD.out.below hb)
  replace SE := hide (SE.out.below hb)
  replace TE := hide (TE.out.below hb)
  replace SF := hide (SF.out.below hb)
  replace TF := hide (TF.out.below hb)
  replace SG := hide (SG.out.below hb)
  replace TG := hide (TG.out.below hb)
  replace HB := hide (bl_trans HB.out hb)
  clear hb
  obtain ⟨q1, q2, q3, q4, q5⟩ := HBQ.out (by trivial)
  rw [q3] at ho1
  rw [q5] at ho2
  rw [q1, q2, q3, q4, q5]
  clear q1 q2 q3 q4 q5 HBQ
  have SH := hide ho1.seg
  have TH := hide ho2.seg
  clear ho1 ho2
  go_upto_region 16 with fail
  have yw18 : w17.heap.size + 1 ≤ (w17.alloc (Obj.cells #[Value.bool n1, Value.slice aH xs1.length cH, Value.bool m1, Value.slice bH ys1.length eH] 28)).heap.size := by simp only [World.size_alloc]; omega
  have kH0 : (w17.alloc (Obj.cells #[Value.bool n1, Value.slice aH xs1.length cH, Value.bool m1, Value.slice bH ys1.length eH] 28)).cell? ⟨w17.heap.size, 0, none⟩ = some (Value.bool n1) := by go_simp
  have kH1 : (w17.alloc (Obj.cells #[Value.bool n1, Value.slice aH xs1.length cH, Value.bool m1, Value.slice bH ys1.length eH] 28)).cell? ⟨w17.heap.size, 1, none⟩ = some (Value.slice aH xs1.length cH) := by go_simp
  have kH2 : (w17.alloc (Obj.cells #[Value.bool n1, Value.slice aH xs1.length cH, Value.bool m1, Value.slice bH ys1.length eH] 28)).cell? ⟨w17.heap.size, 2, none⟩ = some (Value.bool m1) := by go_simp
  have kH3 : (w17.alloc (Obj.cells #[Value.bool n1, Value.slice aH xs1.length cH, Value.bool m1, Value.slice bH ys1.length eH] 28)).cell? ⟨w17.heap.size, 3, none⟩ = some (Value.slice bH ys1.length eH) := by go_simp
  have zH : w17.heap.size < (w17.alloc (Obj.cells #[Value.bool n1, Value.slice aH xs1.length cH, Value.bool m1, Value.slice bH ys1.length eH] 28)).heap.size := by simp only [World.size_alloc]; omega
  have hbn := (bl_alloc (bl_refl w17) (Obj.cells #[Value.bool n1, Value.slice aH xs1.length cH, Value.bool m1, Value.slice bH ys1.length eH] 28))
  replace kA0 := (hbn.cell (p := ⟨w1.heap.size, 0, none⟩) zA).trans kA0
  replace kA1 := (hbn.cell (p := ⟨w1.heap.size, 1, none⟩) zA).trans kA1
  replace kA2 := (hbn.cell (p := ⟨w1.heap.size, 2, none⟩) zA).trans kA2
  replace kA3 := (hbn.cell (p := ⟨w1.heap.size, 3, none⟩) zA).trans kA3
  replace zA := Nat.lt_of_lt_of_le zA hbn.size
  replace kB0 := (hbn.cell (p := ⟨w1.heap.size + 1, 0, none⟩) zB).trans kB0
  replace kB1 := (hbn.cell (p := ⟨w1.heap.size + 1, 1, none⟩) zB).trans kB1
  replace kB2 := (hbn.cell (p := ⟨w1.heap.size + 1, 2, none⟩) zB).trans kB2
  replace kB3 := (hbn.cell (p := ⟨w1.heap.size + 1, 3, none⟩) zB).trans kB3
  replace zB := Nat.lt_of_lt_of_le zB hbn.size
  replace kC0 := (hbn.cell (p := ⟨w3.heap.size, 0, none⟩) zC).trans kC0
  replace kC1 := (hbn.cell (p := ⟨w3.heap.size, 1, none⟩) zC).trans kC1
  replace kC2 := (hbn.cell (p := ⟨w3.heap.size, 2, none⟩) zC).trans kC2
  replace kC3 := (hbn.cell (p := ⟨w3.heap.size, 3, none⟩) zC).trans kC3
  replace zC := Nat.lt_of_lt_of_le zC hbn.size
  replace kD0 := (hbn.cell (p := ⟨w5.heap.size, 0, none⟩) zD).trans kD0
  replace kD1 := (hbn.cell (p := ⟨w5.heap.size, 1, none⟩) zD).trans kD1
  replace kD2 := (hbn.cell (p := ⟨w5.heap.size, 2, none⟩) zD).trans kD2
  replace kD3 := (hbn.cell (p := ⟨w5.heap.size, 3, none⟩) zD).trans kD3
  replace zD := Nat.lt_of_lt_of_le zD hbn.size
  replace kE0 := (hbn.cell (p := ⟨w7.heap.size, 0, none⟩) zE).trans kE0
  replace kE1 := (hbn.cell (p := ⟨w7.heap.size, 1, none⟩) zE).trans kE1
  replace kE2 := (hbn.cell (p := ⟨w7.heap.size, 2, none⟩) zE).trans kE2
  replace kE3 := (hbn.cell (p := ⟨w7.heap.size, 3, none⟩) zE).trans kE3
  replace zE := Nat.lt_of_lt_of_le zE hbn.size
  replace kF0 := (hbn.cell (p := ⟨w9.heap.size, 0, none⟩) zF).trans kF0
  replace kF1 := (hbn.cell (p := ⟨w9.heap.size, 1, none⟩) zF).trans kF1
  replace kF2 := (hbn.cell (p := ⟨w9.heap.size, 2, none⟩) zF).trans kF2
  replace kF3 := (hbn.cell (p := ⟨w9.heap.size, 3, none⟩) zF).trans kF3
  replace zF := Nat.lt_of_lt_of_le zF hbn.size
  replace kG0 := (hbn.cell (p := ⟨w14.heap.size, 0, none⟩) zG).trans kG0
  replace kG1 := (hbn.cell (p := ⟨w14.heap.size, 1, none⟩) zG).trans kG1
  replace kG2 := (hbn.cell (p := ⟨w14.heap.size, 2, none⟩) zG).trans kG2
  replace kG3 := (hbn.cell (p := ⟨w14.heap.size, 3, none⟩) zG).trans kG3
  replace zG := Nat.lt_of_lt_of_le zG hbn.size
  replace S1 := hide (S1.out.below hbn)
  replace T1 := hide (T1.out.below hbn)
  replace S2 := hide (S2.out.below hbn)
  replace T2 := hide (T2.out.below hbn)
  replace SC := hide (SC.out.below hbn)
  replace TC := hide (TC.out.below hbn)
  replace SD := hide (SD.out.below hbn)
  replace TD := hide (TD.out.below hbn)
  replace SE := hide (SE.out.below hbn)
  replace TE := hide (TE.out.below hbn)
  replace SF := hide (SF.out.below hbn)
  replace TF := hide (TF.out.below hbn)
  replace SG := hide (SG.out.below hbn)
  replace TG := hide (TG.out.below hbn)
  replace SH := hide (SH.out.below hbn)
  replace TH := hide (TH.out.below hbn)
  replace HB := hide (bl_trans HB.out hbn)
  clear hbn
  generalize (w17.alloc (Obj.cells #[Value.bool n1, Value.slice aH xs1.length cH, Value.bool m1, Value.slice bH ys1.length eH] 28)) = w18 at *
  go_wp2_with fail
  refine (sameR n1 xs1 m1 ys1 aH cH bH eH a1 c1 b1 e1 _ SH.out TH.out S1.out T1.out).mono ?_
  rintro e w19 ⟨rfl, hb⟩
  have yw19 := hb.size
  replace kA0 := (hb.cell (p := ⟨w1.heap.size, 0, none⟩) zA).trans kA0
  replace kA1 := (hb.cell (p := ⟨w1.heap.size, 1, none⟩) zA).trans kA1
  replace kA2 := (hb.cell (p := ⟨w1.heap.size, 2, none⟩) zA).trans kA2
  replace kA3 := (hb.cell (p := ⟨w1.heap.size, 3, none⟩) zA).trans kA3
  replace zA := Nat.lt_of_lt_of_le zA hb.size
  replace kB0 := (hb.cell (p := ⟨w1.heap.size + 1, 0, none⟩) zB).trans kB0
  replace kB1 := (hb.cell (p := ⟨w1.heap.size + 1, 1, none⟩) zB).trans kB1
  replace kB2 := (hb.cell (p := ⟨w1.heap.size + 1, 2, none⟩) zB).trans kB2
  replace kB3 := (hb.cell (p := ⟨w1.heap.size + 1, 3, none⟩) zB).trans kB3
  replace zB := Nat.lt_of_lt_of_le zB hb.size
  replace kC0 := (hb.cell (p := ⟨w3.heap.size, 0, none⟩) zC).trans kC0
  replace kC1 := (hb.cell (p := ⟨w3.heap.size, 1, none⟩) zC).trans kC1
  replace kC2 := (hb.cell (p := ⟨w3.heap.size, 2, none⟩) zC).trans kC2
  replace kC3 := (hb.cell (p := ⟨w3.heap.size, 3, none⟩) zC).trans kC3
  replace zC := Nat.lt_of_lt_of_le zC hb.size
  replace kD0 := (hb.cell (p := ⟨w5.heap.size, 0, none⟩) zD).trans kD0
  replace kD1 := (hb.cell (p := ⟨w5.heap.size, 1, none⟩) zD).trans kD1
  replace kD2 := (hb.cell (p := ⟨w5.heap.size, 2, none⟩) zD).trans kD2
  replace kD3 := (hb.cell (p := ⟨w5.heap.size, 3, none⟩) zD).trans kD3
  replace zD := Nat.lt_of_lt_of_le zD hb.size
  replace kE0 := (hb.cell (p := ⟨w7.heap.size, 0, none⟩) zE).trans kE0
  replace kE1 := (hb.cell (p := ⟨w7.heap.size, 1, none⟩) zE).trans kE1
  replace kE2 := (hb.cell (p := ⟨w7.heap.size, 2, none⟩) zE).trans kE2
  replace kE3 := (hb.cell (p := ⟨w7.heap.size, 3, none⟩) zE).trans kE3
  replace zE := Nat.lt_of_lt_of_le zE hb.size
  replace kF0 := (hb.cell (p := ⟨w9.heap.size, 0, none⟩) zF).trans kF0
  replace kF1 := (hb.cell (p := ⟨w9.heap.size, 1, none⟩) zF).trans kF1
  replace kF2 := (hb.cell (p := ⟨w9.heap.size, 2, none⟩) zF).trans kF2
  replace kF3 := (hb.cell (p := ⟨w9.heap.size, 3, none⟩) zF).trans kF3
  replace zF := Nat.lt_of_lt_of_le zF hb.size
  replace kG0 := (hb.cell (p := ⟨w14.heap.size, 0, none⟩) zG).trans kG0
  replace kG1 := (hb.cell (p := ⟨w14.heap.size, 1, none⟩) zG).trans kG1
  replace kG2 := (hb.cell (p := ⟨w14.heap.size, 2, none⟩) zG).trans kG2
  replace kG3 := (hb.cell (p := ⟨w14.heap.size, 3, none⟩) zG).trans kG3
  replace zG := Nat.lt_of_lt_of_le zG hb.size
  replace kH0 := (hb.cell (p := ⟨w17.heap.size, 0, none⟩) zH).trans kH0
  replace kH1 := (hb.cell (p := ⟨w17.heap.size, 1, none⟩) zH).trans kH1
  replace kH2 := (hb.cell (p := ⟨w17.heap.size, 2, none⟩) zH).trans kH2
  replace kH3 := (hb.cell (p := ⟨w17.heap.size, 3, none⟩) zH).trans kH3
  replace zH := Nat.lt_of_lt_of_le zH hb.size
  replace S1 := hide (S1.out.below hb)
  replace T1 := hide (T1.out.below hb)
  replace S2 := hide (S2.out.below hb)
  replace T2 := hide (T2.out.below hb)
  replace SC := hide (SC.out.below hb)
  replace TC := hide (TC.out.below hb)
  replace SD := hide (SD.out.below hb)
  replace TD := hide (TD.out.below hb)
  replace SE := hide (SE.out.below hb)
  replace TE := hide (TE.out.below hb)
  replace SF := hide (SF.out.below hb)
  replace TF := hide (TF.out.below hb)
  replace SG := hide (SG.out.below hb)
  replace TG := hide (TG.out.below hb)
  replace SH := hide (SH.out.below hb)
  replace TH := hide (TH.out.below hb)
  replace HB := hide (bl_trans HB.out hb)
  clear hb
  go_wp2
  go_ret
  exact ⟨rfl, HB.out⟩

end Go.Proofs.Ytpjckilmbidbgaa
