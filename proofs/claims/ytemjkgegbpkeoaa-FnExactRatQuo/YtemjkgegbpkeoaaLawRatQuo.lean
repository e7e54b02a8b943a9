/- The walk of the exact law of RatQuo. -/
import Derived.Test.YtemjkgegbpkeoaaRTop2
import Derived.Test.YtemjkgegbpkeoaaRRec2
import Derived.Test.YtemjkgegbpkeoaaPk39
import Derived.Test.YtemjkgegbpkeoaaPk18
namespace Go.Proofs.Ytemjkgegbpkeoaa
open Go.RowKit
set_option linter.unusedVariables false

/-- the answer of RatQuo, by the lists of its arguments -/
def rQuoN (n1n : Bool) (xs1n : List Nat) (n1d : Bool) (xs1d : List Nat) (n2n : Bool) (xs2n : List Nat) (n2d : Bool) (xs2d : List Nat) : Int := rtN (ratB n1n xs1n n1d xs1d && ratB n2n xs2n n2d xs2d) (mulZ (mk n1n (Num.nat xs1n)) (mk n2d (Num.nat xs2d))) (mulZ (mk n1d (Num.nat xs1d)) (mk n2n (Num.nat xs2n)))
def rQuoD (n1n : Bool) (xs1n : List Nat) (n1d : Bool) (xs1d : List Nat) (n2n : Bool) (xs2n : List Nat) (n2d : Bool) (xs2d : List Nat) : Int := rtD (ratB n1n xs1n n1d xs1d && ratB n2n xs2n n2d xs2d) (mulZ (mk n1n (Num.nat xs1n)) (mk n2d (Num.nat xs2d))) (mulZ (mk n1d (Num.nat xs1d)) (mk n2n (Num.nat xs2n)))
def rQuoT (n1n : Bool) (xs1n : List Nat) (n1d : Bool) (xs1d : List Nat) (n2n : Bool) (xs2n : List Nat) (n2d : Bool) (xs2d : List Nat) : Bool := rtT (ratB n1n xs1n n1d xs1d && ratB n2n xs2n n2d xs2d) (mulZ (mk n1n (Num.nat xs1n)) (mk n2d (Num.nat xs2d))) (mulZ (mk n1d (Num.nat xs1d)) (mk n2n (Num.nat xs2n)))
theorem RatQuoQ' (n1n : Bool) (xs1n : List Nat) (n1d : Bool) (xs1d : List Nat) (n2n : Bool) (xs2n : List Nat) (n2d : Bool) (xs2d : List Nat) (a1 : Option Addr) (c1 : Nat) (b1 : Option Addr) (e1 : Nat) (a2 : Option Addr) (c2 : Nat) (b2 : Option Addr) (e2 : Nat) (w : World)
    (s1 : Seg w a1 xs1n.length c1 xs1n) (t1 : Seg w b1 xs1d.length e1 xs1d) (s2 : Seg w a2 xs2n.length c2 xs2n) (t2 : Seg w b2 xs2d.length e2 xs2d) :
    Calls Try.prog 25 #[.agg #[.bool n1n, .slice a1 xs1n.length c1, .bool n1d, .slice b1 xs1d.length e1], .agg #[.bool n2n, .slice a2 xs2n.length c2, .bool n2d, .slice b2 xs2d.length e2]] w fun e w' => ∃ a1 c1 a2 c2, e = .returned (.tuple #[.agg #[.bool (sgn (rQuoN n1n xs1n n1d xs1d n2n xs2n n2d xs2d)), .slice a1 (lms (rQuoN n1n xs1n n1d xs1d n2n xs2n n2d xs2d)).length c1, .bool (sgn (rQuoD n1n xs1n n1d xs1d n2n xs2n n2d xs2d)), .slice a2 (lms (rQuoD n1n xs1n n1d xs1d n2n xs2n n2d xs2d)).length c2], .bool (rQuoT n1n xs1n n1d xs1d n2n xs2n n2d xs2d)]) ∧ Own w' w.heap.size a1 (lms (rQuoN n1n xs1n n1d xs1d n2n xs2n n2d xs2d)).length c1 (lms (rQuoN n1n xs1n n1d xs1d n2n xs2n n2d xs2d)) ∧ Own w' w.heap.size a2 (lms (rQuoD n1n xs1n n1d xs1d n2n xs2n n2d xs2d)).length c2 (lms (rQuoD n1n xs1n n1d xs1d n2n xs2n n2d xs2d)) ∧ Apart a1 a2 ∧ Below w.heap.size w w' := RatQuoQ n1n xs1n n1d xs1d n2n xs2n n2d xs2d a1 c1 b1 e1 a2 c2 b2 e2 w s1 t1 s2 t2
theorem RatQuoP' (n1n : Bool) (xs1n : List Nat) (n1d : Bool) (xs1d : List Nat) (n2n : Bool) (xs2n : List Nat) (n2d : Bool) (xs2d : List Nat) (a1 : Option Addr) (c1 : Nat) (b1 : Option Addr) (e1 : Nat) (a2 : Option Addr) (c2 : Nat) (b2 : Option Addr) (e2 : Nat) (w : World)
    (s1 : Seg w a1 xs1n.length c1 xs1n) (t1 : Seg w b1 xs1d.length e1 xs1d) (s2 : Seg w a2 xs2n.length c2 xs2n) (t2 : Seg w b2 xs2d.length e2 xs2d) :
    Calls Try.prog 26 #[.agg #[.bool n1n, .slice a1 xs1n.length c1, .bool n1d, .slice b1 xs1d.length e1], .agg #[.bool n2n, .slice a2 xs2n.length c2, .bool n2d, .slice b2 xs2d.length e2]] w fun e w' => ∃ a1 c1 a2 c2, e = .returned (.tuple #[.agg #[.bool (sgn (rQuoN n1n xs1n n1d xs1d n2n xs2n n2d xs2d)), .slice a1 (lms (rQuoN n1n xs1n n1d xs1d n2n xs2n n2d xs2d)).length c1, .bool (sgn (rQuoD n1n xs1n n1d xs1d n2n xs2n n2d xs2d)), .slice a2 (lms (rQuoD n1n xs1n n1d xs1d n2n xs2n n2d xs2d)).length c2], .bool (rQuoT n1n xs1n n1d xs1d n2n xs2n n2d xs2d)]) ∧ Own w' w.heap.size a1 (lms (rQuoN n1n xs1n n1d xs1d n2n xs2n n2d xs2d)).length c1 (lms (rQuoN n1n xs1n n1d xs1d n2n xs2n n2d xs2d)) ∧ Own w' w.heap.size a2 (lms (rQuoD n1n xs1n n1d xs1d n2n xs2n n2d xs2d)).length c2 (lms (rQuoD n1n xs1n n1d xs1d n2n xs2n n2d xs2d)) ∧ Apart a1 a2 ∧ Below w.heap.size w w' := RatQuoP n1n xs1n n1d xs1d n2n xs2n n2d xs2d a1 c1 b1 e1 a2 c2 b2 e2 w s1 t1 s2 t2

set_option maxHeartbeats 40000000 in
set_option maxRecDepth 20000 in
theorem walk7 (n1n : Bool) (a1n : Option Addr) (c1n : Nat) (xs1n : List Nat) (n1d : Bool) (a1d : Option Addr) (c1d : Nat) (xs1d : List Nat) (n2n : Bool) (a2n : Option Addr) (c2n : Nat) (xs2n : List Nat) (n2d : Bool) (a2d : Option Addr) (c2d : Nat) (xs2d : List Nat) (w : World) (s1n : Seg w a1n xs1n.length c1n xs1n) (s1d : Seg w a1d xs1d.length c1d xs1d) (s2n : Seg w a2n xs2n.length c2n xs2n) (s2d : Seg w a2d xs2d.length c2d xs2d) :
    Calls Try.prog 7 #[Value.agg #[Value.bool n1n, Value.slice a1n xs1n.length c1n, Value.bool n1d, Value.slice a1d xs1d.length c1d], Value.agg #[Value.bool n2n, Value.slice a2n xs2n.length c2n, Value.bool n2d, Value.slice a2d xs2d.length c2d]] w fun e w' => e = .returned (.bool true) ∧ Below w.heap.size w w' := by
  have hL0 : (lms (rQuoN n1n xs1n n1d xs1d n2n xs2n n2d xs2d)).length ≤ 40 := rtN_len _ _ _
  have hL1 : (lms (rQuoD n1n xs1n n1d xs1d n2n xs2n n2d xs2d)).length ≤ 40 := rtD_len _ _ _
  have A1n := hide s1n
  have hn1n := s1n.le
  have A1d := hide s1d
  have hn1d := s1d.le
  have A2n := hide s2n
  have hn2n := s2n.le
  have A2d := hide s2d
  have hn2d := s2d.le
  have k1_0 : ((w.alloc (Obj.cells #[Value.bool n1n, Value.slice a1n xs1n.length c1n, Value.bool n1d, Value.slice a1d xs1d.length c1d] 38)).alloc (Obj.cells #[Value.bool n2n, Value.slice a2n xs2n.length c2n, Value.bool n2d, Value.slice a2d xs2d.length c2d] 38)).cell? ⟨w.heap.size, 0, none⟩ = some (Value.bool n1n) := by go_simp
  have k1_1 : ((w.alloc (Obj.cells #[Value.bool n1n, Value.slice a1n xs1n.length c1n, Value.bool n1d, Value.slice a1d xs1d.length c1d] 38)).alloc (Obj.cells #[Value.bool n2n, Value.slice a2n xs2n.length c2n, Value.bool n2d, Value.slice a2d xs2d.length c2d] 38)).cell? ⟨w.heap.size, 1, none⟩ = some (Value.slice a1n xs1n.length c1n) := by go_simp
  have k1_2 : ((w.alloc (Obj.cells #[Value.bool n1n, Value.slice a1n xs1n.length c1n, Value.bool n1d, Value.slice a1d xs1d.length c1d] 38)).alloc (Obj.cells #[Value.bool n2n, Value.slice a2n xs2n.length c2n, Value.bool n2d, Value.slice a2d xs2d.length c2d] 38)).cell? ⟨w.heap.size, 2, none⟩ = some (Value.bool n1d) := by go_simp
  have k1_3 : ((w.alloc (Obj.cells #[Value.bool n1n, Value.slice a1n xs1n.length c1n, Value.bool n1d, Value.slice a1d xs1d.length c1d] 38)).alloc (Obj.cells #[Value.bool n2n, Value.slice a2n xs2n.length c2n, Value.bool n2d, Value.slice a2d xs2d.length c2d] 38)).cell? ⟨w.heap.size, 3, none⟩ = some (Value.slice a1d xs1d.length c1d) := by go_simp
  have z1 : w.heap.size < ((w.alloc (Obj.cells #[Value.bool n1n, Value.slice a1n xs1n.length c1n, Value.bool n1d, Value.slice a1d xs1d.length c1d] 38)).alloc (Obj.cells #[Value.bool n2n, Value.slice a2n xs2n.length c2n, Value.bool n2d, Value.slice a2d xs2d.length c2d] 38)).heap.size := by simp only [World.size_alloc]; omega
  have k2_0 : ((w.alloc (Obj.cells #[Value.bool n1n, Value.slice a1n xs1n.length c1n, Value.bool n1d, Value.slice a1d xs1d.length c1d] 38)).alloc (Obj.cells #[Value.bool n2n, Value.slice a2n xs2n.length c2n, Value.bool n2d, Value.slice a2d xs2d.length c2d] 38)).cell? ⟨w.heap.size + 1, 0, none⟩ = some (Value.bool n2n) := by go_simp
  have k2_1 : ((w.alloc (Obj.cells #[Value.bool n1n, Value.slice a1n xs1n.length c1n, Value.bool n1d, Value.slice a1d xs1d.length c1d] 38)).alloc (Obj.cells #[Value.bool n2n, Value.slice a2n xs2n.length c2n, Value.bool n2d, Value.slice a2d xs2d.length c2d] 38)).cell? ⟨w.heap.size + 1, 1, none⟩ = some (Value.slice a2n xs2n.length c2n) := by go_simp
  have k2_2 : ((w.alloc (Obj.cells #[Value.bool n1n, Value.slice a1n xs1n.length c1n, Value.bool n1d, Value.slice a1d xs1d.length c1d] 38)).alloc (Obj.cells #[Value.bool n2n, Value.slice a2n xs2n.length c2n, Value.bool n2d, Value.slice a2d xs2d.length c2d] 38)).cell? ⟨w.heap.size + 1, 2, none⟩ = some (Value.bool n2d) := by go_simp
  have k2_3 : ((w.alloc (Obj.cells #[Value.bool n1n, Value.slice a1n xs1n.length c1n, Value.bool n1d, Value.slice a1d xs1d.length c1d] 38)).alloc (Obj.cells #[Value.bool n2n, Value.slice a2n xs2n.length c2n, Value.bool n2d, Value.slice a2d xs2d.length c2d] 38)).cell? ⟨w.heap.size + 1, 3, none⟩ = some (Value.slice a2d xs2d.length c2d) := by go_simp
  have z2 : w.heap.size + 1 < ((w.alloc (Obj.cells #[Value.bool n1n, Value.slice a1n xs1n.length c1n, Value.bool n1d, Value.slice a1d xs1d.length c1d] 38)).alloc (Obj.cells #[Value.bool n2n, Value.slice a2n xs2n.length c2n, Value.bool n2d, Value.slice a2d xs2d.length c2d] 38)).heap.size := by simp only [World.size_alloc]; omega
  have S1n := hide (s1n.below (bl_alloc (bl_alloc (bl_refl w) (Obj.cells #[Value.bool n1n, Value.slice a1n xs1n.length c1n, Value.bool n1d, Value.slice a1d xs1d.length c1d] 38)) (Obj.cells #[Value.bool n2n, Value.slice a2n xs2n.length c2n, Value.bool n2d, Value.slice a2d xs2d.length c2d] 38)))
  clear s1n
  have S1d := hide (s1d.below (bl_alloc (bl_alloc (bl_refl w) (Obj.cells #[Value.bool n1n, Value.slice a1n xs1n.length c1n, Value.bool n1d, Value.slice a1d xs1d.length c1d] 38)) (Obj.cells #[Value.bool n2n, Value.slice a2n xs2n.length c2n, Value.bool n2d, Value.slice a2d xs2d.length c2d] 38)))
  clear s1d
  have S2n := hide (s2n.below (bl_alloc (bl_alloc (bl_refl w) (Obj.cells #[Value.bool n1n, Value.slice a1n xs1n.length c1n, Value.bool n1d, Value.slice a1d xs1d.length c1d] 38)) (Obj.cells #[Value.bool n2n, Value.slice a2n xs2n.length c2n, Value.bool n2d, Value.slice a2d xs2d.length c2d] 38)))
  clear s2n
  have S2d := hide (s2d.below (bl_alloc (bl_alloc (bl_refl w) (Obj.cells #[Value.bool n1n, Value.slice a1n xs1n.length c1n, Value.bool n1d, Value.slice a1d xs1d.length c1d] 38)) (Obj.cells #[Value.bool n2n, Value.slice a2n xs2n.length c2n, Value.bool n2d, Value.slice a2d xs2d.length c2d] 38)))
  clear s2d
  have HB := hide (bl_alloc (bl_alloc (bl_refl w) (Obj.cells #[Value.bool n1n, Value.slice a1n xs1n.length c1n, Value.bool n1d, Value.slice a1d xs1d.length c1d] 38)) (Obj.cells #[Value.bool n2n, Value.slice a2n xs2n.length c2n, Value.bool n2d, Value.slice a2d xs2d.length c2d] 38))
  have y0 : w.heap.size + 2 ≤ ((w.alloc (Obj.cells #[Value.bool n1n, Value.slice a1n xs1n.length c1n, Value.bool n1d, Value.slice a1d xs1d.length c1d] 38)).alloc (Obj.cells #[Value.bool n2n, Value.slice a2n xs2n.length c2n, Value.bool n2d, Value.slice a2d xs2d.length c2d] 38)).heap.size := by simp only [World.size_alloc]; omega
  go_enter Try.func7, Try.ntmps7
  go_wp2_with fail
  generalize ((w.alloc (Obj.cells #[Value.bool n1n, Value.slice a1n xs1n.length c1n, Value.bool n1d, Value.slice a1d xs1d.length c1d] 38)).alloc (Obj.cells #[Value.bool n2n, Value.slice a2n xs2n.length c2n, Value.bool n2d, Value.slice a2d xs2d.length c2d] 38)) = w1 at *
  refine (szR n1n a1n xs1n.length c1n n1d a1d xs1d.length c1d (1048576) _ hn1n hn1d (by omega) (by omega)).mono ?_
  rintro e w2 ⟨rfl, hbw2⟩
  have yw2 := hbw2.size
  replace k1_0 := (hbw2.cell (p := ⟨w.heap.size, 0, none⟩) z1).trans k1_0
  replace k1_1 := (hbw2.cell (p := ⟨w.heap.size, 1, none⟩) z1).trans k1_1
  replace k1_2 := (hbw2.cell (p := ⟨w.heap.size, 2, none⟩) z1).trans k1_2
  replace k1_3 := (hbw2.cell (p := ⟨w.heap.size, 3, none⟩) z1).trans k1_3
  replace z1 := Nat.lt_of_lt_of_le z1 hbw2.size
  replace k2_0 := (hbw2.cell (p := ⟨w.heap.size + 1, 0, none⟩) z2).trans k2_0
  replace k2_1 := (hbw2.cell (p := ⟨w.heap.size + 1, 1, none⟩) z2).trans k2_1
  replace k2_2 := (hbw2.cell (p := ⟨w.heap.size + 1, 2, none⟩) z2).trans k2_2
  replace k2_3 := (hbw2.cell (p := ⟨w.heap.size + 1, 3, none⟩) z2).trans k2_3
  replace z2 := Nat.lt_of_lt_of_le z2 hbw2.size
  replace S1n := hide (S1n.out.below hbw2)
  replace S1d := hide (S1d.out.below hbw2)
  replace S2n := hide (S2n.out.below hbw2)
  replace S2d := hide (S2d.out.below hbw2)
  replace HB := hide (bl_trans HB.out hbw2)
  clear hbw2
  by_cases hbig1n : (1048576 : Int) < (xs1n.length : Int)
  · rw [if_pos hbig1n]
    go_wp2
    go_ret
    exact ⟨rfl, HB.out⟩
  rw [if_neg hbig1n]
  by_cases hbig1d : (1048576 - (xs1n.length : Int) : Int) < (xs1d.length : Int)
  · rw [if_pos hbig1d]
    go_wp2
    go_ret
    exact ⟨rfl, HB.out⟩
  rw [if_neg hbig1d]
  go_wp2_with fail
  refine (szR n2n a2n xs2n.length c2n n2d a2d xs2d.length c2d (1048576 - (xs1n.length : Int) - (xs1d.length : Int)) _ hn2n hn2d (by omega) (by omega)).mono ?_
  rintro e w3 ⟨rfl, hbw3⟩
  have yw3 := hbw3.size
  replace k1_0 := (hbw3.cell (p := ⟨w.heap.size, 0, none⟩) z1).trans k1_0
  replace k1_1 := (hbw3.cell (p := ⟨w.heap.size, 1, none⟩) z1).trans k1_1
  replace k1_2 := (hbw3.cell (p := ⟨w.heap.size, 2, none⟩) z1).trans k1_2
  replace k1_3 := (hbw3.cell (p := ⟨w.heap.size, 3, none⟩) z1).trans k1_3
  replace z1 := Nat.lt_of_lt_of_le z1 hbw3.size
  replace k2_0 := (hbw3.cell (p := ⟨w.heap.size + 1, 0, none⟩) z2).trans k2_0
  replace k2_1 := (hbw3.cell (p := ⟨w.heap.size + 1, 1, none⟩) z2).trans k2_1
  replace k2_2 := (hbw3.cell (p := ⟨w.heap.size + 1, 2, none⟩) z2).trans k2_2
  replace k2_3 := (hbw3.cell (p := ⟨w.heap.size + 1, 3, none⟩) z2).trans k2_3
  replace z2 := Nat.lt_of_lt_of_le z2 hbw3.size
  replace S1n := hide (S1n.out.below hbw3)
  replace S1d := hide (S1d.out.below hbw3)
  replace S2n := hide (S2n.out.below hbw3)
  replace S2d := hide (S2d.out.below hbw3)
  replace HB := hide (bl_trans HB.out hbw3)
  clear hbw3
  by_cases hbig2n : (1048576 - (xs1n.length : Int) - (xs1d.length : Int) : Int) < (xs2n.length : Int)
  · rw [if_pos hbig2n]
    go_wp2
    go_ret
    exact ⟨rfl, HB.out⟩
  rw [if_neg hbig2n]
  by_cases hbig2d : (1048576 - (xs1n.length : Int) - (xs1d.length : Int) - (xs2n.length : Int) : Int) < (xs2d.length : Int)
  · rw [if_pos hbig2d]
    go_wp2
    go_ret
    exact ⟨rfl, HB.out⟩
  rw [if_neg hbig2d]
  go_upto_region 8 with fail
  go_cut [6, 7] (fun s0 t0 wc => ∃ (N0 : Nat) (aW0n : Option Addr) (cW0n : Nat) (aW0d : Option Addr) (cW0d : Nat), s0 = .pointer (some ⟨N0, 0, none⟩) ∧ t0 = .bool (rQuoT n1n xs1n n1d xs1d n2n xs2n n2d xs2d) ∧ Hid (w3.heap.size ≤ N0 ∧ N0 < wc.heap.size ∧ wc.cell? ⟨N0, 0, none⟩ = some (Value.bool (sgn (rQuoN n1n xs1n n1d xs1d n2n xs2n n2d xs2d))) ∧ wc.cell? ⟨N0, 1, none⟩ = some (Value.slice aW0n (lms (rQuoN n1n xs1n n1d xs1d n2n xs2n n2d xs2d)).length cW0n) ∧ wc.cell? ⟨N0, 2, none⟩ = some (Value.bool (sgn (rQuoD n1n xs1n n1d xs1d n2n xs2n n2d xs2d))) ∧ wc.cell? ⟨N0, 3, none⟩ = some (Value.slice aW0d (lms (rQuoD n1n xs1n n1d xs1d n2n xs2n n2d xs2d)).length cW0d) ∧ Seg wc aW0n (lms (rQuoN n1n xs1n n1d xs1d n2n xs2n n2d xs2d)).length cW0n (lms (rQuoN n1n xs1n n1d xs1d n2n xs2n n2d xs2d)) ∧ Seg wc aW0d (lms (rQuoD n1n xs1n n1d xs1d n2n xs2n n2d xs2d)).length cW0d (lms (rQuoD n1n xs1n n1d xs1d n2n xs2n n2d xs2d)) ∧ Below w3.heap.size w3 wc))
  case first =>
    have KP : Hid (∀ w', Below w3.heap.size w3 w' → (w'.cell? ⟨w.heap.size, 0, none⟩ = some (Value.bool n1n) ∧ w'.cell? ⟨w.heap.size, 1, none⟩ = some (Value.slice a1n xs1n.length c1n) ∧ w'.cell? ⟨w.heap.size, 2, none⟩ = some (Value.bool n1d) ∧ w'.cell? ⟨w.heap.size, 3, none⟩ = some (Value.slice a1d xs1d.length c1d) ∧ w'.cell? ⟨w.heap.size + 1, 0, none⟩ = some (Value.bool n2n) ∧ w'.cell? ⟨w.heap.size + 1, 1, none⟩ = some (Value.slice a2n xs2n.length c2n) ∧ w'.cell? ⟨w.heap.size + 1, 2, none⟩ = some (Value.bool n2d) ∧ w'.cell? ⟨w.heap.size + 1, 3, none⟩ = some (Value.slice a2d xs2d.length c2d) ∧ Hid (Below w3.heap.size w3 w'))) := hide (fun w' hb => ⟨(hb.cell (p := ⟨w.heap.size, 0, none⟩) z1).trans k1_0, (hb.cell (p := ⟨w.heap.size, 1, none⟩) z1).trans k1_1, (hb.cell (p := ⟨w.heap.size, 2, none⟩) z1).trans k1_2, (hb.cell (p := ⟨w.heap.size, 3, none⟩) z1).trans k1_3, (hb.cell (p := ⟨w.heap.size + 1, 0, none⟩) z2).trans k2_0, (hb.cell (p := ⟨w.heap.size + 1, 1, none⟩) z2).trans k2_1, (hb.cell (p := ⟨w.heap.size + 1, 2, none⟩) z2).trans k2_2, (hb.cell (p := ⟨w.heap.size + 1, 3, none⟩) z2).trans k2_3, hb⟩)
    go_region_held3 (fun w' => w'.cell? ⟨w.heap.size, 0, none⟩ = some (Value.bool n1n) ∧ w'.cell? ⟨w.heap.size, 1, none⟩ = some (Value.slice a1n xs1n.length c1n) ∧ w'.cell? ⟨w.heap.size, 2, none⟩ = some (Value.bool n1d) ∧ w'.cell? ⟨w.heap.size, 3, none⟩ = some (Value.slice a1d xs1d.length c1d) ∧ w'.cell? ⟨w.heap.size + 1, 0, none⟩ = some (Value.bool n2n) ∧ w'.cell? ⟨w.heap.size + 1, 1, none⟩ = some (Value.slice a2n xs2n.length c2n) ∧ w'.cell? ⟨w.heap.size + 1, 2, none⟩ = some (Value.bool n2d) ∧ w'.cell? ⟨w.heap.size + 1, 3, none⟩ = some (Value.slice a2d xs2d.length c2d) ∧ Hid (Below w3.heap.size w3 w'))
      (first | exact KP.out _ (bl_refl w3).drew | exact KP.out _ bC | exact KP.out _ bB | exact KP.out _ bA | exact KP.out _ (by repeat first | exact bC | exact bB | exact bA | exact (bl_refl w3).drew | exact bl_refl w3 | refine bl_alloc ?_ _ | refine bl_trans ?_ (bl_refl _).drew | refine Below.setCell ?_ (by first | omega | (dsimp only; omega) | (dsimp only; rw [World.size_drew]; omega)) _))
      (first
        | (go_at_call_of 19 (Value.agg #[Value.bool n1n, Value.slice a1n xs1n.length c1n, Value.bool n1d, Value.slice a1d xs1d.length c1d]); refine (toR n1n a1n c1n xs1n n1d a1d c1d xs1d _ (S1n.out.below (Hid.out (And.right (And.right (And.right (And.right (And.right (And.right (And.right (And.right (by assumption))))))))))) (S1d.out.below (Hid.out (And.right (And.right (And.right (And.right (And.right (And.right (And.right (And.right (by assumption))))))))))) (by omega) (by omega)).mono ?_; rintro e wA ⟨aXn, cXn, aXd, cXd, rfl, hoXn, hoXd, hapX, hbA⟩; have bA : Below w3.heap.size w3 wA := bl_trans (Hid.out (And.right (And.right (And.right (And.right (And.right (And.right (And.right (And.right (by assumption)))))))))) hbA; have yA := bA.size; have HXn := hide hoXn.seg; clear hoXn; have HXd := hide hoXd.seg; clear hoXd; clear hapX; (first | have HZa0 := hide (show Zr4 wA w3.heap.size from born4 hbA) | have HZa0 := hide (show Zr4 wA w3.heap.size from born4 (bl_trans (bl_refl (w3.alloc (Obj.cells #[Value.bool false, Value.slice none 0 0, Value.bool false, Value.slice none 0 0] 28))).drew hbA)) | skip); (try have zza0 := HZa0.out.1); clear hbA)
        | (go_at_call_of 19 (Value.agg #[Value.bool n2n, Value.slice a2n xs2n.length c2n, Value.bool n2d, Value.slice a2d xs2d.length c2d]); refine (toR n2n a2n c2n xs2n n2d a2d c2d xs2d _ (S2n.out.below (Hid.out (And.right (And.right (And.right (And.right (And.right (And.right (And.right (And.right (by assumption))))))))))) (S2d.out.below (Hid.out (And.right (And.right (And.right (And.right (And.right (And.right (And.right (And.right (by assumption))))))))))) (by omega) (by omega)).mono ?_; rintro e wB ⟨aYn, cYn, aYd, cYd, rfl, hoYn, hoYd, hapY, hbB⟩; have bB : Below w3.heap.size w3 wB := bl_trans (Hid.out (And.right (And.right (And.right (And.right (And.right (And.right (And.right (And.right (by assumption)))))))))) hbB; have bAB : Below wA.heap.size wA wB := (by first | exact hbB | exact bl_one hbB | exact bl_two hbB); have yB := bAB.size; have HYn := hide hoYn.seg; clear hoYn; have HYd := hide hoYd.seg; clear hoYd; clear hapY; replace HXn := hide (HXn.out.below bAB); replace HXd := hide (HXd.out.below bAB); (try replace HZa0 := hide (HZa0.out.below bAB)); (first | have HZb0 := hide (show Zr4 wB wA.heap.size from born4 hbB) | have HZb0 := hide (show Zr4 wB wA.heap.size from born4 (bl_trans (bl_refl (wA.alloc (Obj.cells #[Value.bool false, Value.slice none 0 0, Value.bool false, Value.slice none 0 0] 28))).drew hbB)) | skip); (try have zzb0 := HZb0.out.1); clear hbB)
        | (go_at_call 25; refine (RatQuoQ' n1n xs1n n1d xs1d n2n xs2n n2d xs2d aXn cXn aXd cXd aYn cYn aYd cYd _ ((HXn.out.below (by first | exact bl_refl _ | exact bl_alloc (bl_refl _) _ | exact bl_alloc (bl_alloc (bl_refl _) _) _))) ((HXd.out.below (by first | exact bl_refl _ | exact bl_alloc (bl_refl _) _ | exact bl_alloc (bl_alloc (bl_refl _) _) _))) ((HYn.out.below (by first | exact bl_refl _ | exact bl_alloc (bl_refl _) _ | exact bl_alloc (bl_alloc (bl_refl _) _) _))) ((HYd.out.below (by first | exact bl_refl _ | exact bl_alloc (bl_refl _) _ | exact bl_alloc (bl_alloc (bl_refl _) _) _)))).mono ?_; rintro e wC ⟨aC0n, cC0n, aC0d, cC0d, rfl, hoC0n, hoC0d, hapC01, hbC⟩; have bBC : Below wB.heap.size wB wC := (by first | exact hbC | exact bl_one hbC | exact bl_two hbC); have bC : Below w3.heap.size w3 wC := bl_trans bB bBC; have yC := bBC.size; have RC0n := hide hoC0n.rgs; clear hoC0n; have RC0d := hide hoC0d.rgs; clear hoC0d; (try replace HZa0 := hide (HZa0.out.below bBC)); (try replace HZb0 := hide (HZb0.out.below bBC)); (first | have HZc0 := hide (show Zr4 wC wB.heap.size from born4 hbC) | have HZc0 := hide (show Zr4 wC wB.heap.size from born4 (bl_trans (bl_refl (wB.alloc (Obj.cells #[Value.bool false, Value.slice none 0 0, Value.bool false, Value.slice none 0 0] 28))).drew hbC)) | skip); (try have Qa0 := HZa0.out); (try obtain ⟨za0, ka0_0, ka0_1, ka0_2, ka0_3, fa0_0, fa0_1, fa0_2, fa0_3⟩ := HZa0.out); (try have Qb0 := HZb0.out); (try obtain ⟨zb0, kb0_0, kb0_1, kb0_2, kb0_3, fb0_0, fb0_1, fb0_2, fb0_3⟩ := HZb0.out); (try have Qc0 := HZc0.out); (try obtain ⟨zc0, kc0_0, kc0_1, kc0_2, kc0_3, fc0_0, fc0_1, fc0_2, fc0_3⟩ := HZc0.out); (try simp only [World.size_drew] at RC0n); (try simp only [World.size_alloc] at RC0n); (try simp only [World.size_drew] at RC0d); (try simp only [World.size_alloc] at RC0d); skip; clear hbC))
    all_goals (go_wp2_with fail; go_meet)
    · exact ⟨_, aC0n, cC0n, aC0d, cC0d, rfl, rfl, hide (res4_b RC0n.out RC0d.out bC)⟩
    · exact ⟨_, aC0n, cC0n, aC0d, cC0d, rfl, rfl, hide (res4_a RC0n.out RC0d.out bC Qc0 (by omega) (by omega) (by omega))⟩
    · exact ⟨_, aC0n, cC0n, aC0d, cC0d, rfl, rfl, hide (res4_a RC0n.out RC0d.out bC Qb0 (by omega) (by omega) (by omega))⟩
    · exact ⟨_, aC0n, cC0n, aC0d, cC0d, rfl, rfl, hide (res4_a RC0n.out RC0d.out bC Qa0 (by omega) (by omega) (by omega))⟩
  case rest =>
  obtain ⟨NW0, aW0n, cW0n, aW0d, cW0d, rfl, rfl, hres⟩ := hcut
  obtain ⟨nW0, mW0, rW0_0, rW0_1, rW0_2, rW0_3, gW0n, gW0d, rB⟩ := hres.out
  clear hres
  rename World => w4
  have yw4 := rB.size
  replace k1_0 := (rB.cell (p := ⟨w.heap.size, 0, none⟩) z1).trans k1_0
  replace k1_1 := (rB.cell (p := ⟨w.heap.size, 1, none⟩) z1).trans k1_1
  replace k1_2 := (rB.cell (p := ⟨w.heap.size, 2, none⟩) z1).trans k1_2
  replace k1_3 := (rB.cell (p := ⟨w.heap.size, 3, none⟩) z1).trans k1_3
  replace z1 := Nat.lt_of_lt_of_le z1 rB.size
  replace k2_0 := (rB.cell (p := ⟨w.heap.size + 1, 0, none⟩) z2).trans k2_0
  replace k2_1 := (rB.cell (p := ⟨w.heap.size + 1, 1, none⟩) z2).trans k2_1
  replace k2_2 := (rB.cell (p := ⟨w.heap.size + 1, 2, none⟩) z2).trans k2_2
  replace k2_3 := (rB.cell (p := ⟨w.heap.size + 1, 3, none⟩) z2).trans k2_3
  replace z2 := Nat.lt_of_lt_of_le z2 rB.size
  replace S1n := hide (S1n.out.below rB)
  replace S1d := hide (S1d.out.below rB)
  replace S2n := hide (S2n.out.below rB)
  replace S2d := hide (S2d.out.below rB)
  replace HB := hide (bl_trans HB.out rB)
  have kW0_0 := rW0_0
  clear rW0_0
  have kW0_1 := rW0_1
  clear rW0_1
  have kW0_2 := rW0_2
  clear rW0_2
  have kW0_3 := rW0_3
  clear rW0_3
  have zW0 := mW0
  have SW0n := hide gW0n
  have AW0n := SW0n
  clear gW0n
  have SW0d := hide gW0d
  have AW0d := SW0d
  clear gW0d
  clear rB
  go_wp2_with fail
  refine (toR n1n a1n c1n xs1n n1d a1d c1d xs1d _ S1n.out S1d.out (by omega) (by omega)).mono ?_
  rintro e w5 ⟨aPn, cPn, aPd, cPd, rfl, hoPn, hoPd, hapP, hbw5⟩
  have yw5 := hbw5.size
  replace k1_0 := (hbw5.cell (p := ⟨w.heap.size, 0, none⟩) z1).trans k1_0
  replace k1_1 := (hbw5.cell (p := ⟨w.heap.size, 1, none⟩) z1).trans k1_1
  replace k1_2 := (hbw5.cell (p := ⟨w.heap.size, 2, none⟩) z1).trans k1_2
  replace k1_3 := (hbw5.cell (p := ⟨w.heap.size, 3, none⟩) z1).trans k1_3
  replace z1 := Nat.lt_of_lt_of_le z1 hbw5.size
  replace k2_0 := (hbw5.cell (p := ⟨w.heap.size + 1, 0, none⟩) z2).trans k2_0
  replace k2_1 := (hbw5.cell (p := ⟨w.heap.size + 1, 1, none⟩) z2).trans k2_1
  replace k2_2 := (hbw5.cell (p := ⟨w.heap.size + 1, 2, none⟩) z2).trans k2_2
  replace k2_3 := (hbw5.cell (p := ⟨w.heap.size + 1, 3, none⟩) z2).trans k2_3
  replace z2 := Nat.lt_of_lt_of_le z2 hbw5.size
  replace kW0_0 := (hbw5.cell (p := ⟨NW0, 0, none⟩) zW0).trans kW0_0
  replace kW0_1 := (hbw5.cell (p := ⟨NW0, 1, none⟩) zW0).trans kW0_1
  replace kW0_2 := (hbw5.cell (p := ⟨NW0, 2, none⟩) zW0).trans kW0_2
  replace kW0_3 := (hbw5.cell (p := ⟨NW0, 3, none⟩) zW0).trans kW0_3
  replace zW0 := Nat.lt_of_lt_of_le zW0 hbw5.size
  replace S1n := hide (S1n.out.below hbw5)
  replace S1d := hide (S1d.out.below hbw5)
  replace S2n := hide (S2n.out.below hbw5)
  replace S2d := hide (S2d.out.below hbw5)
  replace SW0n := hide (SW0n.out.below hbw5)
  replace SW0d := hide (SW0d.out.below hbw5)
  replace HB := hide (bl_trans HB.out hbw5)
  clear hbw5
  have oPn : ∀ k, (Value.slice aPn xs1n.length cPn).ownBlock = some k → w4.heap.size ≤ k ∧ k < w5.heap.size := fun k e => hoPn.1.lt k e
  have HPn := hide hoPn
  clear hoPn
  have oPd : ∀ k, (Value.slice aPd xs1d.length cPd).ownBlock = some k → w4.heap.size ≤ k ∧ k < w5.heap.size := fun k e => hoPd.1.lt k e
  have HPd := hide hoPd
  clear hoPd
  have HAPP := hide hapP
  clear hapP
  go_wp2_with fail
  have kP_0 : (w5.alloc (Obj.cells #[Value.bool n1n, Value.slice aPn xs1n.length cPn, Value.bool n1d, Value.slice aPd xs1d.length cPd] 28)).cell? ⟨w5.heap.size, 0, none⟩ = some (Value.bool n1n) := by go_simp
  have kP_1 : (w5.alloc (Obj.cells #[Value.bool n1n, Value.slice aPn xs1n.length cPn, Value.bool n1d, Value.slice aPd xs1d.length cPd] 28)).cell? ⟨w5.heap.size, 1, none⟩ = some (Value.slice aPn xs1n.length cPn) := by go_simp
  have kP_2 : (w5.alloc (Obj.cells #[Value.bool n1n, Value.slice aPn xs1n.length cPn, Value.bool n1d, Value.slice aPd xs1d.length cPd] 28)).cell? ⟨w5.heap.size, 2, none⟩ = some (Value.bool n1d) := by go_simp
  have kP_3 : (w5.alloc (Obj.cells #[Value.bool n1n, Value.slice aPn xs1n.length cPn, Value.bool n1d, Value.slice aPd xs1d.length cPd] 28)).cell? ⟨w5.heap.size, 3, none⟩ = some (Value.slice aPd xs1d.length cPd) := by go_simp
  have zP : w5.heap.size < (w5.alloc (Obj.cells #[Value.bool n1n, Value.slice aPn xs1n.length cPn, Value.bool n1d, Value.slice aPd xs1d.length cPd] 28)).heap.size := by simp only [World.size_alloc]; omega
  have yw6 : w5.heap.size + 1 ≤ (w5.alloc (Obj.cells #[Value.bool n1n, Value.slice aPn xs1n.length cPn, Value.bool n1d, Value.slice aPd xs1d.length cPd] 28)).heap.size := by simp only [World.size_alloc]; omega
  have hbw6 := (bl_alloc (bl_refl w5) (Obj.cells #[Value.bool n1n, Value.slice aPn xs1n.length cPn, Value.bool n1d, Value.slice aPd xs1d.length cPd] 28))
  generalize (w5.alloc (Obj.cells #[Value.bool n1n, Value.slice aPn xs1n.length cPn, Value.bool n1d, Value.slice aPd xs1d.length cPd] 28)) = w6 at *
  replace k1_0 := (hbw6.cell (p := ⟨w.heap.size, 0, none⟩) z1).trans k1_0
  replace k1_1 := (hbw6.cell (p := ⟨w.heap.size, 1, none⟩) z1).trans k1_1
  replace k1_2 := (hbw6.cell (p := ⟨w.heap.size, 2, none⟩) z1).trans k1_2
  replace k1_3 := (hbw6.cell (p := ⟨w.heap.size, 3, none⟩) z1).trans k1_3
  replace z1 := Nat.lt_of_lt_of_le z1 hbw6.size
  replace k2_0 := (hbw6.cell (p := ⟨w.heap.size + 1, 0, none⟩) z2).trans k2_0
  replace k2_1 := (hbw6.cell (p := ⟨w.heap.size + 1, 1, none⟩) z2).trans k2_1
  replace k2_2 := (hbw6.cell (p := ⟨w.heap.size + 1, 2, none⟩) z2).trans k2_2
  replace k2_3 := (hbw6.cell (p := ⟨w.heap.size + 1, 3, none⟩) z2).trans k2_3
  replace z2 := Nat.lt_of_lt_of_le z2 hbw6.size
  replace kW0_0 := (hbw6.cell (p := ⟨NW0, 0, none⟩) zW0).trans kW0_0
  replace kW0_1 := (hbw6.cell (p := ⟨NW0, 1, none⟩) zW0).trans kW0_1
  replace kW0_2 := (hbw6.cell (p := ⟨NW0, 2, none⟩) zW0).trans kW0_2
  replace kW0_3 := (hbw6.cell (p := ⟨NW0, 3, none⟩) zW0).trans kW0_3
  replace zW0 := Nat.lt_of_lt_of_le zW0 hbw6.size
  replace S1n := hide (S1n.out.below hbw6)
  replace S1d := hide (S1d.out.below hbw6)
  replace S2n := hide (S2n.out.below hbw6)
  replace S2d := hide (S2d.out.below hbw6)
  replace SW0n := hide (SW0n.out.below hbw6)
  replace SW0d := hide (SW0d.out.below hbw6)
  replace HPn := hide (HPn.out.below hbw6)
  replace HPd := hide (HPd.out.below hbw6)
  replace HB := hide (bl_trans HB.out hbw6)
  clear hbw6
  refine (toR n2n a2n c2n xs2n n2d a2d c2d xs2d _ S2n.out S2d.out (by omega) (by omega)).mono ?_
  rintro e w7 ⟨aQn, cQn, aQd, cQd, rfl, hoQn, hoQd, hapQ, hbw7⟩
  have yw7 := hbw7.size
  replace k1_0 := (hbw7.cell (p := ⟨w.heap.size, 0, none⟩) z1).trans k1_0
  replace k1_1 := (hbw7.cell (p := ⟨w.heap.size, 1, none⟩) z1).trans k1_1
  replace k1_2 := (hbw7.cell (p := ⟨w.heap.size, 2, none⟩) z1).trans k1_2
  replace k1_3 := (hbw7.cell (p := ⟨w.heap.size, 3, none⟩) z1).trans k1_3
  replace z1 := Nat.lt_of_lt_of_le z1 hbw7.size
  replace k2_0 := (hbw7.cell (p := ⟨w.heap.size + 1, 0, none⟩) z2).trans k2_0
  replace k2_1 := (hbw7.cell (p := ⟨w.heap.size + 1, 1, none⟩) z2).trans k2_1
  replace k2_2 := (hbw7.cell (p := ⟨w.heap.size + 1, 2, none⟩) z2).trans k2_2
  replace k2_3 := (hbw7.cell (p := ⟨w.heap.size + 1, 3, none⟩) z2).trans k2_3
  replace z2 := Nat.lt_of_lt_of_le z2 hbw7.size
  replace kW0_0 := (hbw7.cell (p := ⟨NW0, 0, none⟩) zW0).trans kW0_0
  replace kW0_1 := (hbw7.cell (p := ⟨NW0, 1, none⟩) zW0).trans kW0_1
  replace kW0_2 := (hbw7.cell (p := ⟨NW0, 2, none⟩) zW0).trans kW0_2
  replace kW0_3 := (hbw7.cell (p := ⟨NW0, 3, none⟩) zW0).trans kW0_3
  replace zW0 := Nat.lt_of_lt_of_le zW0 hbw7.size
  replace kP_0 := (hbw7.cell (p := ⟨w5.heap.size, 0, none⟩) zP).trans kP_0
  replace kP_1 := (hbw7.cell (p := ⟨w5.heap.size, 1, none⟩) zP).trans kP_1
  replace kP_2 := (hbw7.cell (p := ⟨w5.heap.size, 2, none⟩) zP).trans kP_2
  replace kP_3 := (hbw7.cell (p := ⟨w5.heap.size, 3, none⟩) zP).trans kP_3
  replace zP := Nat.lt_of_lt_of_le zP hbw7.size
  replace S1n := hide (S1n.out.below hbw7)
  replace S1d := hide (S1d.out.below hbw7)
  replace S2n := hide (S2n.out.below hbw7)
  replace S2d := hide (S2d.out.below hbw7)
  replace SW0n := hide (SW0n.out.below hbw7)
  replace SW0d := hide (SW0d.out.below hbw7)
  replace HPn := hide (HPn.out.below hbw7)
  replace HPd := hide (HPd.out.below hbw7)
  replace HB := hide (bl_trans HB.out hbw7)
  clear hbw7
  have oQn : ∀ k, (Value.slice aQn xs2n.length cQn).ownBlock = some k → w6.heap.size ≤ k ∧ k < w7.heap.size := fun k e => hoQn.1.lt k e
  have HQn := hide hoQn
  clear hoQn
  have oQd : ∀ k, (Value.slice aQd xs2d.length cQd).ownBlock = some k → w6.heap.size ≤ k ∧ k < w7.heap.size := fun k e => hoQd.1.lt k e
  have HQd := hide hoQd
  clear hoQd
  have HAPQ := hide hapQ
  clear hapQ
  go_wp2_with fail
  have kQ_0 : (w7.alloc (Obj.cells #[Value.bool n2n, Value.slice aQn xs2n.length cQn, Value.bool n2d, Value.slice aQd xs2d.length cQd] 28)).cell? ⟨w7.heap.size, 0, none⟩ = some (Value.bool n2n) := by go_simp
  have kQ_1 : (w7.alloc (Obj.cells #[Value.bool n2n, Value.slice aQn xs2n.length cQn, Value.bool n2d, Value.slice aQd xs2d.length cQd] 28)).cell? ⟨w7.heap.size, 1, none⟩ = some (Value.slice aQn xs2n.length cQn) := by go_simp
  have kQ_2 : (w7.alloc (Obj.cells #[Value.bool n2n, Value.slice aQn xs2n.length cQn, Value.bool n2d, Value.slice aQd xs2d.length cQd] 28)).cell? ⟨w7.heap.size, 2, none⟩ = some (Value.bool n2d) := by go_simp
  have kQ_3 : (w7.alloc (Obj.cells #[Value.bool n2n, Value.slice aQn xs2n.length cQn, Value.bool n2d, Value.slice aQd xs2d.length cQd] 28)).cell? ⟨w7.heap.size, 3, none⟩ = some (Value.slice aQd xs2d.length cQd) := by go_simp
  have zQ : w7.heap.size < (w7.alloc (Obj.cells #[Value.bool n2n, Value.slice aQn xs2n.length cQn, Value.bool n2d, Value.slice aQd xs2d.length cQd] 28)).heap.size := by simp only [World.size_alloc]; omega
  have yw8 : w7.heap.size + 1 ≤ (w7.alloc (Obj.cells #[Value.bool n2n, Value.slice aQn xs2n.length cQn, Value.bool n2d, Value.slice aQd xs2d.length cQd] 28)).heap.size := by simp only [World.size_alloc]; omega
  have hbw8 := (bl_alloc (bl_refl w7) (Obj.cells #[Value.bool n2n, Value.slice aQn xs2n.length cQn, Value.bool n2d, Value.slice aQd xs2d.length cQd] 28))
  generalize (w7.alloc (Obj.cells #[Value.bool n2n, Value.slice aQn xs2n.length cQn, Value.bool n2d, Value.slice aQd xs2d.length cQd] 28)) = w8 at *
  replace k1_0 := (hbw8.cell (p := ⟨w.heap.size, 0, none⟩) z1).trans k1_0
  replace k1_1 := (hbw8.cell (p := ⟨w.heap.size, 1, none⟩) z1).trans k1_1
  replace k1_2 := (hbw8.cell (p := ⟨w.heap.size, 2, none⟩) z1).trans k1_2
  replace k1_3 := (hbw8.cell (p := ⟨w.heap.size, 3, none⟩) z1).trans k1_3
  replace z1 := Nat.lt_of_lt_of_le z1 hbw8.size
  replace k2_0 := (hbw8.cell (p := ⟨w.heap.size + 1, 0, none⟩) z2).trans k2_0
  replace k2_1 := (hbw8.cell (p := ⟨w.heap.size + 1, 1, none⟩) z2).trans k2_1
  replace k2_2 := (hbw8.cell (p := ⟨w.heap.size + 1, 2, none⟩) z2).trans k2_2
  replace k2_3 := (hbw8.cell (p := ⟨w.heap.size + 1, 3, none⟩) z2).trans k2_3
  replace z2 := Nat.lt_of_lt_of_le z2 hbw8.size
  replace kW0_0 := (hbw8.cell (p := ⟨NW0, 0, none⟩) zW0).trans kW0_0
  replace kW0_1 := (hbw8.cell (p := ⟨NW0, 1, none⟩) zW0).trans kW0_1
  replace kW0_2 := (hbw8.cell (p := ⟨NW0, 2, none⟩) zW0).trans kW0_2
  replace kW0_3 := (hbw8.cell (p := ⟨NW0, 3, none⟩) zW0).trans kW0_3
  replace zW0 := Nat.lt_of_lt_of_le zW0 hbw8.size
  replace kP_0 := (hbw8.cell (p := ⟨w5.heap.size, 0, none⟩) zP).trans kP_0
  replace kP_1 := (hbw8.cell (p := ⟨w5.heap.size, 1, none⟩) zP).trans kP_1
  replace kP_2 := (hbw8.cell (p := ⟨w5.heap.size, 2, none⟩) zP).trans kP_2
  replace kP_3 := (hbw8.cell (p := ⟨w5.heap.size, 3, none⟩) zP).trans kP_3
  replace zP := Nat.lt_of_lt_of_le zP hbw8.size
  replace S1n := hide (S1n.out.below hbw8)
  replace S1d := hide (S1d.out.below hbw8)
  replace S2n := hide (S2n.out.below hbw8)
  replace S2d := hide (S2d.out.below hbw8)
  replace SW0n := hide (SW0n.out.below hbw8)
  replace SW0d := hide (SW0d.out.below hbw8)
  replace HPn := hide (HPn.out.below hbw8)
  replace HPd := hide (HPd.out.below hbw8)
  replace HQn := hide (HQn.out.below hbw8)
  replace HQd := hide (HQd.out.below hbw8)
  replace HB := hide (bl_trans HB.out hbw8)
  clear hbw8
  refine (RatQuoP' n1n xs1n n1d xs1d n2n xs2n n2d xs2d aPn cPn aPd cPd aQn cQn aQd cQd _ (HPn.out.seg) (HPd.out.seg) (HQn.out.seg) (HQd.out.seg)).mono ?_
  rintro e w9 ⟨aG0n, cG0n, aG0d, cG0d, rfl, hoG0n, hoG0d, hapG01, hbw9⟩
  have yw9 := hbw9.size
  replace k1_0 := (hbw9.cell (p := ⟨w.heap.size, 0, none⟩) z1).trans k1_0
  replace k1_1 := (hbw9.cell (p := ⟨w.heap.size, 1, none⟩) z1).trans k1_1
  replace k1_2 := (hbw9.cell (p := ⟨w.heap.size, 2, none⟩) z1).trans k1_2
  replace k1_3 := (hbw9.cell (p := ⟨w.heap.size, 3, none⟩) z1).trans k1_3
  replace z1 := Nat.lt_of_lt_of_le z1 hbw9.size
  replace k2_0 := (hbw9.cell (p := ⟨w.heap.size + 1, 0, none⟩) z2).trans k2_0
  replace k2_1 := (hbw9.cell (p := ⟨w.heap.size + 1, 1, none⟩) z2).trans k2_1
  replace k2_2 := (hbw9.cell (p := ⟨w.heap.size + 1, 2, none⟩) z2).trans k2_2
  replace k2_3 := (hbw9.cell (p := ⟨w.heap.size + 1, 3, none⟩) z2).trans k2_3
  replace z2 := Nat.lt_of_lt_of_le z2 hbw9.size
  replace kW0_0 := (hbw9.cell (p := ⟨NW0, 0, none⟩) zW0).trans kW0_0
  replace kW0_1 := (hbw9.cell (p := ⟨NW0, 1, none⟩) zW0).trans kW0_1
  replace kW0_2 := (hbw9.cell (p := ⟨NW0, 2, none⟩) zW0).trans kW0_2
  replace kW0_3 := (hbw9.cell (p := ⟨NW0, 3, none⟩) zW0).trans kW0_3
  replace zW0 := Nat.lt_of_lt_of_le zW0 hbw9.size
  replace kP_0 := (hbw9.cell (p := ⟨w5.heap.size, 0, none⟩) zP).trans kP_0
  replace kP_1 := (hbw9.cell (p := ⟨w5.heap.size, 1, none⟩) zP).trans kP_1
  replace kP_2 := (hbw9.cell (p := ⟨w5.heap.size, 2, none⟩) zP).trans kP_2
  replace kP_3 := (hbw9.cell (p := ⟨w5.heap.size, 3, none⟩) zP).trans kP_3
  replace zP := Nat.lt_of_lt_of_le zP hbw9.size
  replace kQ_0 := (hbw9.cell (p := ⟨w7.heap.size, 0, none⟩) zQ).trans kQ_0
  replace kQ_1 := (hbw9.cell (p := ⟨w7.heap.size, 1, none⟩) zQ).trans kQ_1
  replace kQ_2 := (hbw9.cell (p := ⟨w7.heap.size, 2, none⟩) zQ).trans kQ_2
  replace kQ_3 := (hbw9.cell (p := ⟨w7.heap.size, 3, none⟩) zQ).trans kQ_3
  replace zQ := Nat.lt_of_lt_of_le zQ hbw9.size
  replace S1n := hide (S1n.out.below hbw9)
  replace S1d := hide (S1d.out.below hbw9)
  replace S2n := hide (S2n.out.below hbw9)
  replace S2d := hide (S2d.out.below hbw9)
  replace SW0n := hide (SW0n.out.below hbw9)
  replace SW0d := hide (SW0d.out.below hbw9)
  replace HPn := hide (HPn.out.below hbw9)
  replace HPd := hide (HPd.out.below hbw9)
  replace HQn := hide (HQn.out.below hbw9)
  replace HQd := hide (HQd.out.below hbw9)
  replace HB := hide (bl_trans HB.out hbw9)
  clear hbw9
  have oG0n : ∀ k, (Value.slice aG0n (lms (rQuoN n1n xs1n n1d xs1d n2n xs2n n2d xs2d)).length cG0n).ownBlock = some k → w8.heap.size ≤ k ∧ k < w9.heap.size := fun k e => hoG0n.1.lt k e
  have HG0n := hide hoG0n
  clear hoG0n
  have oG0d : ∀ k, (Value.slice aG0d (lms (rQuoD n1n xs1n n1d xs1d n2n xs2n n2d xs2d)).length cG0d).ownBlock = some k → w8.heap.size ≤ k ∧ k < w9.heap.size := fun k e => hoG0d.1.lt k e
  have HG0d := hide hoG0d
  clear hoG0d
  have HAPG01 := hide hapG01
  clear hapG01
  go_wp2_with fail
  have kG0_0 : (w9.alloc (Obj.cells #[Value.bool (sgn (rQuoN n1n xs1n n1d xs1d n2n xs2n n2d xs2d)), Value.slice aG0n (lms (rQuoN n1n xs1n n1d xs1d n2n xs2n n2d xs2d)).length cG0n, Value.bool (sgn (rQuoD n1n xs1n n1d xs1d n2n xs2n n2d xs2d)), Value.slice aG0d (lms (rQuoD n1n xs1n n1d xs1d n2n xs2n n2d xs2d)).length cG0d] 28)).cell? ⟨w9.heap.size, 0, none⟩ = some (Value.bool (sgn (rQuoN n1n xs1n n1d xs1d n2n xs2n n2d xs2d))) := by go_simp
  have kG0_1 : (w9.alloc (Obj.cells #[Value.bool (sgn (rQuoN n1n xs1n n1d xs1d n2n xs2n n2d xs2d)), Value.slice aG0n (lms (rQuoN n1n xs1n n1d xs1d n2n xs2n n2d xs2d)).length cG0n, Value.bool (sgn (rQuoD n1n xs1n n1d xs1d n2n xs2n n2d xs2d)), Value.slice aG0d (lms (rQuoD n1n xs1n n1d xs1d n2n xs2n n2d xs2d)).length cG0d] 28)).cell? ⟨w9.heap.size, 1, none⟩ = some (Value.slice aG0n (lms (rQuoN n1n xs1n n1d xs1d n2n xs2n n2d xs2d)).length cG0n) := by go_simp
  have kG0_2 : (w9.alloc (Obj.cells #[Value.bool (sgn (rQuoN n1n xs1n n1d xs1d n2n xs2n n2d xs2d)), Value.slice aG0n (lms (rQuoN n1n xs1n n1d xs1d n2n xs2n n2d xs2d)).length cG0n, Value.bool (sgn (rQuoD n1n xs1n n1d xs1d n2n xs2n n2d xs2d)), Value.slice aG0d (lms (rQuoD n1n xs1n n1d xs1d n2n xs2n n2d xs2d)).length cG0d] 28)).cell? ⟨w9.heap.size, 2, none⟩ = some (Value.bool (sgn (rQuoD n1n xs1n n1d xs1d n2n xs2n n2d xs2d))) := by go_simp
  have kG0_3 : (w9.alloc (Obj.cells #[Value.bool (sgn (rQuoN n1n xs1n n1d xs1d n2n xs2n n2d xs2d)), Value.slice aG0n (lms (rQuoN n1n xs1n n1d xs1d n2n xs2n n2d xs2d)).length cG0n, Value.bool (sgn (rQuoD n1n xs1n n1d xs1d n2n xs2n n2d xs2d)), Value.slice aG0d (lms (rQuoD n1n xs1n n1d xs1d n2n xs2n n2d xs2d)).length cG0d] 28)).cell? ⟨w9.heap.size, 3, none⟩ = some (Value.slice aG0d (lms (rQuoD n1n xs1n n1d xs1d n2n xs2n n2d xs2d)).length cG0d) := by go_simp
  have zG0 : w9.heap.size < (w9.alloc (Obj.cells #[Value.bool (sgn (rQuoN n1n xs1n n1d xs1d n2n xs2n n2d xs2d)), Value.slice aG0n (lms (rQuoN n1n xs1n n1d xs1d n2n xs2n n2d xs2d)).length cG0n, Value.bool (sgn (rQuoD n1n xs1n n1d xs1d n2n xs2n n2d xs2d)), Value.slice aG0d (lms (rQuoD n1n xs1n n1d xs1d n2n xs2n n2d xs2d)).length cG0d] 28)).heap.size := by simp only [World.size_alloc]; omega
  have yw10 : w9.heap.size + 1 ≤ (w9.alloc (Obj.cells #[Value.bool (sgn (rQuoN n1n xs1n n1d xs1d n2n xs2n n2d xs2d)), Value.slice aG0n (lms (rQuoN n1n xs1n n1d xs1d n2n xs2n n2d xs2d)).length cG0n, Value.bool (sgn (rQuoD n1n xs1n n1d xs1d n2n xs2n n2d xs2d)), Value.slice aG0d (lms (rQuoD n1n xs1n n1d xs1d n2n xs2n n2d xs2d)).length cG0d] 28)).heap.size := by simp only [World.size_alloc]; omega
  have hbw10 := (bl_alloc (bl_refl w9) (Obj.cells #[Value.bool (sgn (rQuoN n1n xs1n n1d xs1d n2n xs2n n2d xs2d)), Value.slice aG0n (lms (rQuoN n1n xs1n n1d xs1d n2n xs2n n2d xs2d)).length cG0n, Value.bool (sgn (rQuoD n1n xs1n n1d xs1d n2n xs2n n2d xs2d)), Value.slice aG0d (lms (rQuoD n1n xs1n n1d xs1d n2n xs2n n2d xs2d)).length cG0d] 28))
  generalize (w9.alloc (Obj.cells #[Value.bool (sgn (rQuoN n1n xs1n n1d xs1d n2n xs2n n2d xs2d)), Value.slice aG0n (lms (rQuoN n1n xs1n n1d xs1d n2n xs2n n2d xs2d)).length cG0n, Value.bool (sgn (rQuoD n1n xs1n n1d xs1d n2n xs2n n2d xs2d)), Value.slice aG0d (lms (rQuoD n1n xs1n n1d xs1d n2n xs2n n2d xs2d)).length cG0d] 28)) = w10 at *
  replace k1_0 := (hbw10.cell (p := ⟨w.heap.size, 0, none⟩) z1).trans k1_0
  replace k1_1 := (hbw10.cell (p := ⟨w.heap.size, 1, none⟩) z1).trans k1_1
  replace k1_2 := (hbw10.cell (p := ⟨w.heap.size, 2, none⟩) z1).trans k1_2
  replace k1_3 := (hbw10.cell (p := ⟨w.heap.size, 3, none⟩) z1).trans k1_3
  replace z1 := Nat.lt_of_lt_of_le z1 hbw10.size
  replace k2_0 := (hbw10.cell (p := ⟨w.heap.size + 1, 0, none⟩) z2).trans k2_0
  replace k2_1 := (hbw10.cell (p := ⟨w.heap.size + 1, 1, none⟩) z2).trans k2_1
  replace k2_2 := (hbw10.cell (p := ⟨w.heap.size + 1, 2, none⟩) z2).trans k2_2
  replace k2_3 := (hbw10.cell (p := ⟨w.heap.size + 1, 3, none⟩) z2).trans k2_3
  replace z2 := Nat.lt_of_lt_of_le z2 hbw10.size
  replace kW0_0 := (hbw10.cell (p := ⟨NW0, 0, none⟩) zW0).trans kW0_0
  replace kW0_1 := (hbw10.cell (p := ⟨NW0, 1, none⟩) zW0).trans kW0_1
  replace kW0_2 := (hbw10.cell (p := ⟨NW0, 2, none⟩) zW0).trans kW0_2
  replace kW0_3 := (hbw10.cell (p := ⟨NW0, 3, none⟩) zW0).trans kW0_3
  replace zW0 := Nat.lt_of_lt_of_le zW0 hbw10.size
  replace kP_0 := (hbw10.cell (p := ⟨w5.heap.size, 0, none⟩) zP).trans kP_0
  replace kP_1 := (hbw10.cell (p := ⟨w5.heap.size, 1, none⟩) zP).trans kP_1
  replace kP_2 := (hbw10.cell (p := ⟨w5.heap.size, 2, none⟩) zP).trans kP_2
  replace kP_3 := (hbw10.cell (p := ⟨w5.heap.size, 3, none⟩) zP).trans kP_3
  replace zP := Nat.lt_of_lt_of_le zP hbw10.size
  replace kQ_0 := (hbw10.cell (p := ⟨w7.heap.size, 0, none⟩) zQ).trans kQ_0
  replace kQ_1 := (hbw10.cell (p := ⟨w7.heap.size, 1, none⟩) zQ).trans kQ_1
  replace kQ_2 := (hbw10.cell (p := ⟨w7.heap.size, 2, none⟩) zQ).trans kQ_2
  replace kQ_3 := (hbw10.cell (p := ⟨w7.heap.size, 3, none⟩) zQ).trans kQ_3
  replace zQ := Nat.lt_of_lt_of_le zQ hbw10.size
  replace S1n := hide (S1n.out.below hbw10)
  replace S1d := hide (S1d.out.below hbw10)
  replace S2n := hide (S2n.out.below hbw10)
  replace S2d := hide (S2d.out.below hbw10)
  replace SW0n := hide (SW0n.out.below hbw10)
  replace SW0d := hide (SW0d.out.below hbw10)
  replace HPn := hide (HPn.out.below hbw10)
  replace HPd := hide (HPd.out.below hbw10)
  replace HQn := hide (HQn.out.below hbw10)
  replace HQd := hide (HQd.out.below hbw10)
  replace HG0n := hide (HG0n.out.below hbw10)
  replace HG0d := hide (HG0d.out.below hbw10)
  replace HB := hide (bl_trans HB.out hbw10)
  clear hbw10
  refine (eqR (sgn (rQuoN n1n xs1n n1d xs1d n2n xs2n n2d xs2d)) (lms (rQuoN n1n xs1n n1d xs1d n2n xs2n n2d xs2d)) (sgn (rQuoD n1n xs1n n1d xs1d n2n xs2n n2d xs2d)) (lms (rQuoD n1n xs1n n1d xs1d n2n xs2n n2d xs2d)) aG0n cG0n aG0d cG0d aW0n cW0n aW0d cW0d _ (HG0n.out.seg) (HG0d.out.seg) (SW0n.out) (SW0d.out)).mono ?_
  rintro e w11 ⟨rfl, hbw11⟩
  have yw11 := hbw11.size
  replace k1_0 := (hbw11.cell (p := ⟨w.heap.size, 0, none⟩) z1).trans k1_0
  replace k1_1 := (hbw11.cell (p := ⟨w.heap.size, 1, none⟩) z1).trans k1_1
  replace k1_2 := (hbw11.cell (p := ⟨w.heap.size, 2, none⟩) z1).trans k1_2
  replace k1_3 := (hbw11.cell (p := ⟨w.heap.size, 3, none⟩) z1).trans k1_3
  replace z1 := Nat.lt_of_lt_of_le z1 hbw11.size
  replace k2_0 := (hbw11.cell (p := ⟨w.heap.size + 1, 0, none⟩) z2).trans k2_0
  replace k2_1 := (hbw11.cell (p := ⟨w.heap.size + 1, 1, none⟩) z2).trans k2_1
  replace k2_2 := (hbw11.cell (p := ⟨w.heap.size + 1, 2, none⟩) z2).trans k2_2
  replace k2_3 := (hbw11.cell (p := ⟨w.heap.size + 1, 3, none⟩) z2).trans k2_3
  replace z2 := Nat.lt_of_lt_of_le z2 hbw11.size
  replace kW0_0 := (hbw11.cell (p := ⟨NW0, 0, none⟩) zW0).trans kW0_0
  replace kW0_1 := (hbw11.cell (p := ⟨NW0, 1, none⟩) zW0).trans kW0_1
  replace kW0_2 := (hbw11.cell (p := ⟨NW0, 2, none⟩) zW0).trans kW0_2
  replace kW0_3 := (hbw11.cell (p := ⟨NW0, 3, none⟩) zW0).trans kW0_3
  replace zW0 := Nat.lt_of_lt_of_le zW0 hbw11.size
  replace kP_0 := (hbw11.cell (p := ⟨w5.heap.size, 0, none⟩) zP).trans kP_0
  replace kP_1 := (hbw11.cell (p := ⟨w5.heap.size, 1, none⟩) zP).trans kP_1
  replace kP_2 := (hbw11.cell (p := ⟨w5.heap.size, 2, none⟩) zP).trans kP_2
  replace kP_3 := (hbw11.cell (p := ⟨w5.heap.size, 3, none⟩) zP).trans kP_3
  replace zP := Nat.lt_of_lt_of_le zP hbw11.size
  replace kQ_0 := (hbw11.cell (p := ⟨w7.heap.size, 0, none⟩) zQ).trans kQ_0
  replace kQ_1 := (hbw11.cell (p := ⟨w7.heap.size, 1, none⟩) zQ).trans kQ_1
  replace kQ_2 := (hbw11.cell (p := ⟨w7.heap.size, 2, none⟩) zQ).trans kQ_2
  replace kQ_3 := (hbw11.cell (p := ⟨w7.heap.size, 3, none⟩) zQ).trans kQ_3
  replace zQ := Nat.lt_of_lt_of_le zQ hbw11.size
  replace kG0_0 := (hbw11.cell (p := ⟨w9.heap.size, 0, none⟩) zG0).trans kG0_0
  replace kG0_1 := (hbw11.cell (p := ⟨w9.heap.size, 1, none⟩) zG0).trans kG0_1
  replace kG0_2 := (hbw11.cell (p := ⟨w9.heap.size, 2, none⟩) zG0).trans kG0_2
  replace kG0_3 := (hbw11.cell (p := ⟨w9.heap.size, 3, none⟩) zG0).trans kG0_3
  replace zG0 := Nat.lt_of_lt_of_le zG0 hbw11.size
  replace S1n := hide (S1n.out.below hbw11)
  replace S1d := hide (S1d.out.below hbw11)
  replace S2n := hide (S2n.out.below hbw11)
  replace S2d := hide (S2d.out.below hbw11)
  replace SW0n := hide (SW0n.out.below hbw11)
  replace SW0d := hide (SW0d.out.below hbw11)
  replace HPn := hide (HPn.out.below hbw11)
  replace HPd := hide (HPd.out.below hbw11)
  replace HQn := hide (HQn.out.below hbw11)
  replace HQd := hide (HQd.out.below hbw11)
  replace HG0n := hide (HG0n.out.below hbw11)
  replace HG0d := hide (HG0d.out.below hbw11)
  replace HB := hide (bl_trans HB.out hbw11)
  clear hbw11
  go_wp2_with fail
  have KP : Hid (∀ w', Below w11.heap.size w11 w' → (w'.cell? ⟨w.heap.size, 0, none⟩ = some (Value.bool n1n) ∧ w'.cell? ⟨w.heap.size, 1, none⟩ = some (Value.slice a1n xs1n.length c1n) ∧ w'.cell? ⟨w.heap.size, 2, none⟩ = some (Value.bool n1d) ∧ w'.cell? ⟨w.heap.size, 3, none⟩ = some (Value.slice a1d xs1d.length c1d) ∧ w'.cell? ⟨w5.heap.size, 0, none⟩ = some (Value.bool n1n) ∧ w'.cell? ⟨w5.heap.size, 1, none⟩ = some (Value.slice aPn xs1n.length cPn) ∧ w'.cell? ⟨w5.heap.size, 2, none⟩ = some (Value.bool n1d) ∧ w'.cell? ⟨w5.heap.size, 3, none⟩ = some (Value.slice aPd xs1d.length cPd))) := hide (fun w' hb => ⟨(hb.cell (p := ⟨w.heap.size, 0, none⟩) z1).trans k1_0, (hb.cell (p := ⟨w.heap.size, 1, none⟩) z1).trans k1_1, (hb.cell (p := ⟨w.heap.size, 2, none⟩) z1).trans k1_2, (hb.cell (p := ⟨w.heap.size, 3, none⟩) z1).trans k1_3, (hb.cell (p := ⟨w5.heap.size, 0, none⟩) zP).trans kP_0, (hb.cell (p := ⟨w5.heap.size, 1, none⟩) zP).trans kP_1, (hb.cell (p := ⟨w5.heap.size, 2, none⟩) zP).trans kP_2, (hb.cell (p := ⟨w5.heap.size, 3, none⟩) zP).trans kP_3⟩)
  go_region_held3 (fun w' => w'.cell? ⟨w.heap.size, 0, none⟩ = some (Value.bool n1n) ∧ w'.cell? ⟨w.heap.size, 1, none⟩ = some (Value.slice a1n xs1n.length c1n) ∧ w'.cell? ⟨w.heap.size, 2, none⟩ = some (Value.bool n1d) ∧ w'.cell? ⟨w.heap.size, 3, none⟩ = some (Value.slice a1d xs1d.length c1d) ∧ w'.cell? ⟨w5.heap.size, 0, none⟩ = some (Value.bool n1n) ∧ w'.cell? ⟨w5.heap.size, 1, none⟩ = some (Value.slice aPn xs1n.length cPn) ∧ w'.cell? ⟨w5.heap.size, 2, none⟩ = some (Value.bool n1d) ∧ w'.cell? ⟨w5.heap.size, 3, none⟩ = some (Value.slice aPd xs1d.length cPd))
    (first | exact KP.out _ (bl_refl w11).drew | exact KP.out _ hbw13 | exact KP.out _ hbw12)
    (first
      | (go_at_call_of 19 (Value.agg #[Value.bool n1n, Value.slice a1n xs1n.length c1n, Value.bool n1d, Value.slice a1d xs1d.length c1d]); refine (toR n1n a1n c1n xs1n n1d a1d c1d xs1d _ (S1n.out.below ((bl_refl w11).drew)) (S1d.out.below ((bl_refl w11).drew)) (by omega) (by omega)).mono ?_; rintro e w12 ⟨ux, cx, uy, cy, rfl, hox, hoy, hapu, hbw12r⟩; have hbw12 : Below w11.heap.size w11 w12 := (bl_refl w11).drew.trans hbw12r)
      | (go_at_call 12; refine (eqR n1n xs1n n1d xs1d aPn cPn aPd cPd ux cx uy cy _ (HPn.out.seg.below hbw12) (HPd.out.seg.below hbw12) hox.seg hoy.seg).mono ?_; rintro e w13 ⟨rfl, hbw13r⟩; have hbw13 : Below w11.heap.size w11 w13 := bl_trans hbw12 hbw13r))
  clear KP
  have yw13 := hbw13.size
  replace k1_0 := (hbw13.cell (p := ⟨w.heap.size, 0, none⟩) z1).trans k1_0
  replace k1_1 := (hbw13.cell (p := ⟨w.heap.size, 1, none⟩) z1).trans k1_1
  replace k1_2 := (hbw13.cell (p := ⟨w.heap.size, 2, none⟩) z1).trans k1_2
  replace k1_3 := (hbw13.cell (p := ⟨w.heap.size, 3, none⟩) z1).trans k1_3
  replace z1 := Nat.lt_of_lt_of_le z1 hbw13.size
  replace k2_0 := (hbw13.cell (p := ⟨w.heap.size + 1, 0, none⟩) z2).trans k2_0
  replace k2_1 := (hbw13.cell (p := ⟨w.heap.size + 1, 1, none⟩) z2).trans k2_1
  replace k2_2 := (hbw13.cell (p := ⟨w.heap.size + 1, 2, none⟩) z2).trans k2_2
  replace k2_3 := (hbw13.cell (p := ⟨w.heap.size + 1, 3, none⟩) z2).trans k2_3
  replace z2 := Nat.lt_of_lt_of_le z2 hbw13.size
  replace kW0_0 := (hbw13.cell (p := ⟨NW0, 0, none⟩) zW0).trans kW0_0
  replace kW0_1 := (hbw13.cell (p := ⟨NW0, 1, none⟩) zW0).trans kW0_1
  replace kW0_2 := (hbw13.cell (p := ⟨NW0, 2, none⟩) zW0).trans kW0_2
  replace kW0_3 := (hbw13.cell (p := ⟨NW0, 3, none⟩) zW0).trans kW0_3
  replace zW0 := Nat.lt_of_lt_of_le zW0 hbw13.size
  replace kP_0 := (hbw13.cell (p := ⟨w5.heap.size, 0, none⟩) zP).trans kP_0
  replace kP_1 := (hbw13.cell (p := ⟨w5.heap.size, 1, none⟩) zP).trans kP_1
  replace kP_2 := (hbw13.cell (p := ⟨w5.heap.size, 2, none⟩) zP).trans kP_2
  replace kP_3 := (hbw13.cell (p := ⟨w5.heap.size, 3, none⟩) zP).trans kP_3
  replace zP := Nat.lt_of_lt_of_le zP hbw13.size
  replace kQ_0 := (hbw13.cell (p := ⟨w7.heap.size, 0, none⟩) zQ).trans kQ_0
  replace kQ_1 := (hbw13.cell (p := ⟨w7.heap.size, 1, none⟩) zQ).trans kQ_1
  replace kQ_2 := (hbw13.cell (p := ⟨w7.heap.size, 2, none⟩) zQ).trans kQ_2
  replace kQ_3 := (hbw13.cell (p := ⟨w7.heap.size, 3, none⟩) zQ).trans kQ_3
  replace zQ := Nat.lt_of_lt_of_le zQ hbw13.size
  replace kG0_0 := (hbw13.cell (p := ⟨w9.heap.size, 0, none⟩) zG0).trans kG0_0
  replace kG0_1 := (hbw13.cell (p := ⟨w9.heap.size, 1, none⟩) zG0).trans kG0_1
  replace kG0_2 := (hbw13.cell (p := ⟨w9.heap.size, 2, none⟩) zG0).trans kG0_2
  replace kG0_3 := (hbw13.cell (p := ⟨w9.heap.size, 3, none⟩) zG0).trans kG0_3
  replace zG0 := Nat.lt_of_lt_of_le zG0 hbw13.size
  replace S1n := hide (S1n.out.below hbw13)
  replace S1d := hide (S1d.out.below hbw13)
  replace S2n := hide (S2n.out.below hbw13)
  replace S2d := hide (S2d.out.below hbw13)
  replace SW0n := hide (SW0n.out.below hbw13)
  replace SW0d := hide (SW0d.out.below hbw13)
  replace HPn := hide (HPn.out.below hbw13)
  replace HPd := hide (HPd.out.below hbw13)
  replace HQn := hide (HQn.out.below hbw13)
  replace HQd := hide (HQd.out.below hbw13)
  replace HG0n := hide (HG0n.out.below hbw13)
  replace HG0d := hide (HG0d.out.below hbw13)
  replace HB := hide (bl_trans HB.out hbw13)
  clear hbw12 hbw12r hbw13 hbw13r hox hoy hapu
  go_wp2_with fail
  have KP : Hid (∀ w', Below w13.heap.size w13 w' → (w'.cell? ⟨w.heap.size + 1, 0, none⟩ = some (Value.bool n2n) ∧ w'.cell? ⟨w.heap.size + 1, 1, none⟩ = some (Value.slice a2n xs2n.length c2n) ∧ w'.cell? ⟨w.heap.size + 1, 2, none⟩ = some (Value.bool n2d) ∧ w'.cell? ⟨w.heap.size + 1, 3, none⟩ = some (Value.slice a2d xs2d.length c2d) ∧ w'.cell? ⟨w7.heap.size, 0, none⟩ = some (Value.bool n2n) ∧ w'.cell? ⟨w7.heap.size, 1, none⟩ = some (Value.slice aQn xs2n.length cQn) ∧ w'.cell? ⟨w7.heap.size, 2, none⟩ = some (Value.bool n2d) ∧ w'.cell? ⟨w7.heap.size, 3, none⟩ = some (Value.slice aQd xs2d.length cQd))) := hide (fun w' hb => ⟨(hb.cell (p := ⟨w.heap.size + 1, 0, none⟩) z2).trans k2_0, (hb.cell (p := ⟨w.heap.size + 1, 1, none⟩) z2).trans k2_1, (hb.cell (p := ⟨w.heap.size + 1, 2, none⟩) z2).trans k2_2, (hb.cell (p := ⟨w.heap.size + 1, 3, none⟩) z2).trans k2_3, (hb.cell (p := ⟨w7.heap.size, 0, none⟩) zQ).trans kQ_0, (hb.cell (p := ⟨w7.heap.size, 1, none⟩) zQ).trans kQ_1, (hb.cell (p := ⟨w7.heap.size, 2, none⟩) zQ).trans kQ_2, (hb.cell (p := ⟨w7.heap.size, 3, none⟩) zQ).trans kQ_3⟩)
  go_region_held3 (fun w' => w'.cell? ⟨w.heap.size + 1, 0, none⟩ = some (Value.bool n2n) ∧ w'.cell? ⟨w.heap.size + 1, 1, none⟩ = some (Value.slice a2n xs2n.length c2n) ∧ w'.cell? ⟨w.heap.size + 1, 2, none⟩ = some (Value.bool n2d) ∧ w'.cell? ⟨w.heap.size + 1, 3, none⟩ = some (Value.slice a2d xs2d.length c2d) ∧ w'.cell? ⟨w7.heap.size, 0, none⟩ = some (Value.bool n2n) ∧ w'.cell? ⟨w7.heap.size, 1, none⟩ = some (Value.slice aQn xs2n.length cQn) ∧ w'.cell? ⟨w7.heap.size, 2, none⟩ = some (Value.bool n2d) ∧ w'.cell? ⟨w7.heap.size, 3, none⟩ = some (Value.slice aQd xs2d.length cQd))
    (first | exact KP.out _ (bl_refl w13).drew | exact KP.out _ hbw15 | exact KP.out _ hbw14)
    (first
      | (go_at_call_of 19 (Value.agg #[Value.bool n2n, Value.slice a2n xs2n.length c2n, Value.bool n2d, Value.slice a2d xs2d.length c2d]); refine (toR n2n a2n c2n xs2n n2d a2d c2d xs2d _ (S2n.out.below ((bl_refl w13).drew)) (S2d.out.below ((bl_refl w13).drew)) (by omega) (by omega)).mono ?_; rintro e w14 ⟨ux, cx, uy, cy, rfl, hox, hoy, hapu, hbw14r⟩; have hbw14 : Below w13.heap.size w13 w14 := (bl_refl w13).drew.trans hbw14r)
      | (go_at_call 12; refine (eqR n2n xs2n n2d xs2d aQn cQn aQd cQd ux cx uy cy _ (HQn.out.seg.below hbw14) (HQd.out.seg.below hbw14) hox.seg hoy.seg).mono ?_; rintro e w15 ⟨rfl, hbw15r⟩; have hbw15 : Below w13.heap.size w13 w15 := bl_trans hbw14 hbw15r))
  clear KP
  have yw15 := hbw15.size
  replace k1_0 := (hbw15.cell (p := ⟨w.heap.size, 0, none⟩) z1).trans k1_0
  replace k1_1 := (hbw15.cell (p := ⟨w.heap.size, 1, none⟩) z1).trans k1_1
  replace k1_2 := (hbw15.cell (p := ⟨w.heap.size, 2, none⟩) z1).trans k1_2
  replace k1_3 := (hbw15.cell (p := ⟨w.heap.size, 3, none⟩) z1).trans k1_3
  replace z1 := Nat.lt_of_lt_of_le z1 hbw15.size
  replace k2_0 := (hbw15.cell (p := ⟨w.heap.size + 1, 0, none⟩) z2).trans k2_0
  replace k2_1 := (hbw15.cell (p := ⟨w.heap.size + 1, 1, none⟩) z2).trans k2_1
  replace k2_2 := (hbw15.cell (p := ⟨w.heap.size + 1, 2, none⟩) z2).trans k2_2
  replace k2_3 := (hbw15.cell (p := ⟨w.heap.size + 1, 3, none⟩) z2).trans k2_3
  replace z2 := Nat.lt_of_lt_of_le z2 hbw15.size
  replace kW0_0 := (hbw15.cell (p := ⟨NW0, 0, none⟩) zW0).trans kW0_0
  replace kW0_1 := (hbw15.cell (p := ⟨NW0, 1, none⟩) zW0).trans kW0_1
  replace kW0_2 := (hbw15.cell (p := ⟨NW0, 2, none⟩) zW0).trans kW0_2
  replace kW0_3 := (hbw15.cell (p := ⟨NW0, 3, none⟩) zW0).trans kW0_3
  replace zW0 := Nat.lt_of_lt_of_le zW0 hbw15.size
  replace kP_0 := (hbw15.cell (p := ⟨w5.heap.size, 0, none⟩) zP).trans kP_0
  replace kP_1 := (hbw15.cell (p := ⟨w5.heap.size, 1, none⟩) zP).trans kP_1
  replace kP_2 := (hbw15.cell (p := ⟨w5.heap.size, 2, none⟩) zP).trans kP_2
  replace kP_3 := (hbw15.cell (p := ⟨w5.heap.size, 3, none⟩) zP).trans kP_3
  replace zP := Nat.lt_of_lt_of_le zP hbw15.size
  replace kQ_0 := (hbw15.cell (p := ⟨w7.heap.size, 0, none⟩) zQ).trans kQ_0
  replace kQ_1 := (hbw15.cell (p := ⟨w7.heap.size, 1, none⟩) zQ).trans kQ_1
  replace kQ_2 := (hbw15.cell (p := ⟨w7.heap.size, 2, none⟩) zQ).trans kQ_2
  replace kQ_3 := (hbw15.cell (p := ⟨w7.heap.size, 3, none⟩) zQ).trans kQ_3
  replace zQ := Nat.lt_of_lt_of_le zQ hbw15.size
  replace kG0_0 := (hbw15.cell (p := ⟨w9.heap.size, 0, none⟩) zG0).trans kG0_0
  replace kG0_1 := (hbw15.cell (p := ⟨w9.heap.size, 1, none⟩) zG0).trans kG0_1
  replace kG0_2 := (hbw15.cell (p := ⟨w9.heap.size, 2, none⟩) zG0).trans kG0_2
  replace kG0_3 := (hbw15.cell (p := ⟨w9.heap.size, 3, none⟩) zG0).trans kG0_3
  replace zG0 := Nat.lt_of_lt_of_le zG0 hbw15.size
  replace S1n := hide (S1n.out.below hbw15)
  replace S1d := hide (S1d.out.below hbw15)
  replace S2n := hide (S2n.out.below hbw15)
  replace S2d := hide (S2d.out.below hbw15)
  replace SW0n := hide (SW0n.out.below hbw15)
  replace SW0d := hide (SW0d.out.below hbw15)
  replace HPn := hide (HPn.out.below hbw15)
  replace HPd := hide (HPd.out.below hbw15)
  replace HQn := hide (HQn.out.below hbw15)
  replace HQd := hide (HQd.out.below hbw15)
  replace HG0n := hide (HG0n.out.below hbw15)
  replace HG0d := hide (HG0d.out.below hbw15)
  replace HB := hide (bl_trans HB.out hbw15)
  clear hbw14 hbw14r hbw15 hbw15r hox hoy hapu
  go_wp2_with fail
  refine (markR n1n aPn xs1n.length cPn _ _ n1d aPd xs1d.length cPd _ _ (0) (1) _ (by omega) (by omega) HPn.out HPd.out HAPP.out).mono ?_
  rintro e w17 ⟨rfl, hm, hm2, w16, hg, hg2⟩
  have yw16 := hg.size
  replace k1_0 := hg.cell k1_0 (fun e => by have := oPn _ e.symm; dsimp only at this; omega)
  replace k1_1 := hg.cell k1_1 (fun e => by have := oPn _ e.symm; dsimp only at this; omega)
  replace k1_2 := hg.cell k1_2 (fun e => by have := oPn _ e.symm; dsimp only at this; omega)
  replace k1_3 := hg.cell k1_3 (fun e => by have := oPn _ e.symm; dsimp only at this; omega)
  replace z1 := Nat.lt_of_lt_of_le z1 yw16
  replace k2_0 := hg.cell k2_0 (fun e => by have := oPn _ e.symm; dsimp only at this; omega)
  replace k2_1 := hg.cell k2_1 (fun e => by have := oPn _ e.symm; dsimp only at this; omega)
  replace k2_2 := hg.cell k2_2 (fun e => by have := oPn _ e.symm; dsimp only at this; omega)
  replace k2_3 := hg.cell k2_3 (fun e => by have := oPn _ e.symm; dsimp only at this; omega)
  replace z2 := Nat.lt_of_lt_of_le z2 yw16
  replace kW0_0 := hg.cell kW0_0 (fun e => by have := oPn _ e.symm; dsimp only at this; omega)
  replace kW0_1 := hg.cell kW0_1 (fun e => by have := oPn _ e.symm; dsimp only at this; omega)
  replace kW0_2 := hg.cell kW0_2 (fun e => by have := oPn _ e.symm; dsimp only at this; omega)
  replace kW0_3 := hg.cell kW0_3 (fun e => by have := oPn _ e.symm; dsimp only at this; omega)
  replace zW0 := Nat.lt_of_lt_of_le zW0 yw16
  replace kP_0 := hg.cell kP_0 (fun e => by have := oPn _ e.symm; dsimp only at this; omega)
  replace kP_1 := hg.cell kP_1 (fun e => by have := oPn _ e.symm; dsimp only at this; omega)
  replace kP_2 := hg.cell kP_2 (fun e => by have := oPn _ e.symm; dsimp only at this; omega)
  replace kP_3 := hg.cell kP_3 (fun e => by have := oPn _ e.symm; dsimp only at this; omega)
  replace zP := Nat.lt_of_lt_of_le zP yw16
  replace kQ_0 := hg.cell kQ_0 (fun e => by have := oPn _ e.symm; dsimp only at this; omega)
  replace kQ_1 := hg.cell kQ_1 (fun e => by have := oPn _ e.symm; dsimp only at this; omega)
  replace kQ_2 := hg.cell kQ_2 (fun e => by have := oPn _ e.symm; dsimp only at this; omega)
  replace kQ_3 := hg.cell kQ_3 (fun e => by have := oPn _ e.symm; dsimp only at this; omega)
  replace zQ := Nat.lt_of_lt_of_le zQ yw16
  replace kG0_0 := hg.cell kG0_0 (fun e => by have := oPn _ e.symm; dsimp only at this; omega)
  replace kG0_1 := hg.cell kG0_1 (fun e => by have := oPn _ e.symm; dsimp only at this; omega)
  replace kG0_2 := hg.cell kG0_2 (fun e => by have := oPn _ e.symm; dsimp only at this; omega)
  replace kG0_3 := hg.cell kG0_3 (fun e => by have := oPn _ e.symm; dsimp only at this; omega)
  replace zG0 := Nat.lt_of_lt_of_le zG0 yw16
  replace S1n := hide (S1n.out.grownLow A1n.out hg (fun k e => by have := oPn k e; omega))
  replace S1d := hide (S1d.out.grownLow A1d.out hg (fun k e => by have := oPn k e; omega))
  replace S2n := hide (S2n.out.grownLow A2n.out hg (fun k e => by have := oPn k e; omega))
  replace S2d := hide (S2d.out.grownLow A2d.out hg (fun k e => by have := oPn k e; omega))
  replace SW0n := hide (SW0n.out.grownLow AW0n.out hg (fun k e => by have := oPn k e; omega))
  replace SW0d := hide (SW0d.out.grownLow AW0d.out hg (fun k e => by have := oPn k e; omega))
  replace HQn := hide (HQn.out.kept hg (apart_of oQn oPn (by omega)))
  replace HQd := hide (HQd.out.kept hg (apart_of oQd oPn (by omega)))
  replace HG0n := hide (HG0n.out.kept hg (apart_of oG0n oPn (by omega)))
  replace HG0d := hide (HG0d.out.kept hg (apart_of oG0d oPn (by omega)))
  replace HB := hide (HB.out.grown hg HB.out.size (fun k e => by have := oPn k e; omega))
  have yw17 := hg2.size
  replace k1_0 := hg2.cell k1_0 (fun e => by have := oPd _ e.symm; dsimp only at this; omega)
  replace k1_1 := hg2.cell k1_1 (fun e => by have := oPd _ e.symm; dsimp only at this; omega)
  replace k1_2 := hg2.cell k1_2 (fun e => by have := oPd _ e.symm; dsimp only at this; omega)
  replace k1_3 := hg2.cell k1_3 (fun e => by have := oPd _ e.symm; dsimp only at this; omega)
  replace z1 := Nat.lt_of_lt_of_le z1 yw17
  replace k2_0 := hg2.cell k2_0 (fun e => by have := oPd _ e.symm; dsimp only at this; omega)
  replace k2_1 := hg2.cell k2_1 (fun e => by have := oPd _ e.symm; dsimp only at this; omega)
  replace k2_2 := hg2.cell k2_2 (fun e => by have := oPd _ e.symm; dsimp only at this; omega)
  replace k2_3 := hg2.cell k2_3 (fun e => by have := oPd _ e.symm; dsimp only at this; omega)
  replace z2 := Nat.lt_of_lt_of_le z2 yw17
  replace kW0_0 := hg2.cell kW0_0 (fun e => by have := oPd _ e.symm; dsimp only at this; omega)
  replace kW0_1 := hg2.cell kW0_1 (fun e => by have := oPd _ e.symm; dsimp only at this; omega)
  replace kW0_2 := hg2.cell kW0_2 (fun e => by have := oPd _ e.symm; dsimp only at this; omega)
  replace kW0_3 := hg2.cell kW0_3 (fun e => by have := oPd _ e.symm; dsimp only at this; omega)
  replace zW0 := Nat.lt_of_lt_of_le zW0 yw17
  replace kP_0 := hg2.cell kP_0 (fun e => by have := oPd _ e.symm; dsimp only at this; omega)
  replace kP_1 := hg2.cell kP_1 (fun e => by have := oPd _ e.symm; dsimp only at this; omega)
  replace kP_2 := hg2.cell kP_2 (fun e => by have := oPd _ e.symm; dsimp only at this; omega)
  replace kP_3 := hg2.cell kP_3 (fun e => by have := oPd _ e.symm; dsimp only at this; omega)
  replace zP := Nat.lt_of_lt_of_le zP yw17
  replace kQ_0 := hg2.cell kQ_0 (fun e => by have := oPd _ e.symm; dsimp only at this; omega)
  replace kQ_1 := hg2.cell kQ_1 (fun e => by have := oPd _ e.symm; dsimp only at this; omega)
  replace kQ_2 := hg2.cell kQ_2 (fun e => by have := oPd _ e.symm; dsimp only at this; omega)
  replace kQ_3 := hg2.cell kQ_3 (fun e => by have := oPd _ e.symm; dsimp only at this; omega)
  replace zQ := Nat.lt_of_lt_of_le zQ yw17
  replace kG0_0 := hg2.cell kG0_0 (fun e => by have := oPd _ e.symm; dsimp only at this; omega)
  replace kG0_1 := hg2.cell kG0_1 (fun e => by have := oPd _ e.symm; dsimp only at this; omega)
  replace kG0_2 := hg2.cell kG0_2 (fun e => by have := oPd _ e.symm; dsimp only at this; omega)
  replace kG0_3 := hg2.cell kG0_3 (fun e => by have := oPd _ e.symm; dsimp only at this; omega)
  replace zG0 := Nat.lt_of_lt_of_le zG0 yw17
  replace S1n := hide (S1n.out.grownLow A1n.out hg2 (fun k e => by have := oPd k e; omega))
  replace S1d := hide (S1d.out.grownLow A1d.out hg2 (fun k e => by have := oPd k e; omega))
  replace S2n := hide (S2n.out.grownLow A2n.out hg2 (fun k e => by have := oPd k e; omega))
  replace S2d := hide (S2d.out.grownLow A2d.out hg2 (fun k e => by have := oPd k e; omega))
  replace SW0n := hide (SW0n.out.grownLow AW0n.out hg2 (fun k e => by have := oPd k e; omega))
  replace SW0d := hide (SW0d.out.grownLow AW0d.out hg2 (fun k e => by have := oPd k e; omega))
  replace HQn := hide (HQn.out.kept hg2 (apart_of oQn oPd (by omega)))
  replace HQd := hide (HQd.out.kept hg2 (apart_of oQd oPd (by omega)))
  replace HG0n := hide (HG0n.out.kept hg2 (apart_of oG0n oPd (by omega)))
  replace HG0d := hide (HG0d.out.kept hg2 (apart_of oG0d oPd (by omega)))
  replace HB := hide (HB.out.grown hg2 HB.out.size (fun k e => by have := oPd k e; omega))
  replace HPn := hide hm
  replace HPd := hide hm2
  clear hg hg2 hm hm2
  go_wp2_with fail
  refine (markR n2n aQn xs2n.length cQn _ _ n2d aQd xs2d.length cQd _ _ (0 + xs1n.length + xs1d.length) (1 + (xs1n.length : Int) + (xs1d.length : Int)) _ (by omega) (by omega) HQn.out HQd.out HAPQ.out).mono ?_
  rintro e w19 ⟨rfl, hm, hm2, w18, hg, hg2⟩
  have yw18 := hg.size
  replace k1_0 := hg.cell k1_0 (fun e => by have := oQn _ e.symm; dsimp only at this; omega)
  replace k1_1 := hg.cell k1_1 (fun e => by have := oQn _ e.symm; dsimp only at this; omega)
  replace k1_2 := hg.cell k1_2 (fun e => by have := oQn _ e.symm; dsimp only at this; omega)
  replace k1_3 := hg.cell k1_3 (fun e => by have := oQn _ e.symm; dsimp only at this; omega)
  replace z1 := Nat.lt_of_lt_of_le z1 yw18
  replace k2_0 := hg.cell k2_0 (fun e => by have := oQn _ e.symm; dsimp only at this; omega)
  replace k2_1 := hg.cell k2_1 (fun e => by have := oQn _ e.symm; dsimp only at this; omega)
  replace k2_2 := hg.cell k2_2 (fun e => by have := oQn _ e.symm; dsimp only at this; omega)
  replace k2_3 := hg.cell k2_3 (fun e => by have := oQn _ e.symm; dsimp only at this; omega)
  replace z2 := Nat.lt_of_lt_of_le z2 yw18
  replace kW0_0 := hg.cell kW0_0 (fun e => by have := oQn _ e.symm; dsimp only at this; omega)
  replace kW0_1 := hg.cell kW0_1 (fun e => by have := oQn _ e.symm; dsimp only at this; omega)
  replace kW0_2 := hg.cell kW0_2 (fun e => by have := oQn _ e.symm; dsimp only at this; omega)
  replace kW0_3 := hg.cell kW0_3 (fun e => by have := oQn _ e.symm; dsimp only at this; omega)
  replace zW0 := Nat.lt_of_lt_of_le zW0 yw18
  replace kP_0 := hg.cell kP_0 (fun e => by have := oQn _ e.symm; dsimp only at this; omega)
  replace kP_1 := hg.cell kP_1 (fun e => by have := oQn _ e.symm; dsimp only at this; omega)
  replace kP_2 := hg.cell kP_2 (fun e => by have := oQn _ e.symm; dsimp only at this; omega)
  replace kP_3 := hg.cell kP_3 (fun e => by have := oQn _ e.symm; dsimp only at this; omega)
  replace zP := Nat.lt_of_lt_of_le zP yw18
  replace kQ_0 := hg.cell kQ_0 (fun e => by have := oQn _ e.symm; dsimp only at this; omega)
  replace kQ_1 := hg.cell kQ_1 (fun e => by have := oQn _ e.symm; dsimp only at this; omega)
  replace kQ_2 := hg.cell kQ_2 (fun e => by have := oQn _ e.symm; dsimp only at this; omega)
  replace kQ_3 := hg.cell kQ_3 (fun e => by have := oQn _ e.symm; dsimp only at this; omega)
  replace zQ := Nat.lt_of_lt_of_le zQ yw18
  replace kG0_0 := hg.cell kG0_0 (fun e => by have := oQn _ e.symm; dsimp only at this; omega)
  replace kG0_1 := hg.cell kG0_1 (fun e => by have := oQn _ e.symm; dsimp only at this; omega)
  replace kG0_2 := hg.cell kG0_2 (fun e => by have := oQn _ e.symm; dsimp only at this; omega)
  replace kG0_3 := hg.cell kG0_3 (fun e => by have := oQn _ e.symm; dsimp only at this; omega)
  replace zG0 := Nat.lt_of_lt_of_le zG0 yw18
  replace S1n := hide (S1n.out.grownLow A1n.out hg (fun k e => by have := oQn k e; omega))
  replace S1d := hide (S1d.out.grownLow A1d.out hg (fun k e => by have := oQn k e; omega))
  replace S2n := hide (S2n.out.grownLow A2n.out hg (fun k e => by have := oQn k e; omega))
  replace S2d := hide (S2d.out.grownLow A2d.out hg (fun k e => by have := oQn k e; omega))
  replace SW0n := hide (SW0n.out.grownLow AW0n.out hg (fun k e => by have := oQn k e; omega))
  replace SW0d := hide (SW0d.out.grownLow AW0d.out hg (fun k e => by have := oQn k e; omega))
  replace HPn := hide (HPn.out.kept hg (apart_of oPn oQn (by omega)))
  replace HPd := hide (HPd.out.kept hg (apart_of oPd oQn (by omega)))
  replace HG0n := hide (HG0n.out.kept hg (apart_of oG0n oQn (by omega)))
  replace HG0d := hide (HG0d.out.kept hg (apart_of oG0d oQn (by omega)))
  replace HB := hide (HB.out.grown hg HB.out.size (fun k e => by have := oQn k e; omega))
  have yw19 := hg2.size
  replace k1_0 := hg2.cell k1_0 (fun e => by have := oQd _ e.symm; dsimp only at this; omega)
  replace k1_1 := hg2.cell k1_1 (fun e => by have := oQd _ e.symm; dsimp only at this; omega)
  replace k1_2 := hg2.cell k1_2 (fun e => by have := oQd _ e.symm; dsimp only at this; omega)
  replace k1_3 := hg2.cell k1_3 (fun e => by have := oQd _ e.symm; dsimp only at this; omega)
  replace z1 := Nat.lt_of_lt_of_le z1 yw19
  replace k2_0 := hg2.cell k2_0 (fun e => by have := oQd _ e.symm; dsimp only at this; omega)
  replace k2_1 := hg2.cell k2_1 (fun e => by have := oQd _ e.symm; dsimp only at this; omega)
  replace k2_2 := hg2.cell k2_2 (fun e => by have := oQd _ e.symm; dsimp only at this; omega)
  replace k2_3 := hg2.cell k2_3 (fun e => by have := oQd _ e.symm; dsimp only at this; omega)
  replace z2 := Nat.lt_of_lt_of_le z2 yw19
  replace kW0_0 := hg2.cell kW0_0 (fun e => by have := oQd _ e.symm; dsimp only at this; omega)
  replace kW0_1 := hg2.cell kW0_1 (fun e => by have := oQd _ e.symm; dsimp only at this; omega)
  replace kW0_2 := hg2.cell kW0_2 (fun e => by have := oQd _ e.symm; dsimp only at this; omega)
  replace kW0_3 := hg2.cell kW0_3 (fun e => by have := oQd _ e.symm; dsimp only at this; omega)
  replace zW0 := Nat.lt_of_lt_of_le zW0 yw19
  replace kP_0 := hg2.cell kP_0 (fun e => by have := oQd _ e.symm; dsimp only at this; omega)
  replace kP_1 := hg2.cell kP_1 (fun e => by have := oQd _ e.symm; dsimp only at this; omega)
  replace kP_2 := hg2.cell kP_2 (fun e => by have := oQd _ e.symm; dsimp only at this; omega)
  replace kP_3 := hg2.cell kP_3 (fun e => by have := oQd _ e.symm; dsimp only at this; omega)
  replace zP := Nat.lt_of_lt_of_le zP yw19
  replace kQ_0 := hg2.cell kQ_0 (fun e => by have := oQd _ e.symm; dsimp only at this; omega)
  replace kQ_1 := hg2.cell kQ_1 (fun e => by have := oQd _ e.symm; dsimp only at this; omega)
  replace kQ_2 := hg2.cell kQ_2 (fun e => by have := oQd _ e.symm; dsimp only at this; omega)
  replace kQ_3 := hg2.cell kQ_3 (fun e => by have := oQd _ e.symm; dsimp only at this; omega)
  replace zQ := Nat.lt_of_lt_of_le zQ yw19
  replace kG0_0 := hg2.cell kG0_0 (fun e => by have := oQd _ e.symm; dsimp only at this; omega)
  replace kG0_1 := hg2.cell kG0_1 (fun e => by have := oQd _ e.symm; dsimp only at this; omega)
  replace kG0_2 := hg2.cell kG0_2 (fun e => by have := oQd _ e.symm; dsimp only at this; omega)
  replace kG0_3 := hg2.cell kG0_3 (fun e => by have := oQd _ e.symm; dsimp only at this; omega)
  replace zG0 := Nat.lt_of_lt_of_le zG0 yw19
  replace S1n := hide (S1n.out.grownLow A1n.out hg2 (fun k e => by have := oQd k e; omega))
  replace S1d := hide (S1d.out.grownLow A1d.out hg2 (fun k e => by have := oQd k e; omega))
  replace S2n := hide (S2n.out.grownLow A2n.out hg2 (fun k e => by have := oQd k e; omega))
  replace S2d := hide (S2d.out.grownLow A2d.out hg2 (fun k e => by have := oQd k e; omega))
  replace SW0n := hide (SW0n.out.grownLow AW0n.out hg2 (fun k e => by have := oQd k e; omega))
  replace SW0d := hide (SW0d.out.grownLow AW0d.out hg2 (fun k e => by have := oQd k e; omega))
  replace HPn := hide (HPn.out.kept hg2 (apart_of oPn oQd (by omega)))
  replace HPd := hide (HPd.out.kept hg2 (apart_of oPd oQd (by omega)))
  replace HG0n := hide (HG0n.out.kept hg2 (apart_of oG0n oQd (by omega)))
  replace HG0d := hide (HG0d.out.kept hg2 (apart_of oG0d oQd (by omega)))
  replace HB := hide (HB.out.grown hg2 HB.out.size (fun k e => by have := oQd k e; omega))
  replace HQn := hide hm
  replace HQd := hide hm2
  clear hg hg2 hm hm2
  go_wp2_with fail
  refine (eqR (sgn (rQuoN n1n xs1n n1d xs1d n2n xs2n n2d xs2d)) (lms (rQuoN n1n xs1n n1d xs1d n2n xs2n n2d xs2d)) (sgn (rQuoD n1n xs1n n1d xs1d n2n xs2n n2d xs2d)) (lms (rQuoD n1n xs1n n1d xs1d n2n xs2n n2d xs2d)) aG0n cG0n aG0d cG0d aW0n cW0n aW0d cW0d _ (HG0n.out.seg) (HG0d.out.seg) (SW0n.out) (SW0d.out)).mono ?_
  rintro e w20 ⟨rfl, hbw20⟩
  have yw20 := hbw20.size
  replace k1_0 := (hbw20.cell (p := ⟨w.heap.size, 0, none⟩) z1).trans k1_0
  replace k1_1 := (hbw20.cell (p := ⟨w.heap.size, 1, none⟩) z1).trans k1_1
  replace k1_2 := (hbw20.cell (p := ⟨w.heap.size, 2, none⟩) z1).trans k1_2
  replace k1_3 := (hbw20.cell (p := ⟨w.heap.size, 3, none⟩) z1).trans k1_3
  replace z1 := Nat.lt_of_lt_of_le z1 hbw20.size
  replace k2_0 := (hbw20.cell (p := ⟨w.heap.size + 1, 0, none⟩) z2).trans k2_0
  replace k2_1 := (hbw20.cell (p := ⟨w.heap.size + 1, 1, none⟩) z2).trans k2_1
  replace k2_2 := (hbw20.cell (p := ⟨w.heap.size + 1, 2, none⟩) z2).trans k2_2
  replace k2_3 := (hbw20.cell (p := ⟨w.heap.size + 1, 3, none⟩) z2).trans k2_3
  replace z2 := Nat.lt_of_lt_of_le z2 hbw20.size
  replace kW0_0 := (hbw20.cell (p := ⟨NW0, 0, none⟩) zW0).trans kW0_0
  replace kW0_1 := (hbw20.cell (p := ⟨NW0, 1, none⟩) zW0).trans kW0_1
  replace kW0_2 := (hbw20.cell (p := ⟨NW0, 2, none⟩) zW0).trans kW0_2
  replace kW0_3 := (hbw20.cell (p := ⟨NW0, 3, none⟩) zW0).trans kW0_3
  replace zW0 := Nat.lt_of_lt_of_le zW0 hbw20.size
  replace kP_0 := (hbw20.cell (p := ⟨w5.heap.size, 0, none⟩) zP).trans kP_0
  replace kP_1 := (hbw20.cell (p := ⟨w5.heap.size, 1, none⟩) zP).trans kP_1
  replace kP_2 := (hbw20.cell (p := ⟨w5.heap.size, 2, none⟩) zP).trans kP_2
  replace kP_3 := (hbw20.cell (p := ⟨w5.heap.size, 3, none⟩) zP).trans kP_3
  replace zP := Nat.lt_of_lt_of_le zP hbw20.size
  replace kQ_0 := (hbw20.cell (p := ⟨w7.heap.size, 0, none⟩) zQ).trans kQ_0
  replace kQ_1 := (hbw20.cell (p := ⟨w7.heap.size, 1, none⟩) zQ).trans kQ_1
  replace kQ_2 := (hbw20.cell (p := ⟨w7.heap.size, 2, none⟩) zQ).trans kQ_2
  replace kQ_3 := (hbw20.cell (p := ⟨w7.heap.size, 3, none⟩) zQ).trans kQ_3
  replace zQ := Nat.lt_of_lt_of_le zQ hbw20.size
  replace kG0_0 := (hbw20.cell (p := ⟨w9.heap.size, 0, none⟩) zG0).trans kG0_0
  replace kG0_1 := (hbw20.cell (p := ⟨w9.heap.size, 1, none⟩) zG0).trans kG0_1
  replace kG0_2 := (hbw20.cell (p := ⟨w9.heap.size, 2, none⟩) zG0).trans kG0_2
  replace kG0_3 := (hbw20.cell (p := ⟨w9.heap.size, 3, none⟩) zG0).trans kG0_3
  replace zG0 := Nat.lt_of_lt_of_le zG0 hbw20.size
  replace S1n := hide (S1n.out.below hbw20)
  replace S1d := hide (S1d.out.below hbw20)
  replace S2n := hide (S2n.out.below hbw20)
  replace S2d := hide (S2d.out.below hbw20)
  replace SW0n := hide (SW0n.out.below hbw20)
  replace SW0d := hide (SW0d.out.below hbw20)
  replace HPn := hide (HPn.out.below hbw20)
  replace HPd := hide (HPd.out.below hbw20)
  replace HQn := hide (HQn.out.below hbw20)
  replace HQd := hide (HQd.out.below hbw20)
  replace HG0n := hide (HG0n.out.below hbw20)
  replace HG0d := hide (HG0d.out.below hbw20)
  replace HB := hide (bl_trans HB.out hbw20)
  clear hbw20
  go_wp2_with fail
  refine (markR (sgn (rQuoN n1n xs1n n1d xs1d n2n xs2n n2d xs2d)) aG0n (lms (rQuoN n1n xs1n n1d xs1d n2n xs2n n2d xs2d)).length cG0n _ _ (sgn (rQuoD n1n xs1n n1d xs1d n2n xs2n n2d xs2d)) aG0d (lms (rQuoD n1n xs1n n1d xs1d n2n xs2n n2d xs2d)).length cG0d _ _ (0) (1) _ (by omega) (by omega) HG0n.out HG0d.out HAPG01.out).mono ?_
  rintro e w22 ⟨rfl, hm, hm2, w21, hg, hg2⟩
  have yw21 := hg.size
  replace k1_0 := hg.cell k1_0 (fun e => by have := oG0n _ e.symm; dsimp only at this; omega)
  replace k1_1 := hg.cell k1_1 (fun e => by have := oG0n _ e.symm; dsimp only at this; omega)
  replace k1_2 := hg.cell k1_2 (fun e => by have := oG0n _ e.symm; dsimp only at this; omega)
  replace k1_3 := hg.cell k1_3 (fun e => by have := oG0n _ e.symm; dsimp only at this; omega)
  replace z1 := Nat.lt_of_lt_of_le z1 yw21
  replace k2_0 := hg.cell k2_0 (fun e => by have := oG0n _ e.symm; dsimp only at this; omega)
  replace k2_1 := hg.cell k2_1 (fun e => by have := oG0n _ e.symm; dsimp only at this; omega)
  replace k2_2 := hg.cell k2_2 (fun e => by have := oG0n _ e.symm; dsimp only at this; omega)
  replace k2_3 := hg.cell k2_3 (fun e => by have := oG0n _ e.symm; dsimp only at this; omega)
  replace z2 := Nat.lt_of_lt_of_le z2 yw21
  replace kW0_0 := hg.cell kW0_0 (fun e => by have := oG0n _ e.symm; dsimp only at this; omega)
  replace kW0_1 := hg.cell kW0_1 (fun e => by have := oG0n _ e.symm; dsimp only at this; omega)
  replace kW0_2 := hg.cell kW0_2 (fun e => by have := oG0n _ e.symm; dsimp only at this; omega)
  replace kW0_3 := hg.cell kW0_3 (fun e => by have := oG0n _ e.symm; dsimp only at this; omega)
  replace zW0 := Nat.lt_of_lt_of_le zW0 yw21
  replace kP_0 := hg.cell kP_0 (fun e => by have := oG0n _ e.symm; dsimp only at this; omega)
  replace kP_1 := hg.cell kP_1 (fun e => by have := oG0n _ e.symm; dsimp only at this; omega)
  replace kP_2 := hg.cell kP_2 (fun e => by have := oG0n _ e.symm; dsimp only at this; omega)
  replace kP_3 := hg.cell kP_3 (fun e => by have := oG0n _ e.symm; dsimp only at this; omega)
  replace zP := Nat.lt_of_lt_of_le zP yw21
  replace kQ_0 := hg.cell kQ_0 (fun e => by have := oG0n _ e.symm; dsimp only at this; omega)
  replace kQ_1 := hg.cell kQ_1 (fun e => by have := oG0n _ e.symm; dsimp only at this; omega)
  replace kQ_2 := hg.cell kQ_2 (fun e => by have := oG0n _ e.symm; dsimp only at this; omega)
  replace kQ_3 := hg.cell kQ_3 (fun e => by have := oG0n _ e.symm; dsimp only at this; omega)
  replace zQ := Nat.lt_of_lt_of_le zQ yw21
  replace kG0_0 := hg.cell kG0_0 (fun e => by have := oG0n _ e.symm; dsimp only at this; omega)
  replace kG0_1 := hg.cell kG0_1 (fun e => by have := oG0n _ e.symm; dsimp only at this; omega)
  replace kG0_2 := hg.cell kG0_2 (fun e => by have := oG0n _ e.symm; dsimp only at this; omega)
  replace kG0_3 := hg.cell kG0_3 (fun e => by have := oG0n _ e.symm; dsimp only at this; omega)
  replace zG0 := Nat.lt_of_lt_of_le zG0 yw21
  replace S1n := hide (S1n.out.grownLow A1n.out hg (fun k e => by have := oG0n k e; omega))
  replace S1d := hide (S1d.out.grownLow A1d.out hg (fun k e => by have := oG0n k e; omega))
  replace S2n := hide (S2n.out.grownLow A2n.out hg (fun k e => by have := oG0n k e; omega))
  replace S2d := hide (S2d.out.grownLow A2d.out hg (fun k e => by have := oG0n k e; omega))
  replace SW0n := hide (SW0n.out.grownLow AW0n.out hg (fun k e => by have := oG0n k e; omega))
  replace SW0d := hide (SW0d.out.grownLow AW0d.out hg (fun k e => by have := oG0n k e; omega))
  replace HPn := hide (HPn.out.kept hg (apart_of oPn oG0n (by omega)))
  replace HPd := hide (HPd.out.kept hg (apart_of oPd oG0n (by omega)))
  replace HQn := hide (HQn.out.kept hg (apart_of oQn oG0n (by omega)))
  replace HQd := hide (HQd.out.kept hg (apart_of oQd oG0n (by omega)))
  replace HB := hide (HB.out.grown hg HB.out.size (fun k e => by have := oG0n k e; omega))
  have yw22 := hg2.size
  replace k1_0 := hg2.cell k1_0 (fun e => by have := oG0d _ e.symm; dsimp only at this; omega)
  replace k1_1 := hg2.cell k1_1 (fun e => by have := oG0d _ e.symm; dsimp only at this; omega)
  replace k1_2 := hg2.cell k1_2 (fun e => by have := oG0d _ e.symm; dsimp only at this; omega)
  replace k1_3 := hg2.cell k1_3 (fun e => by have := oG0d _ e.symm; dsimp only at this; omega)
  replace z1 := Nat.lt_of_lt_of_le z1 yw22
  replace k2_0 := hg2.cell k2_0 (fun e => by have := oG0d _ e.symm; dsimp only at this; omega)
  replace k2_1 := hg2.cell k2_1 (fun e => by have := oG0d _ e.symm; dsimp only at this; omega)
  replace k2_2 := hg2.cell k2_2 (fun e => by have := oG0d _ e.symm; dsimp only at this; omega)
  replace k2_3 := hg2.cell k2_3 (fun e => by have := oG0d _ e.symm; dsimp only at this; omega)
  replace z2 := Nat.lt_of_lt_of_le z2 yw22
  replace kW0_0 := hg2.cell kW0_0 (fun e => by have := oG0d _ e.symm; dsimp only at this; omega)
  replace kW0_1 := hg2.cell kW0_1 (fun e => by have := oG0d _ e.symm; dsimp only at this; omega)
  replace kW0_2 := hg2.cell kW0_2 (fun e => by have := oG0d _ e.symm; dsimp only at this; omega)
  replace kW0_3 := hg2.cell kW0_3 (fun e => by have := oG0d _ e.symm; dsimp only at this; omega)
  replace zW0 := Nat.lt_of_lt_of_le zW0 yw22
  replace kP_0 := hg2.cell kP_0 (fun e => by have := oG0d _ e.symm; dsimp only at this; omega)
  replace kP_1 := hg2.cell kP_1 (fun e => by have := oG0d _ e.symm; dsimp only at this; omega)
  replace kP_2 := hg2.cell kP_2 (fun e => by have := oG0d _ e.symm; dsimp only at this; omega)
  replace kP_3 := hg2.cell kP_3 (fun e => by have := oG0d _ e.symm; dsimp only at this; omega)
  replace zP := Nat.lt_of_lt_of_le zP yw22
  replace kQ_0 := hg2.cell kQ_0 (fun e => by have := oG0d _ e.symm; dsimp only at this; omega)
  replace kQ_1 := hg2.cell kQ_1 (fun e => by have := oG0d _ e.symm; dsimp only at this; omega)
  replace kQ_2 := hg2.cell kQ_2 (fun e => by have := oG0d _ e.symm; dsimp only at this; omega)
  replace kQ_3 := hg2.cell kQ_3 (fun e => by have := oG0d _ e.symm; dsimp only at this; omega)
  replace zQ := Nat.lt_of_lt_of_le zQ yw22
  replace kG0_0 := hg2.cell kG0_0 (fun e => by have := oG0d _ e.symm; dsimp only at this; omega)
  replace kG0_1 := hg2.cell kG0_1 (fun e => by have := oG0d _ e.symm; dsimp only at this; omega)
  replace kG0_2 := hg2.cell kG0_2 (fun e => by have := oG0d _ e.symm; dsimp only at this; omega)
  replace kG0_3 := hg2.cell kG0_3 (fun e => by have := oG0d _ e.symm; dsimp only at this; omega)
  replace zG0 := Nat.lt_of_lt_of_le zG0 yw22
  replace S1n := hide (S1n.out.grownLow A1n.out hg2 (fun k e => by have := oG0d k e; omega))
  replace S1d := hide (S1d.out.grownLow A1d.out hg2 (fun k e => by have := oG0d k e; omega))
  replace S2n := hide (S2n.out.grownLow A2n.out hg2 (fun k e => by have := oG0d k e; omega))
  replace S2d := hide (S2d.out.grownLow A2d.out hg2 (fun k e => by have := oG0d k e; omega))
  replace SW0n := hide (SW0n.out.grownLow AW0n.out hg2 (fun k e => by have := oG0d k e; omega))
  replace SW0d := hide (SW0d.out.grownLow AW0d.out hg2 (fun k e => by have := oG0d k e; omega))
  replace HPn := hide (HPn.out.kept hg2 (apart_of oPn oG0d (by omega)))
  replace HPd := hide (HPd.out.kept hg2 (apart_of oPd oG0d (by omega)))
  replace HQn := hide (HQn.out.kept hg2 (apart_of oQn oG0d (by omega)))
  replace HQd := hide (HQd.out.kept hg2 (apart_of oQd oG0d (by omega)))
  replace HB := hide (HB.out.grown hg2 HB.out.size (fun k e => by have := oG0d k e; omega))
  replace HG0n := hide hm
  replace HG0d := hide hm2
  clear hg hg2 hm hm2
  go_wp2_with fail
  refine (heldR (sgn (rQuoN n1n xs1n n1d xs1d n2n xs2n n2d xs2d)) aG0n (lms (rQuoN n1n xs1n n1d xs1d n2n xs2n n2d xs2d)).length cG0n (sgn (rQuoD n1n xs1n n1d xs1d n2n xs2n n2d xs2d)) aG0d (lms (rQuoD n1n xs1n n1d xs1d n2n xs2n n2d xs2d)).length cG0d (0) (1) _ (by omega) (by omega) HG0n.out.seg HG0d.out.seg).mono ?_
  rintro e w23 ⟨rfl, hbw23⟩
  have yw23 := hbw23.size
  replace k1_0 := (hbw23.cell (p := ⟨w.heap.size, 0, none⟩) z1).trans k1_0
  replace k1_1 := (hbw23.cell (p := ⟨w.heap.size, 1, none⟩) z1).trans k1_1
  replace k1_2 := (hbw23.cell (p := ⟨w.heap.size, 2, none⟩) z1).trans k1_2
  replace k1_3 := (hbw23.cell (p := ⟨w.heap.size, 3, none⟩) z1).trans k1_3
  replace z1 := Nat.lt_of_lt_of_le z1 hbw23.size
  replace k2_0 := (hbw23.cell (p := ⟨w.heap.size + 1, 0, none⟩) z2).trans k2_0
  replace k2_1 := (hbw23.cell (p := ⟨w.heap.size + 1, 1, none⟩) z2).trans k2_1
  replace k2_2 := (hbw23.cell (p := ⟨w.heap.size + 1, 2, none⟩) z2).trans k2_2
  replace k2_3 := (hbw23.cell (p := ⟨w.heap.size + 1, 3, none⟩) z2).trans k2_3
  replace z2 := Nat.lt_of_lt_of_le z2 hbw23.size
  replace kW0_0 := (hbw23.cell (p := ⟨NW0, 0, none⟩) zW0).trans kW0_0
  replace kW0_1 := (hbw23.cell (p := ⟨NW0, 1, none⟩) zW0).trans kW0_1
  replace kW0_2 := (hbw23.cell (p := ⟨NW0, 2, none⟩) zW0).trans kW0_2
  replace kW0_3 := (hbw23.cell (p := ⟨NW0, 3, none⟩) zW0).trans kW0_3
  replace zW0 := Nat.lt_of_lt_of_le zW0 hbw23.size
  replace kP_0 := (hbw23.cell (p := ⟨w5.heap.size, 0, none⟩) zP).trans kP_0
  replace kP_1 := (hbw23.cell (p := ⟨w5.heap.size, 1, none⟩) zP).trans kP_1
  replace kP_2 := (hbw23.cell (p := ⟨w5.heap.size, 2, none⟩) zP).trans kP_2
  replace kP_3 := (hbw23.cell (p := ⟨w5.heap.size, 3, none⟩) zP).trans kP_3
  replace zP := Nat.lt_of_lt_of_le zP hbw23.size
  replace kQ_0 := (hbw23.cell (p := ⟨w7.heap.size, 0, none⟩) zQ).trans kQ_0
  replace kQ_1 := (hbw23.cell (p := ⟨w7.heap.size, 1, none⟩) zQ).trans kQ_1
  replace kQ_2 := (hbw23.cell (p := ⟨w7.heap.size, 2, none⟩) zQ).trans kQ_2
  replace kQ_3 := (hbw23.cell (p := ⟨w7.heap.size, 3, none⟩) zQ).trans kQ_3
  replace zQ := Nat.lt_of_lt_of_le zQ hbw23.size
  replace kG0_0 := (hbw23.cell (p := ⟨w9.heap.size, 0, none⟩) zG0).trans kG0_0
  replace kG0_1 := (hbw23.cell (p := ⟨w9.heap.size, 1, none⟩) zG0).trans kG0_1
  replace kG0_2 := (hbw23.cell (p := ⟨w9.heap.size, 2, none⟩) zG0).trans kG0_2
  replace kG0_3 := (hbw23.cell (p := ⟨w9.heap.size, 3, none⟩) zG0).trans kG0_3
  replace zG0 := Nat.lt_of_lt_of_le zG0 hbw23.size
  replace S1n := hide (S1n.out.below hbw23)
  replace S1d := hide (S1d.out.below hbw23)
  replace S2n := hide (S2n.out.below hbw23)
  replace S2d := hide (S2d.out.below hbw23)
  replace SW0n := hide (SW0n.out.below hbw23)
  replace SW0d := hide (SW0d.out.below hbw23)
  replace HPn := hide (HPn.out.below hbw23)
  replace HPd := hide (HPd.out.below hbw23)
  replace HQn := hide (HQn.out.below hbw23)
  replace HQd := hide (HQd.out.below hbw23)
  replace HG0n := hide (HG0n.out.below hbw23)
  replace HG0d := hide (HG0d.out.below hbw23)
  replace HB := hide (bl_trans HB.out hbw23)
  clear hbw23
  go_upto_region 31 with fail
  go_cut [15, 16] (fun s0 t0 wc => ∃ (N0 : Nat) (aV0n : Option Addr) (cV0n : Nat) (aV0d : Option Addr) (cV0d : Nat), s0 = .pointer (some ⟨N0, 0, none⟩) ∧ t0 = .bool (rQuoT n1n xs1n n1d xs1d n2n xs2n n2d xs2d) ∧ Hid (w23.heap.size ≤ N0 ∧ N0 < wc.heap.size ∧ wc.cell? ⟨N0, 0, none⟩ = some (Value.bool (sgn (rQuoN n1n xs1n n1d xs1d n2n xs2n n2d xs2d))) ∧ wc.cell? ⟨N0, 1, none⟩ = some (Value.slice aV0n (lms (rQuoN n1n xs1n n1d xs1d n2n xs2n n2d xs2d)).length cV0n) ∧ wc.cell? ⟨N0, 2, none⟩ = some (Value.bool (sgn (rQuoD n1n xs1n n1d xs1d n2n xs2n n2d xs2d))) ∧ wc.cell? ⟨N0, 3, none⟩ = some (Value.slice aV0d (lms (rQuoD n1n xs1n n1d xs1d n2n xs2n n2d xs2d)).length cV0d) ∧ Seg wc aV0n (lms (rQuoN n1n xs1n n1d xs1d n2n xs2n n2d xs2d)).length cV0n (lms (rQuoN n1n xs1n n1d xs1d n2n xs2n n2d xs2d)) ∧ Seg wc aV0d (lms (rQuoD n1n xs1n n1d xs1d n2n xs2n n2d xs2d)).length cV0d (lms (rQuoD n1n xs1n n1d xs1d n2n xs2n n2d xs2d)) ∧ Below w23.heap.size w23 wc))
  case first =>
    have KP : Hid (∀ w', Below w23.heap.size w23 w' → (w'.cell? ⟨w.heap.size, 0, none⟩ = some (Value.bool n1n) ∧ w'.cell? ⟨w.heap.size, 1, none⟩ = some (Value.slice a1n xs1n.length c1n) ∧ w'.cell? ⟨w.heap.size, 2, none⟩ = some (Value.bool n1d) ∧ w'.cell? ⟨w.heap.size, 3, none⟩ = some (Value.slice a1d xs1d.length c1d) ∧ w'.cell? ⟨w.heap.size + 1, 0, none⟩ = some (Value.bool n2n) ∧ w'.cell? ⟨w.heap.size + 1, 1, none⟩ = some (Value.slice a2n xs2n.length c2n) ∧ w'.cell? ⟨w.heap.size + 1, 2, none⟩ = some (Value.bool n2d) ∧ w'.cell? ⟨w.heap.size + 1, 3, none⟩ = some (Value.slice a2d xs2d.length c2d) ∧ Hid (Below w23.heap.size w23 w'))) := hide (fun w' hb => ⟨(hb.cell (p := ⟨w.heap.size, 0, none⟩) z1).trans k1_0, (hb.cell (p := ⟨w.heap.size, 1, none⟩) z1).trans k1_1, (hb.cell (p := ⟨w.heap.size, 2, none⟩) z1).trans k1_2, (hb.cell (p := ⟨w.heap.size, 3, none⟩) z1).trans k1_3, (hb.cell (p := ⟨w.heap.size + 1, 0, none⟩) z2).trans k2_0, (hb.cell (p := ⟨w.heap.size + 1, 1, none⟩) z2).trans k2_1, (hb.cell (p := ⟨w.heap.size + 1, 2, none⟩) z2).trans k2_2, (hb.cell (p := ⟨w.heap.size + 1, 3, none⟩) z2).trans k2_3, hb⟩)
    go_region_held3 (fun w' => w'.cell? ⟨w.heap.size, 0, none⟩ = some (Value.bool n1n) ∧ w'.cell? ⟨w.heap.size, 1, none⟩ = some (Value.slice a1n xs1n.length c1n) ∧ w'.cell? ⟨w.heap.size, 2, none⟩ = some (Value.bool n1d) ∧ w'.cell? ⟨w.heap.size, 3, none⟩ = some (Value.slice a1d xs1d.length c1d) ∧ w'.cell? ⟨w.heap.size + 1, 0, none⟩ = some (Value.bool n2n) ∧ w'.cell? ⟨w.heap.size + 1, 1, none⟩ = some (Value.slice a2n xs2n.length c2n) ∧ w'.cell? ⟨w.heap.size + 1, 2, none⟩ = some (Value.bool n2d) ∧ w'.cell? ⟨w.heap.size + 1, 3, none⟩ = some (Value.slice a2d xs2d.length c2d) ∧ Hid (Below w23.heap.size w23 w'))
      (first | exact KP.out _ (bl_refl w23).drew | exact KP.out _ bC | exact KP.out _ bB | exact KP.out _ bA | exact KP.out _ (by repeat first | exact bC | exact bB | exact bA | exact (bl_refl w23).drew | exact bl_refl w23 | refine bl_alloc ?_ _ | refine bl_trans ?_ (bl_refl _).drew | refine Below.setCell ?_ (by first | omega | (dsimp only; omega) | (dsimp only; rw [World.size_drew]; omega)) _))
      (first
        | (go_at_call_of 19 (Value.agg #[Value.bool n1n, Value.slice a1n xs1n.length c1n, Value.bool n1d, Value.slice a1d xs1d.length c1d]); refine (toR n1n a1n c1n xs1n n1d a1d c1d xs1d _ (S1n.out.below (Hid.out (And.right (And.right (And.right (And.right (And.right (And.right (And.right (And.right (by assumption))))))))))) (S1d.out.below (Hid.out (And.right (And.right (And.right (And.right (And.right (And.right (And.right (And.right (by assumption))))))))))) (by omega) (by omega)).mono ?_; rintro e wA ⟨aXn, cXn, aXd, cXd, rfl, hoXn, hoXd, hapX, hbA⟩; have bA : Below w23.heap.size w23 wA := bl_trans (Hid.out (And.right (And.right (And.right (And.right (And.right (And.right (And.right (And.right (by assumption)))))))))) hbA; have yA := bA.size; have HXn := hide hoXn.seg; clear hoXn; have HXd := hide hoXd.seg; clear hoXd; clear hapX; (first | have HZa0 := hide (show Zr4 wA w23.heap.size from born4 hbA) | have HZa0 := hide (show Zr4 wA w23.heap.size from born4 (bl_trans (bl_refl (w23.alloc (Obj.cells #[Value.bool false, Value.slice none 0 0, Value.bool false, Value.slice none 0 0] 28))).drew hbA)) | skip); (try have zza0 := HZa0.out.1); clear hbA)
        | (go_at_call_of 19 (Value.agg #[Value.bool n2n, Value.slice a2n xs2n.length c2n, Value.bool n2d, Value.slice a2d xs2d.length c2d]); refine (toR n2n a2n c2n xs2n n2d a2d c2d xs2d _ (S2n.out.below (Hid.out (And.right (And.right (And.right (And.right (And.right (And.right (And.right (And.right (by assumption))))))))))) (S2d.out.below (Hid.out (And.right (And.right (And.right (And.right (And.right (And.right (And.right (And.right (by assumption))))))))))) (by omega) (by omega)).mono ?_; rintro e wB ⟨aYn, cYn, aYd, cYd, rfl, hoYn, hoYd, hapY, hbB⟩; have bB : Below w23.heap.size w23 wB := bl_trans (Hid.out (And.right (And.right (And.right (And.right (And.right (And.right (And.right (And.right (by assumption)))))))))) hbB; have bAB : Below wA.heap.size wA wB := (by first | exact hbB | exact bl_one hbB | exact bl_two hbB); have yB := bAB.size; have HYn := hide hoYn.seg; clear hoYn; have HYd := hide hoYd.seg; clear hoYd; clear hapY; replace HXn := hide (HXn.out.below bAB); replace HXd := hide (HXd.out.below bAB); (try replace HZa0 := hide (HZa0.out.below bAB)); (first | have HZb0 := hide (show Zr4 wB wA.heap.size from born4 hbB) | have HZb0 := hide (show Zr4 wB wA.heap.size from born4 (bl_trans (bl_refl (wA.alloc (Obj.cells #[Value.bool false, Value.slice none 0 0, Value.bool false, Value.slice none 0 0] 28))).drew hbB)) | skip); (try have zzb0 := HZb0.out.1); clear hbB)
        | (go_at_call 26; refine (RatQuoP' n1n xs1n n1d xs1d n2n xs2n n2d xs2d aXn cXn aXd cXd aYn cYn aYd cYd _ ((HXn.out.below (by first | exact bl_refl _ | exact bl_alloc (bl_refl _) _ | exact bl_alloc (bl_alloc (bl_refl _) _) _))) ((HXd.out.below (by first | exact bl_refl _ | exact bl_alloc (bl_refl _) _ | exact bl_alloc (bl_alloc (bl_refl _) _) _))) ((HYn.out.below (by first | exact bl_refl _ | exact bl_alloc (bl_refl _) _ | exact bl_alloc (bl_alloc (bl_refl _) _) _))) ((HYd.out.below (by first | exact bl_refl _ | exact bl_alloc (bl_refl _) _ | exact bl_alloc (bl_alloc (bl_refl _) _) _)))).mono ?_; rintro e wC ⟨aC0n, cC0n, aC0d, cC0d, rfl, hoC0n, hoC0d, hapC01, hbC⟩; have bBC : Below wB.heap.size wB wC := (by first | exact hbC | exact bl_one hbC | exact bl_two hbC); have bC : Below w23.heap.size w23 wC := bl_trans bB bBC; have yC := bBC.size; have RC0n := hide hoC0n.rgs; clear hoC0n; have RC0d := hide hoC0d.rgs; clear hoC0d; (try replace HZa0 := hide (HZa0.out.below bBC)); (try replace HZb0 := hide (HZb0.out.below bBC)); (first | have HZc0 := hide (show Zr4 wC wB.heap.size from born4 hbC) | have HZc0 := hide (show Zr4 wC wB.heap.size from born4 (bl_trans (bl_refl (wB.alloc (Obj.cells #[Value.bool false, Value.slice none 0 0, Value.bool false, Value.slice none 0 0] 28))).drew hbC)) | skip); (try have Qa0 := HZa0.out); (try obtain ⟨za0, ka0_0, ka0_1, ka0_2, ka0_3, fa0_0, fa0_1, fa0_2, fa0_3⟩ := HZa0.out); (try have Qb0 := HZb0.out); (try obtain ⟨zb0, kb0_0, kb0_1, kb0_2, kb0_3, fb0_0, fb0_1, fb0_2, fb0_3⟩ := HZb0.out); (try have Qc0 := HZc0.out); (try obtain ⟨zc0, kc0_0, kc0_1, kc0_2, kc0_3, fc0_0, fc0_1, fc0_2, fc0_3⟩ := HZc0.out); (try simp only [World.size_drew] at RC0n); (try simp only [World.size_alloc] at RC0n); (try simp only [World.size_drew] at RC0d); (try simp only [World.size_alloc] at RC0d); skip; clear hbC))
    all_goals (go_wp2_with fail; go_meet)
    · exact ⟨_, aC0n, cC0n, aC0d, cC0d, rfl, rfl, hide (res4_b RC0n.out RC0d.out bC)⟩
    · exact ⟨_, aC0n, cC0n, aC0d, cC0d, rfl, rfl, hide (res4_a RC0n.out RC0d.out bC Qc0 (by omega) (by omega) (by omega))⟩
    · exact ⟨_, aC0n, cC0n, aC0d, cC0d, rfl, rfl, hide (res4_a RC0n.out RC0d.out bC Qb0 (by omega) (by omega) (by omega))⟩
    · exact ⟨_, aC0n, cC0n, aC0d, cC0d, rfl, rfl, hide (res4_a RC0n.out RC0d.out bC Qa0 (by omega) (by omega) (by omega))⟩
  case rest =>
  obtain ⟨NV0, aV0n, cV0n, aV0d, cV0d, rfl, rfl, hres⟩ := hcut
  obtain ⟨nV0, mV0, rV0_0, rV0_1, rV0_2, rV0_3, gV0n, gV0d, rB⟩ := hres.out
  clear hres
  rename World => w24
  have yw24 := rB.size
  replace k1_0 := (rB.cell (p := ⟨w.heap.size, 0, none⟩) z1).trans k1_0
  replace k1_1 := (rB.cell (p := ⟨w.heap.size, 1, none⟩) z1).trans k1_1
  replace k1_2 := (rB.cell (p := ⟨w.heap.size, 2, none⟩) z1).trans k1_2
  replace k1_3 := (rB.cell (p := ⟨w.heap.size, 3, none⟩) z1).trans k1_3
  replace z1 := Nat.lt_of_lt_of_le z1 rB.size
  replace k2_0 := (rB.cell (p := ⟨w.heap.size + 1, 0, none⟩) z2).trans k2_0
  replace k2_1 := (rB.cell (p := ⟨w.heap.size + 1, 1, none⟩) z2).trans k2_1
  replace k2_2 := (rB.cell (p := ⟨w.heap.size + 1, 2, none⟩) z2).trans k2_2
  replace k2_3 := (rB.cell (p := ⟨w.heap.size + 1, 3, none⟩) z2).trans k2_3
  replace z2 := Nat.lt_of_lt_of_le z2 rB.size
  replace kW0_0 := (rB.cell (p := ⟨NW0, 0, none⟩) zW0).trans kW0_0
  replace kW0_1 := (rB.cell (p := ⟨NW0, 1, none⟩) zW0).trans kW0_1
  replace kW0_2 := (rB.cell (p := ⟨NW0, 2, none⟩) zW0).trans kW0_2
  replace kW0_3 := (rB.cell (p := ⟨NW0, 3, none⟩) zW0).trans kW0_3
  replace zW0 := Nat.lt_of_lt_of_le zW0 rB.size
  replace kP_0 := (rB.cell (p := ⟨w5.heap.size, 0, none⟩) zP).trans kP_0
  replace kP_1 := (rB.cell (p := ⟨w5.heap.size, 1, none⟩) zP).trans kP_1
  replace kP_2 := (rB.cell (p := ⟨w5.heap.size, 2, none⟩) zP).trans kP_2
  replace kP_3 := (rB.cell (p := ⟨w5.heap.size, 3, none⟩) zP).trans kP_3
  replace zP := Nat.lt_of_lt_of_le zP rB.size
  replace kQ_0 := (rB.cell (p := ⟨w7.heap.size, 0, none⟩) zQ).trans kQ_0
  replace kQ_1 := (rB.cell (p := ⟨w7.heap.size, 1, none⟩) zQ).trans kQ_1
  replace kQ_2 := (rB.cell (p := ⟨w7.heap.size, 2, none⟩) zQ).trans kQ_2
  replace kQ_3 := (rB.cell (p := ⟨w7.heap.size, 3, none⟩) zQ).trans kQ_3
  replace zQ := Nat.lt_of_lt_of_le zQ rB.size
  replace kG0_0 := (rB.cell (p := ⟨w9.heap.size, 0, none⟩) zG0).trans kG0_0
  replace kG0_1 := (rB.cell (p := ⟨w9.heap.size, 1, none⟩) zG0).trans kG0_1
  replace kG0_2 := (rB.cell (p := ⟨w9.heap.size, 2, none⟩) zG0).trans kG0_2
  replace kG0_3 := (rB.cell (p := ⟨w9.heap.size, 3, none⟩) zG0).trans kG0_3
  replace zG0 := Nat.lt_of_lt_of_le zG0 rB.size
  replace S1n := hide (S1n.out.below rB)
  replace S1d := hide (S1d.out.below rB)
  replace S2n := hide (S2n.out.below rB)
  replace S2d := hide (S2d.out.below rB)
  replace SW0n := hide (SW0n.out.below rB)
  replace SW0d := hide (SW0d.out.below rB)
  replace HPn := hide (HPn.out.below rB)
  replace HPd := hide (HPd.out.below rB)
  replace HQn := hide (HQn.out.below rB)
  replace HQd := hide (HQd.out.below rB)
  replace HG0n := hide (HG0n.out.below rB)
  replace HG0d := hide (HG0d.out.below rB)
  replace HB := hide (bl_trans HB.out rB)
  have kV0_0 := rV0_0
  clear rV0_0
  have kV0_1 := rV0_1
  clear rV0_1
  have kV0_2 := rV0_2
  clear rV0_2
  have kV0_3 := rV0_3
  clear rV0_3
  have zV0 := mV0
  have SV0n := hide gV0n
  have AV0n := SV0n
  clear gV0n
  have SV0d := hide gV0d
  have AV0d := SV0d
  clear gV0d
  clear rB
  go_wp2_with fail
  refine (eqR (sgn (rQuoN n1n xs1n n1d xs1d n2n xs2n n2d xs2d)) (lms (rQuoN n1n xs1n n1d xs1d n2n xs2n n2d xs2d)) (sgn (rQuoD n1n xs1n n1d xs1d n2n xs2n n2d xs2d)) (lms (rQuoD n1n xs1n n1d xs1d n2n xs2n n2d xs2d)) aV0n cV0n aV0d cV0d aW0n cW0n aW0d cW0d _ (SV0n.out) (SV0d.out) (SW0n.out) (SW0d.out)).mono ?_
  rintro e w25 ⟨rfl, hbw25⟩
  have yw25 := hbw25.size
  replace k1_0 := (hbw25.cell (p := ⟨w.heap.size, 0, none⟩) z1).trans k1_0
  replace k1_1 := (hbw25.cell (p := ⟨w.heap.size, 1, none⟩) z1).trans k1_1
  replace k1_2 := (hbw25.cell (p := ⟨w.heap.size, 2, none⟩) z1).trans k1_2
  replace k1_3 := (hbw25.cell (p := ⟨w.heap.size, 3, none⟩) z1).trans k1_3
  replace z1 := Nat.lt_of_lt_of_le z1 hbw25.size
  replace k2_0 := (hbw25.cell (p := ⟨w.heap.size + 1, 0, none⟩) z2).trans k2_0
  replace k2_1 := (hbw25.cell (p := ⟨w.heap.size + 1, 1, none⟩) z2).trans k2_1
  replace k2_2 := (hbw25.cell (p := ⟨w.heap.size + 1, 2, none⟩) z2).trans k2_2
  replace k2_3 := (hbw25.cell (p := ⟨w.heap.size + 1, 3, none⟩) z2).trans k2_3
  replace z2 := Nat.lt_of_lt_of_le z2 hbw25.size
  replace kW0_0 := (hbw25.cell (p := ⟨NW0, 0, none⟩) zW0).trans kW0_0
  replace kW0_1 := (hbw25.cell (p := ⟨NW0, 1, none⟩) zW0).trans kW0_1
  replace kW0_2 := (hbw25.cell (p := ⟨NW0, 2, none⟩) zW0).trans kW0_2
  replace kW0_3 := (hbw25.cell (p := ⟨NW0, 3, none⟩) zW0).trans kW0_3
  replace zW0 := Nat.lt_of_lt_of_le zW0 hbw25.size
  replace kP_0 := (hbw25.cell (p := ⟨w5.heap.size, 0, none⟩) zP).trans kP_0
  replace kP_1 := (hbw25.cell (p := ⟨w5.heap.size, 1, none⟩) zP).trans kP_1
  replace kP_2 := (hbw25.cell (p := ⟨w5.heap.size, 2, none⟩) zP).trans kP_2
  replace kP_3 := (hbw25.cell (p := ⟨w5.heap.size, 3, none⟩) zP).trans kP_3
  replace zP := Nat.lt_of_lt_of_le zP hbw25.size
  replace kQ_0 := (hbw25.cell (p := ⟨w7.heap.size, 0, none⟩) zQ).trans kQ_0
  replace kQ_1 := (hbw25.cell (p := ⟨w7.heap.size, 1, none⟩) zQ).trans kQ_1
  replace kQ_2 := (hbw25.cell (p := ⟨w7.heap.size, 2, none⟩) zQ).trans kQ_2
  replace kQ_3 := (hbw25.cell (p := ⟨w7.heap.size, 3, none⟩) zQ).trans kQ_3
  replace zQ := Nat.lt_of_lt_of_le zQ hbw25.size
  replace kG0_0 := (hbw25.cell (p := ⟨w9.heap.size, 0, none⟩) zG0).trans kG0_0
  replace kG0_1 := (hbw25.cell (p := ⟨w9.heap.size, 1, none⟩) zG0).trans kG0_1
  replace kG0_2 := (hbw25.cell (p := ⟨w9.heap.size, 2, none⟩) zG0).trans kG0_2
  replace kG0_3 := (hbw25.cell (p := ⟨w9.heap.size, 3, none⟩) zG0).trans kG0_3
  replace zG0 := Nat.lt_of_lt_of_le zG0 hbw25.size
  replace kV0_0 := (hbw25.cell (p := ⟨NV0, 0, none⟩) zV0).trans kV0_0
  replace kV0_1 := (hbw25.cell (p := ⟨NV0, 1, none⟩) zV0).trans kV0_1
  replace kV0_2 := (hbw25.cell (p := ⟨NV0, 2, none⟩) zV0).trans kV0_2
  replace kV0_3 := (hbw25.cell (p := ⟨NV0, 3, none⟩) zV0).trans kV0_3
  replace zV0 := Nat.lt_of_lt_of_le zV0 hbw25.size
  replace S1n := hide (S1n.out.below hbw25)
  replace S1d := hide (S1d.out.below hbw25)
  replace S2n := hide (S2n.out.below hbw25)
  replace S2d := hide (S2d.out.below hbw25)
  replace SW0n := hide (SW0n.out.below hbw25)
  replace SW0d := hide (SW0d.out.below hbw25)
  replace HPn := hide (HPn.out.below hbw25)
  replace HPd := hide (HPd.out.below hbw25)
  replace HQn := hide (HQn.out.below hbw25)
  replace HQd := hide (HQd.out.below hbw25)
  replace HG0n := hide (HG0n.out.below hbw25)
  replace HG0d := hide (HG0d.out.below hbw25)
  replace SV0n := hide (SV0n.out.below hbw25)
  replace SV0d := hide (SV0d.out.below hbw25)
  replace HB := hide (bl_trans HB.out hbw25)
  clear hbw25
  go_wp2_with fail
  refine (heldR (sgn (rQuoN n1n xs1n n1d xs1d n2n xs2n n2d xs2d)) aG0n (lms (rQuoN n1n xs1n n1d xs1d n2n xs2n n2d xs2d)).length cG0n (sgn (rQuoD n1n xs1n n1d xs1d n2n xs2n n2d xs2d)) aG0d (lms (rQuoD n1n xs1n n1d xs1d n2n xs2n n2d xs2d)).length cG0d (0) (1) _ (by omega) (by omega) HG0n.out.seg HG0d.out.seg).mono ?_
  rintro e w26 ⟨rfl, hbw26⟩
  have yw26 := hbw26.size
  replace k1_0 := (hbw26.cell (p := ⟨w.heap.size, 0, none⟩) z1).trans k1_0
  replace k1_1 := (hbw26.cell (p := ⟨w.heap.size, 1, none⟩) z1).trans k1_1
  replace k1_2 := (hbw26.cell (p := ⟨w.heap.size, 2, none⟩) z1).trans k1_2
  replace k1_3 := (hbw26.cell (p := ⟨w.heap.size, 3, none⟩) z1).trans k1_3
  replace z1 := Nat.lt_of_lt_of_le z1 hbw26.size
  replace k2_0 := (hbw26.cell (p := ⟨w.heap.size + 1, 0, none⟩) z2).trans k2_0
  replace k2_1 := (hbw26.cell (p := ⟨w.heap.size + 1, 1, none⟩) z2).trans k2_1
  replace k2_2 := (hbw26.cell (p := ⟨w.heap.size + 1, 2, none⟩) z2).trans k2_2
  replace k2_3 := (hbw26.cell (p := ⟨w.heap.size + 1, 3, none⟩) z2).trans k2_3
  replace z2 := Nat.lt_of_lt_of_le z2 hbw26.size
  replace kW0_0 := (hbw26.cell (p := ⟨NW0, 0, none⟩) zW0).trans kW0_0
  replace kW0_1 := (hbw26.cell (p := ⟨NW0, 1, none⟩) zW0).trans kW0_1
  replace kW0_2 := (hbw26.cell (p := ⟨NW0, 2, none⟩) zW0).trans kW0_2
  replace kW0_3 := (hbw26.cell (p := ⟨NW0, 3, none⟩) zW0).trans kW0_3
  replace zW0 := Nat.lt_of_lt_of_le zW0 hbw26.size
  replace kP_0 := (hbw26.cell (p := ⟨w5.heap.size, 0, none⟩) zP).trans kP_0
  replace kP_1 := (hbw26.cell (p := ⟨w5.heap.size, 1, none⟩) zP).trans kP_1
  replace kP_2 := (hbw26.cell (p := ⟨w5.heap.size, 2, none⟩) zP).trans kP_2
  replace kP_3 := (hbw26.cell (p := ⟨w5.heap.size, 3, none⟩) zP).trans kP_3
  replace zP := Nat.lt_of_lt_of_le zP hbw26.size
  replace kQ_0 := (hbw26.cell (p := ⟨w7.heap.size, 0, none⟩) zQ).trans kQ_0
  replace kQ_1 := (hbw26.cell (p := ⟨w7.heap.size, 1, none⟩) zQ).trans kQ_1
  replace kQ_2 := (hbw26.cell (p := ⟨w7.heap.size, 2, none⟩) zQ).trans kQ_2
  replace kQ_3 := (hbw26.cell (p := ⟨w7.heap.size, 3, none⟩) zQ).trans kQ_3
  replace zQ := Nat.lt_of_lt_of_le zQ hbw26.size
  replace kG0_0 := (hbw26.cell (p := ⟨w9.heap.size, 0, none⟩) zG0).trans kG0_0
  replace kG0_1 := (hbw26.cell (p := ⟨w9.heap.size, 1, none⟩) zG0).trans kG0_1
  replace kG0_2 := (hbw26.cell (p := ⟨w9.heap.size, 2, none⟩) zG0).trans kG0_2
  replace kG0_3 := (hbw26.cell (p := ⟨w9.heap.size, 3, none⟩) zG0).trans kG0_3
  replace zG0 := Nat.lt_of_lt_of_le zG0 hbw26.size
  replace kV0_0 := (hbw26.cell (p := ⟨NV0, 0, none⟩) zV0).trans kV0_0
  replace kV0_1 := (hbw26.cell (p := ⟨NV0, 1, none⟩) zV0).trans kV0_1
  replace kV0_2 := (hbw26.cell (p := ⟨NV0, 2, none⟩) zV0).trans kV0_2
  replace kV0_3 := (hbw26.cell (p := ⟨NV0, 3, none⟩) zV0).trans kV0_3
  replace zV0 := Nat.lt_of_lt_of_le zV0 hbw26.size
  replace S1n := hide (S1n.out.below hbw26)
  replace S1d := hide (S1d.out.below hbw26)
  replace S2n := hide (S2n.out.below hbw26)
  replace S2d := hide (S2d.out.below hbw26)
  replace SW0n := hide (SW0n.out.below hbw26)
  replace SW0d := hide (SW0d.out.below hbw26)
  replace HPn := hide (HPn.out.below hbw26)
  replace HPd := hide (HPd.out.below hbw26)
  replace HQn := hide (HQn.out.below hbw26)
  replace HQd := hide (HQd.out.below hbw26)
  replace HG0n := hide (HG0n.out.below hbw26)
  replace HG0d := hide (HG0d.out.below hbw26)
  replace SV0n := hide (SV0n.out.below hbw26)
  replace SV0d := hide (SV0d.out.below hbw26)
  replace HB := hide (bl_trans HB.out hbw26)
  clear hbw26
  go_wp2
  go_ret
  exact ⟨rfl, HB.out⟩
end Go.Proofs.Ytemjkgegbpkeoaa
