/- The walks of bigDifference, and of what lets a right number by: ifRight, l02Fit. -/
import Derived.Test.YtbopgbpnbonkeaaSum
namespace Go.Proofs.Ytbopgbpnbonkeaa
open Go.RowKit
set_option linter.unusedVariables false

theorem mk_not (n : Bool) (y : Nat) : mk (!n) y = - mk n y := by cases n <;> simp [mk]

set_option maxHeartbeats 1000000 in
set_option maxRecDepth 20000 in
theorem diffI (v1 v2 : Value) (n1 n2 : Bool) (x y : Nat) (w : World) (h1 : Raw w v1 n1 (Num.limbs x)) (h2 : Raw w v2 n2 (Num.limbs y)) (l1 : (Num.limbs x).length ≤ 1048576) (l2 : (Num.limbs y).length ≤ 1048576) :
    Calls Try.prog 80 #[v1, v2] w fun e w' => ∃ v, e = .returned v ∧ New w' w.heap.size v (mk n1 x - mk n2 y) ∧ Below w.heap.size w w' := by
  obtain ⟨a, ca, rfl, ha⟩ := h1
  obtain ⟨b, cb, rfl, hb⟩ := h2
  have HZ := hide (bl_alloc (bl_alloc (bl_alloc (bl_refl w) (Obj.cells #[Value.bool n1, Value.slice a (Num.limbs x).length ca] 45)) (Obj.cells #[Value.bool !n2, Value.slice b (Num.limbs y).length cb] 45)) (Obj.cells #[Value.bool false, Value.slice none 0 0] 45))
  have HA := hide (ha.below HZ.out)
  have HBB := hide (hb.below HZ.out)
  clear ha hb
  have kR0 : (((w.alloc (Obj.cells #[Value.bool n1, Value.slice a (Num.limbs x).length ca] 45)).alloc (Obj.cells #[Value.bool !n2, Value.slice b (Num.limbs y).length cb] 45)).alloc (Obj.cells #[Value.bool false, Value.slice none 0 0] 45)).cell? ⟨w.heap.size + 1 + 1, 0, none⟩ = some (.bool false) := by go_simp
  have kR1 : (((w.alloc (Obj.cells #[Value.bool n1, Value.slice a (Num.limbs x).length ca] 45)).alloc (Obj.cells #[Value.bool !n2, Value.slice b (Num.limbs y).length cb] 45)).alloc (Obj.cells #[Value.bool false, Value.slice none 0 0] 45)).cell? ⟨w.heap.size + 1 + 1, 1, none⟩ = some (.slice none 0 0) := by go_simp
  have fR0 : (((w.alloc (Obj.cells #[Value.bool n1, Value.slice a (Num.limbs x).length ca] 45)).alloc (Obj.cells #[Value.bool !n2, Value.slice b (Num.limbs y).length cb] 45)).alloc (Obj.cells #[Value.bool false, Value.slice none 0 0] 45)).frozen? ⟨w.heap.size + 1 + 1, 0, none⟩ = false := by go_simp
  have fR1 : (((w.alloc (Obj.cells #[Value.bool n1, Value.slice a (Num.limbs x).length ca] 45)).alloc (Obj.cells #[Value.bool !n2, Value.slice b (Num.limbs y).length cb] 45)).alloc (Obj.cells #[Value.bool false, Value.slice none 0 0] 45)).frozen? ⟨w.heap.size + 1 + 1, 1, none⟩ = false := by go_simp
  have zR : w.heap.size + 1 + 1 < (((w.alloc (Obj.cells #[Value.bool n1, Value.slice a (Num.limbs x).length ca] 45)).alloc (Obj.cells #[Value.bool !n2, Value.slice b (Num.limbs y).length cb] 45)).alloc (Obj.cells #[Value.bool false, Value.slice none 0 0] 45)).heap.size := by simp only [World.size_alloc]; omega
  have HE : Hid (mk n1 x + mk (!n2) y = mk n1 x - mk n2 y) := hide (by rw [mk_not]; omega)
  go_enter Try.func80, Try.ntmps80
  go_wp2_with fail
  generalize (((w.alloc (Obj.cells #[Value.bool n1, Value.slice a (Num.limbs x).length ca] 45)).alloc (Obj.cells #[Value.bool !n2, Value.slice b (Num.limbs y).length cb] 45)).alloc (Obj.cells #[Value.bool false, Value.slice none 0 0] 45)) = w1 at *
  refine (sumI _ _ n1 (!n2) x y _ ⟨a, ca, rfl, HA.out⟩ ⟨b, cb, rfl, HBB.out⟩ l1 l2).mono ?_
  rintro e w2 ⟨v2, rfl, hn2, hb2⟩
  rw [HE.out] at hn2
  obtain ⟨k0, k1, f0, f1⟩ := box_keep (N := w.heap.size + 1 + 1) hb2 zR kR0 kR1 fR0 fR1
  have HF := hide (fun x y => fin_box (N := w.heap.size + 1 + 1) (x := x) (y := y) hn2 zR (by omega) (bl_trans HZ.out hb2))
  obtain ⟨a2, c2, rfl, ho2⟩ := hn2
  clear hb2 ho2 kR0 kR1 fR0 fR1 HA HBB HZ
  go_wp2
  refine bodyPost_ret (v := .agg #[.bool (sgn (mk n1 x - mk n2 y)), .slice a2 (lms (mk n1 x - mk n2 y)).length c2]) (by simp [results, Try.results80, go_sem, *]) rfl ?_
  exact ⟨_, rfl, HF.out _ _⟩

/-- a number of at most 40 limbs, or none -/
def fits (z : Int) : Bool := decide (z.natAbs < 4294967296 ^ 40)
def fitZ (z : Int) : Int := if fits z then z else 0
theorem zero_sgn : sgn 0 = false := rfl
theorem zero_lms : lms 0 = [] := Num.limbs_zero
theorem new_zero (W : World) (base : Nat) : New W base (.agg #[.bool false, .slice none 0 0]) 0 := ⟨none, 0, by rw [zero_sgn, zero_lms]; rfl, by rw [zero_lms]; exact Own.nil _ _⟩
theorem ret_fit {v : Value} {t u : Bool} (h : t = u) : Ending.returned (.tuple #[v, .bool t]) = .returned (.tuple #[v, .bool u]) := by rw [h]

end Go.Proofs.Ytbopgbpnbonkeaa
