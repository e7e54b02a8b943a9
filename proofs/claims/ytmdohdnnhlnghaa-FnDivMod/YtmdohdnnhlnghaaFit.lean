/- The walks of bigDifference, and of what lets a right number by: ifRight, l02Fit. -/
import Derived.Test.YtmdohdnnhlnghaaSum
namespace Go.Proofs.Ytmdohdnnhlnghaa
open Go.RowKit
set_option linter.unusedVariables false

theorem mk_not (n : Bool) (y : Nat) : mk (!n) y = - mk n y := by cases n <;> simp [mk]

set_option maxHeartbeats 1000000 in
set_option maxRecDepth 20000 in
theorem diffI (v1 v2 : Value) (n1 n2 : Bool) (x y : Nat) (w : World) (h1 : Raw w v1 n1 (Num.limbs x)) (h2 : Raw w v2 n2 (Num.limbs y)) (l1 : (Num.limbs x).length ≤ 1048576) (l2 : (Num.limbs y).length ≤ 1048576) :
    Calls Try.prog 25 #[v1, v2] w fun e w' => ∃ v, e = .returned v ∧ New w' w.heap.size v (mk n1 x - mk n2 y) ∧ Below w.heap.size w w' := by
  obtain ⟨a, ca, rfl, ha⟩ := h1
  obtain ⟨b, cb, rfl, hb⟩ := h2
  have HZ := hide (bl_alloc (bl_alloc (bl_alloc (bl_refl w) (Obj.cells #[Value.bool n1, Value.slice a (Num.limbs x).length ca] 26)) (Obj.cells #[Value.bool !n2, Value.slice b (Num.limbs y).length cb] 26)) (Obj.cells #[Value.bool false, Value.slice none 0 0] 26))
  have HA := hide (ha.below HZ.out)
  have HBB := hide (hb.below HZ.out)
  clear ha hb
  have kR0 : (((w.alloc (Obj.cells #[Value.bool n1, Value.slice a (Num.limbs x).length ca] 26)).alloc (Obj.cells #[Value.bool !n2, Value.slice b (Num.limbs y).length cb] 26)).alloc (Obj.cells #[Value.bool false, Value.slice none 0 0] 26)).cell? ⟨w.heap.size + 1 + 1, 0, none⟩ = some (.bool false) := by go_simp
  have kR1 : (((w.alloc (Obj.cells #[Value.bool n1, Value.slice a (Num.limbs x).length ca] 26)).alloc (Obj.cells #[Value.bool !n2, Value.slice b (Num.limbs y).length cb] 26)).alloc (Obj.cells #[Value.bool false, Value.slice none 0 0] 26)).cell? ⟨w.heap.size + 1 + 1, 1, none⟩ = some (.slice none 0 0) := by go_simp
  have fR0 : (((w.alloc (Obj.cells #[Value.bool n1, Value.slice a (Num.limbs x).length ca] 26)).alloc (Obj.cells #[Value.bool !n2, Value.slice b (Num.limbs y).length cb] 26)).alloc (Obj.cells #[Value.bool false, Value.slice none 0 0] 26)).frozen? ⟨w.heap.size + 1 + 1, 0, none⟩ = false := by go_simp
  have fR1 : (((w.alloc (Obj.cells #[Value.bool n1, Value.slice a (Num.limbs x).length ca] 26)).alloc (Obj.cells #[Value.bool !n2, Value.slice b (Num.limbs y).length cb] 26)).alloc (Obj.cells #[Value.bool false, Value.slice none 0 0] 26)).frozen? ⟨w.heap.size + 1 + 1, 1, none⟩ = false := by go_simp
  have zR : w.heap.size + 1 + 1 < (((w.alloc (Obj.cells #[Value.bool n1, Value.slice a (Num.limbs x).length ca] 26)).alloc (Obj.cells #[Value.bool !n2, Value.slice b (Num.limbs y).length cb] 26)).alloc (Obj.cells #[Value.bool false, Value.slice none 0 0] 26)).heap.size := by simp only [World.size_alloc]; omega
  have HE : Hid (mk n1 x + mk (!n2) y = mk n1 x - mk n2 y) := hide (by rw [mk_not]; omega)
  go_enter Try.func25, Try.ntmps25
  go_wp2_with fail
  generalize (((w.alloc (Obj.cells #[Value.bool n1, Value.slice a (Num.limbs x).length ca] 26)).alloc (Obj.cells #[Value.bool !n2, Value.slice b (Num.limbs y).length cb] 26)).alloc (Obj.cells #[Value.bool false, Value.slice none 0 0] 26)) = w1 at *
  refine (sumI _ _ n1 (!n2) x y _ ⟨a, ca, rfl, HA.out⟩ ⟨b, cb, rfl, HBB.out⟩ l1 l2).mono ?_
  rintro e w2 ⟨v2, rfl, hn2, hb2⟩
  rw [HE.out] at hn2
  obtain ⟨k0, k1, f0, f1⟩ := box_keep (N := w.heap.size + 1 + 1) hb2 zR kR0 kR1 fR0 fR1
  have HF := hide (fun x y => fin_box (N := w.heap.size + 1 + 1) (x := x) (y := y) hn2 zR (by omega) (bl_trans HZ.out hb2))
  obtain ⟨a2, c2, rfl, ho2⟩ := hn2
  clear hb2 ho2 kR0 kR1 fR0 fR1 HA HBB HZ
  go_wp2
  refine bodyPost_ret (v := .agg #[.bool (sgn (mk n1 x - mk n2 y)), .slice a2 (lms (mk n1 x - mk n2 y)).length c2]) (by simp [results, Try.results25, go_sem, *]) rfl ?_
  exact ⟨_, rfl, HF.out _ _⟩

/-- a number of at most 40 limbs, or none -/
def fits (z : Int) : Bool := decide (z.natAbs < 4294967296 ^ 40)
def fitZ (z : Int) : Int := if fits z then z else 0
theorem zero_sgn : sgn 0 = false := rfl
theorem zero_lms : lms 0 = [] := Num.limbs_zero
theorem new_zero (W : World) (base : Nat) : New W base (.agg #[.bool false, .slice none 0 0]) 0 := ⟨none, 0, by rw [zero_sgn, zero_lms]; rfl, by rw [zero_lms]; exact Own.nil _ _⟩
theorem ret_fit {v : Value} {t u : Bool} (h : t = u) : Ending.returned (.tuple #[v, .bool t]) = .returned (.tuple #[v, .bool u]) := by rw [h]

set_option maxHeartbeats 1000000 in
set_option maxRecDepth 20000 in
theorem fitI (v : Value) (z : Int) (base : Nat) (w : World) (h : New w base v z) (hbase : base ≤ w.heap.size) :
    Calls Try.prog 20 #[v] w fun e w' => ∃ v', e = .returned (.tuple #[v', .bool (fits z)]) ∧ New w' base v' (fitZ z) ∧ Below w.heap.size w w' := by
  obtain ⟨a, c, rfl, ho⟩ := h
  have HZ := hide (bl_alloc (bl_alloc (bl_refl w) (Obj.cells #[Value.bool (sgn z), Value.slice a (lms z).length c] 26)) (Obj.cells #[Value.bool false, Value.slice none 0 0] 26))
  have HO := hide (ho.below HZ.out)
  have HOw := hide ho
  clear ho
  have kA0 : ((w.alloc (Obj.cells #[Value.bool (sgn z), Value.slice a (lms z).length c] 26)).alloc (Obj.cells #[Value.bool false, Value.slice none 0 0] 26)).cell? ⟨w.heap.size, 0, none⟩ = some (.bool (sgn z)) := by go_simp
  have kA1 : ((w.alloc (Obj.cells #[Value.bool (sgn z), Value.slice a (lms z).length c] 26)).alloc (Obj.cells #[Value.bool false, Value.slice none 0 0] 26)).cell? ⟨w.heap.size, 1, none⟩ = some (.slice a (lms z).length c) := by go_simp
  have kR0 : ((w.alloc (Obj.cells #[Value.bool (sgn z), Value.slice a (lms z).length c] 26)).alloc (Obj.cells #[Value.bool false, Value.slice none 0 0] 26)).cell? ⟨w.heap.size + 1, 0, none⟩ = some (.bool false) := by go_simp
  have kR1 : ((w.alloc (Obj.cells #[Value.bool (sgn z), Value.slice a (lms z).length c] 26)).alloc (Obj.cells #[Value.bool false, Value.slice none 0 0] 26)).cell? ⟨w.heap.size + 1, 1, none⟩ = some (.slice none 0 0) := by go_simp
  have fR0 : ((w.alloc (Obj.cells #[Value.bool (sgn z), Value.slice a (lms z).length c] 26)).alloc (Obj.cells #[Value.bool false, Value.slice none 0 0] 26)).frozen? ⟨w.heap.size + 1, 0, none⟩ = false := by go_simp
  have fR1 : ((w.alloc (Obj.cells #[Value.bool (sgn z), Value.slice a (lms z).length c] 26)).alloc (Obj.cells #[Value.bool false, Value.slice none 0 0] 26)).frozen? ⟨w.heap.size + 1, 1, none⟩ = false := by go_simp
  have zR : w.heap.size + 1 < ((w.alloc (Obj.cells #[Value.bool (sgn z), Value.slice a (lms z).length c] 26)).alloc (Obj.cells #[Value.bool false, Value.slice none 0 0] 26)).heap.size := by simp only [World.size_alloc]; omega
  go_enter Try.func20, Try.ntmps20
  go_wp2_with fail
  generalize ((w.alloc (Obj.cells #[Value.bool (sgn z), Value.slice a (lms z).length c] 26)).alloc (Obj.cells #[Value.bool false, Value.slice none 0 0] 26)) = w1 at *
  refine (okI _ (sgn z) (lms z) _ ⟨a, c, rfl, HO.out.seg⟩).mono ?_
  rintro e w2 ⟨rfl, hb2⟩
  rw [ok_of_num z]
  obtain ⟨k0, k1, f0, f1⟩ := box_keep (N := w.heap.size + 1) hb2 zR kR0 kR1 fR0 fR1
  replace kA0 := (hb2.cell (p := ⟨w.heap.size, 0, none⟩) (by dsimp only; omega)).trans kA0
  replace kA1 := (hb2.cell (p := ⟨w.heap.size, 1, none⟩) (by dsimp only; omega)).trans kA1
  have q := hb2.size
  replace HZ := hide (bl_trans HZ.out hb2)
  clear hb2 kR0 kR1 fR0 fR1 HO
  cases hf : decide (z.natAbs < 4294967296 ^ 40) with
  | false =>
    have HF1 : Hid (fits z = false) := hide hf
    have HF2 : Hid (fitZ z = 0) := hide (by unfold fitZ; rw [HF1.out]; rfl)
    clear hf
    go_wp2
    refine bodyPost_ret (v := .tuple #[.agg #[.bool false, .slice none 0 0], .bool false]) (by simp [results, Try.results20, go_sem, *]) rfl ?_
    rw [HF1.out, HF2.out]
    exact ⟨_, rfl, new_zero _ _, (HZ.out.setCell (p := ⟨w.heap.size + 1, 0, none⟩) (by dsimp only; omega) _).setCell (p := ⟨w.heap.size + 1, 1, none⟩) (by dsimp only; omega) _⟩
  | true =>
    have HF1 : Hid (fits z = true) := hide hf
    have HF2 : Hid (fitZ z = z) := hide (by unfold fitZ; rw [HF1.out]; rfl)
    clear hf
    go_wp2
    refine bodyPost_ret (v := .tuple #[.agg #[.bool (sgn z), .slice a (lms z).length c], .bool true]) (by simp [results, Try.results20, go_sem, *]) rfl ?_
    rw [HF1.out, HF2.out]
    have hbl := (HZ.out.setCell (p := ⟨w.heap.size + 1, 0, none⟩) (by dsimp only; omega) (Value.bool (sgn z))).setCell (p := ⟨w.heap.size + 1, 1, none⟩) (by dsimp only; omega) (Value.slice a (lms z).length c)
    exact ⟨_, rfl, ⟨a, c, rfl, HOw.out.below hbl⟩, hbl⟩

set_option maxHeartbeats 1000000 in
set_option maxRecDepth 20000 in
theorem fitS (v : Value) (z : Int) (base : Nat) (w : World) (h : New w base v z) (hbase : base ≤ w.heap.size) :
    Calls Try.prog 23 #[v] w fun e w' => ∃ v', e = .returned (.tuple #[v', .bool (fits z)]) ∧ New w' base v' (fitZ z) ∧ Below w.heap.size w w' := by
  obtain ⟨a, c, rfl, ho⟩ := h
  have HZ := hide (bl_alloc (bl_alloc (bl_refl w) (Obj.cells #[Value.bool (sgn z), Value.slice a (lms z).length c] 26)) (Obj.cells #[Value.bool false, Value.slice none 0 0] 26))
  have HO := hide (ho.below HZ.out)
  have HOw := hide ho
  clear ho
  have kA0 : ((w.alloc (Obj.cells #[Value.bool (sgn z), Value.slice a (lms z).length c] 26)).alloc (Obj.cells #[Value.bool false, Value.slice none 0 0] 26)).cell? ⟨w.heap.size, 0, none⟩ = some (.bool (sgn z)) := by go_simp
  have kA1 : ((w.alloc (Obj.cells #[Value.bool (sgn z), Value.slice a (lms z).length c] 26)).alloc (Obj.cells #[Value.bool false, Value.slice none 0 0] 26)).cell? ⟨w.heap.size, 1, none⟩ = some (.slice a (lms z).length c) := by go_simp
  have kR0 : ((w.alloc (Obj.cells #[Value.bool (sgn z), Value.slice a (lms z).length c] 26)).alloc (Obj.cells #[Value.bool false, Value.slice none 0 0] 26)).cell? ⟨w.heap.size + 1, 0, none⟩ = some (.bool false) := by go_simp
  have kR1 : ((w.alloc (Obj.cells #[Value.bool (sgn z), Value.slice a (lms z).length c] 26)).alloc (Obj.cells #[Value.bool false, Value.slice none 0 0] 26)).cell? ⟨w.heap.size + 1, 1, none⟩ = some (.slice none 0 0) := by go_simp
  have fR0 : ((w.alloc (Obj.cells #[Value.bool (sgn z), Value.slice a (lms z).length c] 26)).alloc (Obj.cells #[Value.bool false, Value.slice none 0 0] 26)).frozen? ⟨w.heap.size + 1, 0, none⟩ = false := by go_simp
  have fR1 : ((w.alloc (Obj.cells #[Value.bool (sgn z), Value.slice a (lms z).length c] 26)).alloc (Obj.cells #[Value.bool false, Value.slice none 0 0] 26)).frozen? ⟨w.heap.size + 1, 1, none⟩ = false := by go_simp
  have zR : w.heap.size + 1 < ((w.alloc (Obj.cells #[Value.bool (sgn z), Value.slice a (lms z).length c] 26)).alloc (Obj.cells #[Value.bool false, Value.slice none 0 0] 26)).heap.size := by simp only [World.size_alloc]; omega
  go_enter Try.func23, Try.ntmps23
  go_wp2_with fail
  generalize ((w.alloc (Obj.cells #[Value.bool (sgn z), Value.slice a (lms z).length c] 26)).alloc (Obj.cells #[Value.bool false, Value.slice none 0 0] 26)) = w1 at *
  refine (okS _ (sgn z) (lms z) _ ⟨a, c, rfl, HO.out.seg⟩).mono ?_
  rintro e w2 ⟨rfl, hb2⟩
  rw [ok_of_num z]
  obtain ⟨k0, k1, f0, f1⟩ := box_keep (N := w.heap.size + 1) hb2 zR kR0 kR1 fR0 fR1
  replace kA0 := (hb2.cell (p := ⟨w.heap.size, 0, none⟩) (by dsimp only; omega)).trans kA0
  replace kA1 := (hb2.cell (p := ⟨w.heap.size, 1, none⟩) (by dsimp only; omega)).trans kA1
  have q := hb2.size
  replace HZ := hide (bl_trans HZ.out hb2)
  clear hb2 kR0 kR1 fR0 fR1 HO
  cases hf : decide (z.natAbs < 4294967296 ^ 40) with
  | false =>
    have HF1 : Hid (fits z = false) := hide hf
    have HF2 : Hid (fitZ z = 0) := hide (by unfold fitZ; rw [HF1.out]; rfl)
    clear hf
    go_wp2
    refine bodyPost_ret (v := .tuple #[.agg #[.bool false, .slice none 0 0], .bool false]) (by simp [results, Try.results23, go_sem, *]) rfl ?_
    rw [HF1.out, HF2.out]
    exact ⟨_, rfl, new_zero _ _, (HZ.out.setCell (p := ⟨w.heap.size + 1, 0, none⟩) (by dsimp only; omega) _).setCell (p := ⟨w.heap.size + 1, 1, none⟩) (by dsimp only; omega) _⟩
  | true =>
    have HF1 : Hid (fits z = true) := hide hf
    have HF2 : Hid (fitZ z = z) := hide (by unfold fitZ; rw [HF1.out]; rfl)
    clear hf
    go_wp2
    refine bodyPost_ret (v := .tuple #[.agg #[.bool (sgn z), .slice a (lms z).length c], .bool true]) (by simp [results, Try.results23, go_sem, *]) rfl ?_
    rw [HF1.out, HF2.out]
    have hbl := (HZ.out.setCell (p := ⟨w.heap.size + 1, 0, none⟩) (by dsimp only; omega) (Value.bool (sgn z))).setCell (p := ⟨w.heap.size + 1, 1, none⟩) (by dsimp only; omega) (Value.slice a (lms z).length c)
    exact ⟨_, rfl, ⟨a, c, rfl, HOw.out.below hbl⟩, hbl⟩

end Go.Proofs.Ytmdohdnnhlnghaa
