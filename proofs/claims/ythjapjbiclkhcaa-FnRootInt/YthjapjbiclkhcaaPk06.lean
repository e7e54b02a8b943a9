/- My texts Fit, Prod, in this order. -/
import Derived.Test.YthjapjbiclkhcaaPk05
import Derived.Deep.RegionHeld3
import Derived.Deep.DeepCutAuto
/- The walks of bigDifference, and of what lets a right number by: ifRight, l02Fit. -/
namespace Go.Proofs.Ythjapjbiclkhcaa
open Go.RowKit
set_option linter.unusedVariables false

theorem mk_not (n : Bool) (y : Nat) : mk (!n) y = - mk n y := by cases n <;> simp [mk]

set_option maxHeartbeats 1000000 in
set_option maxRecDepth 20000 in
theorem diffI (v1 v2 : Value) (n1 n2 : Bool) (x y : Nat) (w : World) (h1 : Raw w v1 n1 (Num.limbs x)) (h2 : Raw w v2 n2 (Num.limbs y)) (l1 : (Num.limbs x).length ≤ 1048576) (l2 : (Num.limbs y).length ≤ 1048576) :
    Calls Try.prog 84 #[v1, v2] w fun e w' => ∃ v, e = .returned v ∧ New w' w.heap.size v (mk n1 x - mk n2 y) ∧ Below w.heap.size w w' := by
  obtain ⟨a, ca, rfl, ha⟩ := h1
  obtain ⟨b, cb, rfl, hb⟩ := h2
  have HZ := hide (bl_alloc (bl_alloc (bl_alloc (bl_refl w) (Obj.cells #[Value.bool n1, Value.slice a (Num.limbs x).length ca] 26)) (Obj.cells #[Value.bool !n2, Value.slice b (Num.limbs y).length cb] 26)) (Obj.cells #[Value.bool false, Value.slice none 0 0] 26))
  have HA := hide (ha.below HZ.out)
  have HBB := hide (hb.below HZ.out)
  clear ha hb
  have kR0 : (((w.alloc (Obj.cells #[Value.bool n1, Value.slice a (Num.limbs x).length ca] 26)).alloc (Obj.cells #[Value.bool !n2, Value.slice b (Num.limbs y).length cb] 26)).alloc (Obj.cells #[Value.bool false, Value.slice none 0 0] 26)).cell? ⟨w.heap.size + 1 + 1, 0, none⟩ = some (.bool false) := by go_simp
  have kR1 : (((w.alloc (Obj.cells #[Value.bool n1, Value.slice a (Num.limbs x).length ca] 26)).alloc (Obj.cells #[Value.bool !n2, Value.slice b (Num.limbs y).length cb] 26)).alloc (Obj.cells #[Value.bool false, Value.slice none 0 0] 26)).cell? ⟨w.heap.size + 1 + 1, 1, none⟩ = some (.slice none 0 0) := by go_simp
  have fR0 : (((w.alloc (Obj.cells #[Value.bool n1, Value.slice a (Num.limbs x).length ca] 26)).alloc (Obj.cells #[Value.bool !n2, Value.slice b (Num.limbs y).length cb] 26)).alloc (Obj.cells #[Value.bool false, Value.slice none 0 0] 26)).frozen? ⟨w.heap.size + 1 + 1, 0, none⟩ = false := by go_simp
  have fR1 : (((w.alloc (Obj.cells #[Value.bool n1, Value.slice a (Num.limbs x).length ca] 26)).alloc (Obj.cells #[Value.bool !n2, Value.slice b (Num.limbs y).length cb] 26)).alloc (Obj.cells #[Value.bool false, Value.slice none 0 0] 26)).frozen? ⟨w.heap.size + 1 + 1, 1, none⟩ = false := by go_simp
  have zR : w.heap.size + 1 + 1 < (((w.alloc (Obj.cells #[Value.bool n1, Value.slice a (Num.limbs x).length ca] 26)).alloc (Obj.cells #[Value.bool !n2, Value.slice b (Num.limbs y).length cb] 26)).alloc (Obj.cells #[Value.bool false, Value.slice none 0 0] 26)).heap.size := by simp only [World.size_alloc]; omega
  have HE : Hid (mk n1 x + mk (!n2) y = mk n1 x - mk n2 y) := hide (by rw [mk_not]; omega)
  go_enter Try.func84, Try.ntmps84
  go_wp2_with fail
  generalize (((w.alloc (Obj.cells #[Value.bool n1, Value.slice a (Num.limbs x).length ca] 26)).alloc (Obj.cells #[Value.bool !n2, Value.slice b (Num.limbs y).length cb] 26)).alloc (Obj.cells #[Value.bool false, Value.slice none 0 0] 26)) = w1 at *
  refine (sumI _ _ n1 (!n2) x y _ ⟨a, ca, rfl, HA.out⟩ ⟨b, cb, rfl, HBB.out⟩ l1 l2).mono ?_
  rintro e w2 ⟨v2, rfl, hn2, hb2⟩
  rw [HE.out] at hn2
  obtain ⟨k0, k1, f0, f1⟩ := box_keep (N := w.heap.size + 1 + 1) hb2 zR kR0 kR1 fR0 fR1
  have HF := hide (fun x y => fin_box (N := w.heap.size + 1 + 1) (x := x) (y := y) hn2 zR (by omega) (bl_trans HZ.out hb2))
  obtain ⟨a2, c2, rfl, ho2⟩ := hn2
  clear hb2 ho2 kR0 kR1 fR0 fR1 HA HBB HZ
  go_wp2
  refine bodyPost_ret (v := .agg #[.bool (sgn (mk n1 x - mk n2 y)), .slice a2 (lms (mk n1 x - mk n2 y)).length c2]) (by simp [results, Try.results84, go_sem, *]) rfl ?_
  exact ⟨_, rfl, HF.out _ _⟩

/-- a number of at most 40 limbs, or none -/
def fits (z : Int) : Bool := decide (z.natAbs < 4294967296 ^ 40)
def fitZ (z : Int) : Int := if fits z then z else 0
theorem zero_sgn : sgn 0 = false := rfl
theorem zero_lms : lms 0 = [] := Num.limbs_zero
theorem new_zero (W : World) (base : Nat) : New W base (.agg #[.bool false, .slice none 0 0]) 0 := ⟨none, 0, by rw [zero_sgn, zero_lms]; rfl, by rw [zero_lms]; exact Own.nil _ _⟩
theorem ret_fit {v : Value} {t u : Bool} (h : t = u) : Ending.returned (.tuple #[v, .bool t]) = .returned (.tuple #[v, .bool u]) := by rw [h]

set_option maxHeartbeats 1000000 in
set_option maxRecDepth 20000 in
theorem fitI (v : Value) (z : Int) (base : Nat) (w : World) (h : New w base v z) (hbase : base ≤ w.heap.size) :
    Calls Try.prog 35 #[v] w fun e w' => ∃ v', e = .returned (.tuple #[v', .bool (fits z)]) ∧ New w' base v' (fitZ z) ∧ Below w.heap.size w w' := by
  obtain ⟨a, c, rfl, ho⟩ := h
  have HZ := hide (bl_alloc (bl_alloc (bl_refl w) (Obj.cells #[Value.bool (sgn z), Value.slice a (lms z).length c] 26)) (Obj.cells #[Value.bool false, Value.slice none 0 0] 26))
  have HO := hide (ho.below HZ.out)
  have HOw := hide ho
  clear ho
  have kA0 : ((w.alloc (Obj.cells #[Value.bool (sgn z), Value.slice a (lms z).length c] 26)).alloc (Obj.cells #[Value.bool false, Value.slice none 0 0] 26)).cell? ⟨w.heap.size, 0, none⟩ = some (.bool (sgn z)) := by go_simp
  have kA1 : ((w.alloc (Obj.cells #[Value.bool (sgn z), Value.slice a (lms z).length c] 26)).alloc (Obj.cells #[Value.bool false, Value.slice none 0 0] 26)).cell? ⟨w.heap.size, 1, none⟩ = some (.slice a (lms z).length c) := by go_simp
  have kR0 : ((w.alloc (Obj.cells #[Value.bool (sgn z), Value.slice a (lms z).length c] 26)).alloc (Obj.cells #[Value.bool false, Value.slice none 0 0] 26)).cell? ⟨w.heap.size + 1, 0, none⟩ = some (.bool false) := by go_simp
  have kR1 : ((w.alloc (Obj.cells #[Value.bool (sgn z), Value.slice a (lms z).length c] 26)).alloc (Obj.cells #[Value.bool false, Value.slice none 0 0] 26)).cell? ⟨w.heap.size + 1, 1, none⟩ = some (.slice none 0 0) := by go_simp
  have fR0 : ((w.alloc (Obj.cells #[Value.bool (sgn z), Value.slice a (lms z).length c] 26)).alloc (Obj.cells #[Value.bool false, Value.slice none 0 0] 26)).frozen? ⟨w.heap.size + 1, 0, none⟩ = false := by go_simp
  have fR1 : ((w.alloc (Obj.cells #[Value.bool (sgn z), Value.slice a (lms z).length c] 26)).alloc (Obj.cells #[Value.bool false, Value.slice none 0 0] 26)).frozen? ⟨w.heap.size + 1, 1, none⟩ = false := by go_simp
  have zR : w.heap.size + 1 < ((w.alloc (Obj.cells #[Value.bool (sgn z), Value.slice a (lms z).length c] 26)).alloc (Obj.cells #[Value.bool false, Value.slice none 0 0] 26)).heap.size := by simp only [World.size_alloc]; omega
  go_enter Try.func35, Try.ntmps35
  go_wp2_with fail
  generalize ((w.alloc (Obj.cells #[Value.bool (sgn z), Value.slice a (lms z).length c] 26)).alloc (Obj.cells #[Value.bool false, Value.slice none 0 0] 26)) = w1 at *
  refine (okI _ (sgn z) (lms z) _ ⟨a, c, rfl, HO.out.seg⟩).mono ?_
  rintro e w2 ⟨rfl, hb2⟩
  rw [ok_of_num z]
  obtain ⟨k0, k1, f0, f1⟩ := box_keep (N := w.heap.size + 1) hb2 zR kR0 kR1 fR0 fR1
  replace kA0 := (hb2.cell (p := ⟨w.heap.size, 0, none⟩) (by dsimp only; omega)).trans kA0
  replace kA1 := (hb2.cell (p := ⟨w.heap.size, 1, none⟩) (by dsimp only; omega)).trans kA1
  have q := hb2.size
  replace HZ := hide (bl_trans HZ.out hb2)
  clear hb2 kR0 kR1 fR0 fR1 HO
  cases hf : decide (z.natAbs < 4294967296 ^ 40) with
  | false =>
    have HF1 : Hid (fits z = false) := hide hf
    have HF2 : Hid (fitZ z = 0) := hide (by unfold fitZ; rw [HF1.out]; rfl)
    clear hf
    go_wp2
    refine bodyPost_ret (v := .tuple #[.agg #[.bool false, .slice none 0 0], .bool false]) (by simp [results, Try.results35, go_sem, *]) rfl ?_
    rw [HF1.out, HF2.out]
    exact ⟨_, rfl, new_zero _ _, (HZ.out.setCell (p := ⟨w.heap.size + 1, 0, none⟩) (by dsimp only; omega) _).setCell (p := ⟨w.heap.size + 1, 1, none⟩) (by dsimp only; omega) _⟩
  | true =>
    have HF1 : Hid (fits z = true) := hide hf
    have HF2 : Hid (fitZ z = z) := hide (by unfold fitZ; rw [HF1.out]; rfl)
    clear hf
    go_wp2
    refine bodyPost_ret (v := .tuple #[.agg #[.bool (sgn z), .slice a (lms z).length c], .bool true]) (by simp [results, Try.results35, go_sem, *]) rfl ?_
    rw [HF1.out, HF2.out]
    have hbl := (HZ.out.setCell (p := ⟨w.heap.size + 1, 0, none⟩) (by dsimp only; omega) (Value.bool (sgn z))).setCell (p := ⟨w.heap.size + 1, 1, none⟩) (by dsimp only; omega) (Value.slice a (lms z).length c)
    exact ⟨_, rfl, ⟨a, c, rfl, HOw.out.below hbl⟩, hbl⟩

end Go.Proofs.Ythjapjbiclkhcaa

/- The walk of bigProduct: the product of two numbers of any size, in new memory. -/
namespace Go.Proofs.Ythjapjbiclkhcaa
open Go.RowKit
set_option linter.unusedVariables false

theorem mk_mul (n1 n2 : Bool) (x y : Nat) : mk (!n1 == n2) (x * y) = mk n1 x * mk n2 y := by
  cases n1 <;> cases n2 <;> simp [mk, Int.mul_neg, Int.neg_mul]

set_option maxHeartbeats 4000000 in
set_option maxRecDepth 20000 in
theorem prodI (v1 v2 : Value) (n1 n2 : Bool) (x y : Nat) (w : World) (h1 : Raw w v1 n1 (Num.limbs x)) (h2 : Raw w v2 n2 (Num.limbs y)) (l1 : (Num.limbs x).length ≤ 500000) (l2 : (Num.limbs y).length ≤ 500000) :
    Calls Try.prog 60 #[v1, v2] w fun e w' => ∃ v, e = .returned v ∧ New w' w.heap.size v (mk n1 x * mk n2 y) ∧ Below w.heap.size w w' := by
  obtain ⟨i0, hi, hz0, hz1, hz2⟩ := info_parts Try.info56
  obtain ⟨a, ca, rfl, ha⟩ := h1
  obtain ⟨b, cb, rfl, hb⟩ := h2
  have hca := ha.2.1
  have hcm := ha.2.2.1
  have hcb := hb.2.1
  have hcbm := hb.2.2.1
  have HA := hide ha
  have HBB := hide hb
  clear ha hb
  have HZ := hide (bl_alloc (bl_alloc (bl_alloc (bl_refl w) (Obj.cells #[Value.bool n1, Value.slice a (Num.limbs x).length ca] 26)) (Obj.cells #[Value.bool n2, Value.slice b (Num.limbs y).length cb] 26)) (Obj.cells #[Value.bool false, Value.slice none 0 0] 26))
  have kP0 : (((w.alloc (Obj.cells #[Value.bool n1, Value.slice a (Num.limbs x).length ca] 26)).alloc (Obj.cells #[Value.bool n2, Value.slice b (Num.limbs y).length cb] 26)).alloc (Obj.cells #[Value.bool false, Value.slice none 0 0] 26)).cell? ⟨w.heap.size, 0, none⟩ = some (Value.bool n1) := by go_simp
  have fP0 : (((w.alloc (Obj.cells #[Value.bool n1, Value.slice a (Num.limbs x).length ca] 26)).alloc (Obj.cells #[Value.bool n2, Value.slice b (Num.limbs y).length cb] 26)).alloc (Obj.cells #[Value.bool false, Value.slice none 0 0] 26)).frozen? ⟨w.heap.size, 0, none⟩ = false := by go_simp
  have kP1 : (((w.alloc (Obj.cells #[Value.bool n1, Value.slice a (Num.limbs x).length ca] 26)).alloc (Obj.cells #[Value.bool n2, Value.slice b (Num.limbs y).length cb] 26)).alloc (Obj.cells #[Value.bool false, Value.slice none 0 0] 26)).cell? ⟨w.heap.size, 1, none⟩ = some (Value.slice a (Num.limbs x).length ca) := by go_simp
  have fP1 : (((w.alloc (Obj.cells #[Value.bool n1, Value.slice a (Num.limbs x).length ca] 26)).alloc (Obj.cells #[Value.bool n2, Value.slice b (Num.limbs y).length cb] 26)).alloc (Obj.cells #[Value.bool false, Value.slice none 0 0] 26)).frozen? ⟨w.heap.size, 1, none⟩ = false := by go_simp
  have kQ0 : (((w.alloc (Obj.cells #[Value.bool n1, Value.slice a (Num.limbs x).length ca] 26)).alloc (Obj.cells #[Value.bool n2, Value.slice b (Num.limbs y).length cb] 26)).alloc (Obj.cells #[Value.bool false, Value.slice none 0 0] 26)).cell? ⟨w.heap.size + 1, 0, none⟩ = some (Value.bool n2) := by go_simp
  have fQ0 : (((w.alloc (Obj.cells #[Value.bool n1, Value.slice a (Num.limbs x).length ca] 26)).alloc (Obj.cells #[Value.bool n2, Value.slice b (Num.limbs y).length cb] 26)).alloc (Obj.cells #[Value.bool false, Value.slice none 0 0] 26)).frozen? ⟨w.heap.size + 1, 0, none⟩ = false := by go_simp
  have kQ1 : (((w.alloc (Obj.cells #[Value.bool n1, Value.slice a (Num.limbs x).length ca] 26)).alloc (Obj.cells #[Value.bool n2, Value.slice b (Num.limbs y).length cb] 26)).alloc (Obj.cells #[Value.bool false, Value.slice none 0 0] 26)).cell? ⟨w.heap.size + 1, 1, none⟩ = some (Value.slice b (Num.limbs y).length cb) := by go_simp
  have fQ1 : (((w.alloc (Obj.cells #[Value.bool n1, Value.slice a (Num.limbs x).length ca] 26)).alloc (Obj.cells #[Value.bool n2, Value.slice b (Num.limbs y).length cb] 26)).alloc (Obj.cells #[Value.bool false, Value.slice none 0 0] 26)).frozen? ⟨w.heap.size + 1, 1, none⟩ = false := by go_simp
  have kR0 : (((w.alloc (Obj.cells #[Value.bool n1, Value.slice a (Num.limbs x).length ca] 26)).alloc (Obj.cells #[Value.bool n2, Value.slice b (Num.limbs y).length cb] 26)).alloc (Obj.cells #[Value.bool false, Value.slice none 0 0] 26)).cell? ⟨w.heap.size + 1 + 1, 0, none⟩ = some (Value.bool false) := by go_simp
  have fR0 : (((w.alloc (Obj.cells #[Value.bool n1, Value.slice a (Num.limbs x).length ca] 26)).alloc (Obj.cells #[Value.bool n2, Value.slice b (Num.limbs y).length cb] 26)).alloc (Obj.cells #[Value.bool false, Value.slice none 0 0] 26)).frozen? ⟨w.heap.size + 1 + 1, 0, none⟩ = false := by go_simp
  have kR1 : (((w.alloc (Obj.cells #[Value.bool n1, Value.slice a (Num.limbs x).length ca] 26)).alloc (Obj.cells #[Value.bool n2, Value.slice b (Num.limbs y).length cb] 26)).alloc (Obj.cells #[Value.bool false, Value.slice none 0 0] 26)).cell? ⟨w.heap.size + 1 + 1, 1, none⟩ = some (Value.slice none 0 0) := by go_simp
  have fR1 : (((w.alloc (Obj.cells #[Value.bool n1, Value.slice a (Num.limbs x).length ca] 26)).alloc (Obj.cells #[Value.bool n2, Value.slice b (Num.limbs y).length cb] 26)).alloc (Obj.cells #[Value.bool false, Value.slice none 0 0] 26)).frozen? ⟨w.heap.size + 1 + 1, 1, none⟩ = false := by go_simp
  have q1 : w.heap.size + 3 ≤ (((w.alloc (Obj.cells #[Value.bool n1, Value.slice a (Num.limbs x).length ca] 26)).alloc (Obj.cells #[Value.bool n2, Value.slice b (Num.limbs y).length cb] 26)).alloc (Obj.cells #[Value.bool false, Value.slice none 0 0] 26)).heap.size := by simp only [World.size_alloc]; omega
  go_enter Try.func60, Try.ntmps60
  go_upto_region 1 with fail
  generalize (((w.alloc (Obj.cells #[Value.bool n1, Value.slice a (Num.limbs x).length ca] 26)).alloc (Obj.cells #[Value.bool n2, Value.slice b (Num.limbs y).length cb] 26)).alloc (Obj.cells #[Value.bool false, Value.slice none 0 0] 26)) = w1 at *
  go_wp2_with (at_make; refine wpList_make_full _ rfl _ _ 24 rfl w1.heap.size 56 i0 (.int .u32 0) 1 Try.underlying24 hi hz0 hz1 _ _ _ _ ((Num.limbs x).length + (Num.limbs y).length) rfl rfl (by push_cast; rfl) (by push_cast; rfl) (by rw [hz2]; omega) (by unfold maxLen; omega) (Nat.le_refl _) ?_; intro w3 hown hgrow; replace kP0 : w3.cell? ⟨w.heap.size, 0, none⟩ = some (Value.bool n1) := hgrow.cell kP0 (by simp); replace fP0 : w3.frozen? ⟨w.heap.size, 0, none⟩ = false := (grown_frozen hgrow (by dsimp only; omega) (by simp)).trans fP0; replace kP1 : w3.cell? ⟨w.heap.size, 1, none⟩ = some (Value.slice a (Num.limbs x).length ca) := hgrow.cell kP1 (by simp); replace fP1 : w3.frozen? ⟨w.heap.size, 1, none⟩ = false := (grown_frozen hgrow (by dsimp only; omega) (by simp)).trans fP1; replace kQ0 : w3.cell? ⟨w.heap.size + 1, 0, none⟩ = some (Value.bool n2) := hgrow.cell kQ0 (by simp); replace fQ0 : w3.frozen? ⟨w.heap.size + 1, 0, none⟩ = false := (grown_frozen hgrow (by dsimp only; omega) (by simp)).trans fQ0; replace kQ1 : w3.cell? ⟨w.heap.size + 1, 1, none⟩ = some (Value.slice b (Num.limbs y).length cb) := hgrow.cell kQ1 (by simp); replace fQ1 : w3.frozen? ⟨w.heap.size + 1, 1, none⟩ = false := (grown_frozen hgrow (by dsimp only; omega) (by simp)).trans fQ1; replace kR0 : w3.cell? ⟨w.heap.size + 1 + 1, 0, none⟩ = some (Value.bool false) := hgrow.cell kR0 (by simp); replace fR0 : w3.frozen? ⟨w.heap.size + 1 + 1, 0, none⟩ = false := (grown_frozen hgrow (by dsimp only; omega) (by simp)).trans fR0; replace kR1 : w3.cell? ⟨w.heap.size + 1 + 1, 1, none⟩ = some (Value.slice none 0 0) := hgrow.cell kR1 (by simp); replace fR1 : w3.frozen? ⟨w.heap.size + 1 + 1, 1, none⟩ = false := (grown_frozen hgrow (by dsimp only; omega) (by simp)).trans fR1; have HZ3 := hide (HZ.out.grown hgrow (by omega) (by simp)); have B3 := hide (own_made2 hown).blk; have q3 := B3.out.lt; clear hown hgrow)
  go_loopw [6, 7, 19] (fun _ _ i wr => ∃ (k : Nat) (Y : List Nat), k ≤ (Num.limbs x).length ∧ i = .int .i64 k ∧ Y.length = (Num.limbs x).length + (Num.limbs y).length ∧ Hid (Blk wr w1.heap.size Y) ∧ Hid (Num.nat (Y.drop (k + (Num.limbs y).length)) = 0) ∧ Hid (Num.nat Y = Num.nat ((Num.limbs x).take k) * Num.nat (Num.limbs y)) ∧ Hid (w3.grownBy wr (some w1.heap.size))) (fun _ _ i _ => (Num.limbs x).length - (intOf i).toNat)
  case atStart => exact ⟨0, List.replicate ((Num.limbs x).length + (Num.limbs y).length) 0, Nat.zero_le _, rfl, by simp, B3, hide (by rw [List.drop_replicate]; exact Num.nat_replicate _), hide (by rw [Num.nat_replicate]; simp [Num.nat]), hide ⟨rfl, rfl, rfl, Nat.le_refl _, fun _ _ _ => rfl⟩⟩
  case round =>
    obtain ⟨k, Y, hk, rfl, hYl, hB, h0, hN, hg⟩ := hrel
    have hgo := hg.out
    have HZr := hide (HZ3.out.grown hgo HZ3.out.size (fun j e => by cases e; omega))
    have hsz := hgo.size
    have kP0' : wr.cell? ⟨w.heap.size, 0, none⟩ = some (Value.bool n1) := hgo.cell kP0 (by simp; omega)
    have fP0' : wr.frozen? ⟨w.heap.size, 0, none⟩ = false := (grown_frozen hgo (by dsimp only; omega) (by simp; omega)).trans fP0
    have kP1' : wr.cell? ⟨w.heap.size, 1, none⟩ = some (Value.slice a (Num.limbs x).length ca) := hgo.cell kP1 (by simp; omega)
    have fP1' : wr.frozen? ⟨w.heap.size, 1, none⟩ = false := (grown_frozen hgo (by dsimp only; omega) (by simp; omega)).trans fP1
    have kQ0' : wr.cell? ⟨w.heap.size + 1, 0, none⟩ = some (Value.bool n2) := hgo.cell kQ0 (by simp; omega)
    have fQ0' : wr.frozen? ⟨w.heap.size + 1, 0, none⟩ = false := (grown_frozen hgo (by dsimp only; omega) (by simp; omega)).trans fQ0
    have kQ1' : wr.cell? ⟨w.heap.size + 1, 1, none⟩ = some (Value.slice b (Num.limbs y).length cb) := hgo.cell kQ1 (by simp; omega)
    have fQ1' : wr.frozen? ⟨w.heap.size + 1, 1, none⟩ = false := (grown_frozen hgo (by dsimp only; omega) (by simp; omega)).trans fQ1
    have kR0' : wr.cell? ⟨w.heap.size + 1 + 1, 0, none⟩ = some (Value.bool false) := hgo.cell kR0 (by simp; omega)
    have fR0' : wr.frozen? ⟨w.heap.size + 1 + 1, 0, none⟩ = false := (grown_frozen hgo (by dsimp only; omega) (by simp; omega)).trans fR0
    have kR1' : wr.cell? ⟨w.heap.size + 1 + 1, 1, none⟩ = some (Value.slice none 0 0) := hgo.cell kR1 (by simp; omega)
    have fR1' : wr.frozen? ⟨w.heap.size + 1 + 1, 1, none⟩ = false := (grown_frozen hgo (by dsimp only; omega) (by simp; omega)).trans fR1
    by_cases hlt : k < (Num.limbs x).length
    · have hlt' : (k : Int) < ((Num.limbs x).length : Int) := by omega
      obtain ⟨ga, oa, rfl, hga, hca2⟩ := seg_cell (HA.out.below HZr.out) k hlt
      have hsm := Num.small_at (Num.limbs_small x) hlt
      have HPS := hide (fun zs c hT => prod_step (c := c) (zs := zs) hlt hYl h0.out hN.out hT)
      generalize (Num.limbs x)[k] = f at *
      have hle : (k : Int) ≤ ((Num.limbs x).length : Int) + ((Num.limbs y).length : Int) := by omega
      have hk0 : (0 : Int) ≤ (k : Int) := by omega
      have hnk : ¬ (Num.limbs x).length + (Num.limbs y).length = k := by omega
      clear hgo kP0 kP1 kQ0 kQ1 kR0 kR1 fP0 fP1 fQ0 fQ1 fR0 fR1 h0 hN
      go_wp2_with fail
      go_region_held3 (fun w' => w'.cell? ⟨w.heap.size + 1, 0, none⟩ = some (Value.bool n2) ∧ w'.cell? ⟨w.heap.size + 1, 1, none⟩ = some (Value.slice b (Num.limbs y).length cb))
        (first | exact ⟨kQ0', kQ1'⟩ | exact ⟨hg5.cell kQ0' (by simp; omega), hg5.cell kQ1' (by simp; omega)⟩)
        (first
          | (go_at_call 85; refine (timesI f w1.heap.size k _ _ Y b (Num.limbs y).length cb (Num.limbs y) _ hsm (hB.out.below (bl_refl wr).drew) (by omega) (Nat.le_refl _) (by omega) (by omega) (HBB.out.below HZr.out.drew) (fun hp gb ob s e => by have := seg_low HBB.out hp e; omega)).mono ?_; rintro e w5 ⟨zs, c, hT, rfl, hB5, hg5⟩))
      have HN5 := hide (HPS.out zs c hT)
      have HB5 := hide hB5
      have HG5 : Hid (w3.grownBy w5 (some w1.heap.size)) := hide (grown_trans hg.out ⟨hg5.os, hg5.tape, hg5.output, hg5.size, hg5.block⟩)
      clear hT hB5 hg5 HPS hB hg
      go_wp2
      exact ⟨⟨k + 1, _, by omega, by go_num, HN5.out.1, HB5, hide HN5.out.2.1, hide HN5.out.2.2, HG5⟩, by simp [intOf]; omega⟩
    · obtain rfl : k = (Num.limbs x).length := by omega
      have HV : Hid (mk (!n1 == n2) (Num.nat Y) = mk n1 x * mk n2 y) := hide (by rw [hN.out, List.take_of_length_le (Nat.le_refl _), Num.nat_limbs, Num.nat_limbs, mk_mul])
      have HO := hide (hB.out.own (base := w1.heap.size) (Nat.le_refl _) (by omega))
      rw [hYl] at HO
      have qr := hB.out.lt
      clear hgo kP0 kP1 kQ0 kQ1 kR0 kR1 fP0 fP1 fQ0 fQ1 fR0 fR1 h0 hN hB hg
      go_wp2_with fail
      refine (bigOfI (!n1 == n2) _ _ _ Y w1.heap.size _ HO.out (by omega)).mono ?_
      rintro e w6 ⟨v6, rfl, hn6, hb6⟩
      rw [HV.out] at hn6
      obtain ⟨k0, k1, f0, f1⟩ := box_keep (N := w.heap.size + 1 + 1) hb6 (by omega) kR0' kR1' fR0' fR1'
      have HF := hide (fun p r => fin_box (N := w.heap.size + 1 + 1) (x := p) (y := r) hn6 (by omega) (by omega) (bl_trans HZr.out hb6))
      obtain ⟨a6, c6, rfl, ho6⟩ := hn6
      clear hb6 ho6 kP0' kP1' kQ0' kQ1' kR0' kR1' fP0' fP1' fQ0' fQ1' fR0' fR1' HO
      go_wp2
      refine bodyPost_ret (v := .agg #[.bool (sgn (mk n1 x * mk n2 y)), .slice a6 (lms (mk n1 x * mk n2 y)).length c6]) (by simp [results, Try.results60, go_sem, *]) rfl ?_
      exact ⟨_, rfl, HF.out _ _⟩
end Go.Proofs.Ythjapjbiclkhcaa
