/- The walks of l02Mul, and of both Mul. -/
import Derived.Test.YtmdohdnnhlnghaaTimesS
import Derived.Test.YtmdohdnnhlnghaaProd
import Derived.Test.YtmdohdnnhlnghaaSubS
namespace Go.Proofs.Ytmdohdnnhlnghaa
open Go.RowKit
set_option linter.unusedVariables false

set_option maxHeartbeats 4000000 in
set_option maxRecDepth 20000 in
theorem mulS (v1 v2 : Value) (x y : Int) (w : World) (h1 : Is w v1 x) (h2 : Is w v2 y) (l1 : (lms x).length ≤ 500000) (l2 : (lms y).length ≤ 500000) :
    Calls Try.prog 27 #[v1, v2] w fun e w' => ∃ v, e = .returned v ∧ New w' w.heap.size v (x * y) ∧ Below w.heap.size w w' := by
  obtain ⟨a, ca, rfl, ha⟩ := h1
  obtain ⟨b, cb, rfl, hb⟩ := h2
  have HZ := hide (bl_alloc (bl_alloc (bl_alloc (bl_refl w) (Obj.cells #[Value.bool (sgn x), Value.slice a (lms x).length ca] 26)) (Obj.cells #[Value.bool (sgn y), Value.slice b (lms y).length cb] 26)) (Obj.cells #[Value.bool false, Value.slice none 0 0] 26))
  have HA := hide (ha.below HZ.out)
  have HBB := hide (hb.below HZ.out)
  clear ha hb
  have kP0 : (((w.alloc (Obj.cells #[Value.bool (sgn x), Value.slice a (lms x).length ca] 26)).alloc (Obj.cells #[Value.bool (sgn y), Value.slice b (lms y).length cb] 26)).alloc (Obj.cells #[Value.bool false, Value.slice none 0 0] 26)).cell? ⟨w.heap.size, 0, none⟩ = some (Value.bool (sgn x)) := by go_simp
  have kP1 : (((w.alloc (Obj.cells #[Value.bool (sgn x), Value.slice a (lms x).length ca] 26)).alloc (Obj.cells #[Value.bool (sgn y), Value.slice b (lms y).length cb] 26)).alloc (Obj.cells #[Value.bool false, Value.slice none 0 0] 26)).cell? ⟨w.heap.size, 1, none⟩ = some (Value.slice a (lms x).length ca) := by go_simp
  have kQ0 : (((w.alloc (Obj.cells #[Value.bool (sgn x), Value.slice a (lms x).length ca] 26)).alloc (Obj.cells #[Value.bool (sgn y), Value.slice b (lms y).length cb] 26)).alloc (Obj.cells #[Value.bool false, Value.slice none 0 0] 26)).cell? ⟨w.heap.size + 1, 0, none⟩ = some (Value.bool (sgn y)) := by go_simp
  have kQ1 : (((w.alloc (Obj.cells #[Value.bool (sgn x), Value.slice a (lms x).length ca] 26)).alloc (Obj.cells #[Value.bool (sgn y), Value.slice b (lms y).length cb] 26)).alloc (Obj.cells #[Value.bool false, Value.slice none 0 0] 26)).cell? ⟨w.heap.size + 1, 1, none⟩ = some (Value.slice b (lms y).length cb) := by go_simp
  have kR0 : (((w.alloc (Obj.cells #[Value.bool (sgn x), Value.slice a (lms x).length ca] 26)).alloc (Obj.cells #[Value.bool (sgn y), Value.slice b (lms y).length cb] 26)).alloc (Obj.cells #[Value.bool false, Value.slice none 0 0] 26)).cell? ⟨w.heap.size + 1 + 1, 0, none⟩ = some (Value.bool false) := by go_simp
  have kR1 : (((w.alloc (Obj.cells #[Value.bool (sgn x), Value.slice a (lms x).length ca] 26)).alloc (Obj.cells #[Value.bool (sgn y), Value.slice b (lms y).length cb] 26)).alloc (Obj.cells #[Value.bool false, Value.slice none 0 0] 26)).cell? ⟨w.heap.size + 1 + 1, 1, none⟩ = some (Value.slice none 0 0) := by go_simp
  have fR0 : (((w.alloc (Obj.cells #[Value.bool (sgn x), Value.slice a (lms x).length ca] 26)).alloc (Obj.cells #[Value.bool (sgn y), Value.slice b (lms y).length cb] 26)).alloc (Obj.cells #[Value.bool false, Value.slice none 0 0] 26)).frozen? ⟨w.heap.size + 1 + 1, 0, none⟩ = false := by go_simp
  have fR1 : (((w.alloc (Obj.cells #[Value.bool (sgn x), Value.slice a (lms x).length ca] 26)).alloc (Obj.cells #[Value.bool (sgn y), Value.slice b (lms y).length cb] 26)).alloc (Obj.cells #[Value.bool false, Value.slice none 0 0] 26)).frozen? ⟨w.heap.size + 1 + 1, 1, none⟩ = false := by go_simp
  have zR : w.heap.size + 1 + 1 < (((w.alloc (Obj.cells #[Value.bool (sgn x), Value.slice a (lms x).length ca] 26)).alloc (Obj.cells #[Value.bool (sgn y), Value.slice b (lms y).length cb] 26)).alloc (Obj.cells #[Value.bool false, Value.slice none 0 0] 26)).heap.size := by simp only [World.size_alloc]; omega
  have HE : Hid (mk (!sgn x == sgn y) (Num.nat (lms x) * Num.nat (lms y)) = x * y) := hide (by rw [mk_mul, nat_lms, nat_lms, mk_self, mk_self])
  go_enter Try.func27, Try.ntmps27
  go_wp2_with fail
  generalize (((w.alloc (Obj.cells #[Value.bool (sgn x), Value.slice a (lms x).length ca] 26)).alloc (Obj.cells #[Value.bool (sgn y), Value.slice b (lms y).length cb] 26)).alloc (Obj.cells #[Value.bool false, Value.slice none 0 0] 26)) = w1 at *
  go_region_held3 (fun w' => w'.cell? ⟨w.heap.size, 0, none⟩ = some (Value.bool (sgn x)) ∧ w'.cell? ⟨w.heap.size, 1, none⟩ = some (Value.slice a (lms x).length ca) ∧ w'.cell? ⟨w.heap.size + 1, 0, none⟩ = some (Value.bool (sgn y)) ∧ w'.cell? ⟨w.heap.size + 1, 1, none⟩ = some (Value.slice b (lms y).length cb))
    (first
      | exact ⟨kP0, kP1, kQ0, kQ1⟩
      | exact ⟨(hb4.cell (p := ⟨w.heap.size, 0, none⟩) (by dsimp only; omega)).trans kP0, (hb4.cell (p := ⟨w.heap.size, 1, none⟩) (by dsimp only; omega)).trans kP1, (hb4.cell (p := ⟨w.heap.size + 1, 0, none⟩) (by dsimp only; omega)).trans kQ0, (hb4.cell (p := ⟨w.heap.size + 1, 1, none⟩) (by dsimp only; omega)).trans kQ1⟩
      | exact ⟨(hb3.cell (p := ⟨w.heap.size, 0, none⟩) (by dsimp only; omega)).trans kP0, (hb3.cell (p := ⟨w.heap.size, 1, none⟩) (by dsimp only; omega)).trans kP1, (hb3.cell (p := ⟨w.heap.size + 1, 0, none⟩) (by dsimp only; omega)).trans kQ0, (hb3.cell (p := ⟨w.heap.size + 1, 1, none⟩) (by dsimp only; omega)).trans kQ1⟩
      | exact ⟨(cell_two (p := ⟨w.heap.size, 0, none⟩) (by dsimp only; omega)).trans ((hb4.cell (p := ⟨w.heap.size, 0, none⟩) (by dsimp only; omega)).trans kP0), (cell_two (p := ⟨w.heap.size, 1, none⟩) (by dsimp only; omega)).trans ((hb4.cell (p := ⟨w.heap.size, 1, none⟩) (by dsimp only; omega)).trans kP1), (cell_two (p := ⟨w.heap.size + 1, 0, none⟩) (by dsimp only; omega)).trans ((hb4.cell (p := ⟨w.heap.size + 1, 0, none⟩) (by dsimp only; omega)).trans kQ0), (cell_two (p := ⟨w.heap.size + 1, 1, none⟩) (by dsimp only; omega)).trans ((hb4.cell (p := ⟨w.heap.size + 1, 1, none⟩) (by dsimp only; omega)).trans kQ1)⟩)
    (first
      | (go_at_call 44; refine (timesS a b _ _ ca cb (lms x) (lms y) _ (HA.out.below (bl_refl w1).drew) (HBB.out.below (bl_refl w1).drew) l1 l2).mono ?_; rintro e w3 ⟨zs, rfl, ho3, hval, hb3'⟩; have hb3 : Below w1.heap.size w1 w3 := (bl_refl w1).drew.trans hb3')
      | (go_at_call 40; refine (makeS (!sgn x == sgn y) _ _ _ zs _ ho3.seg (by omega)).mono ?_; rintro e w4 ⟨v4, rfl, hn4, hb4'⟩; have hb4 : Below w1.heap.size w1 w4 := bl_trans hb3 hb4'; have kR0' := (hb4.cell (p := ⟨w.heap.size + 1 + 1, 0, none⟩) (by dsimp only; omega)).trans kR0; have kR1' := (hb4.cell (p := ⟨w.heap.size + 1 + 1, 1, none⟩) (by dsimp only; omega)).trans kR1; have fR0' := (hb4.frozen (p := ⟨w.heap.size + 1 + 1, 0, none⟩) (by dsimp only; omega)).trans fR0; have fR1' := (hb4.frozen (p := ⟨w.heap.size + 1 + 1, 1, none⟩) (by dsimp only; omega)).trans fR1; rw [hval, HE.out] at hn4; have HF := hide (fun p r => fin_box (N := w.heap.size + 1 + 1) (x := p) (y := r) hn4 (Nat.lt_of_lt_of_le zR hb3.size) (by omega) (bl_trans HZ.out hb4)); obtain ⟨a4, c4, rfl, ho4⟩ := hn4; clear ho4))
  clear hb3 hb4 hb3' hb4' ho3
  go_wp2
  refine bodyPost_ret (v := .agg #[.bool (sgn (x * y)), .slice a4 (lms (x * y)).length c4]) (by simp [results, Try.results27, go_sem, *]) rfl ?_
  exact ⟨_, rfl, HF.out _ _⟩

def mulZ (x y : Int) : Int := x * y
theorem mulSZ (v1 v2 : Value) (x y : Int) (w : World) (h1 : Is w v1 x) (h2 : Is w v2 y) (hx : x.natAbs < 4294967296 ^ 40) (hy : y.natAbs < 4294967296 ^ 40) :
    Calls Try.prog 27 #[v1, v2] w fun e w' => ∃ v, e = .returned v ∧ New w' w.heap.size v (mulZ x y) ∧ Below w.heap.size w w' := mulS v1 v2 x y w h1 h2 (len40' hx) (len40' hy)
theorem prodZ (v1 v2 : Value) (x y : Int) (w : World) (h1 : Is w v1 x) (h2 : Is w v2 y) (hx : x.natAbs < 4294967296 ^ 40) (hy : y.natAbs < 4294967296 ^ 40) :
    Calls Try.prog 35 #[v1, v2] w fun e w' => ∃ v, e = .returned v ∧ New w' w.heap.size v (mulZ x y) ∧ Below w.heap.size w w' := by
  have := prodI v1 v2 (sgn x) (sgn y) x.natAbs y.natAbs w h1 h2 (len40' hx) (len40' hy)
  rw [mk_self, mk_self] at this
  exact this

set_option maxHeartbeats 2000000 in
set_option maxRecDepth 20000 in
theorem MulQ (v1 v2 : Value) (n1 n2 : Bool) (xs ys : List Nat) (w : World) (h1 : Raw w v1 n1 xs) (h2 : Raw w v2 n2 ys) :
    Calls Try.prog 16 #[v1, v2] w fun e w' => ∃ v, e = .returned (.tuple #[v, .bool (opT mulZ n1 xs n2 ys)]) ∧ New w' w.heap.size v (opZ mulZ n1 xs n2 ys) ∧ Below w.heap.size w w' := by
  obtain ⟨a, ca, rfl, ha⟩ := h1
  obtain ⟨b, cb, rfl, hb⟩ := h2
  have HZ := hide (bl_alloc (bl_alloc (bl_alloc (bl_refl w) (Obj.cells #[Value.bool n1, Value.slice a xs.length ca] 26)) (Obj.cells #[Value.bool n2, Value.slice b ys.length cb] 26)) (Obj.cells #[Value.bool false, Value.slice none 0 0] 26))
  have HA := hide (ha.below HZ.out)
  have HB := hide (hb.below HZ.out)
  clear ha hb
  have kA0 : (((w.alloc (Obj.cells #[Value.bool n1, Value.slice a xs.length ca] 26)).alloc (Obj.cells #[Value.bool n2, Value.slice b ys.length cb] 26)).alloc (Obj.cells #[Value.bool false, Value.slice none 0 0] 26)).cell? ⟨w.heap.size, 0, none⟩ = some (Value.bool n1) := by go_simp
  have kA1 : (((w.alloc (Obj.cells #[Value.bool n1, Value.slice a xs.length ca] 26)).alloc (Obj.cells #[Value.bool n2, Value.slice b ys.length cb] 26)).alloc (Obj.cells #[Value.bool false, Value.slice none 0 0] 26)).cell? ⟨w.heap.size, 1, none⟩ = some (Value.slice a xs.length ca) := by go_simp
  have kB0 : (((w.alloc (Obj.cells #[Value.bool n1, Value.slice a xs.length ca] 26)).alloc (Obj.cells #[Value.bool n2, Value.slice b ys.length cb] 26)).alloc (Obj.cells #[Value.bool false, Value.slice none 0 0] 26)).cell? ⟨w.heap.size + 1, 0, none⟩ = some (Value.bool n2) := by go_simp
  have kB1 : (((w.alloc (Obj.cells #[Value.bool n1, Value.slice a xs.length ca] 26)).alloc (Obj.cells #[Value.bool n2, Value.slice b ys.length cb] 26)).alloc (Obj.cells #[Value.bool false, Value.slice none 0 0] 26)).cell? ⟨w.heap.size + 1, 1, none⟩ = some (Value.slice b ys.length cb) := by go_simp
  have kR0 : (((w.alloc (Obj.cells #[Value.bool n1, Value.slice a xs.length ca] 26)).alloc (Obj.cells #[Value.bool n2, Value.slice b ys.length cb] 26)).alloc (Obj.cells #[Value.bool false, Value.slice none 0 0] 26)).cell? ⟨w.heap.size + 1 + 1, 0, none⟩ = some (Value.bool false) := by go_simp
  have kR1 : (((w.alloc (Obj.cells #[Value.bool n1, Value.slice a xs.length ca] 26)).alloc (Obj.cells #[Value.bool n2, Value.slice b ys.length cb] 26)).alloc (Obj.cells #[Value.bool false, Value.slice none 0 0] 26)).cell? ⟨w.heap.size + 1 + 1, 1, none⟩ = some (Value.slice none 0 0) := by go_simp
  have fR0 : (((w.alloc (Obj.cells #[Value.bool n1, Value.slice a xs.length ca] 26)).alloc (Obj.cells #[Value.bool n2, Value.slice b ys.length cb] 26)).alloc (Obj.cells #[Value.bool false, Value.slice none 0 0] 26)).frozen? ⟨w.heap.size + 1 + 1, 0, none⟩ = false := by go_simp
  have fR1 : (((w.alloc (Obj.cells #[Value.bool n1, Value.slice a xs.length ca] 26)).alloc (Obj.cells #[Value.bool n2, Value.slice b ys.length cb] 26)).alloc (Obj.cells #[Value.bool false, Value.slice none 0 0] 26)).frozen? ⟨w.heap.size + 1 + 1, 1, none⟩ = false := by go_simp
  have zR : w.heap.size + 1 + 1 < (((w.alloc (Obj.cells #[Value.bool n1, Value.slice a xs.length ca] 26)).alloc (Obj.cells #[Value.bool n2, Value.slice b ys.length cb] 26)).alloc (Obj.cells #[Value.bool false, Value.slice none 0 0] 26)).heap.size := by simp only [World.size_alloc]; omega
  go_enter Try.func16, Try.ntmps16
  go_wp2_with fail
  generalize (((w.alloc (Obj.cells #[Value.bool n1, Value.slice a xs.length ca] 26)).alloc (Obj.cells #[Value.bool n2, Value.slice b ys.length cb] 26)).alloc (Obj.cells #[Value.bool false, Value.slice none 0 0] 26)) = w1 at *
  refine (okS _ n1 xs _ ⟨a, ca, rfl, HA.out⟩).mono ?_
  rintro e w2 ⟨rfl, hb2⟩
  replace kA0 := (hb2.cell (p := ⟨w.heap.size, 0, none⟩) (by dsimp only; omega)).trans kA0
  replace kA1 := (hb2.cell (p := ⟨w.heap.size, 1, none⟩) (by dsimp only; omega)).trans kA1
  replace kB0 := (hb2.cell (p := ⟨w.heap.size + 1, 0, none⟩) (by dsimp only; omega)).trans kB0
  replace kB1 := (hb2.cell (p := ⟨w.heap.size + 1, 1, none⟩) (by dsimp only; omega)).trans kB1
  replace kR0 := (hb2.cell (p := ⟨w.heap.size + 1 + 1, 0, none⟩) (by dsimp only; omega)).trans kR0
  replace kR1 := (hb2.cell (p := ⟨w.heap.size + 1 + 1, 1, none⟩) (by dsimp only; omega)).trans kR1
  replace fR0 := (hb2.frozen (p := ⟨w.heap.size + 1 + 1, 0, none⟩) (by dsimp only; omega)).trans fR0
  replace fR1 := (hb2.frozen (p := ⟨w.heap.size + 1 + 1, 1, none⟩) (by dsimp only; omega)).trans fR1
  replace HA := hide (HA.out.below hb2)
  replace HB := hide (HB.out.below hb2)
  replace HZ := hide (bl_trans HZ.out hb2)
  have q := hb2.size
  replace zR := Nat.lt_of_lt_of_le zR q
  clear q hb2
  cases e1 : okB n1 xs with
  | false =>
    have HT : Hid (opT mulZ n1 xs n2 ys = false) := hide (by unfold opT; rw [e1]; simp)
    have HV : Hid (opZ mulZ n1 xs n2 ys = 0) := hide (by unfold opZ; rw [HT.out]; rfl)
    clear e1
    go_wp2
    refine bodyPost_ret (v := .tuple #[.agg #[.bool false, .slice none 0 0], .bool false]) (by simp [results, Try.results16, go_sem, *]) rfl ?_
    rw [HT.out, HV.out]
    exact ⟨_, rfl, new_zero _ _, (HZ.out.setCell (p := ⟨w.heap.size + 1 + 1, 0, none⟩) (by dsimp only; omega) _).setCell (p := ⟨w.heap.size + 1 + 1, 1, none⟩) (by dsimp only; omega) _⟩
  | true =>
  have E1 := hide e1
  clear e1
  go_wp2_with fail
  refine (okS _ n2 ys _ ⟨b, cb, rfl, HB.out⟩).mono ?_
  rintro e w3 ⟨rfl, hb3⟩
  replace kA0 := (hb3.cell (p := ⟨w.heap.size, 0, none⟩) (by dsimp only; omega)).trans kA0
  replace kA1 := (hb3.cell (p := ⟨w.heap.size, 1, none⟩) (by dsimp only; omega)).trans kA1
  replace kB0 := (hb3.cell (p := ⟨w.heap.size + 1, 0, none⟩) (by dsimp only; omega)).trans kB0
  replace kB1 := (hb3.cell (p := ⟨w.heap.size + 1, 1, none⟩) (by dsimp only; omega)).trans kB1
  replace kR0 := (hb3.cell (p := ⟨w.heap.size + 1 + 1, 0, none⟩) (by dsimp only; omega)).trans kR0
  replace kR1 := (hb3.cell (p := ⟨w.heap.size + 1 + 1, 1, none⟩) (by dsimp only; omega)).trans kR1
  replace fR0 := (hb3.frozen (p := ⟨w.heap.size + 1 + 1, 0, none⟩) (by dsimp only; omega)).trans fR0
  replace fR1 := (hb3.frozen (p := ⟨w.heap.size + 1 + 1, 1, none⟩) (by dsimp only; omega)).trans fR1
  replace HA := hide (HA.out.below hb3)
  replace HB := hide (HB.out.below hb3)
  replace HZ := hide (bl_trans HZ.out hb3)
  have q := hb3.size
  replace zR := Nat.lt_of_lt_of_le zR q
  clear q hb3
  cases e2 : okB n2 ys with
  | false =>
    have HT : Hid (opT mulZ n1 xs n2 ys = false) := hide (by unfold opT; rw [E1.out, e2]; simp)
    have HV : Hid (opZ mulZ n1 xs n2 ys = 0) := hide (by unfold opZ; rw [HT.out]; rfl)
    clear e2
    go_wp2
    refine bodyPost_ret (v := .tuple #[.agg #[.bool false, .slice none 0 0], .bool false]) (by simp [results, Try.results16, go_sem, *]) rfl ?_
    rw [HT.out, HV.out]
    exact ⟨_, rfl, new_zero _ _, (HZ.out.setCell (p := ⟨w.heap.size + 1 + 1, 0, none⟩) (by dsimp only; omega) _).setCell (p := ⟨w.heap.size + 1 + 1, 1, none⟩) (by dsimp only; omega) _⟩
  | true =>
  obtain ⟨x, rfl, rfl, hx⟩ := ok_num HA.out.2.2.2.1 E1.out
  obtain ⟨y, rfl, rfl, hy⟩ := ok_num HB.out.2.2.2.1 e2
  have HT : Hid (opT mulZ (sgn x) (lms x) (sgn y) (lms y) = fits (mulZ x y)) := hide (by unfold opT; rw [E1.out, e2, nat_lms, nat_lms, mk_self, mk_self]; rfl)
  have HV : Hid (opZ mulZ (sgn x) (lms x) (sgn y) (lms y) = fitZ (mulZ x y)) := hide (by unfold opZ fitZ; rw [HT.out, nat_lms, nat_lms, mk_self, mk_self])
  clear e2 E1
  go_wp2_with fail
  have zR0 := zR
  refine (mulSZ _ _ x y _ ⟨a, ca, rfl, HA.out⟩ ⟨b, cb, rfl, HB.out⟩ hx hy).mono ?_
  rintro e w4 ⟨v4, rfl, hn4, hb4⟩
  have q4 := hn4
  replace kA0 := (hb4.cell (p := ⟨w.heap.size, 0, none⟩) (by dsimp only; omega)).trans kA0
  replace kA1 := (hb4.cell (p := ⟨w.heap.size, 1, none⟩) (by dsimp only; omega)).trans kA1
  replace kB0 := (hb4.cell (p := ⟨w.heap.size + 1, 0, none⟩) (by dsimp only; omega)).trans kB0
  replace kB1 := (hb4.cell (p := ⟨w.heap.size + 1, 1, none⟩) (by dsimp only; omega)).trans kB1
  replace kR0 := (hb4.cell (p := ⟨w.heap.size + 1 + 1, 0, none⟩) (by dsimp only; omega)).trans kR0
  replace kR1 := (hb4.cell (p := ⟨w.heap.size + 1 + 1, 1, none⟩) (by dsimp only; omega)).trans kR1
  replace fR0 := (hb4.frozen (p := ⟨w.heap.size + 1 + 1, 0, none⟩) (by dsimp only; omega)).trans fR0
  replace fR1 := (hb4.frozen (p := ⟨w.heap.size + 1 + 1, 1, none⟩) (by dsimp only; omega)).trans fR1
  replace HA := hide (HA.out.below hb4)
  replace HB := hide (HB.out.below hb4)
  replace HZ := hide (bl_trans HZ.out hb4)
  have q := hb4.size
  replace zR := Nat.lt_of_lt_of_le zR q
  go_wp2_with fail
  refine (fitS v4 _ _ _ q4 hb4.size).mono ?_
  rintro e w5 ⟨v5, rfl, hn5, hb5⟩
  obtain ⟨k0, k1, f0, f1⟩ := box_keep (N := w.heap.size + 1 + 1) hb5 zR kR0 kR1 fR0 fR1
  rw [← HV.out] at hn5
  rw [← HT.out]
  have HF := hide (fun p r => fin_box (N := w.heap.size + 1 + 1) (x := p) (y := r) hn5 zR0 (by omega) (bl_trans HZ.out hb5))
  obtain ⟨a5, c5, rfl, ho5⟩ := hn5
  clear hb4 hb5 ho5 q4 hn4 kA0 kA1 kB0 kB1 kR0 kR1 fR0 fR1 HA HB HZ HT HV hx hy
  go_wp2
  refine bodyPost_ret (v := .tuple #[.agg #[.bool (sgn (opZ mulZ (sgn x) (lms x) (sgn y) (lms y))), .slice a5 (lms (opZ mulZ (sgn x) (lms x) (sgn y) (lms y))).length c5], .bool (opT mulZ (sgn x) (lms x) (sgn y) (lms y))]) (by simp [results, Try.results16, go_sem, *]) rfl ?_
  exact ⟨_, rfl, HF.out _ _⟩

set_option maxHeartbeats 2000000 in
set_option maxRecDepth 20000 in
theorem MulP (v1 v2 : Value) (n1 n2 : Bool) (xs ys : List Nat) (w : World) (h1 : Raw w v1 n1 xs) (h2 : Raw w v2 n2 ys) :
    Calls Try.prog 15 #[v1, v2] w fun e w' => ∃ v, e = .returned (.tuple #[v, .bool (opT mulZ n1 xs n2 ys)]) ∧ New w' w.heap.size v (opZ mulZ n1 xs n2 ys) ∧ Below w.heap.size w w' := by
  obtain ⟨a, ca, rfl, ha⟩ := h1
  obtain ⟨b, cb, rfl, hb⟩ := h2
  have HZ := hide (bl_alloc (bl_alloc (bl_alloc (bl_refl w) (Obj.cells #[Value.bool n1, Value.slice a xs.length ca] 26)) (Obj.cells #[Value.bool n2, Value.slice b ys.length cb] 26)) (Obj.cells #[Value.bool false, Value.slice none 0 0] 26))
  have HA := hide (ha.below HZ.out)
  have HB := hide (hb.below HZ.out)
  clear ha hb
  have kA0 : (((w.alloc (Obj.cells #[Value.bool n1, Value.slice a xs.length ca] 26)).alloc (Obj.cells #[Value.bool n2, Value.slice b ys.length cb] 26)).alloc (Obj.cells #[Value.bool false, Value.slice none 0 0] 26)).cell? ⟨w.heap.size, 0, none⟩ = some (Value.bool n1) := by go_simp
  have kA1 : (((w.alloc (Obj.cells #[Value.bool n1, Value.slice a xs.length ca] 26)).alloc (Obj.cells #[Value.bool n2, Value.slice b ys.length cb] 26)).alloc (Obj.cells #[Value.bool false, Value.slice none 0 0] 26)).cell? ⟨w.heap.size, 1, none⟩ = some (Value.slice a xs.length ca) := by go_simp
  have kB0 : (((w.alloc (Obj.cells #[Value.bool n1, Value.slice a xs.length ca] 26)).alloc (Obj.cells #[Value.bool n2, Value.slice b ys.length cb] 26)).alloc (Obj.cells #[Value.bool false, Value.slice none 0 0] 26)).cell? ⟨w.heap.size + 1, 0, none⟩ = some (Value.bool n2) := by go_simp
  have kB1 : (((w.alloc (Obj.cells #[Value.bool n1, Value.slice a xs.length ca] 26)).alloc (Obj.cells #[Value.bool n2, Value.slice b ys.length cb] 26)).alloc (Obj.cells #[Value.bool false, Value.slice none 0 0] 26)).cell? ⟨w.heap.size + 1, 1, none⟩ = some (Value.slice b ys.length cb) := by go_simp
  have kR0 : (((w.alloc (Obj.cells #[Value.bool n1, Value.slice a xs.length ca] 26)).alloc (Obj.cells #[Value.bool n2, Value.slice b ys.length cb] 26)).alloc (Obj.cells #[Value.bool false, Value.slice none 0 0] 26)).cell? ⟨w.heap.size + 1 + 1, 0, none⟩ = some (Value.bool false) := by go_simp
  have kR1 : (((w.alloc (Obj.cells #[Value.bool n1, Value.slice a xs.length ca] 26)).alloc (Obj.cells #[Value.bool n2, Value.slice b ys.length cb] 26)).alloc (Obj.cells #[Value.bool false, Value.slice none 0 0] 26)).cell? ⟨w.heap.size + 1 + 1, 1, none⟩ = some (Value.slice none 0 0) := by go_simp
  have fR0 : (((w.alloc (Obj.cells #[Value.bool n1, Value.slice a xs.length ca] 26)).alloc (Obj.cells #[Value.bool n2, Value.slice b ys.length cb] 26)).alloc (Obj.cells #[Value.bool false, Value.slice none 0 0] 26)).frozen? ⟨w.heap.size + 1 + 1, 0, none⟩ = false := by go_simp
  have fR1 : (((w.alloc (Obj.cells #[Value.bool n1, Value.slice a xs.length ca] 26)).alloc (Obj.cells #[Value.bool n2, Value.slice b ys.length cb] 26)).alloc (Obj.cells #[Value.bool false, Value.slice none 0 0] 26)).frozen? ⟨w.heap.size + 1 + 1, 1, none⟩ = false := by go_simp
  have zR : w.heap.size + 1 + 1 < (((w.alloc (Obj.cells #[Value.bool n1, Value.slice a xs.length ca] 26)).alloc (Obj.cells #[Value.bool n2, Value.slice b ys.length cb] 26)).alloc (Obj.cells #[Value.bool false, Value.slice none 0 0] 26)).heap.size := by simp only [World.size_alloc]; omega
  go_enter Try.func15, Try.ntmps15
  go_wp2_with fail
  generalize (((w.alloc (Obj.cells #[Value.bool n1, Value.slice a xs.length ca] 26)).alloc (Obj.cells #[Value.bool n2, Value.slice b ys.length cb] 26)).alloc (Obj.cells #[Value.bool false, Value.slice none 0 0] 26)) = w1 at *
  refine (okI _ n1 xs _ ⟨a, ca, rfl, HA.out⟩).mono ?_
  rintro e w2 ⟨rfl, hb2⟩
  replace kA0 := (hb2.cell (p := ⟨w.heap.size, 0, none⟩) (by dsimp only; omega)).trans kA0
  replace kA1 := (hb2.cell (p := ⟨w.heap.size, 1, none⟩) (by dsimp only; omega)).trans kA1
  replace kB0 := (hb2.cell (p := ⟨w.heap.size + 1, 0, none⟩) (by dsimp only; omega)).trans kB0
  replace kB1 := (hb2.cell (p := ⟨w.heap.size + 1, 1, none⟩) (by dsimp only; omega)).trans kB1
  replace kR0 := (hb2.cell (p := ⟨w.heap.size + 1 + 1, 0, none⟩) (by dsimp only; omega)).trans kR0
  replace kR1 := (hb2.cell (p := ⟨w.heap.size + 1 + 1, 1, none⟩) (by dsimp only; omega)).trans kR1
  replace fR0 := (hb2.frozen (p := ⟨w.heap.size + 1 + 1, 0, none⟩) (by dsimp only; omega)).trans fR0
  replace fR1 := (hb2.frozen (p := ⟨w.heap.size + 1 + 1, 1, none⟩) (by dsimp only; omega)).trans fR1
  replace HA := hide (HA.out.below hb2)
  replace HB := hide (HB.out.below hb2)
  replace HZ := hide (bl_trans HZ.out hb2)
  have q := hb2.size
  replace zR := Nat.lt_of_lt_of_le zR q
  clear q hb2
  cases e1 : okB n1 xs with
  | false =>
    have HT : Hid (opT mulZ n1 xs n2 ys = false) := hide (by unfold opT; rw [e1]; simp)
    have HV : Hid (opZ mulZ n1 xs n2 ys = 0) := hide (by unfold opZ; rw [HT.out]; rfl)
    clear e1
    go_wp2
    refine bodyPost_ret (v := .tuple #[.agg #[.bool false, .slice none 0 0], .bool false]) (by simp [results, Try.results15, go_sem, *]) rfl ?_
    rw [HT.out, HV.out]
    exact ⟨_, rfl, new_zero _ _, (HZ.out.setCell (p := ⟨w.heap.size + 1 + 1, 0, none⟩) (by dsimp only; omega) _).setCell (p := ⟨w.heap.size + 1 + 1, 1, none⟩) (by dsimp only; omega) _⟩
  | true =>
  have E1 := hide e1
  clear e1
  go_wp2_with fail
  refine (okI _ n2 ys _ ⟨b, cb, rfl, HB.out⟩).mono ?_
  rintro e w3 ⟨rfl, hb3⟩
  replace kA0 := (hb3.cell (p := ⟨w.heap.size, 0, none⟩) (by dsimp only; omega)).trans kA0
  replace kA1 := (hb3.cell (p := ⟨w.heap.size, 1, none⟩) (by dsimp only; omega)).trans kA1
  replace kB0 := (hb3.cell (p := ⟨w.heap.size + 1, 0, none⟩) (by dsimp only; omega)).trans kB0
  replace kB1 := (hb3.cell (p := ⟨w.heap.size + 1, 1, none⟩) (by dsimp only; omega)).trans kB1
  replace kR0 := (hb3.cell (p := ⟨w.heap.size + 1 + 1, 0, none⟩) (by dsimp only; omega)).trans kR0
  replace kR1 := (hb3.cell (p := ⟨w.heap.size + 1 + 1, 1, none⟩) (by dsimp only; omega)).trans kR1
  replace fR0 := (hb3.frozen (p := ⟨w.heap.size + 1 + 1, 0, none⟩) (by dsimp only; omega)).trans fR0
  replace fR1 := (hb3.frozen (p := ⟨w.heap.size + 1 + 1, 1, none⟩) (by dsimp only; omega)).trans fR1
  replace HA := hide (HA.out.below hb3)
  replace HB := hide (HB.out.below hb3)
  replace HZ := hide (bl_trans HZ.out hb3)
  have q := hb3.size
  replace zR := Nat.lt_of_lt_of_le zR q
  clear q hb3
  cases e2 : okB n2 ys with
  | false =>
    have HT : Hid (opT mulZ n1 xs n2 ys = false) := hide (by unfold opT; rw [E1.out, e2]; simp)
    have HV : Hid (opZ mulZ n1 xs n2 ys = 0) := hide (by unfold opZ; rw [HT.out]; rfl)
    clear e2
    go_wp2
    refine bodyPost_ret (v := .tuple #[.agg #[.bool false, .slice none 0 0], .bool false]) (by simp [results, Try.results15, go_sem, *]) rfl ?_
    rw [HT.out, HV.out]
    exact ⟨_, rfl, new_zero _ _, (HZ.out.setCell (p := ⟨w.heap.size + 1 + 1, 0, none⟩) (by dsimp only; omega) _).setCell (p := ⟨w.heap.size + 1 + 1, 1, none⟩) (by dsimp only; omega) _⟩
  | true =>
  obtain ⟨x, rfl, rfl, hx⟩ := ok_num HA.out.2.2.2.1 E1.out
  obtain ⟨y, rfl, rfl, hy⟩ := ok_num HB.out.2.2.2.1 e2
  have HT : Hid (opT mulZ (sgn x) (lms x) (sgn y) (lms y) = fits (mulZ x y)) := hide (by unfold opT; rw [E1.out, e2, nat_lms, nat_lms, mk_self, mk_self]; rfl)
  have HV : Hid (opZ mulZ (sgn x) (lms x) (sgn y) (lms y) = fitZ (mulZ x y)) := hide (by unfold opZ fitZ; rw [HT.out, nat_lms, nat_lms, mk_self, mk_self])
  clear e2 E1
  go_wp2_with fail
  have zR0 := zR
  refine (prodZ _ _ x y _ ⟨a, ca, rfl, HA.out⟩ ⟨b, cb, rfl, HB.out⟩ hx hy).mono ?_
  rintro e w4 ⟨v4, rfl, hn4, hb4⟩
  have q4 := hn4
  replace kA0 := (hb4.cell (p := ⟨w.heap.size, 0, none⟩) (by dsimp only; omega)).trans kA0
  replace kA1 := (hb4.cell (p := ⟨w.heap.size, 1, none⟩) (by dsimp only; omega)).trans kA1
  replace kB0 := (hb4.cell (p := ⟨w.heap.size + 1, 0, none⟩) (by dsimp only; omega)).trans kB0
  replace kB1 := (hb4.cell (p := ⟨w.heap.size + 1, 1, none⟩) (by dsimp only; omega)).trans kB1
  replace kR0 := (hb4.cell (p := ⟨w.heap.size + 1 + 1, 0, none⟩) (by dsimp only; omega)).trans kR0
  replace kR1 := (hb4.cell (p := ⟨w.heap.size + 1 + 1, 1, none⟩) (by dsimp only; omega)).trans kR1
  replace fR0 := (hb4.frozen (p := ⟨w.heap.size + 1 + 1, 0, none⟩) (by dsimp only; omega)).trans fR0
  replace fR1 := (hb4.frozen (p := ⟨w.heap.size + 1 + 1, 1, none⟩) (by dsimp only; omega)).trans fR1
  replace HA := hide (HA.out.below hb4)
  replace HB := hide (HB.out.below hb4)
  replace HZ := hide (bl_trans HZ.out hb4)
  have q := hb4.size
  replace zR := Nat.lt_of_lt_of_le zR q
  go_wp2_with fail
  refine (fitI v4 _ _ _ q4 hb4.size).mono ?_
  rintro e w5 ⟨v5, rfl, hn5, hb5⟩
  obtain ⟨k0, k1, f0, f1⟩ := box_keep (N := w.heap.size + 1 + 1) hb5 zR kR0 kR1 fR0 fR1
  rw [← HV.out] at hn5
  rw [← HT.out]
  have HF := hide (fun p r => fin_box (N := w.heap.size + 1 + 1) (x := p) (y := r) hn5 zR0 (by omega) (bl_trans HZ.out hb5))
  obtain ⟨a5, c5, rfl, ho5⟩ := hn5
  clear hb4 hb5 ho5 q4 hn4 kA0 kA1 kB0 kB1 kR0 kR1 fR0 fR1 HA HB HZ HT HV hx hy
  go_wp2
  refine bodyPost_ret (v := .tuple #[.agg #[.bool (sgn (opZ mulZ (sgn x) (lms x) (sgn y) (lms y))), .slice a5 (lms (opZ mulZ (sgn x) (lms x) (sgn y) (lms y))).length c5], .bool (opT mulZ (sgn x) (lms x) (sgn y) (lms y))]) (by simp [results, Try.results15, go_sem, *]) rfl ?_
  exact ⟨_, rfl, HF.out _ _⟩

end Go.Proofs.Ytmdohdnnhlnghaa
