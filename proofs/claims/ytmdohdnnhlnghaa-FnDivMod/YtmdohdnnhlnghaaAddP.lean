/- The walks of the program's Add and Sub. -/
import Derived.Test.YtmdohdnnhlnghaaFit
namespace Go.Proofs.Ytmdohdnnhlnghaa
open Go.RowKit
set_option linter.unusedVariables false

/-- what is told by a function on two numbers: whether it is right, and the number -/
def opT (f : Int → Int → Int) (n1 : Bool) (xs : List Nat) (n2 : Bool) (ys : List Nat) : Bool := okB n1 xs && okB n2 ys && fits (f (mk n1 (Num.nat xs)) (mk n2 (Num.nat ys)))
def opZ (f : Int → Int → Int) (n1 : Bool) (xs : List Nat) (n2 : Bool) (ys : List Nat) : Int := if opT f n1 xs n2 ys then f (mk n1 (Num.nat xs)) (mk n2 (Num.nat ys)) else 0
def addZ (x y : Int) : Int := x + y
def subZ (x y : Int) : Int := x - y
theorem len40 {x : Int} (h : x.natAbs < 4294967296 ^ 40) : (Num.limbs x.natAbs).length ≤ 1048576 := Nat.le_trans (Num.limbs_len.2 h) (by decide)
theorem sumZ (v1 v2 : Value) (x y : Int) (w : World) (h1 : Is w v1 x) (h2 : Is w v2 y) (hx : x.natAbs < 4294967296 ^ 40) (hy : y.natAbs < 4294967296 ^ 40) :
    Calls Try.prog 21 #[v1, v2] w fun e w' => ∃ v, e = .returned v ∧ New w' w.heap.size v (addZ x y) ∧ Below w.heap.size w w' := by
  have := sumI v1 v2 (sgn x) (sgn y) x.natAbs y.natAbs w h1 h2 (len40 hx) (len40 hy)
  rw [mk_self, mk_self] at this
  exact this
theorem diffZ (v1 v2 : Value) (x y : Int) (w : World) (h1 : Is w v1 x) (h2 : Is w v2 y) (hx : x.natAbs < 4294967296 ^ 40) (hy : y.natAbs < 4294967296 ^ 40) :
    Calls Try.prog 25 #[v1, v2] w fun e w' => ∃ v, e = .returned v ∧ New w' w.heap.size v (subZ x y) ∧ Below w.heap.size w w' := by
  have := diffI v1 v2 (sgn x) (sgn y) x.natAbs y.natAbs w h1 h2 (len40 hx) (len40 hy)
  rw [mk_self, mk_self] at this
  exact this

set_option maxHeartbeats 2000000 in
set_option maxRecDepth 20000 in
theorem AddP (v1 v2 : Value) (n1 n2 : Bool) (xs ys : List Nat) (w : World) (h1 : Raw w v1 n1 xs) (h2 : Raw w v2 n2 ys) :
    Calls Try.prog 7 #[v1, v2] w fun e w' => ∃ v, e = .returned (.tuple #[v, .bool (opT addZ n1 xs n2 ys)]) ∧ New w' w.heap.size v (opZ addZ n1 xs n2 ys) ∧ Below w.heap.size w w' := by
  obtain ⟨a, ca, rfl, ha⟩ := h1
  obtain ⟨b, cb, rfl, hb⟩ := h2
  have HZ := hide (bl_alloc (bl_alloc (bl_alloc (bl_refl w) (Obj.cells #[Value.bool n1, Value.slice a xs.length ca] 26)) (Obj.cells #[Value.bool n2, Value.slice b ys.length cb] 26)) (Obj.cells #[Value.bool false, Value.slice none 0 0] 26))
  have HA := hide (ha.below HZ.out)
  have HB := hide (hb.below HZ.out)
  clear ha hb
  have kA0 : (((w.alloc (Obj.cells #[Value.bool n1, Value.slice a xs.length ca] 26)).alloc (Obj.cells #[Value.bool n2, Value.slice b ys.length cb] 26)).alloc (Obj.cells #[Value.bool false, Value.slice none 0 0] 26)).cell? ⟨w.heap.size, 0, none⟩ = some (Value.bool n1) := by go_simp
  have kA1 : (((w.alloc (Obj.cells #[Value.bool n1, Value.slice a xs.length ca] 26)).alloc (Obj.cells #[Value.bool n2, Value.slice b ys.length cb] 26)).alloc (Obj.cells #[Value.bool false, Value.slice none 0 0] 26)).cell? ⟨w.heap.size, 1, none⟩ = some (Value.slice a xs.length ca) := by go_simp
  have kB0 : (((w.alloc (Obj.cells #[Value.bool n1, Value.slice a xs.length ca] 26)).alloc (Obj.cells #[Value.bool n2, Value.slice b ys.length cb] 26)).alloc (Obj.cells #[Value.bool false, Value.slice none 0 0] 26)).cell? ⟨w.heap.size + 1, 0, none⟩ = some (Value.bool n2) := by go_simp
  have kB1 : (((w.alloc (Obj.cells #[Value.bool n1, Value.slice a xs.length ca] 26)).alloc (Obj.cells #[Value.bool n2, Value.slice b ys.length cb] 26)).alloc (Obj.cells #[Value.bool false, Value.slice none 0 0] 26)).cell? ⟨w.heap.size + 1, 1, none⟩ = some (Value.slice b ys.length cb) := by go_simp
  have kR0 : (((w.alloc (Obj.cells #[Value.bool n1, Value.slice a xs.length ca] 26)).alloc (Obj.cells #[Value.bool n2, Value.slice b ys.length cb] 26)).alloc (Obj.cells #[Value.bool false, Value.slice none 0 0] 26)).cell? ⟨w.heap.size + 1 + 1, 0, none⟩ = some (Value.bool false) := by go_simp
  have kR1 : (((w.alloc (Obj.cells #[Value.bool n1, Value.slice a xs.length ca] 26)).alloc (Obj.cells #[Value.bool n2, Value.slice b ys.length cb] 26)).alloc (Obj.cells #[Value.bool false, Value.slice none 0 0] 26)).cell? ⟨w.heap.size + 1 + 1, 1, none⟩ = some (Value.slice none 0 0) := by go_simp
  have fR0 : (((w.alloc (Obj.cells #[Value.bool n1, Value.slice a xs.length ca] 26)).alloc (Obj.cells #[Value.bool n2, Value.slice b ys.length cb] 26)).alloc (Obj.cells #[Value.bool false, Value.slice none 0 0] 26)).frozen? ⟨w.heap.size + 1 + 1, 0, none⟩ = false := by go_simp
  have fR1 : (((w.alloc (Obj.cells #[Value.bool n1, Value.slice a xs.length ca] 26)).alloc (Obj.cells #[Value.bool n2, Value.slice b ys.length cb] 26)).alloc (Obj.cells #[Value.bool false, Value.slice none 0 0] 26)).frozen? ⟨w.heap.size + 1 + 1, 1, none⟩ = false := by go_simp
  have zR : w.heap.size + 1 + 1 < (((w.alloc (Obj.cells #[Value.bool n1, Value.slice a xs.length ca] 26)).alloc (Obj.cells #[Value.bool n2, Value.slice b ys.length cb] 26)).alloc (Obj.cells #[Value.bool false, Value.slice none 0 0] 26)).heap.size := by simp only [World.size_alloc]; omega
  go_enter Try.func7, Try.ntmps7
  go_wp2_with fail
  generalize (((w.alloc (Obj.cells #[Value.bool n1, Value.slice a xs.length ca] 26)).alloc (Obj.cells #[Value.bool n2, Value.slice b ys.length cb] 26)).alloc (Obj.cells #[Value.bool false, Value.slice none 0 0] 26)) = w1 at *
  refine (okI _ n1 xs _ ⟨a, ca, rfl, HA.out⟩).mono ?_
  rintro e w2 ⟨rfl, hb2⟩
  replace kA0 := (hb2.cell (p := ⟨w.heap.size, 0, none⟩) (by dsimp only; omega)).trans kA0
  replace kA1 := (hb2.cell (p := ⟨w.heap.size, 1, none⟩) (by dsimp only; omega)).trans kA1
  replace kB0 := (hb2.cell (p := ⟨w.heap.size + 1, 0, none⟩) (by dsimp only; omega)).trans kB0
  replace kB1 := (hb2.cell (p := ⟨w.heap.size + 1, 1, none⟩) (by dsimp only; omega)).trans kB1
  replace kR0 := (hb2.cell (p := ⟨w.heap.size + 1 + 1, 0, none⟩) (by dsimp only; omega)).trans kR0
  replace kR1 := (hb2.cell (p := ⟨w.heap.size + 1 + 1, 1, none⟩) (by dsimp only; omega)).trans kR1
  replace fR0 := (hb2.frozen (p := ⟨w.heap.size + 1 + 1, 0, none⟩) (by dsimp only; omega)).trans fR0
  replace fR1 := (hb2.frozen (p := ⟨w.heap.size + 1 + 1, 1, none⟩) (by dsimp only; omega)).trans fR1
  replace HA := hide (HA.out.below hb2)
  replace HB := hide (HB.out.below hb2)
  replace HZ := hide (bl_trans HZ.out hb2)
  have q := hb2.size
  replace zR := Nat.lt_of_lt_of_le zR q
  clear q hb2
  cases e1 : okB n1 xs with
  | false =>
    have HT : Hid (opT addZ n1 xs n2 ys = false) := hide (by unfold opT; rw [e1]; simp)
    have HV : Hid (opZ addZ n1 xs n2 ys = 0) := hide (by unfold opZ; rw [HT.out]; rfl)
    clear e1
    go_wp2
    refine bodyPost_ret (v := .tuple #[.agg #[.bool false, .slice none 0 0], .bool false]) (by simp [results, Try.results7, go_sem, *]) rfl ?_
    rw [HT.out, HV.out]
    exact ⟨_, rfl, new_zero _ _, (HZ.out.setCell (p := ⟨w.heap.size + 1 + 1, 0, none⟩) (by dsimp only; omega) _).setCell (p := ⟨w.heap.size + 1 + 1, 1, none⟩) (by dsimp only; omega) _⟩
  | true =>
  have E1 := hide e1
  clear e1
  go_wp2_with fail
  refine (okI _ n2 ys _ ⟨b, cb, rfl, HB.out⟩).mono ?_
  rintro e w3 ⟨rfl, hb3⟩
  replace kA0 := (hb3.cell (p := ⟨w.heap.size, 0, none⟩) (by dsimp only; omega)).trans kA0
  replace kA1 := (hb3.cell (p := ⟨w.heap.size, 1, none⟩) (by dsimp only; omega)).trans kA1
  replace kB0 := (hb3.cell (p := ⟨w.heap.size + 1, 0, none⟩) (by dsimp only; omega)).trans kB0
  replace kB1 := (hb3.cell (p := ⟨w.heap.size + 1, 1, none⟩) (by dsimp only; omega)).trans kB1
  replace kR0 := (hb3.cell (p := ⟨w.heap.size + 1 + 1, 0, none⟩) (by dsimp only; omega)).trans kR0
  replace kR1 := (hb3.cell (p := ⟨w.heap.size + 1 + 1, 1, none⟩) (by dsimp only; omega)).trans kR1
  replace fR0 := (hb3.frozen (p := ⟨w.heap.size + 1 + 1, 0, none⟩) (by dsimp only; omega)).trans fR0
  replace fR1 := (hb3.frozen (p := ⟨w.heap.size + 1 + 1, 1, none⟩) (by dsimp only; omega)).trans fR1
  replace HA := hide (HA.out.below hb3)
  replace HB := hide (HB.out.below hb3)
  replace HZ := hide (bl_trans HZ.out hb3)
  have q := hb3.size
  replace zR := Nat.lt_of_lt_of_le zR q
  clear q hb3
  cases e2 : okB n2 ys with
  | false =>
    have HT : Hid (opT addZ n1 xs n2 ys = false) := hide (by unfold opT; rw [E1.out, e2]; simp)
    have HV : Hid (opZ addZ n1 xs n2 ys = 0) := hide (by unfold opZ; rw [HT.out]; rfl)
    clear e2
    go_wp2
    refine bodyPost_ret (v := .tuple #[.agg #[.bool false, .slice none 0 0], .bool false]) (by simp [results, Try.results7, go_sem, *]) rfl ?_
    rw [HT.out, HV.out]
    exact ⟨_, rfl, new_zero _ _, (HZ.out.setCell (p := ⟨w.heap.size + 1 + 1, 0, none⟩) (by dsimp only; omega) _).setCell (p := ⟨w.heap.size + 1 + 1, 1, none⟩) (by dsimp only; omega) _⟩
  | true =>
  obtain ⟨x, rfl, rfl, hx⟩ := ok_num HA.out.2.2.2.1 E1.out
  obtain ⟨y, rfl, rfl, hy⟩ := ok_num HB.out.2.2.2.1 e2
  have HT : Hid (opT addZ (sgn x) (lms x) (sgn y) (lms y) = fits (addZ x y)) := hide (by unfold opT; rw [E1.out, e2, nat_lms, nat_lms, mk_self, mk_self]; rfl)
  have HV : Hid (opZ addZ (sgn x) (lms x) (sgn y) (lms y) = fitZ (addZ x y)) := hide (by unfold opZ fitZ; rw [HT.out, nat_lms, nat_lms, mk_self, mk_self])
  clear e2 E1
  go_wp2_with fail
  have zR0 := zR
  refine (sumZ _ _ x y _ ⟨a, ca, rfl, HA.out⟩ ⟨b, cb, rfl, HB.out⟩ hx hy).mono ?_
  rintro e w4 ⟨v4, rfl, hn4, hb4⟩
  have q4 := hn4
  replace kA0 := (hb4.cell (p := ⟨w.heap.size, 0, none⟩) (by dsimp only; omega)).trans kA0
  replace kA1 := (hb4.cell (p := ⟨w.heap.size, 1, none⟩) (by dsimp only; omega)).trans kA1
  replace kB0 := (hb4.cell (p := ⟨w.heap.size + 1, 0, none⟩) (by dsimp only; omega)).trans kB0
  replace kB1 := (hb4.cell (p := ⟨w.heap.size + 1, 1, none⟩) (by dsimp only; omega)).trans kB1
  replace kR0 := (hb4.cell (p := ⟨w.heap.size + 1 + 1, 0, none⟩) (by dsimp only; omega)).trans kR0
  replace kR1 := (hb4.cell (p := ⟨w.heap.size + 1 + 1, 1, none⟩) (by dsimp only; omega)).trans kR1
  replace fR0 := (hb4.frozen (p := ⟨w.heap.size + 1 + 1, 0, none⟩) (by dsimp only; omega)).trans fR0
  replace fR1 := (hb4.frozen (p := ⟨w.heap.size + 1 + 1, 1, none⟩) (by dsimp only; omega)).trans fR1
  replace HA := hide (HA.out.below hb4)
  replace HB := hide (HB.out.below hb4)
  replace HZ := hide (bl_trans HZ.out hb4)
  have q := hb4.size
  replace zR := Nat.lt_of_lt_of_le zR q
  go_wp2_with fail
  refine (fitI v4 _ _ _ q4 hb4.size).mono ?_
  rintro e w5 ⟨v5, rfl, hn5, hb5⟩
  obtain ⟨k0, k1, f0, f1⟩ := box_keep (N := w.heap.size + 1 + 1) hb5 zR kR0 kR1 fR0 fR1
  rw [← HV.out] at hn5
  rw [← HT.out]
  have HF := hide (fun p r => fin_box (N := w.heap.size + 1 + 1) (x := p) (y := r) hn5 zR0 (by omega) (bl_trans HZ.out hb5))
  obtain ⟨a5, c5, rfl, ho5⟩ := hn5
  clear hb4 hb5 ho5 q4 hn4 kA0 kA1 kB0 kB1 kR0 kR1 fR0 fR1 HA HB HZ HT HV hx hy
  go_wp2
  refine bodyPost_ret (v := .tuple #[.agg #[.bool (sgn (opZ addZ (sgn x) (lms x) (sgn y) (lms y))), .slice a5 (lms (opZ addZ (sgn x) (lms x) (sgn y) (lms y))).length c5], .bool (opT addZ (sgn x) (lms x) (sgn y) (lms y))]) (by simp [results, Try.results7, go_sem, *]) rfl ?_
  exact ⟨_, rfl, HF.out _ _⟩

set_option maxHeartbeats 2000000 in
set_option maxRecDepth 20000 in
theorem SubP (v1 v2 : Value) (n1 n2 : Bool) (xs ys : List Nat) (w : World) (h1 : Raw w v1 n1 xs) (h2 : Raw w v2 n2 ys) :
    Calls Try.prog 9 #[v1, v2] w fun e w' => ∃ v, e = .returned (.tuple #[v, .bool (opT subZ n1 xs n2 ys)]) ∧ New w' w.heap.size v (opZ subZ n1 xs n2 ys) ∧ Below w.heap.size w w' := by
  obtain ⟨a, ca, rfl, ha⟩ := h1
  obtain ⟨b, cb, rfl, hb⟩ := h2
  have HZ := hide (bl_alloc (bl_alloc (bl_alloc (bl_refl w) (Obj.cells #[Value.bool n1, Value.slice a xs.length ca] 26)) (Obj.cells #[Value.bool n2, Value.slice b ys.length cb] 26)) (Obj.cells #[Value.bool false, Value.slice none 0 0] 26))
  have HA := hide (ha.below HZ.out)
  have HB := hide (hb.below HZ.out)
  clear ha hb
  have kA0 : (((w.alloc (Obj.cells #[Value.bool n1, Value.slice a xs.length ca] 26)).alloc (Obj.cells #[Value.bool n2, Value.slice b ys.length cb] 26)).alloc (Obj.cells #[Value.bool false, Value.slice none 0 0] 26)).cell? ⟨w.heap.size, 0, none⟩ = some (Value.bool n1) := by go_simp
  have kA1 : (((w.alloc (Obj.cells #[Value.bool n1, Value.slice a xs.length ca] 26)).alloc (Obj.cells #[Value.bool n2, Value.slice b ys.length cb] 26)).alloc (Obj.cells #[Value.bool false, Value.slice none 0 0] 26)).cell? ⟨w.heap.size, 1, none⟩ = some (Value.slice a xs.length ca) := by go_simp
  have kB0 : (((w.alloc (Obj.cells #[Value.bool n1, Value.slice a xs.length ca] 26)).alloc (Obj.cells #[Value.bool n2, Value.slice b ys.length cb] 26)).alloc (Obj.cells #[Value.bool false, Value.slice none 0 0] 26)).cell? ⟨w.heap.size + 1, 0, none⟩ = some (Value.bool n2) := by go_simp
  have kB1 : (((w.alloc (Obj.cells #[Value.bool n1, Value.slice a xs.length ca] 26)).alloc (Obj.cells #[Value.bool n2, Value.slice b ys.length cb] 26)).alloc (Obj.cells #[Value.bool false, Value.slice none 0 0] 26)).cell? ⟨w.heap.size + 1, 1, none⟩ = some (Value.slice b ys.length cb) := by go_simp
  have kR0 : (((w.alloc (Obj.cells #[Value.bool n1, Value.slice a xs.length ca] 26)).alloc (Obj.cells #[Value.bool n2, Value.slice b ys.length cb] 26)).alloc (Obj.cells #[Value.bool false, Value.slice none 0 0] 26)).cell? ⟨w.heap.size + 1 + 1, 0, none⟩ = some (Value.bool false) := by go_simp
  have kR1 : (((w.alloc (Obj.cells #[Value.bool n1, Value.slice a xs.length ca] 26)).alloc (Obj.cells #[Value.bool n2, Value.slice b ys.length cb] 26)).alloc (Obj.cells #[Value.bool false, Value.slice none 0 0] 26)).cell? ⟨w.heap.size + 1 + 1, 1, none⟩ = some (Value.slice none 0 0) := by go_simp
  have fR0 : (((w.alloc (Obj.cells #[Value.bool n1, Value.slice a xs.length ca] 26)).alloc (Obj.cells #[Value.bool n2, Value.slice b ys.length cb] 26)).alloc (Obj.cells #[Value.bool false, Value.slice none 0 0] 26)).frozen? ⟨w.heap.size + 1 + 1, 0, none⟩ = false := by go_simp
  have fR1 : (((w.alloc (Obj.cells #[Value.bool n1, Value.slice a xs.length ca] 26)).alloc (Obj.cells #[Value.bool n2, Value.slice b ys.length cb] 26)).alloc (Obj.cells #[Value.bool false, Value.slice none 0 0] 26)).frozen? ⟨w.heap.size + 1 + 1, 1, none⟩ = false := by go_simp
  have zR : w.heap.size + 1 + 1 < (((w.alloc (Obj.cells #[Value.bool n1, Value.slice a xs.length ca] 26)).alloc (Obj.cells #[Value.bool n2, Value.slice b ys.length cb] 26)).alloc (Obj.cells #[Value.bool false, Value.slice none 0 0] 26)).heap.size := by simp only [World.size_alloc]; omega
  go_enter Try.func9, Try.ntmps9
  go_wp2_with fail
  generalize (((w.alloc (Obj.cells #[Value.bool n1, Value.slice a xs.length ca] 26)).alloc (Obj.cells #[Value.bool n2, Value.slice b ys.length cb] 26)).alloc (Obj.cells #[Value.bool false, Value.slice none 0 0] 26)) = w1 at *
  refine (okI _ n1 xs _ ⟨a, ca, rfl, HA.out⟩).mono ?_
  rintro e w2 ⟨rfl, hb2⟩
  replace kA0 := (hb2.cell (p := ⟨w.heap.size, 0, none⟩) (by dsimp only; omega)).trans kA0
  replace kA1 := (hb2.cell (p := ⟨w.heap.size, 1, none⟩) (by dsimp only; omega)).trans kA1
  replace kB0 := (hb2.cell (p := ⟨w.heap.size + 1, 0, none⟩) (by dsimp only; omega)).trans kB0
  replace kB1 := (hb2.cell (p := ⟨w.heap.size + 1, 1, none⟩) (by dsimp only; omega)).trans kB1
  replace kR0 := (hb2.cell (p := ⟨w.heap.size + 1 + 1, 0, none⟩) (by dsimp only; omega)).trans kR0
  replace kR1 := (hb2.cell (p := ⟨w.heap.size + 1 + 1, 1, none⟩) (by dsimp only; omega)).trans kR1
  replace fR0 := (hb2.frozen (p := ⟨w.heap.size + 1 + 1, 0, none⟩) (by dsimp only; omega)).trans fR0
  replace fR1 := (hb2.frozen (p := ⟨w.heap.size + 1 + 1, 1, none⟩) (by dsimp only; omega)).trans fR1
  replace HA := hide (HA.out.below hb2)
  replace HB := hide (HB.out.below hb2)
  replace HZ := hide (bl_trans HZ.out hb2)
  have q := hb2.size
  replace zR := Nat.lt_of_lt_of_le zR q
  clear q hb2
  cases e1 : okB n1 xs with
  | false =>
    have HT : Hid (opT subZ n1 xs n2 ys = false) := hide (by unfold opT; rw [e1]; simp)
    have HV : Hid (opZ subZ n1 xs n2 ys = 0) := hide (by unfold opZ; rw [HT.out]; rfl)
    clear e1
    go_wp2
    refine bodyPost_ret (v := .tuple #[.agg #[.bool false, .slice none 0 0], .bool false]) (by simp [results, Try.results9, go_sem, *]) rfl ?_
    rw [HT.out, HV.out]
    exact ⟨_, rfl, new_zero _ _, (HZ.out.setCell (p := ⟨w.heap.size + 1 + 1, 0, none⟩) (by dsimp only; omega) _).setCell (p := ⟨w.heap.size + 1 + 1, 1, none⟩) (by dsimp only; omega) _⟩
  | true =>
  have E1 := hide e1
  clear e1
  go_wp2_with fail
  refine (okI _ n2 ys _ ⟨b, cb, rfl, HB.out⟩).mono ?_
  rintro e w3 ⟨rfl, hb3⟩
  replace kA0 := (hb3.cell (p := ⟨w.heap.size, 0, none⟩) (by dsimp only; omega)).trans kA0
  replace kA1 := (hb3.cell (p := ⟨w.heap.size, 1, none⟩) (by dsimp only; omega)).trans kA1
  replace kB0 := (hb3.cell (p := ⟨w.heap.size + 1, 0, none⟩) (by dsimp only; omega)).trans kB0
  replace kB1 := (hb3.cell (p := ⟨w.heap.size + 1, 1, none⟩) (by dsimp only; omega)).trans kB1
  replace kR0 := (hb3.cell (p := ⟨w.heap.size + 1 + 1, 0, none⟩) (by dsimp only; omega)).trans kR0
  replace kR1 := (hb3.cell (p := ⟨w.heap.size + 1 + 1, 1, none⟩) (by dsimp only; omega)).trans kR1
  replace fR0 := (hb3.frozen (p := ⟨w.heap.size + 1 + 1, 0, none⟩) (by dsimp only; omega)).trans fR0
  replace fR1 := (hb3.frozen (p := ⟨w.heap.size + 1 + 1, 1, none⟩) (by dsimp only; omega)).trans fR1
  replace HA := hide (HA.out.below hb3)
  replace HB := hide (HB.out.below hb3)
  replace HZ := hide (bl_trans HZ.out hb3)
  have q := hb3.size
  replace zR := Nat.lt_of_lt_of_le zR q
  clear q hb3
  cases e2 : okB n2 ys with
  | false =>
    have HT : Hid (opT subZ n1 xs n2 ys = false) := hide (by unfold opT; rw [E1.out, e2]; simp)
    have HV : Hid (opZ subZ n1 xs n2 ys = 0) := hide (by unfold opZ; rw [HT.out]; rfl)
    clear e2
    go_wp2
    refine bodyPost_ret (v := .tuple #[.agg #[.bool false, .slice none 0 0], .bool false]) (by simp [results, Try.results9, go_sem, *]) rfl ?_
    rw [HT.out, HV.out]
    exact ⟨_, rfl, new_zero _ _, (HZ.out.setCell (p := ⟨w.heap.size + 1 + 1, 0, none⟩) (by dsimp only; omega) _).setCell (p := ⟨w.heap.size + 1 + 1, 1, none⟩) (by dsimp only; omega) _⟩
  | true =>
  obtain ⟨x, rfl, rfl, hx⟩ := ok_num HA.out.2.2.2.1 E1.out
  obtain ⟨y, rfl, rfl, hy⟩ := ok_num HB.out.2.2.2.1 e2
  have HT : Hid (opT subZ (sgn x) (lms x) (sgn y) (lms y) = fits (subZ x y)) := hide (by unfold opT; rw [E1.out, e2, nat_lms, nat_lms, mk_self, mk_self]; rfl)
  have HV : Hid (opZ subZ (sgn x) (lms x) (sgn y) (lms y) = fitZ (subZ x y)) := hide (by unfold opZ fitZ; rw [HT.out, nat_lms, nat_lms, mk_self, mk_self])
  clear e2 E1
  go_wp2_with fail
  have zR0 := zR
  refine (diffZ _ _ x y _ ⟨a, ca, rfl, HA.out⟩ ⟨b, cb, rfl, HB.out⟩ hx hy).mono ?_
  rintro e w4 ⟨v4, rfl, hn4, hb4⟩
  have q4 := hn4
  replace kA0 := (hb4.cell (p := ⟨w.heap.size, 0, none⟩) (by dsimp only; omega)).trans kA0
  replace kA1 := (hb4.cell (p := ⟨w.heap.size, 1, none⟩) (by dsimp only; omega)).trans kA1
  replace kB0 := (hb4.cell (p := ⟨w.heap.size + 1, 0, none⟩) (by dsimp only; omega)).trans kB0
  replace kB1 := (hb4.cell (p := ⟨w.heap.size + 1, 1, none⟩) (by dsimp only; omega)).trans kB1
  replace kR0 := (hb4.cell (p := ⟨w.heap.size + 1 + 1, 0, none⟩) (by dsimp only; omega)).trans kR0
  replace kR1 := (hb4.cell (p := ⟨w.heap.size + 1 + 1, 1, none⟩) (by dsimp only; omega)).trans kR1
  replace fR0 := (hb4.frozen (p := ⟨w.heap.size + 1 + 1, 0, none⟩) (by dsimp only; omega)).trans fR0
  replace fR1 := (hb4.frozen (p := ⟨w.heap.size + 1 + 1, 1, none⟩) (by dsimp only; omega)).trans fR1
  replace HA := hide (HA.out.below hb4)
  replace HB := hide (HB.out.below hb4)
  replace HZ := hide (bl_trans HZ.out hb4)
  have q := hb4.size
  replace zR := Nat.lt_of_lt_of_le zR q
  go_wp2_with fail
  refine (fitI v4 _ _ _ q4 hb4.size).mono ?_
  rintro e w5 ⟨v5, rfl, hn5, hb5⟩
  obtain ⟨k0, k1, f0, f1⟩ := box_keep (N := w.heap.size + 1 + 1) hb5 zR kR0 kR1 fR0 fR1
  rw [← HV.out] at hn5
  rw [← HT.out]
  have HF := hide (fun p r => fin_box (N := w.heap.size + 1 + 1) (x := p) (y := r) hn5 zR0 (by omega) (bl_trans HZ.out hb5))
  obtain ⟨a5, c5, rfl, ho5⟩ := hn5
  clear hb4 hb5 ho5 q4 hn4 kA0 kA1 kB0 kB1 kR0 kR1 fR0 fR1 HA HB HZ HT HV hx hy
  go_wp2
  refine bodyPost_ret (v := .tuple #[.agg #[.bool (sgn (opZ subZ (sgn x) (lms x) (sgn y) (lms y))), .slice a5 (lms (opZ subZ (sgn x) (lms x) (sgn y) (lms y))).length c5], .bool (opT subZ (sgn x) (lms x) (sgn y) (lms y))]) (by simp [results, Try.results9, go_sem, *]) rfl ?_
  exact ⟨_, rfl, HF.out _ _⟩

end Go.Proofs.Ytmdohdnnhlnghaa
