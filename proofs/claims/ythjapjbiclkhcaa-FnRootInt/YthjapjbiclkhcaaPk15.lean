/- My texts AddS, AddP, in this order. -/
import Derived.Test.YthjapjbiclkhcaaPk14
import Derived.Test.YthjapjbiclkhcaaPk06
/- The walks of l02Add, l02Neg and l02Sub: sums and differences of numbers of any size, in new memory. -/
namespace Go.Proofs.Ythjapjbiclkhcaa
open Go.RowKit
set_option linter.unusedVariables false

theorem cell_two {w : World} {N : Nat} {x y : Value} {p : Addr} (h : p.block ≠ N) : ((w.setCell ⟨N, 0, none⟩ x).setCell ⟨N, 1, none⟩ y).cell? p = w.cell? p :=
  World.cell?_of_block ((Below.heap_setCell (w.setCell ⟨N, 0, none⟩ x) ⟨N, 1, none⟩ y p.block h).trans (Below.heap_setCell w ⟨N, 0, none⟩ x p.block h))
theorem mk_add_same (x y : Int) (h : sgn x = sgn y) : mk (sgn x) (Num.nat (lms x) + Num.nat (lms y)) = x + y := by
  rw [nat_lms, nat_lms]
  unfold sgn mk at *
  by_cases hx : x < 0
  · have hy : y < 0 := by rw [decide_eq_true hx] at h; exact of_decide_eq_true h.symm
    rw [decide_eq_true hx, if_pos rfl]; omega
  · have hy : ¬ y < 0 := by rw [decide_eq_false hx] at h; exact of_decide_eq_false h.symm
    rw [decide_eq_false hx, if_neg (by simp)]; omega
theorem mk_add_diff (x y : Int) (h : sgn x ≠ sgn y) (hl : y.natAbs ≤ x.natAbs) : mk (sgn x) (Num.nat (lms x) - Num.nat (lms y)) = x + y := by
  rw [nat_lms, nat_lms]
  unfold sgn mk at *
  by_cases hx : x < 0
  · have hy : ¬ y < 0 := fun hc => h (by rw [decide_eq_true hx, decide_eq_true hc])
    rw [decide_eq_true hx, if_pos rfl]; omega
  · have hy : y < 0 := by
      refine Classical.byContradiction fun hc => h ?_
      rw [decide_eq_false hx, decide_eq_false hc]
    rw [decide_eq_false hx, if_neg (by simp)]; omega

set_option maxHeartbeats 4000000 in
set_option maxRecDepth 20000 in
theorem addS (v1 v2 : Value) (x y : Int) (w : World) (h1 : Is w v1 x) (h2 : Is w v2 y) (l1 : (lms x).length ≤ 500000) (l2 : (lms y).length ≤ 500000) :
    Calls Try.prog 27 #[v1, v2] w fun e w' => ∃ v, e = .returned v ∧ New w' w.heap.size v (x + y) ∧ Below w.heap.size w w' := by
  obtain ⟨a, ca, rfl, ha⟩ := h1
  obtain ⟨b, cb, rfl, hb⟩ := h2
  have HZ := hide (bl_alloc (bl_alloc (bl_alloc (bl_refl w) (Obj.cells #[Value.bool (sgn x), Value.slice a (lms x).length ca] 26)) (Obj.cells #[Value.bool (sgn y), Value.slice b (lms y).length cb] 26)) (Obj.cells #[Value.bool false, Value.slice none 0 0] 26))
  have HA := hide (ha.below HZ.out)
  have HBB := hide (hb.below HZ.out)
  clear ha hb
  have kP0 : (((w.alloc (Obj.cells #[Value.bool (sgn x), Value.slice a (lms x).length ca] 26)).alloc (Obj.cells #[Value.bool (sgn y), Value.slice b (lms y).length cb] 26)).alloc (Obj.cells #[Value.bool false, Value.slice none 0 0] 26)).cell? ⟨w.heap.size, 0, none⟩ = some (Value.bool (sgn x)) := by go_simp
  have kP1 : (((w.alloc (Obj.cells #[Value.bool (sgn x), Value.slice a (lms x).length ca] 26)).alloc (Obj.cells #[Value.bool (sgn y), Value.slice b (lms y).length cb] 26)).alloc (Obj.cells #[Value.bool false, Value.slice none 0 0] 26)).cell? ⟨w.heap.size, 1, none⟩ = some (Value.slice a (lms x).length ca) := by go_simp
  have kQ0 : (((w.alloc (Obj.cells #[Value.bool (sgn x), Value.slice a (lms x).length ca] 26)).alloc (Obj.cells #[Value.bool (sgn y), Value.slice b (lms y).length cb] 26)).alloc (Obj.cells #[Value.bool false, Value.slice none 0 0] 26)).cell? ⟨w.heap.size + 1, 0, none⟩ = some (Value.bool (sgn y)) := by go_simp
  have kQ1 : (((w.alloc (Obj.cells #[Value.bool (sgn x), Value.slice a (lms x).length ca] 26)).alloc (Obj.cells #[Value.bool (sgn y), Value.slice b (lms y).length cb] 26)).alloc (Obj.cells #[Value.bool false, Value.slice none 0 0] 26)).cell? ⟨w.heap.size + 1, 1, none⟩ = some (Value.slice b (lms y).length cb) := by go_simp
  have kR0 : (((w.alloc (Obj.cells #[Value.bool (sgn x), Value.slice a (lms x).length ca] 26)).alloc (Obj.cells #[Value.bool (sgn y), Value.slice b (lms y).length cb] 26)).alloc (Obj.cells #[Value.bool false, Value.slice none 0 0] 26)).cell? ⟨w.heap.size + 1 + 1, 0, none⟩ = some (Value.bool false) := by go_simp
  have kR1 : (((w.alloc (Obj.cells #[Value.bool (sgn x), Value.slice a (lms x).length ca] 26)).alloc (Obj.cells #[Value.bool (sgn y), Value.slice b (lms y).length cb] 26)).alloc (Obj.cells #[Value.bool false, Value.slice none 0 0] 26)).cell? ⟨w.heap.size + 1 + 1, 1, none⟩ = some (Value.slice none 0 0) := by go_simp
  have fR0 : (((w.alloc (Obj.cells #[Value.bool (sgn x), Value.slice a (lms x).length ca] 26)).alloc (Obj.cells #[Value.bool (sgn y), Value.slice b (lms y).length cb] 26)).alloc (Obj.cells #[Value.bool false, Value.slice none 0 0] 26)).frozen? ⟨w.heap.size + 1 + 1, 0, none⟩ = false := by go_simp
  have fR1 : (((w.alloc (Obj.cells #[Value.bool (sgn x), Value.slice a (lms x).length ca] 26)).alloc (Obj.cells #[Value.bool (sgn y), Value.slice b (lms y).length cb] 26)).alloc (Obj.cells #[Value.bool false, Value.slice none 0 0] 26)).frozen? ⟨w.heap.size + 1 + 1, 1, none⟩ = false := by go_simp
  have zR : w.heap.size + 1 + 1 < (((w.alloc (Obj.cells #[Value.bool (sgn x), Value.slice a (lms x).length ca] 26)).alloc (Obj.cells #[Value.bool (sgn y), Value.slice b (lms y).length cb] 26)).alloc (Obj.cells #[Value.bool false, Value.slice none 0 0] 26)).heap.size := by simp only [World.size_alloc]; omega
  by_cases hs : sgn x = sgn y
  · have HV := hide (mk_add_same x y hs)
    have hse : (sgn x == sgn y) = true := by rw [hs]; simp
    have HSE := hide hse
    clear hs
    go_enter Try.func27, Try.ntmps27
    go_wp2_with fail
    generalize (((w.alloc (Obj.cells #[Value.bool (sgn x), Value.slice a (lms x).length ca] 26)).alloc (Obj.cells #[Value.bool (sgn y), Value.slice b (lms y).length cb] 26)).alloc (Obj.cells #[Value.bool false, Value.slice none 0 0] 26)) = w1 at *
    go_region_held3 (fun w' => w'.cell? ⟨w.heap.size, 0, none⟩ = some (Value.bool (sgn x)) ∧ w'.cell? ⟨w.heap.size, 1, none⟩ = some (Value.slice a (lms x).length ca) ∧ w'.cell? ⟨w.heap.size + 1, 0, none⟩ = some (Value.bool (sgn y)) ∧ w'.cell? ⟨w.heap.size + 1, 1, none⟩ = some (Value.slice b (lms y).length cb))
      (first
        | exact ⟨kP0, kP1, kQ0, kQ1⟩
        | exact ⟨(hb4.cell (p := ⟨w.heap.size, 0, none⟩) (by dsimp only; omega)).trans kP0, (hb4.cell (p := ⟨w.heap.size, 1, none⟩) (by dsimp only; omega)).trans kP1, (hb4.cell (p := ⟨w.heap.size + 1, 0, none⟩) (by dsimp only; omega)).trans kQ0, (hb4.cell (p := ⟨w.heap.size + 1, 1, none⟩) (by dsimp only; omega)).trans kQ1⟩
        | exact ⟨(hb3.cell (p := ⟨w.heap.size, 0, none⟩) (by dsimp only; omega)).trans kP0, (hb3.cell (p := ⟨w.heap.size, 1, none⟩) (by dsimp only; omega)).trans kP1, (hb3.cell (p := ⟨w.heap.size + 1, 0, none⟩) (by dsimp only; omega)).trans kQ0, (hb3.cell (p := ⟨w.heap.size + 1, 1, none⟩) (by dsimp only; omega)).trans kQ1⟩
        | exact ⟨(cell_two (p := ⟨w.heap.size, 0, none⟩) (by dsimp only; omega)).trans ((hb4.cell (p := ⟨w.heap.size, 0, none⟩) (by dsimp only; omega)).trans kP0), (cell_two (p := ⟨w.heap.size, 1, none⟩) (by dsimp only; omega)).trans ((hb4.cell (p := ⟨w.heap.size, 1, none⟩) (by dsimp only; omega)).trans kP1), (cell_two (p := ⟨w.heap.size + 1, 0, none⟩) (by dsimp only; omega)).trans ((hb4.cell (p := ⟨w.heap.size + 1, 0, none⟩) (by dsimp only; omega)).trans kQ0), (cell_two (p := ⟨w.heap.size + 1, 1, none⟩) (by dsimp only; omega)).trans ((hb4.cell (p := ⟨w.heap.size + 1, 1, none⟩) (by dsimp only; omega)).trans kQ1)⟩)
      (first
        | (go_at_call 54; refine (plusS a b _ _ ca cb (lms x) (lms y) _ (HA.out.below (bl_refl w1).drew) (HBB.out.below (bl_refl w1).drew) (by omega) (by omega)).mono ?_; rintro e w3 ⟨ao, ko, co, zs, rfl, ho3, hko, hval, hb3'⟩; have hb3 : Below w1.heap.size w1 w3 := (bl_refl w1).drew.trans hb3')
        | (go_at_call 25; refine (makeS (sgn x) ao ko co zs _ ho3.seg (by omega)).mono ?_; rintro e w4 ⟨v4, rfl, hn4, hb4'⟩; have hb4 : Below w1.heap.size w1 w4 := bl_trans hb3 hb4'; have kR0' := (hb4.cell (p := ⟨w.heap.size + 1 + 1, 0, none⟩) (by dsimp only; omega)).trans kR0; have kR1' := (hb4.cell (p := ⟨w.heap.size + 1 + 1, 1, none⟩) (by dsimp only; omega)).trans kR1; have fR0' := (hb4.frozen (p := ⟨w.heap.size + 1 + 1, 0, none⟩) (by dsimp only; omega)).trans fR0; have fR1' := (hb4.frozen (p := ⟨w.heap.size + 1 + 1, 1, none⟩) (by dsimp only; omega)).trans fR1; rw [hval, HV.out] at hn4; have HF := hide (fun p r => fin_box (N := w.heap.size + 1 + 1) (x := p) (y := r) hn4 (Nat.lt_of_lt_of_le zR hb3.size) (by omega) (bl_trans HZ.out hb4)); obtain ⟨a4, c4, rfl, ho4⟩ := hn4; clear ho4))
    clear hb3 hb4 hb3' hb4' ho3
    go_wp2
    refine bodyPost_ret (v := .agg #[.bool (sgn (x + y)), .slice a4 (lms (x + y)).length c4]) (by simp [results, Try.results27, go_sem, *]) rfl ?_
    exact ⟨_, rfl, HF.out _ _⟩
  · have hse : (sgn x == sgn y) = false := by rw [beq_eq_false_iff_ne]; exact hs
    have HS := hide hs
    clear hs
    go_enter Try.func27, Try.ntmps27
    go_wp2_with fail
    generalize (((w.alloc (Obj.cells #[Value.bool (sgn x), Value.slice a (lms x).length ca] 26)).alloc (Obj.cells #[Value.bool (sgn y), Value.slice b (lms y).length cb] 26)).alloc (Obj.cells #[Value.bool false, Value.slice none 0 0] 26)) = w1 at *
    refine (leastS x.natAbs y.natAbs a b _ _ ca cb _ HA.out HBB.out).mono ?_
    rintro e w2 ⟨rfl, d, hw2⟩
    replace kP0 : w2.cell? ⟨w.heap.size, 0, none⟩ = some (Value.bool (sgn x)) := by rw [hw2]; exact kP0
    replace kP1 : w2.cell? ⟨w.heap.size, 1, none⟩ = some (Value.slice a (lms x).length ca) := by rw [hw2]; exact kP1
    replace kQ0 : w2.cell? ⟨w.heap.size + 1, 0, none⟩ = some (Value.bool (sgn y)) := by rw [hw2]; exact kQ0
    replace kQ1 : w2.cell? ⟨w.heap.size + 1, 1, none⟩ = some (Value.slice b (lms y).length cb) := by rw [hw2]; exact kQ1
    replace kR0 : w2.cell? ⟨w.heap.size + 1 + 1, 0, none⟩ = some (Value.bool false) := by rw [hw2]; exact kR0
    replace kR1 : w2.cell? ⟨w.heap.size + 1 + 1, 1, none⟩ = some (Value.slice none 0 0) := by rw [hw2]; exact kR1
    replace fR0 : w2.frozen? ⟨w.heap.size + 1 + 1, 0, none⟩ = false := by rw [hw2]; exact fR0
    replace fR1 : w2.frozen? ⟨w.heap.size + 1 + 1, 1, none⟩ = false := by rw [hw2]; exact fR1
    replace HZ : Hid (Below w.heap.size w w2) := hide (by rw [hw2]; exact below_drewN HZ.out d)
    replace HA : Hid (Seg w2 a (lms x).length ca (lms x)) := hide (by rw [hw2]; exact HA.out.below (below_drewN (bl_refl w1) d))
    replace HBB : Hid (Seg w2 b (lms y).length cb (lms y)) := hide (by rw [hw2]; exact HBB.out.below (below_drewN (bl_refl w1) d))
    replace zR : w.heap.size + 1 + 1 < w2.heap.size := by rw [hw2]; exact zR
    clear hw2
    by_cases hxy : x.natAbs < y.natAbs
    · rw [cmp_lt (by omega)]
      have HV : Hid (mk (sgn y) (Num.nat (lms y) - Num.nat (lms x)) = x + y) := hide (by rw [mk_add_diff y x (fun e => HS.out e.symm) (by omega)]; omega)
      have hll : (lms x).length ≤ (lms y).length := Num.limbs_len.2 (Nat.lt_trans hxy (Num.limbs_len.1 (Nat.le_refl _)))
      go_wp2_with fail
      go_region_held3 (fun w' => w'.cell? ⟨w.heap.size, 0, none⟩ = some (Value.bool (sgn x)) ∧ w'.cell? ⟨w.heap.size, 1, none⟩ = some (Value.slice a (lms x).length ca) ∧ w'.cell? ⟨w.heap.size + 1, 0, none⟩ = some (Value.bool (sgn y)) ∧ w'.cell? ⟨w.heap.size + 1, 1, none⟩ = some (Value.slice b (lms y).length cb))
        (first
          | exact ⟨kP0, kP1, kQ0, kQ1⟩
          | exact ⟨(hb4.cell (p := ⟨w.heap.size, 0, none⟩) (by dsimp only; omega)).trans kP0, (hb4.cell (p := ⟨w.heap.size, 1, none⟩) (by dsimp only; omega)).trans kP1, (hb4.cell (p := ⟨w.heap.size + 1, 0, none⟩) (by dsimp only; omega)).trans kQ0, (hb4.cell (p := ⟨w.heap.size + 1, 1, none⟩) (by dsimp only; omega)).trans kQ1⟩
          | exact ⟨(hb3.cell (p := ⟨w.heap.size, 0, none⟩) (by dsimp only; omega)).trans kP0, (hb3.cell (p := ⟨w.heap.size, 1, none⟩) (by dsimp only; omega)).trans kP1, (hb3.cell (p := ⟨w.heap.size + 1, 0, none⟩) (by dsimp only; omega)).trans kQ0, (hb3.cell (p := ⟨w.heap.size + 1, 1, none⟩) (by dsimp only; omega)).trans kQ1⟩
          | exact ⟨(cell_two (p := ⟨w.heap.size, 0, none⟩) (by dsimp only; omega)).trans ((hb4.cell (p := ⟨w.heap.size, 0, none⟩) (by dsimp only; omega)).trans kP0), (cell_two (p := ⟨w.heap.size, 1, none⟩) (by dsimp only; omega)).trans ((hb4.cell (p := ⟨w.heap.size, 1, none⟩) (by dsimp only; omega)).trans kP1), (cell_two (p := ⟨w.heap.size + 1, 0, none⟩) (by dsimp only; omega)).trans ((hb4.cell (p := ⟨w.heap.size + 1, 0, none⟩) (by dsimp only; omega)).trans kQ0), (cell_two (p := ⟨w.heap.size + 1, 1, none⟩) (by dsimp only; omega)).trans ((hb4.cell (p := ⟨w.heap.size + 1, 1, none⟩) (by dsimp only; omega)).trans kQ1)⟩)
        (first
          | (go_at_call 56; refine (lessS b a _ _ cb ca (lms y) (lms x) _ (HBB.out.below (bl_refl w2).drew) (HA.out.below (bl_refl w2).drew) (by omega) (by omega) (by rw [nat_lms, nat_lms]; omega) hll).mono ?_; rintro e w3 ⟨ao, ko, co, zs, rfl, ho3, hko, hval, hb3'⟩; have hb3 : Below w2.heap.size w2 w3 := (bl_refl w2).drew.trans hb3')
          | (go_at_call 25; refine (makeS (sgn y) ao ko co zs _ ho3.seg (by omega)).mono ?_; rintro e w4 ⟨v4, rfl, hn4, hb4'⟩; have hb4 : Below w2.heap.size w2 w4 := bl_trans hb3 hb4'; have kR0' := (hb4.cell (p := ⟨w.heap.size + 1 + 1, 0, none⟩) (by dsimp only; omega)).trans kR0; have kR1' := (hb4.cell (p := ⟨w.heap.size + 1 + 1, 1, none⟩) (by dsimp only; omega)).trans kR1; have fR0' := (hb4.frozen (p := ⟨w.heap.size + 1 + 1, 0, none⟩) (by dsimp only; omega)).trans fR0; have fR1' := (hb4.frozen (p := ⟨w.heap.size + 1 + 1, 1, none⟩) (by dsimp only; omega)).trans fR1; rw [hval, HV.out] at hn4; have HF := hide (fun p r => fin_box (N := w.heap.size + 1 + 1) (x := p) (y := r) hn4 (Nat.lt_of_lt_of_le zR hb3.size) (by omega) (bl_trans HZ.out hb4)); obtain ⟨a4, c4, rfl, ho4⟩ := hn4; clear ho4))
      clear hb3 hb4 hb3' hb4' ho3
      go_wp2
      refine bodyPost_ret (v := .agg #[.bool (sgn (x + y)), .slice a4 (lms (x + y)).length c4]) (by simp [results, Try.results27, go_sem, *]) rfl ?_
      exact ⟨_, rfl, HF.out _ _⟩
    · have hc : 0 ≤ cmpZ ((x.natAbs : Nat) : Int) ((y.natAbs : Nat) : Int) := by
        by_cases h : x.natAbs = y.natAbs
        · rw [cmp_eq (by omega)]; decide
        · rw [cmp_gt (by omega)]; decide
      generalize cmpZ ((x.natAbs : Nat) : Int) ((y.natAbs : Nat) : Int) = r at *
      have HV : Hid (mk (sgn x) (Num.nat (lms x) - Num.nat (lms y)) = x + y) := hide (mk_add_diff x y HS.out (by omega))
      have hll : (lms y).length ≤ (lms x).length := Num.limbs_len.2 (Nat.lt_of_le_of_lt (by omega) (Num.limbs_len.1 (Nat.le_refl (lms x).length)))
      go_wp2_with fail
      go_region_held3 (fun w' => w'.cell? ⟨w.heap.size, 0, none⟩ = some (Value.bool (sgn x)) ∧ w'.cell? ⟨w.heap.size, 1, none⟩ = some (Value.slice a (lms x).length ca) ∧ w'.cell? ⟨w.heap.size + 1, 0, none⟩ = some (Value.bool (sgn y)) ∧ w'.cell? ⟨w.heap.size + 1, 1, none⟩ = some (Value.slice b (lms y).length cb))
        (first
          | exact ⟨kP0, kP1, kQ0, kQ1⟩
          | exact ⟨(hb4.cell (p := ⟨w.heap.size, 0, none⟩) (by dsimp only; omega)).trans kP0, (hb4.cell (p := ⟨w.heap.size, 1, none⟩) (by dsimp only; omega)).trans kP1, (hb4.cell (p := ⟨w.heap.size + 1, 0, none⟩) (by dsimp only; omega)).trans kQ0, (hb4.cell (p := ⟨w.heap.size + 1, 1, none⟩) (by dsimp only; omega)).trans kQ1⟩
          | exact ⟨(hb3.cell (p := ⟨w.heap.size, 0, none⟩) (by dsimp only; omega)).trans kP0, (hb3.cell (p := ⟨w.heap.size, 1, none⟩) (by dsimp only; omega)).trans kP1, (hb3.cell (p := ⟨w.heap.size + 1, 0, none⟩) (by dsimp only; omega)).trans kQ0, (hb3.cell (p := ⟨w.heap.size + 1, 1, none⟩) (by dsimp only; omega)).trans kQ1⟩
          | exact ⟨(cell_two (p := ⟨w.heap.size, 0, none⟩) (by dsimp only; omega)).trans ((hb4.cell (p := ⟨w.heap.size, 0, none⟩) (by dsimp only; omega)).trans kP0), (cell_two (p := ⟨w.heap.size, 1, none⟩) (by dsimp only; omega)).trans ((hb4.cell (p := ⟨w.heap.size, 1, none⟩) (by dsimp only; omega)).trans kP1), (cell_two (p := ⟨w.heap.size + 1, 0, none⟩) (by dsimp only; omega)).trans ((hb4.cell (p := ⟨w.heap.size + 1, 0, none⟩) (by dsimp only; omega)).trans kQ0), (cell_two (p := ⟨w.heap.size + 1, 1, none⟩) (by dsimp only; omega)).trans ((hb4.cell (p := ⟨w.heap.size + 1, 1, none⟩) (by dsimp only; omega)).trans kQ1)⟩)
        (first
          | (go_at_call 56; refine (lessS a b _ _ ca cb (lms x) (lms y) _ (HA.out.below (bl_refl w2).drew) (HBB.out.below (bl_refl w2).drew) (by omega) (by omega) (by rw [nat_lms, nat_lms]; omega) hll).mono ?_; rintro e w3 ⟨ao, ko, co, zs, rfl, ho3, hko, hval, hb3'⟩; have hb3 : Below w2.heap.size w2 w3 := (bl_refl w2).drew.trans hb3')
          | (go_at_call 25; refine (makeS (sgn x) ao ko co zs _ ho3.seg (by omega)).mono ?_; rintro e w4 ⟨v4, rfl, hn4, hb4'⟩; have hb4 : Below w2.heap.size w2 w4 := bl_trans hb3 hb4'; have kR0' := (hb4.cell (p := ⟨w.heap.size + 1 + 1, 0, none⟩) (by dsimp only; omega)).trans kR0; have kR1' := (hb4.cell (p := ⟨w.heap.size + 1 + 1, 1, none⟩) (by dsimp only; omega)).trans kR1; have fR0' := (hb4.frozen (p := ⟨w.heap.size + 1 + 1, 0, none⟩) (by dsimp only; omega)).trans fR0; have fR1' := (hb4.frozen (p := ⟨w.heap.size + 1 + 1, 1, none⟩) (by dsimp only; omega)).trans fR1; rw [hval, HV.out] at hn4; have HF := hide (fun p r => fin_box (N := w.heap.size + 1 + 1) (x := p) (y := r) hn4 (Nat.lt_of_lt_of_le zR hb3.size) (by omega) (bl_trans HZ.out hb4)); obtain ⟨a4, c4, rfl, ho4⟩ := hn4; clear ho4))
      clear hb3 hb4 hb3' hb4' ho3
      go_wp2
      refine bodyPost_ret (v := .agg #[.bool (sgn (x + y)), .slice a4 (lms (x + y)).length c4]) (by simp [results, Try.results27, go_sem, *]) rfl ?_
      exact ⟨_, rfl, HF.out _ _⟩
end Go.Proofs.Ythjapjbiclkhcaa

/- The walks of the program's Add and Sub. -/
namespace Go.Proofs.Ythjapjbiclkhcaa
open Go.RowKit
set_option linter.unusedVariables false

/-- what is told by a function on two numbers: whether it is right, and the number -/
def opT (f : Int → Int → Int) (n1 : Bool) (xs : List Nat) (n2 : Bool) (ys : List Nat) : Bool := okB n1 xs && okB n2 ys && fits (f (mk n1 (Num.nat xs)) (mk n2 (Num.nat ys)))
def opZ (f : Int → Int → Int) (n1 : Bool) (xs : List Nat) (n2 : Bool) (ys : List Nat) : Int := if opT f n1 xs n2 ys then f (mk n1 (Num.nat xs)) (mk n2 (Num.nat ys)) else 0
def addZ (x y : Int) : Int := x + y
def subZ (x y : Int) : Int := x - y
theorem len40 {x : Int} (h : x.natAbs < 4294967296 ^ 40) : (Num.limbs x.natAbs).length ≤ 1048576 := Nat.le_trans (Num.limbs_len.2 h) (by decide)
theorem sumZ (v1 v2 : Value) (x y : Int) (w : World) (h1 : Is w v1 x) (h2 : Is w v2 y) (hx : x.natAbs < 4294967296 ^ 40) (hy : y.natAbs < 4294967296 ^ 40) :
    Calls Try.prog 36 #[v1, v2] w fun e w' => ∃ v, e = .returned v ∧ New w' w.heap.size v (addZ x y) ∧ Below w.heap.size w w' := by
  have := sumI v1 v2 (sgn x) (sgn y) x.natAbs y.natAbs w h1 h2 (len40 hx) (len40 hy)
  rw [mk_self, mk_self] at this
  exact this
theorem diffZ (v1 v2 : Value) (x y : Int) (w : World) (h1 : Is w v1 x) (h2 : Is w v2 y) (hx : x.natAbs < 4294967296 ^ 40) (hy : y.natAbs < 4294967296 ^ 40) :
    Calls Try.prog 84 #[v1, v2] w fun e w' => ∃ v, e = .returned v ∧ New w' w.heap.size v (subZ x y) ∧ Below w.heap.size w w' := by
  have := diffI v1 v2 (sgn x) (sgn y) x.natAbs y.natAbs w h1 h2 (len40 hx) (len40 hy)
  rw [mk_self, mk_self] at this
  exact this

set_option maxHeartbeats 2000000 in
set_option maxRecDepth 20000 in
theorem AddP (v1 v2 : Value) (n1 n2 : Bool) (xs ys : List Nat) (w : World) (h1 : Raw w v1 n1 xs) (h2 : Raw w v2 n2 ys) :
    Calls Try.prog 10 #[v1, v2] w fun e w' => ∃ v, e = .returned (.tuple #[v, .bool (opT addZ n1 xs n2 ys)]) ∧ New w' w.heap.size v (opZ addZ n1 xs n2 ys) ∧ Below w.heap.size w w' := by
  obtain ⟨a, ca, rfl, ha⟩ := h1
  obtain ⟨b, cb, rfl, hb⟩ := h2
  have HZ := hide (bl_alloc (bl_alloc (bl_alloc (bl_refl w) (Obj.cells #[Value.bool n1, Value.slice a xs.length ca] 26)) (Obj.cells #[Value.bool n2, Value.slice b ys.length cb] 26)) (Obj.cells #[Value.bool false, Value.slice none 0 0] 26))
  have HA := hide (ha.below HZ.out)
  have HB := hide (hb.below HZ.out)
  clear ha hb
  have kA0 : (((w.alloc (Obj.cells #[Value.bool n1, Value.slice a xs.length ca] 26)).alloc (Obj.cells #[Value.bool n2, Value.slice b ys.length cb] 26)).alloc (Obj.cells #[Value.bool false, Value.slice none 0 0] 26)).cell? ⟨w.heap.size, 0, none⟩ = some (Value.bool n1) := by go_simp
  have kA1 : (((w.alloc (Obj.cells #[Value.bool n1, Value.slice a xs.length ca] 26)).alloc (Obj.cells #[Value.bool n2, Value.slice b ys.length cb] 26)).alloc (Obj.cells #[Value.bool false, Value.slice none 0 0] 26)).cell? ⟨w.heap.size, 1, none⟩ = some (Value.slice a xs.length ca) := by go_simp
  have kB0 : (((w.alloc (Obj.cells #[Value.bool n1, Value.slice a xs.length ca] 26)).alloc (Obj.cells #[Value.bool n2, Value.slice b ys.length cb] 26)).alloc (Obj.cells #[Value.bool false, Value.slice none 0 0] 26)).cell? ⟨w.heap.size + 1, 0, none⟩ = some (Value.bool n2) := by go_simp
  have kB1 : (((w.alloc (Obj.cells #[Value.bool n1, Value.slice a xs.length ca] 26)).alloc (Obj.cells #[Value.bool n2, Value.slice b ys.length cb] 26)).alloc (Obj.cells #[Value.bool false, Value.slice none 0 0] 26)).cell? ⟨w.heap.size + 1, 1, none⟩ = some (Value.slice b ys.length cb) := by go_simp
  have kR0 : (((w.alloc (Obj.cells #[Value.bool n1, Value.slice a xs.length ca] 26)).alloc (Obj.cells #[Value.bool n2, Value.slice b ys.length cb] 26)).alloc (Obj.cells #[Value.bool false, Value.slice none 0 0] 26)).cell? ⟨w.heap.size + 1 + 1, 0, none⟩ = some (Value.bool false) := by go_simp
  have kR1 : (((w.alloc (Obj.cells #[Value.bool n1, Value.slice a xs.length ca] 26)).alloc (Obj.cells #[Value.bool n2, Value.slice b ys.length cb] 26)).alloc (Obj.cells #[Value.bool false, Value.slice none 0 0] 26)).cell? ⟨w.heap.size + 1 + 1, 1, none⟩ = some (Value.slice none 0 0) := by go_simp
  have fR0 : (((w.alloc (Obj.cells #[Value.bool n1, Value.slice a xs.length ca] 26)).alloc (Obj.cells #[Value.bool n2, Value.slice b ys.length cb] 26)).alloc (Obj.cells #[Value.bool false, Value.slice none 0 0] 26)).frozen? ⟨w.heap.size + 1 + 1, 0, none⟩ = false := by go_simp
  have fR1 : (((w.alloc (Obj.cells #[Value.bool n1, Value.slice a xs.length ca] 26)).alloc (Obj.cells #[Value.bool n2, Value.slice b ys.length cb] 26)).alloc (Obj.cells #[Value.bool false, Value.slice none 0 0] 26)).frozen? ⟨w.heap.size + 1 + 1, 1, none⟩ = false := by go_simp
  have zR : w.heap.size + 1 + 1 < (((w.alloc (Obj.cells #[Value.bool n1, Value.slice a xs.length ca] 26)).alloc (Obj.cells #[Value.bool n2, Value.slice b ys.length cb] 26)).alloc (Obj.cells #[Value.bool false, Value.slice none 0 0] 26)).heap.size := by simp only [World.size_alloc]; omega
  go_enter Try.func10, Try.ntmps10
  go_wp2_with fail
  generalize (((w.alloc (Obj.cells #[Value.bool n1, Value.slice a xs.length ca] 26)).alloc (Obj.cells #[Value.bool n2, Value.slice b ys.length cb] 26)).alloc (Obj.cells #[Value.bool false, Value.slice none 0 0] 26)) = w1 at *
  refine (okI _ n1 xs _ ⟨a, ca, rfl, HA.out⟩).mono ?_
  rintro e w2 ⟨rfl, hb2⟩
  replace kA0 := (hb2.cell (p := ⟨w.heap.size, 0, none⟩) (by dsimp only; omega)).trans kA0
  replace kA1 := (hb2.cell (p := ⟨w.heap.size, 1, none⟩) (by dsimp only; omega)).trans kA1
  replace kB0 := (hb2.cell (p := ⟨w.heap.size + 1, 0, none⟩) (by dsimp only; omega)).trans kB0
  replace kB1 := (hb2.cell (p := ⟨w.heap.size + 1, 1, none⟩) (by dsimp only; omega)).trans kB1
  replace kR0 := (hb2.cell (p := ⟨w.heap.size + 1 + 1, 0, none⟩) (by dsimp only; omega)).trans kR0
  replace kR1 := (hb2.cell (p := ⟨w.heap.size + 1 + 1, 1, none⟩) (by dsimp only; omega)).trans kR1
  replace fR0 := (hb2.frozen (p := ⟨w.heap.size + 1 + 1, 0, none⟩) (by dsimp only; omega)).trans fR0
  replace fR1 := (hb2.frozen (p := ⟨w.heap.size + 1 + 1, 1, none⟩) (by dsimp only; omega)).trans fR1
  replace HA := hide (HA.out.below hb2)
  replace HB := hide (HB.out.below hb2)
  replace HZ := hide (bl_trans HZ.out hb2)
  have q := hb2.size
  replace zR := Nat.lt_of_lt_of_le zR q
  clear q hb2
  cases e1 : okB n1 xs with
  | false =>
    have HT : Hid (opT addZ n1 xs n2 ys = false) := hide (by unfold opT; rw [e1]; simp)
    have HV : Hid (opZ addZ n1 xs n2 ys = 0) := hide (by unfold opZ; rw [HT.out]; rfl)
    clear e1
    go_wp2
    refine bodyPost_ret (v := .tuple #[.agg #[.bool false, .slice none 0 0], .bool false]) (by simp [results, Try.results10, go_sem, *]) rfl ?_
    rw [HT.out, HV.out]
    exact ⟨_, rfl, new_zero _ _, (HZ.out.setCell (p := ⟨w.heap.size + 1 + 1, 0, none⟩) (by dsimp only; omega) _).setCell (p := ⟨w.heap.size + 1 + 1, 1, none⟩) (by dsimp only; omega) _⟩
  | true =>
  have E1 := hide e1
  clear e1
  go_wp2_with fail
  refine (okI _ n2 ys _ ⟨b, cb, rfl, HB.out⟩).mono ?_
  rintro e w3 ⟨rfl, hb3⟩
  replace kA0 := (hb3.cell (p := ⟨w.heap.size, 0, none⟩) (by dsimp only; omega)).trans kA0
  replace kA1 := (hb3.cell (p := ⟨w.heap.size, 1, none⟩) (by dsimp only; omega)).trans kA1
  replace kB0 := (hb3.cell (p := ⟨w.heap.size + 1, 0, none⟩) (by dsimp only; omega)).trans kB0
  replace kB1 := (hb3.cell (p := ⟨w.heap.size + 1, 1, none⟩) (by dsimp only; omega)).trans kB1
  replace kR0 := (hb3.cell (p := ⟨w.heap.size + 1 + 1, 0, none⟩) (by dsimp only; omega)).trans kR0
  replace kR1 := (hb3.cell (p := ⟨w.heap.size + 1 + 1, 1, none⟩) (by dsimp only; omega)).trans kR1
  replace fR0 := (hb3.frozen (p := ⟨w.heap.size + 1 + 1, 0, none⟩) (by dsimp only; omega)).trans fR0
  replace fR1 := (hb3.frozen (p := ⟨w.heap.size + 1 + 1, 1, none⟩) (by dsimp only; omega)).trans fR1
  replace HA := hide (HA.out.below hb3)
  replace HB := hide (HB.out.below hb3)
  replace HZ := hide (bl_trans HZ.out hb3)
  have q := hb3.size
  replace zR := Nat.lt_of_lt_of_le zR q
  clear q hb3
  cases e2 : okB n2 ys with
  | false =>
    have HT : Hid (opT addZ n1 xs n2 ys = false) := hide (by unfold opT; rw [E1.out, e2]; simp)
    have HV : Hid (opZ addZ n1 xs n2 ys = 0) := hide (by unfold opZ; rw [HT.out]; rfl)
    clear e2
    go_wp2
    refine bodyPost_ret (v := .tuple #[.agg #[.bool false, .slice none 0 0], .bool false]) (by simp [results, Try.results10, go_sem, *]) rfl ?_
    rw [HT.out, HV.out]
    exact ⟨_, rfl, new_zero _ _, (HZ.out.setCell (p := ⟨w.heap.size + 1 + 1, 0, none⟩) (by dsimp only; omega) _).setCell (p := ⟨w.heap.size + 1 + 1, 1, none⟩) (by dsimp only; omega) _⟩
  | true =>
  obtain ⟨x, rfl, rfl, hx⟩ := ok_num HA.out.2.2.2.1 E1.out
  obtain ⟨y, rfl, rfl, hy⟩ := ok_num HB.out.2.2.2.1 e2
  have HT : Hid (opT addZ (sgn x) (lms x) (sgn y) (lms y) = fits (addZ x y)) := hide (by unfold opT; rw [E1.out, e2, nat_lms, nat_lms, mk_self, mk_self]; rfl)
  have HV : Hid (opZ addZ (sgn x) (lms x) (sgn y) (lms y) = fitZ (addZ x y)) := hide (by unfold opZ fitZ; rw [HT.out, nat_lms, nat_lms, mk_self, mk_self])
  clear e2 E1
  go_wp2_with fail
  have zR0 := zR
  refine (sumZ _ _ x y _ ⟨a, ca, rfl, HA.out⟩ ⟨b, cb, rfl, HB.out⟩ hx hy).mono ?_
  rintro e w4 ⟨v4, rfl, hn4, hb4⟩
  have q4 := hn4
  replace kA0 := (hb4.cell (p := ⟨w.heap.size, 0, none⟩) (by dsimp only; omega)).trans kA0
  replace kA1 := (hb4.cell (p := ⟨w.heap.size, 1, none⟩) (by dsimp only; omega)).trans kA1
  replace kB0 := (hb4.cell (p := ⟨w.heap.size + 1, 0, none⟩) (by dsimp only; omega)).trans kB0
  replace kB1 := (hb4.cell (p := ⟨w.heap.size + 1, 1, none⟩) (by dsimp only; omega)).trans kB1
  replace kR0 := (hb4.cell (p := ⟨w.heap.size + 1 + 1, 0, none⟩) (by dsimp only; omega)).trans kR0
  replace kR1 := (hb4.cell (p := ⟨w.heap.size + 1 + 1, 1, none⟩) (by dsimp only; omega)).trans kR1
  replace fR0 := (hb4.frozen (p := ⟨w.heap.size + 1 + 1, 0, none⟩) (by dsimp only; omega)).trans fR0
  replace fR1 := (hb4.frozen (p := ⟨w.heap.size + 1 + 1, 1, none⟩) (by dsimp only; omega)).trans fR1
  replace HA := hide (HA.out.below hb4)
  replace HB := hide (HB.out.below hb4)
  replace HZ := hide (bl_trans HZ.out hb4)
  have q := hb4.size
  replace zR := Nat.lt_of_lt_of_le zR q
  go_wp2_with fail
  refine (fitI v4 _ _ _ q4 hb4.size).mono ?_
  rintro e w5 ⟨v5, rfl, hn5, hb5⟩
  obtain ⟨k0, k1, f0, f1⟩ := box_keep (N := w.heap.size + 1 + 1) hb5 zR kR0 kR1 fR0 fR1
  rw [← HV.out] at hn5
  rw [← HT.out]
  have HF := hide (fun p r => fin_box (N := w.heap.size + 1 + 1) (x := p) (y := r) hn5 zR0 (by omega) (bl_trans HZ.out hb5))
  obtain ⟨a5, c5, rfl, ho5⟩ := hn5
  clear hb4 hb5 ho5 q4 hn4 kA0 kA1 kB0 kB1 kR0 kR1 fR0 fR1 HA HB HZ HT HV hx hy
  go_wp2
  refine bodyPost_ret (v := .tuple #[.agg #[.bool (sgn (opZ addZ (sgn x) (lms x) (sgn y) (lms y))), .slice a5 (lms (opZ addZ (sgn x) (lms x) (sgn y) (lms y))).length c5], .bool (opT addZ (sgn x) (lms x) (sgn y) (lms y))]) (by simp [results, Try.results10, go_sem, *]) rfl ?_
  exact ⟨_, rfl, HF.out _ _⟩

end Go.Proofs.Ythjapjbiclkhcaa
