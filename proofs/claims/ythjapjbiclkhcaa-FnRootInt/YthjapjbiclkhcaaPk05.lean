/- My texts TLimb, AddS, AddP, SubS, in this order. -/
import Derived.Test.YthjapjbiclkhcaaPk02
import Derived.Test.YthjapjbiclkhcaaPk03
import Derived.Test.YthjapjbiclkhcaaPk00
import Derived.Test.YthjapjbiclkhcaaPk04
/- The walks of timesLimb and guessLimb: a list of limbs times one limb in new memory; a quotient's limb guessed from the ends. -/
namespace Go.Proofs.Ythjapjbiclkhcaa
open Go.RowKit
set_option linter.unusedVariables false

theorem min_one {X : Int} {D : Nat} (e : X = (D : Int)) (h : 4294967295 < X) : 4294967295 = ((min D 4294967295 : Nat) : Int) := by omega
theorem min_two {X : Int} {D : Nat} (e : X = (D : Int)) (h : X ≤ 4294967295) : X % 4294967296 = ((min D 4294967295 : Nat) : Int) := by omega
theorem tl_val {f n c : Nat} {xs zs ys : List Nat} (hn : n = xs.length) (hy : Num.nat (ys.take n) = 0) (h : TSo f ys xs zs n c) : Num.nat (zs ++ [c]) = Num.nat xs * f := by
  obtain ⟨h1, h2, h3, h4⟩ := h
  rw [Num.nat_append, h1]
  rw [show Num.nat [c] = c by simp [Num.nat]]
  rw [hy, List.take_of_length_le (by omega), Nat.mul_comm f] at h4
  omega

set_option maxHeartbeats 4000000 in
set_option maxRecDepth 20000 in
theorem tlimbI (a : Option Addr) (n ca f : Nat) (xs : List Nat) (w : World) (ha : Seg w a n ca xs) (hn : n ≤ 1000000) (hf : f < 4294967296) :
    Calls Try.prog 100 #[.slice a n ca, .int .u32 f] w fun e w' => ∃ zs, e = .returned (.slice (some ⟨w.heap.size, 0, none⟩) (n + 1) (n + 1)) ∧ Blk w' w.heap.size zs ∧ zs.length = n + 1 ∧ Num.nat zs = Num.nat xs * f ∧ Below w.heap.size w w' := by
  obtain ⟨i0, hi, hz0, hz1, hz2⟩ := info_parts Try.info56
  obtain rfl := ha.1
  have hca := ha.2.1
  have hcm := ha.2.2.1
  have HA := hide ha
  clear ha
  go_enter Try.func100, Try.ntmps100
  go_wp2_with (at_make; refine wpList_make_full _ rfl _ _ 24 rfl w.heap.size 56 i0 (.int .u32 0) 1 Try.underlying24 hi hz0 hz1 _ _ _ _ (xs.length + 1) rfl rfl (by push_cast; rfl) (by push_cast; rfl) (by rw [hz2]; omega) (by unfold maxLen; omega) (Nat.le_refl _) ?_; intro w3 hown hgrow; have HZ3 := hide ((bl_refl w).grown hgrow (Nat.le_refl _) (by simp)); have B3 := hide (own_made2 hown).blk; clear hown hgrow)
  have hl3 := HZ3.out.size
  refine (timesI f w.heap.size 0 (xs.length + 1) (xs.length + 1) (List.replicate (xs.length + 1) 0) a xs.length ca xs _ hf B3.out (by simp) (Nat.le_refl _) (by omega) (by omega) (HA.out.below HZ3.out) (fun hp gb ob s e => by have := seg_low HA.out hp e; omega)).mono ?_
  rintro e w5 ⟨zs, c, hT, rfl, hB5, hg5⟩
  have HV := hide (tl_val (n := xs.length) rfl (by rw [List.drop_zero, List.take_replicate]; exact Num.nat_replicate _) hT)
  have HL : Hid ((zs ++ [c]).length = xs.length + 1) := hide (by rw [List.length_append, hT.1]; rfl)
  have HB5 : Hid (Blk w5 w.heap.size (zs ++ [c])) := hide (by
    have := hB5
    rw [List.take_zero, List.nil_append, List.drop_eq_nil_of_le (by simp), List.append_nil] at this
    exact this)
  have HZ5 := hide (HZ3.out.grown hg5 HZ3.out.size (fun j e => by cases e; exact Nat.le_refl _))
  clear hT hB5 hg5
  go_wp2
  go_ret
  exact ⟨_, rfl, HB5.out, HL.out, HV.out, HZ5.out⟩

set_option maxHeartbeats 4000000 in
set_option maxRecDepth 20000 in
theorem guessI (a b : Option Addr) (n ca cb : Nat) (ps ds : List Nat) (w : World) (ha : Seg w a (n + 2) ca ps) (hb : Seg w b (n + 1) cb ds) (hn : n ≤ 1000000) (t p q : Nat) (ht : ds[n]? = some t) (hp : ps[n + 1]? = some p) (hq : ps[n]? = some q) (h0 : t ≠ 0) :
    Calls Try.prog 101 #[.slice a (n + 2) ca, .slice b (n + 1) cb] w fun e w' => e = .returned (.int .u32 ((min ((p * 4294967296 + q) / t) 4294967295 : Nat) : Int)) ∧ ∃ m, w' = w.drewN m := by
  obtain ⟨h1, hp⟩ := List.getElem?_eq_some_iff.1 hp
  obtain ⟨h2, hq⟩ := List.getElem?_eq_some_iff.1 hq
  obtain ⟨h3, ht⟩ := List.getElem?_eq_some_iff.1 ht
  have hca := ha.2.1
  have hcm := ha.2.2.1
  have hcb := hb.2.1
  have hcbm := hb.2.2.1
  have hps := Num.small_at ha.2.2.2.1 h1
  have hqs := Num.small_at ha.2.2.2.1 h2
  have hts := Num.small_at hb.2.2.2.1 h3
  obtain ⟨ga, oa, rfl, hga, hc1⟩ := seg_cell ha (n + 1) h1
  obtain ⟨_, _, e, _, hc2⟩ := seg_cell ha n h2
  cases e
  obtain ⟨gb, ob, rfl, hgb, hc3⟩ := seg_cell hb n h3
  rw [hp] at hps hc1
  rw [hq] at hqs hc2
  rw [ht] at hts hc3
  clear hp hq ht h1 h2 h3 ha hb
  have hor := or32' (q : Int) (p : Int) (by omega) (by omega) (by omega) (by omega)
  have htz : ((t : Int) == 0) = false := by rw [beq_eq_false_iff_ne]; omega
  have E1 : Hid (((p : Int) * 4294967296 + (q : Int)) / (t : Int) = (((p * 4294967296 + q) / t : Nat) : Int)) := hide (by rw [Int.natCast_ediv, Int.natCast_add, Int.natCast_mul]; rfl)
  go_enter Try.func101, Try.ntmps101
  go_wp2_with fail
  go_quiet (fail)
  go_wp2
  all_goals
    go_ret
    refine ⟨ret_int ?_, nq, rfl⟩
    have e := E1.out
    first | exact min_one e (by assumption) | exact min_two e (by assumption)
end Go.Proofs.Ythjapjbiclkhcaa

/- The walks of l02Add, l02Neg and l02Sub: sums and differences of numbers of any size, in new memory. -/
namespace Go.Proofs.Ythjapjbiclkhcaa
open Go.RowKit
set_option linter.unusedVariables false

theorem cell_two {w : World} {N : Nat} {x y : Value} {p : Addr} (h : p.block ≠ N) : ((w.setCell ⟨N, 0, none⟩ x).setCell ⟨N, 1, none⟩ y).cell? p = w.cell? p :=
  World.cell?_of_block ((Below.heap_setCell (w.setCell ⟨N, 0, none⟩ x) ⟨N, 1, none⟩ y p.block h).trans (Below.heap_setCell w ⟨N, 0, none⟩ x p.block h))
theorem mk_add_same (x y : Int) (h : sgn x = sgn y) : mk (sgn x) (Num.nat (lms x) + Num.nat (lms y)) = x + y := by
  rw [nat_lms, nat_lms]
  unfold sgn mk at *
  by_cases hx : x < 0
  · have hy : y < 0 := by rw [decide_eq_true hx] at h; exact of_decide_eq_true h.symm
    rw [decide_eq_true hx, if_pos rfl]; omega
  · have hy : ¬ y < 0 := by rw [decide_eq_false hx] at h; exact of_decide_eq_false h.symm
    rw [decide_eq_false hx, if_neg (by simp)]; omega
theorem mk_add_diff (x y : Int) (h : sgn x ≠ sgn y) (hl : y.natAbs ≤ x.natAbs) : mk (sgn x) (Num.nat (lms x) - Num.nat (lms y)) = x + y := by
  rw [nat_lms, nat_lms]
  unfold sgn mk at *
  by_cases hx : x < 0
  · have hy : ¬ y < 0 := fun hc => h (by rw [decide_eq_true hx, decide_eq_true hc])
    rw [decide_eq_true hx, if_pos rfl]; omega
  · have hy : y < 0 := by
      refine Classical.byContradiction fun hc => h ?_
      rw [decide_eq_false hx, decide_eq_false hc]
    rw [decide_eq_false hx, if_neg (by simp)]; omega

set_option maxHeartbeats 4000000 in
set_option maxRecDepth 20000 in
theorem addS (v1 v2 : Value) (x y : Int) (w : World) (h1 : Is w v1 x) (h2 : Is w v2 y) (l1 : (lms x).length ≤ 500000) (l2 : (lms y).length ≤ 500000) :
    Calls Try.prog 27 #[v1, v2] w fun e w' => ∃ v, e = .returned v ∧ New w' w.heap.size v (x + y) ∧ Below w.heap.size w w' := by
  obtain ⟨a, ca, rfl, ha⟩ := h1
  obtain ⟨b, cb, rfl, hb⟩ := h2
  have HZ := hide (bl_alloc (bl_alloc (bl_alloc (bl_refl w) (Obj.cells #[Value.bool (sgn x), Value.slice a (lms x).length ca] 26)) (Obj.cells #[Value.bool (sgn y), Value.slice b (lms y).length cb] 26)) (Obj.cells #[Value.bool false, Value.slice none 0 0] 26))
  have HA := hide (ha.below HZ.out)
  have HBB := hide (hb.below HZ.out)
  clear ha hb
  have kP0 : (((w.alloc (Obj.cells #[Value.bool (sgn x), Value.slice a (lms x).length ca] 26)).alloc (Obj.cells #[Value.bool (sgn y), Value.slice b (lms y).length cb] 26)).alloc (Obj.cells #[Value.bool false, Value.slice none 0 0] 26)).cell? ⟨w.heap.size, 0, none⟩ = some (Value.bool (sgn x)) := by go_simp
  have kP1 : (((w.alloc (Obj.cells #[Value.bool (sgn x), Value.slice a (lms x).length ca] 26)).alloc (Obj.cells #[Value.bool (sgn y), Value.slice b (lms y).length cb] 26)).alloc (Obj.cells #[Value.bool false, Value.slice none 0 0] 26)).cell? ⟨w.heap.size, 1, none⟩ = some (Value.slice a (lms x).length ca) := by go_simp
  have kQ0 : (((w.alloc (Obj.cells #[Value.bool (sgn x), Value.slice a (lms x).length ca] 26)).alloc (Obj.cells #[Value.bool (sgn y), Value.slice b (lms y).length cb] 26)).alloc (Obj.cells #[Value.bool false, Value.slice none 0 0] 26)).cell? ⟨w.heap.size + 1, 0, none⟩ = some (Value.bool (sgn y)) := by go_simp
  have kQ1 : (((w.alloc (Obj.cells #[Value.bool (sgn x), Value.slice a (lms x).length ca] 26)).alloc (Obj.cells #[Value.bool (sgn y), Value.slice b (lms y).length cb] 26)).alloc (Obj.cells #[Value.bool false, Value.slice none 0 0] 26)).cell? ⟨w.heap.size + 1, 1, none⟩ = some (Value.slice b (lms y).length cb) := by go_simp
  have kR0 : (((w.alloc (Obj.cells #[Value.bool (sgn x), Value.slice a (lms x).length ca] 26)).alloc (Obj.cells #[Value.bool (sgn y), Value.slice b (lms y).length cb] 26)).alloc (Obj.cells #[Value.bool false, Value.slice none 0 0] 26)).cell? ⟨w.heap.size + 1 + 1, 0, none⟩ = some (Value.bool false) := by go_simp
  have kR1 : (((w.alloc (Obj.cells #[Value.bool (sgn x), Value.slice a (lms x).length ca] 26)).alloc (Obj.cells #[Value.bool (sgn y), Value.slice b (lms y).length cb] 26)).alloc (Obj.cells #[Value.bool false, Value.slice none 0 0] 26)).cell? ⟨w.heap.size + 1 + 1, 1, none⟩ = some (Value.slice none 0 0) := by go_simp
  have fR0 : (((w.alloc (Obj.cells #[Value.bool (sgn x), Value.slice a (lms x).length ca] 26)).alloc (Obj.cells #[Value.bool (sgn y), Value.slice b (lms y).length cb] 26)).alloc (Obj.cells #[Value.bool false, Value.slice none 0 0] 26)).frozen? ⟨w.heap.size + 1 + 1, 0, none⟩ = false := by go_simp
  have fR1 : (((w.alloc (Obj.cells #[Value.bool (sgn x), Value.slice a (lms x).length ca] 26)).alloc (Obj.cells #[Value.bool (sgn y), Value.slice b (lms y).length cb] 26)).alloc (Obj.cells #[Value.bool false, Value.slice none 0 0] 26)).frozen? ⟨w.heap.size + 1 + 1, 1, none⟩ = false := by go_simp
  have zR : w.heap.size + 1 + 1 < (((w.alloc (Obj.cells #[Value.bool (sgn x), Value.slice a (lms x).length ca] 26)).alloc (Obj.cells #[Value.bool (sgn y), Value.slice b (lms y).length cb] 26)).alloc (Obj.cells #[Value.bool false, Value.slice none 0 0] 26)).heap.size := by simp only [World.size_alloc]; omega
  by_cases hs : sgn x = sgn y
  · have HV := hide (mk_add_same x y hs)
    have hse : (sgn x == sgn y) = true := by rw [hs]; simp
    have HSE := hide hse
    clear hs
    go_enter Try.func27, Try.ntmps27
    go_wp2_with fail
    generalize (((w.alloc (Obj.cells #[Value.bool (sgn x), Value.slice a (lms x).length ca] 26)).alloc (Obj.cells #[Value.bool (sgn y), Value.slice b (lms y).length cb] 26)).alloc (Obj.cells #[Value.bool false, Value.slice none 0 0] 26)) = w1 at *
    go_region_held3 (fun w' => w'.cell? ⟨w.heap.size, 0, none⟩ = some (Value.bool (sgn x)) ∧ w'.cell? ⟨w.heap.size, 1, none⟩ = some (Value.slice a (lms x).length ca) ∧ w'.cell? ⟨w.heap.size + 1, 0, none⟩ = some (Value.bool (sgn y)) ∧ w'.cell? ⟨w.heap.size + 1, 1, none⟩ = some (Value.slice b (lms y).length cb))
      (first
        | exact ⟨kP0, kP1, kQ0, kQ1⟩
        | exact ⟨(hb4.cell (p := ⟨w.heap.size, 0, none⟩) (by dsimp only; omega)).trans kP0, (hb4.cell (p := ⟨w.heap.size, 1, none⟩) (by dsimp only; omega)).trans kP1, (hb4.cell (p := ⟨w.heap.size + 1, 0, none⟩) (by dsimp only; omega)).trans kQ0, (hb4.cell (p := ⟨w.heap.size + 1, 1, none⟩) (by dsimp only; omega)).trans kQ1⟩
        | exact ⟨(hb3.cell (p := ⟨w.heap.size, 0, none⟩) (by dsimp only; omega)).trans kP0, (hb3.cell (p := ⟨w.heap.size, 1, none⟩) (by dsimp only; omega)).trans kP1, (hb3.cell (p := ⟨w.heap.size + 1, 0, none⟩) (by dsimp only; omega)).trans kQ0, (hb3.cell (p := ⟨w.heap.size + 1, 1, none⟩) (by dsimp only; omega)).trans kQ1⟩
        | exact ⟨(cell_two (p := ⟨w.heap.size, 0, none⟩) (by dsimp only; omega)).trans ((hb4.cell (p := ⟨w.heap.size, 0, none⟩) (by dsimp only; omega)).trans kP0), (cell_two (p := ⟨w.heap.size, 1, none⟩) (by dsimp only; omega)).trans ((hb4.cell (p := ⟨w.heap.size, 1, none⟩) (by dsimp only; omega)).trans kP1), (cell_two (p := ⟨w.heap.size + 1, 0, none⟩) (by dsimp only; omega)).trans ((hb4.cell (p := ⟨w.heap.size + 1, 0, none⟩) (by dsimp only; omega)).trans kQ0), (cell_two (p := ⟨w.heap.size + 1, 1, none⟩) (by dsimp only; omega)).trans ((hb4.cell (p := ⟨w.heap.size + 1, 1, none⟩) (by dsimp only; omega)).trans kQ1)⟩)
      (first
        | (go_at_call 54; refine (plusS a b _ _ ca cb (lms x) (lms y) _ (HA.out.below (bl_refl w1).drew) (HBB.out.below (bl_refl w1).drew) (by omega) (by omega)).mono ?_; rintro e w3 ⟨ao, ko, co, zs, rfl, ho3, hko, hval, hb3'⟩; have hb3 : Below w1.heap.size w1 w3 := (bl_refl w1).drew.trans hb3')
        | (go_at_call 25; refine (makeS (sgn x) ao ko co zs _ ho3.seg (by omega)).mono ?_; rintro e w4 ⟨v4, rfl, hn4, hb4'⟩; have hb4 : Below w1.heap.size w1 w4 := bl_trans hb3 hb4'; have kR0' := (hb4.cell (p := ⟨w.heap.size + 1 + 1, 0, none⟩) (by dsimp only; omega)).trans kR0; have kR1' := (hb4.cell (p := ⟨w.heap.size + 1 + 1, 1, none⟩) (by dsimp only; omega)).trans kR1; have fR0' := (hb4.frozen (p := ⟨w.heap.size + 1 + 1, 0, none⟩) (by dsimp only; omega)).trans fR0; have fR1' := (hb4.frozen (p := ⟨w.heap.size + 1 + 1, 1, none⟩) (by dsimp only; omega)).trans fR1; rw [hval, HV.out] at hn4; have HF := hide (fun p r => fin_box (N := w.heap.size + 1 + 1) (x := p) (y := r) hn4 (Nat.lt_of_lt_of_le zR hb3.size) (by omega) (bl_trans HZ.out hb4)); obtain ⟨a4, c4, rfl, ho4⟩ := hn4; clear ho4))
    clear hb3 hb4 hb3' hb4' ho3
    go_wp2
    refine bodyPost_ret (v := .agg #[.bool (sgn (x + y)), .slice a4 (lms (x + y)).length c4]) (by simp [results, Try.results27, go_sem, *]) rfl ?_
    exact ⟨_, rfl, HF.out _ _⟩
  · have hse : (sgn x == sgn y) = false := by rw [beq_eq_false_iff_ne]; exact hs
    have HS := hide hs
    clear hs
    go_enter Try.func27, Try.ntmps27
    go_wp2_with fail
    generalize (((w.alloc (Obj.cells #[Value.bool (sgn x), Value.slice a (lms x).length ca] 26)).alloc (Obj.cells #[Value.bool (sgn y), Value.slice b (lms y).length cb] 26)).alloc (Obj.cells #[Value.bool false, Value.slice none 0 0] 26)) = w1 at *
    refine (leastS x.natAbs y.natAbs a b _ _ ca cb _ HA.out HBB.out).mono ?_
    rintro e w2 ⟨rfl, d, hw2⟩
    replace kP0 : w2.cell? ⟨w.heap.size, 0, none⟩ = some (Value.bool (sgn x)) := by rw [hw2]; exact kP0
    replace kP1 : w2.cell? ⟨w.heap.size, 1, none⟩ = some (Value.slice a (lms x).length ca) := by rw [hw2]; exact kP1
    replace kQ0 : w2.cell? ⟨w.heap.size + 1, 0, none⟩ = some (Value.bool (sgn y)) := by rw [hw2]; exact kQ0
    replace kQ1 : w2.cell? ⟨w.heap.size + 1, 1, none⟩ = some (Value.slice b (lms y).length cb) := by rw [hw2]; exact kQ1
    replace kR0 : w2.cell? ⟨w.heap.size + 1 + 1, 0, none⟩ = some (Value.bool false) := by rw [hw2]; exact kR0
    replace kR1 : w2.cell? ⟨w.heap.size + 1 + 1, 1, none⟩ = some (Value.slice none 0 0) := by rw [hw2]; exact kR1
    replace fR0 : w2.frozen? ⟨w.heap.size + 1 + 1, 0, none⟩ = false := by rw [hw2]; exact fR0
    replace fR1 : w2.frozen? ⟨w.heap.size + 1 + 1, 1, none⟩ = false := by rw [hw2]; exact fR1
    replace HZ : Hid (Below w.heap.size w w2) := hide (by rw [hw2]; exact below_drewN HZ.out d)
    replace HA : Hid (Seg w2 a (lms x).length ca (lms x)) := hide (by rw [hw2]; exact HA.out.below (below_drewN (bl_refl w1) d))
    replace HBB : Hid (Seg w2 b (lms y).length cb (lms y)) := hide (by rw [hw2]; exact HBB.out.below (below_drewN (bl_refl w1) d))
    replace zR : w.heap.size + 1 + 1 < w2.heap.size := by rw [hw2]; exact zR
    clear hw2
    by_cases hxy : x.natAbs < y.natAbs
    · rw [cmp_lt (by omega)]
      have HV : Hid (mk (sgn y) (Num.nat (lms y) - Num.nat (lms x)) = x + y) := hide (by rw [mk_add_diff y x (fun e => HS.out e.symm) (by omega)]; omega)
      have hll : (lms x).length ≤ (lms y).length := Num.limbs_len.2 (Nat.lt_trans hxy (Num.limbs_len.1 (Nat.le_refl _)))
      go_wp2_with fail
      go_region_held3 (fun w' => w'.cell? ⟨w.heap.size, 0, none⟩ = some (Value.bool (sgn x)) ∧ w'.cell? ⟨w.heap.size, 1, none⟩ = some (Value.slice a (lms x).length ca) ∧ w'.cell? ⟨w.heap.size + 1, 0, none⟩ = some (Value.bool (sgn y)) ∧ w'.cell? ⟨w.heap.size + 1, 1, none⟩ = some (Value.slice b (lms y).length cb))
        (first
          | exact ⟨kP0, kP1, kQ0, kQ1⟩
          | exact ⟨(hb4.cell (p := ⟨w.heap.size, 0, none⟩) (by dsimp only; omega)).trans kP0, (hb4.cell (p := ⟨w.heap.size, 1, none⟩) (by dsimp only; omega)).trans kP1, (hb4.cell (p := ⟨w.heap.size + 1, 0, none⟩) (by dsimp only; omega)).trans kQ0, (hb4.cell (p := ⟨w.heap.size + 1, 1, none⟩) (by dsimp only; omega)).trans kQ1⟩
          | exact ⟨(hb3.cell (p := ⟨w.heap.size, 0, none⟩) (by dsimp only; omega)).trans kP0, (hb3.cell (p := ⟨w.heap.size, 1, none⟩) (by dsimp only; omega)).trans kP1, (hb3.cell (p := ⟨w.heap.size + 1, 0, none⟩) (by dsimp only; omega)).trans kQ0, (hb3.cell (p := ⟨w.heap.size + 1, 1, none⟩) (by dsimp only; omega)).trans kQ1⟩
          | exact ⟨(cell_two (p := ⟨w.heap.size, 0, none⟩) (by dsimp only; omega)).trans ((hb4.cell (p := ⟨w.heap.size, 0, none⟩) (by dsimp only; omega)).trans kP0), (cell_two (p := ⟨w.heap.size, 1, none⟩) (by dsimp only; omega)).trans ((hb4.cell (p := ⟨w.heap.size, 1, none⟩) (by dsimp only; omega)).trans kP1), (cell_two (p := ⟨w.heap.size + 1, 0, none⟩) (by dsimp only; omega)).trans ((hb4.cell (p := ⟨w.heap.size + 1, 0, none⟩) (by dsimp only; omega)).trans kQ0), (cell_two (p := ⟨w.heap.size + 1, 1, none⟩) (by dsimp only; omega)).trans ((hb4.cell (p := ⟨w.heap.size + 1, 1, none⟩) (by dsimp only; omega)).trans kQ1)⟩)
        (first
          | (go_at_call 56; refine (lessS b a _ _ cb ca (lms y) (lms x) _ (HBB.out.below (bl_refl w2).drew) (HA.out.below (bl_refl w2).drew) (by omega) (by omega) (by rw [nat_lms, nat_lms]; omega) hll).mono ?_; rintro e w3 ⟨ao, ko, co, zs, rfl, ho3, hko, hval, hb3'⟩; have hb3 : Below w2.heap.size w2 w3 := (bl_refl w2).drew.trans hb3')
          | (go_at_call 25; refine (makeS (sgn y) ao ko co zs _ ho3.seg (by omega)).mono ?_; rintro e w4 ⟨v4, rfl, hn4, hb4'⟩; have hb4 : Below w2.heap.size w2 w4 := bl_trans hb3 hb4'; have kR0' := (hb4.cell (p := ⟨w.heap.size + 1 + 1, 0, none⟩) (by dsimp only; omega)).trans kR0; have kR1' := (hb4.cell (p := ⟨w.heap.size + 1 + 1, 1, none⟩) (by dsimp only; omega)).trans kR1; have fR0' := (hb4.frozen (p := ⟨w.heap.size + 1 + 1, 0, none⟩) (by dsimp only; omega)).trans fR0; have fR1' := (hb4.frozen (p := ⟨w.heap.size + 1 + 1, 1, none⟩) (by dsimp only; omega)).trans fR1; rw [hval, HV.out] at hn4; have HF := hide (fun p r => fin_box (N := w.heap.size + 1 + 1) (x := p) (y := r) hn4 (Nat.lt_of_lt_of_le zR hb3.size) (by omega) (bl_trans HZ.out hb4)); obtain ⟨a4, c4, rfl, ho4⟩ := hn4; clear ho4))
      clear hb3 hb4 hb3' hb4' ho3
      go_wp2
      refine bodyPost_ret (v := .agg #[.bool (sgn (x + y)), .slice a4 (lms (x + y)).length c4]) (by simp [results, Try.results27, go_sem, *]) rfl ?_
      exact ⟨_, rfl, HF.out _ _⟩
    · have hc : 0 ≤ cmpZ ((x.natAbs : Nat) : Int) ((y.natAbs : Nat) : Int) := by
        by_cases h : x.natAbs = y.natAbs
        · rw [cmp_eq (by omega)]; decide
        · rw [cmp_gt (by omega)]; decide
      generalize cmpZ ((x.natAbs : Nat) : Int) ((y.natAbs : Nat) : Int) = r at *
      have HV : Hid (mk (sgn x) (Num.nat (lms x) - Num.nat (lms y)) = x + y) := hide (mk_add_diff x y HS.out (by omega))
      have hll : (lms y).length ≤ (lms x).length := Num.limbs_len.2 (Nat.lt_of_le_of_lt (by omega) (Num.limbs_len.1 (Nat.le_refl (lms x).length)))
      go_wp2_with fail
      go_region_held3 (fun w' => w'.cell? ⟨w.heap.size, 0, none⟩ = some (Value.bool (sgn x)) ∧ w'.cell? ⟨w.heap.size, 1, none⟩ = some (Value.slice a (lms x).length ca) ∧ w'.cell? ⟨w.heap.size + 1, 0, none⟩ = some (Value.bool (sgn y)) ∧ w'.cell? ⟨w.heap.size + 1, 1, none⟩ = some (Value.slice b (lms y).length cb))
        (first
          | exact ⟨kP0, kP1, kQ0, kQ1⟩
          | exact ⟨(hb4.cell (p := ⟨w.heap.size, 0, none⟩) (by dsimp only; omega)).trans kP0, (hb4.cell (p := ⟨w.heap.size, 1, none⟩) (by dsimp only; omega)).trans kP1, (hb4.cell (p := ⟨w.heap.size + 1, 0, none⟩) (by dsimp only; omega)).trans kQ0, (hb4.cell (p := ⟨w.heap.size + 1, 1, none⟩) (by dsimp only; omega)).trans kQ1⟩
          | exact ⟨(hb3.cell (p := ⟨w.heap.size, 0, none⟩) (by dsimp only; omega)).trans kP0, (hb3.cell (p := ⟨w.heap.size, 1, none⟩) (by dsimp only; omega)).trans kP1, (hb3.cell (p := ⟨w.heap.size + 1, 0, none⟩) (by dsimp only; omega)).trans kQ0, (hb3.cell (p := ⟨w.heap.size + 1, 1, none⟩) (by dsimp only; omega)).trans kQ1⟩
          | exact ⟨(cell_two (p := ⟨w.heap.size, 0, none⟩) (by dsimp only; omega)).trans ((hb4.cell (p := ⟨w.heap.size, 0, none⟩) (by dsimp only; omega)).trans kP0), (cell_two (p := ⟨w.heap.size, 1, none⟩) (by dsimp only; omega)).trans ((hb4.cell (p := ⟨w.heap.size, 1, none⟩) (by dsimp only; omega)).trans kP1), (cell_two (p := ⟨w.heap.size + 1, 0, none⟩) (by dsimp only; omega)).trans ((hb4.cell (p := ⟨w.heap.size + 1, 0, none⟩) (by dsimp only; omega)).trans kQ0), (cell_two (p := ⟨w.heap.size + 1, 1, none⟩) (by dsimp only; omega)).trans ((hb4.cell (p := ⟨w.heap.size + 1, 1, none⟩) (by dsimp only; omega)).trans kQ1)⟩)
        (first
          | (go_at_call 56; refine (lessS a b _ _ ca cb (lms x) (lms y) _ (HA.out.below (bl_refl w2).drew) (HBB.out.below (bl_refl w2).drew) (by omega) (by omega) (by rw [nat_lms, nat_lms]; omega) hll).mono ?_; rintro e w3 ⟨ao, ko, co, zs, rfl, ho3, hko, hval, hb3'⟩; have hb3 : Below w2.heap.size w2 w3 := (bl_refl w2).drew.trans hb3')
          | (go_at_call 25; refine (makeS (sgn x) ao ko co zs _ ho3.seg (by omega)).mono ?_; rintro e w4 ⟨v4, rfl, hn4, hb4'⟩; have hb4 : Below w2.heap.size w2 w4 := bl_trans hb3 hb4'; have kR0' := (hb4.cell (p := ⟨w.heap.size + 1 + 1, 0, none⟩) (by dsimp only; omega)).trans kR0; have kR1' := (hb4.cell (p := ⟨w.heap.size + 1 + 1, 1, none⟩) (by dsimp only; omega)).trans kR1; have fR0' := (hb4.frozen (p := ⟨w.heap.size + 1 + 1, 0, none⟩) (by dsimp only; omega)).trans fR0; have fR1' := (hb4.frozen (p := ⟨w.heap.size + 1 + 1, 1, none⟩) (by dsimp only; omega)).trans fR1; rw [hval, HV.out] at hn4; have HF := hide (fun p r => fin_box (N := w.heap.size + 1 + 1) (x := p) (y := r) hn4 (Nat.lt_of_lt_of_le zR hb3.size) (by omega) (bl_trans HZ.out hb4)); obtain ⟨a4, c4, rfl, ho4⟩ := hn4; clear ho4))
      clear hb3 hb4 hb3' hb4' ho3
      go_wp2
      refine bodyPost_ret (v := .agg #[.bool (sgn (x + y)), .slice a4 (lms (x + y)).length c4]) (by simp [results, Try.results27, go_sem, *]) rfl ?_
      exact ⟨_, rfl, HF.out _ _⟩
end Go.Proofs.Ythjapjbiclkhcaa

/- The walks of the program's Add and Sub. -/
namespace Go.Proofs.Ythjapjbiclkhcaa
open Go.RowKit
set_option linter.unusedVariables false

/-- what is told by a function on two numbers: whether it is right, and the number -/
def opT (f : Int → Int → Int) (n1 : Bool) (xs : List Nat) (n2 : Bool) (ys : List Nat) : Bool := okB n1 xs && okB n2 ys && fits (f (mk n1 (Num.nat xs)) (mk n2 (Num.nat ys)))
def opZ (f : Int → Int → Int) (n1 : Bool) (xs : List Nat) (n2 : Bool) (ys : List Nat) : Int := if opT f n1 xs n2 ys then f (mk n1 (Num.nat xs)) (mk n2 (Num.nat ys)) else 0
def addZ (x y : Int) : Int := x + y
def subZ (x y : Int) : Int := x - y
theorem len40 {x : Int} (h : x.natAbs < 4294967296 ^ 40) : (Num.limbs x.natAbs).length ≤ 1048576 := Nat.le_trans (Num.limbs_len.2 h) (by decide)
theorem sumZ (v1 v2 : Value) (x y : Int) (w : World) (h1 : Is w v1 x) (h2 : Is w v2 y) (hx : x.natAbs < 4294967296 ^ 40) (hy : y.natAbs < 4294967296 ^ 40) :
    Calls Try.prog 36 #[v1, v2] w fun e w' => ∃ v, e = .returned v ∧ New w' w.heap.size v (addZ x y) ∧ Below w.heap.size w w' := by
  have := sumI v1 v2 (sgn x) (sgn y) x.natAbs y.natAbs w h1 h2 (len40 hx) (len40 hy)
  rw [mk_self, mk_self] at this
  exact this
theorem diffZ (v1 v2 : Value) (x y : Int) (w : World) (h1 : Is w v1 x) (h2 : Is w v2 y) (hx : x.natAbs < 4294967296 ^ 40) (hy : y.natAbs < 4294967296 ^ 40) :
    Calls Try.prog 84 #[v1, v2] w fun e w' => ∃ v, e = .returned v ∧ New w' w.heap.size v (subZ x y) ∧ Below w.heap.size w w' := by
  have := diffI v1 v2 (sgn x) (sgn y) x.natAbs y.natAbs w h1 h2 (len40 hx) (len40 hy)
  rw [mk_self, mk_self] at this
  exact this

set_option maxHeartbeats 2000000 in
set_option maxRecDepth 20000 in
theorem AddP (v1 v2 : Value) (n1 n2 : Bool) (xs ys : List Nat) (w : World) (h1 : Raw w v1 n1 xs) (h2 : Raw w v2 n2 ys) :
    Calls Try.prog 10 #[v1, v2] w fun e w' => ∃ v, e = .returned (.tuple #[v, .bool (opT addZ n1 xs n2 ys)]) ∧ New w' w.heap.size v (opZ addZ n1 xs n2 ys) ∧ Below w.heap.size w w' := by
  obtain ⟨a, ca, rfl, ha⟩ := h1
  obtain ⟨b, cb, rfl, hb⟩ := h2
  have HZ := hide (bl_alloc (bl_alloc (bl_alloc (bl_refl w) (Obj.cells #[Value.bool n1, Value.slice a xs.length ca] 26)) (Obj.cells #[Value.bool n2, Value.slice b ys.length cb] 26)) (Obj.cells #[Value.bool false, Value.slice none 0 0] 26))
  have HA := hide (ha.below HZ.out)
  have HB := hide (hb.below HZ.out)
  clear ha hb
  have kA0 : (((w.alloc (Obj.cells #[Value.bool n1, Value.slice a xs.length ca] 26)).alloc (Obj.cells #[Value.bool n2, Value.slice b ys.length cb] 26)).alloc (Obj.cells #[Value.bool false, Value.slice none 0 0] 26)).cell? ⟨w.heap.size, 0, none⟩ = some (Value.bool n1) := by go_simp
  have kA1 : (((w.alloc (Obj.cells #[Value.bool n1, Value.slice a xs.length ca] 26)).alloc (Obj.cells #[Value.bool n2, Value.slice b ys.length cb] 26)).alloc (Obj.cells #[Value.bool false, Value.slice none 0 0] 26)).cell? ⟨w.heap.size, 1, none⟩ = some (Value.slice a xs.length ca) := by go_simp
  have kB0 : (((w.alloc (Obj.cells #[Value.bool n1, Value.slice a xs.length ca] 26)).alloc (Obj.cells #[Value.bool n2, Value.slice b ys.length cb] 26)).alloc (Obj.cells #[Value.bool false, Value.slice none 0 0] 26)).cell? ⟨w.heap.size + 1, 0, none⟩ = some (Value.bool n2) := by go_simp
  have kB1 : (((w.alloc (Obj.cells #[Value.bool n1, Value.slice a xs.length ca] 26)).alloc (Obj.cells #[Value.bool n2, Value.slice b ys.length cb] 26)).alloc (Obj.cells #[Value.bool false, Value.slice none 0 0] 26)).cell? ⟨w.heap.size + 1, 1, none⟩ = some (Value.slice b ys.length cb) := by go_simp
  have kR0 : (((w.alloc (Obj.cells #[Value.bool n1, Value.slice a xs.length ca] 26)).alloc (Obj.cells #[Value.bool n2, Value.slice b ys.length cb] 26)).alloc (Obj.cells #[Value.bool false, Value.slice none 0 0] 26)).cell? ⟨w.heap.size + 1 + 1, 0, none⟩ = some (Value.bool false) := by go_simp
  have kR1 : (((w.alloc (Obj.cells #[Value.bool n1, Value.slice a xs.length ca] 26)).alloc (Obj.cells #[Value.bool n2, Value.slice b ys.length cb] 26)).alloc (Obj.cells #[Value.bool false, Value.slice none 0 0] 26)).cell? ⟨w.heap.size + 1 + 1, 1, none⟩ = some (Value.slice none 0 0) := by go_simp
  have fR0 : (((w.alloc (Obj.cells #[Value.bool n1, Value.slice a xs.length ca] 26)).alloc (Obj.cells #[Value.bool n2, Value.slice b ys.length cb] 26)).alloc (Obj.cells #[Value.bool false, Value.slice none 0 0] 26)).frozen? ⟨w.heap.size + 1 + 1, 0, none⟩ = false := by go_simp
  have fR1 : (((w.alloc (Obj.cells #[Value.bool n1, Value.slice a xs.length ca] 26)).alloc (Obj.cells #[Value.bool n2, Value.slice b ys.length cb] 26)).alloc (Obj.cells #[Value.bool false, Value.slice none 0 0] 26)).frozen? ⟨w.heap.size + 1 + 1, 1, none⟩ = false := by go_simp
  have zR : w.heap.size + 1 + 1 < (((w.alloc (Obj.cells #[Value.bool n1, Value.slice a xs.length ca] 26)).alloc (Obj.cells #[Value.bool n2, Value.slice b ys.length cb] 26)).alloc (Obj.cells #[Value.bool false, Value.slice none 0 0] 26)).heap.size := by simp only [World.size_alloc]; omega
  go_enter Try.func10, Try.ntmps10
  go_wp2_with fail
  generalize (((w.alloc (Obj.cells #[Value.bool n1, Value.slice a xs.length ca] 26)).alloc (Obj.cells #[Value.bool n2, Value.slice b ys.length cb] 26)).alloc (Obj.cells #[Value.bool false, Value.slice none 0 0] 26)) = w1 at *
  refine (okI _ n1 xs _ ⟨a, ca, rfl, HA.out⟩).mono ?_
  rintro e w2 ⟨rfl, hb2⟩
  replace kA0 := (hb2.cell (p := ⟨w.heap.size, 0, none⟩) (by dsimp only; omega)).trans kA0
  replace kA1 := (hb2.cell (p := ⟨w.heap.size, 1, none⟩) (by dsimp only; omega)).trans kA1
  replace kB0 := (hb2.cell (p := ⟨w.heap.size + 1, 0, none⟩) (by dsimp only; omega)).trans kB0
  replace kB1 := (hb2.cell (p := ⟨w.heap.size + 1, 1, none⟩) (by dsimp only; omega)).trans kB1
  replace kR0 := (hb2.cell (p := ⟨w.heap.size + 1 + 1, 0, none⟩) (by dsimp only; omega)).trans kR0
  replace kR1 := (hb2.cell (p := ⟨w.heap.size + 1 + 1, 1, none⟩) (by dsimp only; omega)).trans kR1
  replace fR0 := (hb2.frozen (p := ⟨w.heap.size + 1 + 1, 0, none⟩) (by dsimp only; omega)).trans fR0
  replace fR1 := (hb2.frozen (p := ⟨w.heap.size + 1 + 1, 1, none⟩) (by dsimp only; omega)).trans fR1
  replace HA := hide (HA.out.below hb2)
  replace HB := hide (HB.out.below hb2)
  replace HZ := hide (bl_trans HZ.out hb2)
  have q := hb2.size
  replace zR := Nat.lt_of_lt_of_le zR q
  clear q hb2
  cases e1 : okB n1 xs with
  | false =>
    have HT : Hid (opT addZ n1 xs n2 ys = false) := hide (by unfold opT; rw [e1]; simp)
    have HV : Hid (opZ addZ n1 xs n2 ys = 0) := hide (by unfold opZ; rw [HT.out]; rfl)
    clear e1
    go_wp2
    refine bodyPost_ret (v := .tuple #[.agg #[.bool false, .slice none 0 0], .bool false]) (by simp [results, Try.results10, go_sem, *]) rfl ?_
    rw [HT.out, HV.out]
    exact ⟨_, rfl, new_zero _ _, (HZ.out.setCell (p := ⟨w.heap.size + 1 + 1, 0, none⟩) (by dsimp only; omega) _).setCell (p := ⟨w.heap.size + 1 + 1, 1, none⟩) (by dsimp only; omega) _⟩
  | true =>
  have E1 := hide e1
  clear e1
  go_wp2_with fail
  refine (okI _ n2 ys _ ⟨b, cb, rfl, HB.out⟩).mono ?_
  rintro e w3 ⟨rfl, hb3⟩
  replace kA0 := (hb3.cell (p := ⟨w.heap.size, 0, none⟩) (by dsimp only; omega)).trans kA0
  replace kA1 := (hb3.cell (p := ⟨w.heap.size, 1, none⟩) (by dsimp only; omega)).trans kA1
  replace kB0 := (hb3.cell (p := ⟨w.heap.size + 1, 0, none⟩) (by dsimp only; omega)).trans kB0
  replace kB1 := (hb3.cell (p := ⟨w.heap.size + 1, 1, none⟩) (by dsimp only; omega)).trans kB1
  replace kR0 := (hb3.cell (p := ⟨w.heap.size + 1 + 1, 0, none⟩) (by dsimp only; omega)).trans kR0
  replace kR1 := (hb3.cell (p := ⟨w.heap.size + 1 + 1, 1, none⟩) (by dsimp only; omega)).trans kR1
  replace fR0 := (hb3.frozen (p := ⟨w.heap.size + 1 + 1, 0, none⟩) (by dsimp only; omega)).trans fR0
  replace fR1 := (hb3.frozen (p := ⟨w.heap.size + 1 + 1, 1, none⟩) (by dsimp only; omega)).trans fR1
  replace HA := hide (HA.out.below hb3)
  replace HB := hide (HB.out.below hb3)
  replace HZ := hide (bl_trans HZ.out hb3)
  have q := hb3.size
  replace zR := Nat.lt_of_lt_of_le zR q
  clear q hb3
  cases e2 : okB n2 ys with
  | false =>
    have HT : Hid (opT addZ n1 xs n2 ys = false) := hide (by unfold opT; rw [E1.out, e2]; simp)
    have HV : Hid (opZ addZ n1 xs n2 ys = 0) := hide (by unfold opZ; rw [HT.out]; rfl)
    clear e2
    go_wp2
    refine bodyPost_ret (v := .tuple #[.agg #[.bool false, .slice none 0 0], .bool false]) (by simp [results, Try.results10, go_sem, *]) rfl ?_
    rw [HT.out, HV.out]
    exact ⟨_, rfl, new_zero _ _, (HZ.out.setCell (p := ⟨w.heap.size + 1 + 1, 0, none⟩) (by dsimp only; omega) _).setCell (p := ⟨w.heap.size + 1 + 1, 1, none⟩) (by dsimp only; omega) _⟩
  | true =>
  obtain ⟨x, rfl, rfl, hx⟩ := ok_num HA.out.2.2.2.1 E1.out
  obtain ⟨y, rfl, rfl, hy⟩ := ok_num HB.out.2.2.2.1 e2
  have HT : Hid (opT addZ (sgn x) (lms x) (sgn y) (lms y) = fits (addZ x y)) := hide (by unfold opT; rw [E1.out, e2, nat_lms, nat_lms, mk_self, mk_self]; rfl)
  have HV : Hid (opZ addZ (sgn x) (lms x) (sgn y) (lms y) = fitZ (addZ x y)) := hide (by unfold opZ fitZ; rw [HT.out, nat_lms, nat_lms, mk_self, mk_self])
  clear e2 E1
  go_wp2_with fail
  have zR0 := zR
  refine (sumZ _ _ x y _ ⟨a, ca, rfl, HA.out⟩ ⟨b, cb, rfl, HB.out⟩ hx hy).mono ?_
  rintro e w4 ⟨v4, rfl, hn4, hb4⟩
  have q4 := hn4
  replace kA0 := (hb4.cell (p := ⟨w.heap.size, 0, none⟩) (by dsimp only; omega)).trans kA0
  replace kA1 := (hb4.cell (p := ⟨w.heap.size, 1, none⟩) (by dsimp only; omega)).trans kA1
  replace kB0 := (hb4.cell (p := ⟨w.heap.size + 1, 0, none⟩) (by dsimp only; omega)).trans kB0
  replace kB1 := (hb4.cell (p := ⟨w.heap.size + 1, 1, none⟩) (by dsimp only; omega)).trans kB1
  replace kR0 := (hb4.cell (p := ⟨w.heap.size + 1 + 1, 0, none⟩) (by dsimp only; omega)).trans kR0
  replace kR1 := (hb4.cell (p := ⟨w.heap.size + 1 + 1, 1, none⟩) (by dsimp only; omega)).trans kR1
  replace fR0 := (hb4.frozen (p := ⟨w.heap.size + 1 + 1, 0, none⟩) (by dsimp only; omega)).trans fR0
  replace fR1 := (hb4.frozen (p := ⟨w.heap.size + 1 + 1, 1, none⟩) (by dsimp only; omega)).trans fR1
  replace HA := hide (HA.out.below hb4)
  replace HB := hide (HB.out.below hb4)
  replace HZ := hide (bl_trans HZ.out hb4)
  have q := hb4.size
  replace zR := Nat.lt_of_lt_of_le zR q
  go_wp2_with fail
  refine (fitI v4 _ _ _ q4 hb4.size).mono ?_
  rintro e w5 ⟨v5, rfl, hn5, hb5⟩
  obtain ⟨k0, k1, f0, f1⟩ := box_keep (N := w.heap.size + 1 + 1) hb5 zR kR0 kR1 fR0 fR1
  rw [← HV.out] at hn5
  rw [← HT.out]
  have HF := hide (fun p r => fin_box (N := w.heap.size + 1 + 1) (x := p) (y := r) hn5 zR0 (by omega) (bl_trans HZ.out hb5))
  obtain ⟨a5, c5, rfl, ho5⟩ := hn5
  clear hb4 hb5 ho5 q4 hn4 kA0 kA1 kB0 kB1 kR0 kR1 fR0 fR1 HA HB HZ HT HV hx hy
  go_wp2
  refine bodyPost_ret (v := .tuple #[.agg #[.bool (sgn (opZ addZ (sgn x) (lms x) (sgn y) (lms y))), .slice a5 (lms (opZ addZ (sgn x) (lms x) (sgn y) (lms y))).length c5], .bool (opT addZ (sgn x) (lms x) (sgn y) (lms y))]) (by simp [results, Try.results10, go_sem, *]) rfl ?_
  exact ⟨_, rfl, HF.out _ _⟩

end Go.Proofs.Ythjapjbiclkhcaa

/- The walks of l02Neg and l02Sub, and of the specification's Add and Sub. -/
namespace Go.Proofs.Ythjapjbiclkhcaa
open Go.RowKit
set_option linter.unusedVariables false

theorem mk_neg (x : Int) : mk (!sgn x) (Num.nat (lms x)) = -x := by
  rw [mk_not, nat_lms, mk_self]
theorem neg_len (x : Int) : lms (-x) = lms x := by unfold lms; rw [Int.natAbs_neg]

set_option maxHeartbeats 1000000 in
set_option maxRecDepth 20000 in
theorem negS (v1 : Value) (x : Int) (w : World) (h1 : Is w v1 x) (l1 : (lms x).length ≤ 1048576) :
    Calls Try.prog 69 #[v1] w fun e w' => ∃ v, e = .returned v ∧ New w' w.heap.size v (-x) ∧ Below w.heap.size w w' := by
  obtain ⟨a, ca, rfl, ha⟩ := h1
  have HZ := hide (bl_alloc (bl_alloc (bl_refl w) (Obj.cells #[Value.bool (sgn x), Value.slice a (lms x).length ca] 26)) (Obj.cells #[Value.bool false, Value.slice none 0 0] 26))
  have HA := hide (ha.below HZ.out)
  clear ha
  have kR0 : ((w.alloc (Obj.cells #[Value.bool (sgn x), Value.slice a (lms x).length ca] 26)).alloc (Obj.cells #[Value.bool false, Value.slice none 0 0] 26)).cell? ⟨w.heap.size + 1, 0, none⟩ = some (.bool false) := by go_simp
  have kR1 : ((w.alloc (Obj.cells #[Value.bool (sgn x), Value.slice a (lms x).length ca] 26)).alloc (Obj.cells #[Value.bool false, Value.slice none 0 0] 26)).cell? ⟨w.heap.size + 1, 1, none⟩ = some (.slice none 0 0) := by go_simp
  have fR0 : ((w.alloc (Obj.cells #[Value.bool (sgn x), Value.slice a (lms x).length ca] 26)).alloc (Obj.cells #[Value.bool false, Value.slice none 0 0] 26)).frozen? ⟨w.heap.size + 1, 0, none⟩ = false := by go_simp
  have fR1 : ((w.alloc (Obj.cells #[Value.bool (sgn x), Value.slice a (lms x).length ca] 26)).alloc (Obj.cells #[Value.bool false, Value.slice none 0 0] 26)).frozen? ⟨w.heap.size + 1, 1, none⟩ = false := by go_simp
  have zR : w.heap.size + 1 < ((w.alloc (Obj.cells #[Value.bool (sgn x), Value.slice a (lms x).length ca] 26)).alloc (Obj.cells #[Value.bool false, Value.slice none 0 0] 26)).heap.size := by simp only [World.size_alloc]; omega
  have HE := hide (mk_neg x)
  go_enter Try.func69, Try.ntmps69
  go_wp2_with fail
  generalize ((w.alloc (Obj.cells #[Value.bool (sgn x), Value.slice a (lms x).length ca] 26)).alloc (Obj.cells #[Value.bool false, Value.slice none 0 0] 26)) = w1 at *
  refine (makeS (!sgn x) a _ ca (lms x) _ HA.out l1).mono ?_
  rintro e w2 ⟨v2, rfl, hn2, hb2⟩
  rw [HE.out] at hn2
  obtain ⟨k0, k1, f0, f1⟩ := box_keep (N := w.heap.size + 1) hb2 zR kR0 kR1 fR0 fR1
  have HF := hide (fun p r => fin_box (N := w.heap.size + 1) (x := p) (y := r) hn2 zR (by omega) (bl_trans HZ.out hb2))
  obtain ⟨a2, c2, rfl, ho2⟩ := hn2
  clear hb2 ho2 kR0 kR1 fR0 fR1 HA HZ
  go_wp2
  refine bodyPost_ret (v := .agg #[.bool (sgn (-x)), .slice a2 (lms (-x)).length c2]) (by simp [results, Try.results69, go_sem, *]) rfl ?_
  exact ⟨_, rfl, HF.out _ _⟩

theorem len40' {x : Int} (h : x.natAbs < 4294967296 ^ 40) : (lms x).length ≤ 500000 := Nat.le_trans (Num.limbs_len.2 h) (by decide)
theorem addSZ (v1 v2 : Value) (x y : Int) (w : World) (h1 : Is w v1 x) (h2 : Is w v2 y) (hx : x.natAbs < 4294967296 ^ 40) (hy : y.natAbs < 4294967296 ^ 40) :
    Calls Try.prog 27 #[v1, v2] w fun e w' => ∃ v, e = .returned v ∧ New w' w.heap.size v (addZ x y) ∧ Below w.heap.size w w' := addS v1 v2 x y w h1 h2 (len40' hx) (len40' hy)
end Go.Proofs.Ythjapjbiclkhcaa
