/- The walk of the law of divisions: a quotient times the divisor, with the rest added, is what was divided; the rest is from 0 to less than the divisor without its sign. -/
import Derived.Test.YtmdohdnnhlnghaaDdD
import Derived.Test.YtmdohdnnhlnghaaDivM
import Derived.Test.YtmdohdnnhlnghaaMul
import Derived.Test.YtmdohdnnhlnghaaCmpF
import Derived.Test.YtmdohdnnhlnghaaAddP
import Derived.Test.YtmdohdnnhlnghaaDrP
import Derived.Deep.RegionHeld3
import Derived.Deep.AppendLies
namespace Go.Proofs.Ytmdohdnnhlnghaa
open Go.RowKit
set_option linter.unusedVariables false

theorem mk_lm (z : Int) : mk (sgn z) (Num.nat (lms z)) = z := by rw [nat_lms, mk_self]
theorem op_eval (f : Int → Int → Int) {x y z : Int} (hx : fits x = true) (hy : fits y = true) (hz : f x y = z) (hf : fits z = true) : opT f (sgn x) (lms x) (sgn y) (lms y) = true ∧ opZ f (sgn x) (lms x) (sgn y) (lms y) = z := by
  have h : opT f (sgn x) (lms x) (sgn y) (lms y) = true := by
    unfold opT; rw [ok_of_num, ok_of_num, mk_lm, mk_lm, hz, hf]
    unfold fits at hx hy; rw [hx, hy]; rfl
  refine ⟨h, ?_⟩
  unfold opZ; rw [if_pos h, mk_lm, mk_lm, hz]
theorem dv_num {n m : Bool} {xs ys : List Nat} (h1 : Num.Small xs) (h2 : Num.Small ys) (h : dvT n xs m ys = true) : ∃ x y : Int, n = sgn x ∧ xs = lms x ∧ m = sgn y ∧ ys = lms y ∧ fits x = true ∧ fits y = true ∧ y ≠ 0 ∧ dvQ n xs m ys = x / y ∧ dvR n xs m ys = x % y := by
  have hT := h
  unfold dvT at h
  rw [Bool.and_eq_true, Bool.and_eq_true] at h
  obtain ⟨⟨ha, hb⟩, hc⟩ := h
  obtain ⟨x, rfl, rfl, hx⟩ := ok_num h1 ha
  obtain ⟨y, rfl, rfl, hy⟩ := ok_num h2 hb
  rw [mk_lm] at hc
  refine ⟨x, y, rfl, rfl, rfl, rfl, decide_eq_true hx, decide_eq_true hy, of_decide_eq_true hc, ?_, ?_⟩
  · unfold dvQ; rw [if_pos hT, mk_lm, mk_lm]
  · unfold dvR; rw [if_pos hT, mk_lm, mk_lm]
theorem sgn_pos {z : Int} (h : 0 ≤ z) : sgn z = false := by unfold sgn; exact decide_eq_false (by omega)
theorem lms_abs (y : Int) : lms (y.natAbs : Int) = lms y := by unfold lms; rw [Int.natAbs_natCast]
theorem fits_abs {x y : Int} (h : x.natAbs ≤ y.natAbs) (hy : fits y = true) : fits x = true := by
  unfold fits at *; rw [decide_eq_true_eq] at *; omega
theorem dv_cmp {r y : Int} (h0 : 0 ≤ r) (h1 : r < (y.natAbs : Int)) (hy : fits y = true) : cmpR false (lms r) false (lms y) = -1 := by
  have hr : fits r = true := fits_abs (by omega) hy
  have hY : fits (y.natAbs : Int) = true := fits_abs (by omega) hy
  have e1 : okB false (lms r) = true := by rw [← sgn_pos h0, ok_of_num]; exact hr
  have e2 : okB false (lms y) = true := by rw [← lms_abs y, ← sgn_pos (z := (y.natAbs : Int)) (by omega), ok_of_num]; exact hY
  have m1 : mk false (Num.nat (lms r)) = r := by rw [← sgn_pos h0, mk_lm]
  have m2 : mk false (Num.nat (lms y)) = (y.natAbs : Int) := by rw [← lms_abs y, ← sgn_pos (z := (y.natAbs : Int)) (by omega), mk_lm]
  unfold cmpR
  rw [e1, e2, m1, m2]
  show cmpZ r (y.natAbs : Int) = -1
  exact cmp_lt h1
theorem dv_all {x y : Int} (hx : fits x = true) (hy : fits y = true) (hy0 : y ≠ 0) : sgn (x % y) = false ∧ cmpR false (lms (x % y)) false (lms y) = -1 ∧ (opT mulZ (sgn (x / y)) (lms (x / y)) (sgn y) (lms y) = true → opZ mulZ (sgn (x / y)) (lms (x / y)) (sgn y) (lms y) = x / y * y ∧ opT addZ (sgn (x / y * y)) (lms (x / y * y)) false (lms (x % y)) = true ∧ opZ addZ (sgn (x / y * y)) (lms (x / y * y)) false (lms (x % y)) = x) := by
  have h0 := Int.emod_nonneg x hy0
  have h1 := Int.emod_lt x hy0
  have hs := sgn_pos h0
  refine ⟨hs, dv_cmp h0 h1 hy, fun h => ?_⟩
  have hz : opZ mulZ (sgn (x / y)) (lms (x / y)) (sgn y) (lms y) = x / y * y := by
    unfold opZ; rw [if_pos h, mk_lm, mk_lm]; rfl
  have hp : fits (x / y * y) = true := by
    unfold opT at h; rw [Bool.and_eq_true, mk_lm, mk_lm] at h; exact h.2
  have hr : fits (x % y) = true := fits_abs (by omega) hy
  have := op_eval addZ hp hr (z := x) (by unfold addZ; exact Int.ediv_mul_add_emod x y) hx
  rw [hs] at this
  exact ⟨hz, this⟩
theorem seg_some {W : World} {a : Option Addr} {n cap : Nat} {xs : List Nat} (h : Seg W a n cap xs) (h0 : 0 < n) : ∃ g o, a = some ⟨g, o, none⟩ ∧ g < W.heap.size := by
  rcases h.2.2.2.2 with h | ⟨g, o, e, hg, _⟩
  · omega
  · exact ⟨g, o, e, hg⟩
theorem seg_news {W : World} {g o n cap : Nat} {xs : List Nat} (h : Seg W (some ⟨g, o, none⟩) n cap xs) (h0 : 0 < n) : ∀ j u, (xs.map lim)[j]? = some u → W.cell? ((⟨g, o, none⟩ : Addr).add j) = some u := by
  intro j u hu
  obtain ⟨hj, rfl⟩ := lims_at hu
  rcases h.2.2.2.2 with h1 | ⟨g', o', e, hg, hc⟩
  · omega
  · cases e
    rw [Addr.add_lit]
    exact hc j hj
theorem lms_pos {y : Int} (h : y ≠ 0) : 0 < (lms y).length := by
  rcases Nat.eq_zero_or_pos (lms y).length with e | e
  · exact absurd (Int.natAbs_eq_zero.1 (Num.limbs_eq_nil.1 (List.eq_nil_of_length_eq_zero e))) h
  · exact e
theorem lms_short {y : Int} (h : fits y = true) : (lms y).length ≤ 40 := by
  unfold fits at h; rw [decide_eq_true_eq] at h
  exact Num.limbs_len.2 h

set_option maxHeartbeats 4000000 in
set_option maxRecDepth 20000 in
theorem walkDv (a0 : Option Addr) (len0 cap0 : Nat) (w : World) (hr : Row a0 len0 cap0 w) :
    Calls Try.prog 4 #[.slice a0 len0 cap0] w fun e w' => e = .returned (.bool true) ∧ Below w.heap.size w w' := by
  have HROW := hide hr
  have hcap : len0 ≤ 9223372036854775807 := Nat.le_trans hr.2.1 hr.2.2
  clear hr
  by_cases hbig : (1048576 : Int) < (len0 : Int)
  · go_enter Try.func4, Try.ntmps4
    go_wp2
    go_ret
    exact ⟨rfl, Below.refl _ _⟩
  go_enter Try.func4, Try.ntmps4
  go_wp2_with (first | (go_at_call 5; go_in) | fail)
  refine (drawDm _ _ _ _ HROW.out).mono ?_
  rintro e w1 ⟨n, a1, c1, xs, m, b1, e1, ys, rfl, s1, s2, hb⟩
  have HB := hide hb
  cases ht : dvT n xs m ys with
  | false =>
    have S1 := hide s1
    have S2 := hide s2
    have HT := hide ht
    obtain ⟨q, hq⟩ : ∃ q, dvQ n xs m ys = q := ⟨_, rfl⟩
    have HZ := hide hq
    obtain ⟨r, hr⟩ : ∃ r, dvR n xs m ys = r := ⟨_, rfl⟩
    have HR := hide hr
    clear hb s1 s2 ht hq hr HROW
    have ka0 : ((w1.alloc (Obj.cells #[Value.bool n, Value.slice a1 xs.length c1] 26)).alloc (Obj.cells #[Value.bool m, Value.slice b1 ys.length e1] 26)).cell? ⟨w1.heap.size, 0, none⟩ = some (Value.bool n) := by go_simp
    have ka1 : ((w1.alloc (Obj.cells #[Value.bool n, Value.slice a1 xs.length c1] 26)).alloc (Obj.cells #[Value.bool m, Value.slice b1 ys.length e1] 26)).cell? ⟨w1.heap.size, 1, none⟩ = some (Value.slice a1 xs.length c1) := by go_simp
    have kb0 : ((w1.alloc (Obj.cells #[Value.bool n, Value.slice a1 xs.length c1] 26)).alloc (Obj.cells #[Value.bool m, Value.slice b1 ys.length e1] 26)).cell? ⟨w1.heap.size + 1, 0, none⟩ = some (Value.bool m) := by go_simp
    have kb1 : ((w1.alloc (Obj.cells #[Value.bool n, Value.slice a1 xs.length c1] 26)).alloc (Obj.cells #[Value.bool m, Value.slice b1 ys.length e1] 26)).cell? ⟨w1.heap.size + 1, 1, none⟩ = some (Value.slice b1 ys.length e1) := by go_simp
    have zr : w1.heap.size + 1 < ((w1.alloc (Obj.cells #[Value.bool n, Value.slice a1 xs.length c1] 26)).alloc (Obj.cells #[Value.bool m, Value.slice b1 ys.length e1] 26)).heap.size := by simp only [World.size_alloc]; omega
    have hbn := bl_alloc (bl_alloc (bl_refl w1) (Obj.cells #[Value.bool n, Value.slice a1 xs.length c1] 26)) (Obj.cells #[Value.bool m, Value.slice b1 ys.length e1] 26)
    replace S1 := hide (S1.out.below hbn)
    replace S2 := hide (S2.out.below hbn)
    replace HB := hide (bl_trans HB.out hbn)
    clear hbn
    go_wp2_with fail
    generalize ((w1.alloc (Obj.cells #[Value.bool n, Value.slice a1 xs.length c1] 26)).alloc (Obj.cells #[Value.bool m, Value.slice b1 ys.length e1] 26)) = w2 at *
    have y2 := zr
    have HQ := hide (DivModP (Value.agg #[Value.bool n, Value.slice a1 xs.length c1]) (Value.agg #[Value.bool m, Value.slice b1 ys.length e1]) n m xs ys w2 ⟨a1, c1, rfl, S1.out⟩ ⟨b1, e1, rfl, S2.out⟩)
    rw [HT.out, HZ.out, HR.out] at HQ
    refine HQ.out.mono ?_
    rintro e w3 ⟨a3, c3, a4, c4, rfl, ho3, ho4, hap, hb⟩
    clear HQ ho3 ho4 hap
    have yw3 := hb.size
    replace ka0 := (hb.cell (p := ⟨w1.heap.size, 0, none⟩) (by dsimp only; omega)).trans ka0
    replace ka1 := (hb.cell (p := ⟨w1.heap.size, 1, none⟩) (by dsimp only; omega)).trans ka1
    replace kb0 := (hb.cell (p := ⟨w1.heap.size + 1, 0, none⟩) (by dsimp only; omega)).trans kb0
    replace kb1 := (hb.cell (p := ⟨w1.heap.size + 1, 1, none⟩) (by dsimp only; omega)).trans kb1
    replace S1 := hide (S1.out.below hb)
    replace S2 := hide (S2.out.below hb)
    replace zr := Nat.lt_of_lt_of_le zr hb.size
    replace HB := hide (bl_trans HB.out hb)
    clear hb
    have yw4 : w3.heap.size + 2 ≤ ((w3.alloc (Obj.cells #[Value.bool (sgn q), Value.slice a3 (lms q).length c3] 26)).alloc (Obj.cells #[Value.bool (sgn r), Value.slice a4 (lms r).length c4] 26)).heap.size := by simp only [World.size_alloc]; omega
    have kq0 : ((w3.alloc (Obj.cells #[Value.bool (sgn q), Value.slice a3 (lms q).length c3] 26)).alloc (Obj.cells #[Value.bool (sgn r), Value.slice a4 (lms r).length c4] 26)).cell? ⟨w3.heap.size, 0, none⟩ = some (Value.bool (sgn q)) := by go_simp
    have kq1 : ((w3.alloc (Obj.cells #[Value.bool (sgn q), Value.slice a3 (lms q).length c3] 26)).alloc (Obj.cells #[Value.bool (sgn r), Value.slice a4 (lms r).length c4] 26)).cell? ⟨w3.heap.size, 1, none⟩ = some (Value.slice a3 (lms q).length c3) := by go_simp
    have kr0 : ((w3.alloc (Obj.cells #[Value.bool (sgn q), Value.slice a3 (lms q).length c3] 26)).alloc (Obj.cells #[Value.bool (sgn r), Value.slice a4 (lms r).length c4] 26)).cell? ⟨w3.heap.size + 1, 0, none⟩ = some (Value.bool (sgn r)) := by go_simp
    have kr1 : ((w3.alloc (Obj.cells #[Value.bool (sgn q), Value.slice a3 (lms q).length c3] 26)).alloc (Obj.cells #[Value.bool (sgn r), Value.slice a4 (lms r).length c4] 26)).cell? ⟨w3.heap.size + 1, 1, none⟩ = some (Value.slice a4 (lms r).length c4) := by go_simp
    have hbn := (bl_alloc (bl_alloc (bl_refl w3) (Obj.cells #[Value.bool (sgn q), Value.slice a3 (lms q).length c3] 26)) (Obj.cells #[Value.bool (sgn r), Value.slice a4 (lms r).length c4] 26))
    replace ka0 := (hbn.cell (p := ⟨w1.heap.size, 0, none⟩) (by dsimp only; omega)).trans ka0
    replace ka1 := (hbn.cell (p := ⟨w1.heap.size, 1, none⟩) (by dsimp only; omega)).trans ka1
    replace kb0 := (hbn.cell (p := ⟨w1.heap.size + 1, 0, none⟩) (by dsimp only; omega)).trans kb0
    replace kb1 := (hbn.cell (p := ⟨w1.heap.size + 1, 1, none⟩) (by dsimp only; omega)).trans kb1
    replace S1 := hide (S1.out.below hbn)
    replace S2 := hide (S2.out.below hbn)
    replace zr := Nat.lt_of_lt_of_le zr hbn.size
    replace HB := hide (bl_trans HB.out hbn)
    clear hbn
    go_wp2_with fail
    generalize ((w3.alloc (Obj.cells #[Value.bool (sgn q), Value.slice a3 (lms q).length c3] 26)).alloc (Obj.cells #[Value.bool (sgn r), Value.slice a4 (lms r).length c4] 26)) = w4 at *
    have HQ := hide (DivModQ (Value.agg #[Value.bool n, Value.slice a1 xs.length c1]) (Value.agg #[Value.bool m, Value.slice b1 ys.length e1]) n m xs ys w4 ⟨a1, c1, rfl, S1.out⟩ ⟨b1, e1, rfl, S2.out⟩)
    rw [HT.out, HZ.out, HR.out] at HQ
    refine HQ.out.mono ?_
    rintro e w9 ⟨a5, c5, a6, c6, rfl, ho5, ho6, hb⟩
    replace HB := hide (bl_trans HB.out hb)
    clear HQ ho5 ho6 hb
    have HBE := hide (bl_alloc (bl_alloc HB.out (Obj.cells #[Value.bool (sgn q), Value.slice a5 (lms q).length c5] 26)) (Obj.cells #[Value.bool (sgn r), Value.slice a6 (lms r).length c6] 26))
    go_wp2
    go_ret
    exact ⟨rfl, HBE.out⟩
  | true =>
    obtain ⟨x, y, rfl, rfl, rfl, rfl, hx, hy, hy0, hq, hr⟩ := dv_num s1.2.2.2.1 s2.2.2.2.1 ht
    obtain ⟨hsr, hcm, hml⟩ := dv_all hx hy hy0
    have hlp := lms_pos hy0
    have hls := lms_short hy
    obtain ⟨p, hp⟩ : ∃ p, x / y * y = p := ⟨_, rfl⟩
    rw [hp] at hml
    generalize x / y = q at hq hml
    generalize x % y = r at hr hsr hcm hml
    obtain ⟨g, o, rfl, hg⟩ := seg_some s2 hlp
    have HT := hide ht
    have HZ := hide hq
    have HR := hide hr
    have HSR := hide hsr
    have HCM := hide hcm
    have HML := hide hml
    have HLP := hide hlp
    have HLS := hide hls
    have S1 := hide s1
    have S2 := hide s2
    clear hb s1 s2 ht hq hr hx hy hy0 hp hsr hcm hml hlp hls HROW
    have ka0 : ((w1.alloc (Obj.cells #[Value.bool (sgn x), Value.slice a1 (lms x).length c1] 26)).alloc (Obj.cells #[Value.bool (sgn y), Value.slice (some ⟨g, o, none⟩) (lms y).length e1] 26)).cell? ⟨w1.heap.size, 0, none⟩ = some (Value.bool (sgn x)) := by go_simp
    have ka1 : ((w1.alloc (Obj.cells #[Value.bool (sgn x), Value.slice a1 (lms x).length c1] 26)).alloc (Obj.cells #[Value.bool (sgn y), Value.slice (some ⟨g, o, none⟩) (lms y).length e1] 26)).cell? ⟨w1.heap.size, 1, none⟩ = some (Value.slice a1 (lms x).length c1) := by go_simp
    have kb0 : ((w1.alloc (Obj.cells #[Value.bool (sgn x), Value.slice a1 (lms x).length c1] 26)).alloc (Obj.cells #[Value.bool (sgn y), Value.slice (some ⟨g, o, none⟩) (lms y).length e1] 26)).cell? ⟨w1.heap.size + 1, 0, none⟩ = some (Value.bool (sgn y)) := by go_simp
    have kb1 : ((w1.alloc (Obj.cells #[Value.bool (sgn x), Value.slice a1 (lms x).length c1] 26)).alloc (Obj.cells #[Value.bool (sgn y), Value.slice (some ⟨g, o, none⟩) (lms y).length e1] 26)).cell? ⟨w1.heap.size + 1, 1, none⟩ = some (Value.slice (some ⟨g, o, none⟩) (lms y).length e1) := by go_simp
    have zr : w1.heap.size + 1 < ((w1.alloc (Obj.cells #[Value.bool (sgn x), Value.slice a1 (lms x).length c1] 26)).alloc (Obj.cells #[Value.bool (sgn y), Value.slice (some ⟨g, o, none⟩) (lms y).length e1] 26)).heap.size := by simp only [World.size_alloc]; omega
    have hbn := bl_alloc (bl_alloc (bl_refl w1) (Obj.cells #[Value.bool (sgn x), Value.slice a1 (lms x).length c1] 26)) (Obj.cells #[Value.bool (sgn y), Value.slice (some ⟨g, o, none⟩) (lms y).length e1] 26)
    replace S1 := hide (S1.out.below hbn)
    replace S2 := hide (S2.out.below hbn)
    replace HB := hide (bl_trans HB.out hbn)
    clear hbn
    go_wp2_with fail
    generalize ((w1.alloc (Obj.cells #[Value.bool (sgn x), Value.slice a1 (lms x).length c1] 26)).alloc (Obj.cells #[Value.bool (sgn y), Value.slice (some ⟨g, o, none⟩) (lms y).length e1] 26)) = w2 at *
    have y2 := zr
    have HQ := hide (DivModP (Value.agg #[Value.bool (sgn x), Value.slice a1 (lms x).length c1]) (Value.agg #[Value.bool (sgn y), Value.slice (some ⟨g, o, none⟩) (lms y).length e1]) (sgn x) (sgn y) (lms x) (lms y) w2 ⟨a1, c1, rfl, S1.out⟩ ⟨(some ⟨g, o, none⟩), e1, rfl, S2.out⟩)
    rw [HT.out, HZ.out, HR.out, HSR.out] at HQ
    refine HQ.out.mono ?_
    rintro e w3 ⟨a3, c3, a4, c4, rfl, ho3, ho4, hap, hb⟩
    clear HQ hap
    have yw3 := hb.size
    replace ka0 := (hb.cell (p := ⟨w1.heap.size, 0, none⟩) (by dsimp only; omega)).trans ka0
    replace ka1 := (hb.cell (p := ⟨w1.heap.size, 1, none⟩) (by dsimp only; omega)).trans ka1
    replace kb0 := (hb.cell (p := ⟨w1.heap.size + 1, 0, none⟩) (by dsimp only; omega)).trans kb0
    replace kb1 := (hb.cell (p := ⟨w1.heap.size + 1, 1, none⟩) (by dsimp only; omega)).trans kb1
    replace S1 := hide (S1.out.below hb)
    replace S2 := hide (S2.out.below hb)
    replace zr := Nat.lt_of_lt_of_le zr hb.size
    replace HB := hide (bl_trans HB.out hb)
    clear hb
    have S3 := hide ho3.seg
    have S4 := hide ho4.seg
    clear ho3 ho4
    have yw4 : w3.heap.size + 2 ≤ ((w3.alloc (Obj.cells #[Value.bool (sgn q), Value.slice a3 (lms q).length c3] 26)).alloc (Obj.cells #[Value.bool false, Value.slice a4 (lms r).length c4] 26)).heap.size := by simp only [World.size_alloc]; omega
    have kq0 : ((w3.alloc (Obj.cells #[Value.bool (sgn q), Value.slice a3 (lms q).length c3] 26)).alloc (Obj.cells #[Value.bool false, Value.slice a4 (lms r).length c4] 26)).cell? ⟨w3.heap.size, 0, none⟩ = some (Value.bool (sgn q)) := by go_simp
    have kq1 : ((w3.alloc (Obj.cells #[Value.bool (sgn q), Value.slice a3 (lms q).length c3] 26)).alloc (Obj.cells #[Value.bool false, Value.slice a4 (lms r).length c4] 26)).cell? ⟨w3.heap.size, 1, none⟩ = some (Value.slice a3 (lms q).length c3) := by go_simp
    have kr0 : ((w3.alloc (Obj.cells #[Value.bool (sgn q), Value.slice a3 (lms q).length c3] 26)).alloc (Obj.cells #[Value.bool false, Value.slice a4 (lms r).length c4] 26)).cell? ⟨w3.heap.size + 1, 0, none⟩ = some (Value.bool false) := by go_simp
    have kr1 : ((w3.alloc (Obj.cells #[Value.bool (sgn q), Value.slice a3 (lms q).length c3] 26)).alloc (Obj.cells #[Value.bool false, Value.slice a4 (lms r).length c4] 26)).cell? ⟨w3.heap.size + 1, 1, none⟩ = some (Value.slice a4 (lms r).length c4) := by go_simp
    have hbn := (bl_alloc (bl_alloc (bl_refl w3) (Obj.cells #[Value.bool (sgn q), Value.slice a3 (lms q).length c3] 26)) (Obj.cells #[Value.bool false, Value.slice a4 (lms r).length c4] 26))
    replace ka0 := (hbn.cell (p := ⟨w1.heap.size, 0, none⟩) (by dsimp only; omega)).trans ka0
    replace ka1 := (hbn.cell (p := ⟨w1.heap.size, 1, none⟩) (by dsimp only; omega)).trans ka1
    replace kb0 := (hbn.cell (p := ⟨w1.heap.size + 1, 0, none⟩) (by dsimp only; omega)).trans kb0
    replace kb1 := (hbn.cell (p := ⟨w1.heap.size + 1, 1, none⟩) (by dsimp only; omega)).trans kb1
    replace S1 := hide (S1.out.below hbn)
    replace S2 := hide (S2.out.below hbn)
    replace S3 := hide (S3.out.below hbn)
    replace S4 := hide (S4.out.below hbn)
    replace zr := Nat.lt_of_lt_of_le zr hbn.size
    replace HB := hide (bl_trans HB.out hbn)
    clear hbn
    go_wp2_with fail
    generalize ((w3.alloc (Obj.cells #[Value.bool (sgn q), Value.slice a3 (lms q).length c3] 26)).alloc (Obj.cells #[Value.bool false, Value.slice a4 (lms r).length c4] 26)) = w4 at *
    have HQ := hide (DivModQ (Value.agg #[Value.bool (sgn x), Value.slice a1 (lms x).length c1]) (Value.agg #[Value.bool (sgn y), Value.slice (some ⟨g, o, none⟩) (lms y).length e1]) (sgn x) (sgn y) (lms x) (lms y) w4 ⟨a1, c1, rfl, S1.out⟩ ⟨(some ⟨g, o, none⟩), e1, rfl, S2.out⟩)
    rw [HT.out, HZ.out, HR.out] at HQ
    refine HQ.out.mono ?_
    rintro e w5 ⟨a5, c5, a6, c6, rfl, ho5, ho6, hb⟩
    clear HQ ho5 ho6
    have yw5 := hb.size
    replace ka0 := (hb.cell (p := ⟨w1.heap.size, 0, none⟩) (by dsimp only; omega)).trans ka0
    replace ka1 := (hb.cell (p := ⟨w1.heap.size, 1, none⟩) (by dsimp only; omega)).trans ka1
    replace kb0 := (hb.cell (p := ⟨w1.heap.size + 1, 0, none⟩) (by dsimp only; omega)).trans kb0
    replace kb1 := (hb.cell (p := ⟨w1.heap.size + 1, 1, none⟩) (by dsimp only; omega)).trans kb1
    replace kq0 := (hb.cell (p := ⟨w3.heap.size, 0, none⟩) (by dsimp only; omega)).trans kq0
    replace kq1 := (hb.cell (p := ⟨w3.heap.size, 1, none⟩) (by dsimp only; omega)).trans kq1
    replace kr0 := (hb.cell (p := ⟨w3.heap.size + 1, 0, none⟩) (by dsimp only; omega)).trans kr0
    replace kr1 := (hb.cell (p := ⟨w3.heap.size + 1, 1, none⟩) (by dsimp only; omega)).trans kr1
    replace S1 := hide (S1.out.below hb)
    replace S2 := hide (S2.out.below hb)
    replace S3 := hide (S3.out.below hb)
    replace S4 := hide (S4.out.below hb)
    replace zr := Nat.lt_of_lt_of_le zr hb.size
    replace HB := hide (bl_trans HB.out hb)
    clear hb
    have yw6 : w5.heap.size + 2 ≤ ((w5.alloc (Obj.cells #[Value.bool (sgn q), Value.slice a5 (lms q).length c5] 26)).alloc (Obj.cells #[Value.bool (sgn r), Value.slice a6 (lms r).length c6] 26)).heap.size := by simp only [World.size_alloc]; omega
    have hbn := (bl_alloc (bl_alloc (bl_refl w5) (Obj.cells #[Value.bool (sgn q), Value.slice a5 (lms q).length c5] 26)) (Obj.cells #[Value.bool (sgn r), Value.slice a6 (lms r).length c6] 26))
    replace ka0 := (hbn.cell (p := ⟨w1.heap.size, 0, none⟩) (by dsimp only; omega)).trans ka0
    replace ka1 := (hbn.cell (p := ⟨w1.heap.size, 1, none⟩) (by dsimp only; omega)).trans ka1
    replace kb0 := (hbn.cell (p := ⟨w1.heap.size + 1, 0, none⟩) (by dsimp only; omega)).trans kb0
    replace kb1 := (hbn.cell (p := ⟨w1.heap.size + 1, 1, none⟩) (by dsimp only; omega)).trans kb1
    replace kq0 := (hbn.cell (p := ⟨w3.heap.size, 0, none⟩) (by dsimp only; omega)).trans kq0
    replace kq1 := (hbn.cell (p := ⟨w3.heap.size, 1, none⟩) (by dsimp only; omega)).trans kq1
    replace kr0 := (hbn.cell (p := ⟨w3.heap.size + 1, 0, none⟩) (by dsimp only; omega)).trans kr0
    replace kr1 := (hbn.cell (p := ⟨w3.heap.size + 1, 1, none⟩) (by dsimp only; omega)).trans kr1
    replace S1 := hide (S1.out.below hbn)
    replace S2 := hide (S2.out.below hbn)
    replace S3 := hide (S3.out.below hbn)
    replace S4 := hide (S4.out.below hbn)
    replace zr := Nat.lt_of_lt_of_le zr hbn.size
    replace HB := hide (bl_trans HB.out hbn)
    clear hbn
    go_wp2_with fail
    generalize ((w5.alloc (Obj.cells #[Value.bool (sgn q), Value.slice a5 (lms q).length c5] 26)).alloc (Obj.cells #[Value.bool (sgn r), Value.slice a6 (lms r).length c6] 26)) = w6 at *
    have KP : Hid (∀ w', Below w6.heap.size w6 w' → (w'.cell? ⟨w3.heap.size + 1, 0, none⟩ = some (Value.bool false) ∧ w'.cell? ⟨w3.heap.size + 1, 1, none⟩ = some (Value.slice a4 (lms r).length c4) ∧ w'.cell? ⟨w1.heap.size + 1, 1, none⟩ = some (Value.slice (some ⟨g, o, none⟩) (lms y).length e1) ∧ Hid (Below w6.heap.size w6 w'))) := hide (fun w' hb => ⟨(hb.cell (p := ⟨w3.heap.size + 1, 0, none⟩) (by dsimp only; omega)).trans kr0, (hb.cell (p := ⟨w3.heap.size + 1, 1, none⟩) (by dsimp only; omega)).trans kr1, (hb.cell (p := ⟨w1.heap.size + 1, 1, none⟩) (by dsimp only; omega)).trans kb1, hide hb⟩)
    obtain ⟨i0, hi, hz0, hz1, hz2⟩ := info_parts Try.info41
    have hgw : g < w6.heap.size := by omega
    have hae := (bl_alloc (bl_refl w6) (Obj.cells #[] 41)).drew
    have HEMP : Hid ((((w6.alloc (Obj.cells #[] 41)).drew).ownsRow w6.heap.size 41 1 (.slice (some ⟨w6.heap.size, 0, none⟩) 0 0) 0 [])) := hide (World.ownsRow_lit w6 #[] 0 (Nat.le_refl _) (by decide) rfl)
    have HNW := hide (seg_news (S2.out.below hae) HLP.out)
    have hlp := HLP.out
    have hls := HLS.out
    clear hae
    go_region_held3 (fun w' => w'.cell? ⟨w3.heap.size + 1, 0, none⟩ = some (Value.bool false) ∧ w'.cell? ⟨w3.heap.size + 1, 1, none⟩ = some (Value.slice a4 (lms r).length c4) ∧ w'.cell? ⟨w1.heap.size + 1, 1, none⟩ = some (Value.slice (some ⟨g, o, none⟩) (lms y).length e1) ∧ Hid (Below w6.heap.size w6 w'))
      (first | exact KP.out _ (bl_refl w6).drew | exact KP.out _ (bl_alloc (bl_refl w6) _).drew | exact KP.out _ (bl_alloc (bl_refl w6) _) | exact KP.out _ HW8.out | exact KP.out _ HW7.out | exact KP.out _ HW7.out.drew)
      (first | (refine step_append_lies _ (by rfl) _ _ 24 (by rfl) w6.heap.size 41 i0 (.int .u32 0) 1 4 Try.underlying24 hi hz0 hz1 hz2 rfl (by decide) (.slice (some ⟨w6.heap.size, 0, none⟩) 0 0) 0 [] (by rfl) HEMP.out ⟨g, o, none⟩ (lms y).length e1 ((lms y).map lim) (by rfl) (by simp) HNW.out (one_lims _) hlp (by unfold maxLen; omega) (by omega) (by simp) (w6.heap.size + 1) (by simp) ?_; intro g5 cap5 w7 hown5 hgrow5 hat5 hlt5; simp only [Nat.zero_add, List.nil_append] at hown5 ⊢; have HO5 : Hid (Own w7 w6.heap.size (some ⟨g5, 0, none⟩) (lms y).length cap5 (lms y)) := hide ⟨hown5, Num.limbs_small _⟩; have HW7 : Hid (Below w6.heap.size w6 w7) := hide ((bl_alloc (bl_refl w6) (Obj.cells #[] 41)).drew.grown hgrow5 (bl_alloc (bl_refl w6) (Obj.cells #[] 41)).drew.size (fun q e => by simp [Value.ownBlock] at e; omega)); clear hown5 hgrow5 hat5 hlt5) | (go_at_call 14; have HC := hide (CmpI (.agg #[.bool false, .slice a4 (lms r).length c4]) (.agg #[.bool false, .slice (some ⟨g5, 0, none⟩) (lms y).length cap5]) false false (lms r) (lms y) w7 ⟨a4, c4, rfl, S4.out.below HW7.out⟩ ⟨some ⟨g5, 0, none⟩, cap5, rfl, HO5.out.seg⟩); rw [HCM.out] at HC; refine HC.out.mono ?_; rintro e w8 ⟨rfl, hb⟩; have HW8 : Hid (Below w6.heap.size w6 w8) := hide (bl_trans HW7.out hb); clear hb HC HO5))
    clear KP HEMP HNW
    have hb := HW8.out
    clear HW8
    have yw8 := hb.size
    replace ka0 := (hb.cell (p := ⟨w1.heap.size, 0, none⟩) (by dsimp only; omega)).trans ka0
    replace ka1 := (hb.cell (p := ⟨w1.heap.size, 1, none⟩) (by dsimp only; omega)).trans ka1
    replace kb0 := (hb.cell (p := ⟨w1.heap.size + 1, 0, none⟩) (by dsimp only; omega)).trans kb0
    replace kb1 := (hb.cell (p := ⟨w1.heap.size + 1, 1, none⟩) (by dsimp only; omega)).trans kb1
    replace kq0 := (hb.cell (p := ⟨w3.heap.size, 0, none⟩) (by dsimp only; omega)).trans kq0
    replace kq1 := (hb.cell (p := ⟨w3.heap.size, 1, none⟩) (by dsimp only; omega)).trans kq1
    replace kr0 := (hb.cell (p := ⟨w3.heap.size + 1, 0, none⟩) (by dsimp only; omega)).trans kr0
    replace kr1 := (hb.cell (p := ⟨w3.heap.size + 1, 1, none⟩) (by dsimp only; omega)).trans kr1
    replace S1 := hide (S1.out.below hb)
    replace S2 := hide (S2.out.below hb)
    replace S3 := hide (S3.out.below hb)
    replace S4 := hide (S4.out.below hb)
    replace zr := Nat.lt_of_lt_of_le zr hb.size
    replace HB := hide (bl_trans HB.out hb)
    clear hb
    go_wp2_with fail
    have HQ := hide (MulP (Value.agg #[Value.bool (sgn q), Value.slice a3 (lms q).length c3]) (Value.agg #[Value.bool (sgn y), Value.slice (some ⟨g, o, none⟩) (lms y).length e1]) (sgn q) (sgn y) (lms q) (lms y) w8 ⟨a3, c3, rfl, S3.out⟩ ⟨(some ⟨g, o, none⟩), e1, rfl, S2.out⟩)
    cases hm : opT mulZ (sgn q) (lms q) (sgn y) (lms y) with
    | false =>
      obtain ⟨p', hp'⟩ : ∃ p', opZ mulZ (sgn q) (lms q) (sgn y) (lms y) = p' := ⟨_, rfl⟩
      rw [hm, hp'] at HQ
      refine HQ.out.mono ?_
      rintro e w9 ⟨v9, rfl, ⟨a9, c9, rfl, ho9⟩, hb⟩
      clear HQ ho9
      have yw9 := hb.size
      replace ka0 := (hb.cell (p := ⟨w1.heap.size, 0, none⟩) (by dsimp only; omega)).trans ka0
      replace ka1 := (hb.cell (p := ⟨w1.heap.size, 1, none⟩) (by dsimp only; omega)).trans ka1
      replace kb0 := (hb.cell (p := ⟨w1.heap.size + 1, 0, none⟩) (by dsimp only; omega)).trans kb0
      replace kb1 := (hb.cell (p := ⟨w1.heap.size + 1, 1, none⟩) (by dsimp only; omega)).trans kb1
      replace kq0 := (hb.cell (p := ⟨w3.heap.size, 0, none⟩) (by dsimp only; omega)).trans kq0
      replace kq1 := (hb.cell (p := ⟨w3.heap.size, 1, none⟩) (by dsimp only; omega)).trans kq1
      replace kr0 := (hb.cell (p := ⟨w3.heap.size + 1, 0, none⟩) (by dsimp only; omega)).trans kr0
      replace kr1 := (hb.cell (p := ⟨w3.heap.size + 1, 1, none⟩) (by dsimp only; omega)).trans kr1
      replace S1 := hide (S1.out.below hb)
      replace S2 := hide (S2.out.below hb)
      replace S3 := hide (S3.out.below hb)
      replace S4 := hide (S4.out.below hb)
      replace zr := Nat.lt_of_lt_of_le zr hb.size
      replace HB := hide (bl_trans HB.out hb)
      clear hb
      have yw10 : w9.heap.size + 1 ≤ (w9.alloc (Obj.cells #[Value.bool (sgn p'), Value.slice a9 (lms p').length c9] 26)).heap.size := by simp only [World.size_alloc]; omega
      have hbn := (bl_alloc (bl_refl w9) (Obj.cells #[Value.bool (sgn p'), Value.slice a9 (lms p').length c9] 26))
      replace ka0 := (hbn.cell (p := ⟨w1.heap.size, 0, none⟩) (by dsimp only; omega)).trans ka0
      replace ka1 := (hbn.cell (p := ⟨w1.heap.size, 1, none⟩) (by dsimp only; omega)).trans ka1
      replace kb0 := (hbn.cell (p := ⟨w1.heap.size + 1, 0, none⟩) (by dsimp only; omega)).trans kb0
      replace kb1 := (hbn.cell (p := ⟨w1.heap.size + 1, 1, none⟩) (by dsimp only; omega)).trans kb1
      replace kq0 := (hbn.cell (p := ⟨w3.heap.size, 0, none⟩) (by dsimp only; omega)).trans kq0
      replace kq1 := (hbn.cell (p := ⟨w3.heap.size, 1, none⟩) (by dsimp only; omega)).trans kq1
      replace kr0 := (hbn.cell (p := ⟨w3.heap.size + 1, 0, none⟩) (by dsimp only; omega)).trans kr0
      replace kr1 := (hbn.cell (p := ⟨w3.heap.size + 1, 1, none⟩) (by dsimp only; omega)).trans kr1
      replace S1 := hide (S1.out.below hbn)
      replace S2 := hide (S2.out.below hbn)
      replace S3 := hide (S3.out.below hbn)
      replace S4 := hide (S4.out.below hbn)
      replace zr := Nat.lt_of_lt_of_le zr hbn.size
      replace HB := hide (bl_trans HB.out hbn)
      clear hbn
      go_wp2_with fail
      generalize (w9.alloc (Obj.cells #[Value.bool (sgn p'), Value.slice a9 (lms p').length c9] 26)) = w10 at *
      have HQ := hide (MulQ (Value.agg #[Value.bool (sgn q), Value.slice a3 (lms q).length c3]) (Value.agg #[Value.bool (sgn y), Value.slice (some ⟨g, o, none⟩) (lms y).length e1]) (sgn q) (sgn y) (lms q) (lms y) w10 ⟨a3, c3, rfl, S3.out⟩ ⟨(some ⟨g, o, none⟩), e1, rfl, S2.out⟩)
      rw [hm, hp'] at HQ
      refine HQ.out.mono ?_
      rintro e w11 ⟨v11, rfl, ⟨a11, c11, rfl, ho11⟩, hb⟩
      replace HB := hide (bl_trans HB.out hb)
      have HBE := hide (bl_alloc HB.out (Obj.cells #[Value.bool (sgn p'), Value.slice a11 (lms p').length c11] 26))
      go_wp2
      go_ret
      exact ⟨rfl, HBE.out⟩
    | true =>
      obtain ⟨ez, ea, eb⟩ := HML.out hm
      have HEA := hide ea
      have HEB := hide eb
      clear ea eb
      rw [hm, ez] at HQ
      clear ez hm
      refine HQ.out.mono ?_
      rintro e w9 ⟨v9, rfl, ⟨a9, c9, rfl, ho9⟩, hb⟩
      clear HQ
      have yw9 := hb.size
      replace ka0 := (hb.cell (p := ⟨w1.heap.size, 0, none⟩) (by dsimp only; omega)).trans ka0
      replace ka1 := (hb.cell (p := ⟨w1.heap.size, 1, none⟩) (by dsimp only; omega)).trans ka1
      replace kb0 := (hb.cell (p := ⟨w1.heap.size + 1, 0, none⟩) (by dsimp only; omega)).trans kb0
      replace kb1 := (hb.cell (p := ⟨w1.heap.size + 1, 1, none⟩) (by dsimp only; omega)).trans kb1
      replace kq0 := (hb.cell (p := ⟨w3.heap.size, 0, none⟩) (by dsimp only; omega)).trans kq0
      replace kq1 := (hb.cell (p := ⟨w3.heap.size, 1, none⟩) (by dsimp only; omega)).trans kq1
      replace kr0 := (hb.cell (p := ⟨w3.heap.size + 1, 0, none⟩) (by dsimp only; omega)).trans kr0
      replace kr1 := (hb.cell (p := ⟨w3.heap.size + 1, 1, none⟩) (by dsimp only; omega)).trans kr1
      replace S1 := hide (S1.out.below hb)
      replace S2 := hide (S2.out.below hb)
      replace S3 := hide (S3.out.below hb)
      replace S4 := hide (S4.out.below hb)
      replace zr := Nat.lt_of_lt_of_le zr hb.size
      replace HB := hide (bl_trans HB.out hb)
      clear hb
      have S9 := hide ho9.seg
      clear ho9
      have yw10 : w9.heap.size + 1 ≤ (w9.alloc (Obj.cells #[Value.bool (sgn p), Value.slice a9 (lms p).length c9] 26)).heap.size := by simp only [World.size_alloc]; omega
      have kp0 : (w9.alloc (Obj.cells #[Value.bool (sgn p), Value.slice a9 (lms p).length c9] 26)).cell? ⟨w9.heap.size, 0, none⟩ = some (Value.bool (sgn p)) := by go_simp
      have kp1 : (w9.alloc (Obj.cells #[Value.bool (sgn p), Value.slice a9 (lms p).length c9] 26)).cell? ⟨w9.heap.size, 1, none⟩ = some (Value.slice a9 (lms p).length c9) := by go_simp
      have hbn := (bl_alloc (bl_refl w9) (Obj.cells #[Value.bool (sgn p), Value.slice a9 (lms p).length c9] 26))
      replace ka0 := (hbn.cell (p := ⟨w1.heap.size, 0, none⟩) (by dsimp only; omega)).trans ka0
      replace ka1 := (hbn.cell (p := ⟨w1.heap.size, 1, none⟩) (by dsimp only; omega)).trans ka1
      replace kb0 := (hbn.cell (p := ⟨w1.heap.size + 1, 0, none⟩) (by dsimp only; omega)).trans kb0
      replace kb1 := (hbn.cell (p := ⟨w1.heap.size + 1, 1, none⟩) (by dsimp only; omega)).trans kb1
      replace kq0 := (hbn.cell (p := ⟨w3.heap.size, 0, none⟩) (by dsimp only; omega)).trans kq0
      replace kq1 := (hbn.cell (p := ⟨w3.heap.size, 1, none⟩) (by dsimp only; omega)).trans kq1
      replace kr0 := (hbn.cell (p := ⟨w3.heap.size + 1, 0, none⟩) (by dsimp only; omega)).trans kr0
      replace kr1 := (hbn.cell (p := ⟨w3.heap.size + 1, 1, none⟩) (by dsimp only; omega)).trans kr1
      replace S1 := hide (S1.out.below hbn)
      replace S2 := hide (S2.out.below hbn)
      replace S3 := hide (S3.out.below hbn)
      replace S4 := hide (S4.out.below hbn)
      replace S9 := hide (S9.out.below hbn)
      replace zr := Nat.lt_of_lt_of_le zr hbn.size
      replace HB := hide (bl_trans HB.out hbn)
      clear hbn
      go_wp2_with fail
      generalize (w9.alloc (Obj.cells #[Value.bool (sgn p), Value.slice a9 (lms p).length c9] 26)) = w10 at *
      have HQ := hide (AddP (Value.agg #[Value.bool (sgn p), Value.slice a9 (lms p).length c9]) (Value.agg #[Value.bool false, Value.slice a4 (lms r).length c4]) (sgn p) false (lms p) (lms r) w10 ⟨a9, c9, rfl, S9.out⟩ ⟨a4, c4, rfl, S4.out⟩)
      rw [HEA.out, HEB.out] at HQ
      refine HQ.out.mono ?_
      rintro e w11 ⟨v11, rfl, ⟨a11, c11, rfl, ho11⟩, hb⟩
      clear HQ
      have yw11 := hb.size
      replace ka0 := (hb.cell (p := ⟨w1.heap.size, 0, none⟩) (by dsimp only; omega)).trans ka0
      replace ka1 := (hb.cell (p := ⟨w1.heap.size, 1, none⟩) (by dsimp only; omega)).trans ka1
      replace kb0 := (hb.cell (p := ⟨w1.heap.size + 1, 0, none⟩) (by dsimp only; omega)).trans kb0
      replace kb1 := (hb.cell (p := ⟨w1.heap.size + 1, 1, none⟩) (by dsimp only; omega)).trans kb1
      replace kq0 := (hb.cell (p := ⟨w3.heap.size, 0, none⟩) (by dsimp only; omega)).trans kq0
      replace kq1 := (hb.cell (p := ⟨w3.heap.size, 1, none⟩) (by dsimp only; omega)).trans kq1
      replace kr0 := (hb.cell (p := ⟨w3.heap.size + 1, 0, none⟩) (by dsimp only; omega)).trans kr0
      replace kr1 := (hb.cell (p := ⟨w3.heap.size + 1, 1, none⟩) (by dsimp only; omega)).trans kr1
      replace kp0 := (hb.cell (p := ⟨w9.heap.size, 0, none⟩) (by dsimp only; omega)).trans kp0
      replace kp1 := (hb.cell (p := ⟨w9.heap.size, 1, none⟩) (by dsimp only; omega)).trans kp1
      replace S1 := hide (S1.out.below hb)
      replace S2 := hide (S2.out.below hb)
      replace S3 := hide (S3.out.below hb)
      replace S4 := hide (S4.out.below hb)
      replace S9 := hide (S9.out.below hb)
      replace zr := Nat.lt_of_lt_of_le zr hb.size
      replace HB := hide (bl_trans HB.out hb)
      clear hb
      have S11 := hide ho11.seg
      clear ho11
      have yw12 : w11.heap.size + 1 ≤ (w11.alloc (Obj.cells #[Value.bool (sgn x), Value.slice a11 (lms x).length c11] 26)).heap.size := by simp only [World.size_alloc]; omega
      have ks0 : (w11.alloc (Obj.cells #[Value.bool (sgn x), Value.slice a11 (lms x).length c11] 26)).cell? ⟨w11.heap.size, 0, none⟩ = some (Value.bool (sgn x)) := by go_simp
      have ks1 : (w11.alloc (Obj.cells #[Value.bool (sgn x), Value.slice a11 (lms x).length c11] 26)).cell? ⟨w11.heap.size, 1, none⟩ = some (Value.slice a11 (lms x).length c11) := by go_simp
      have hbn := (bl_alloc (bl_refl w11) (Obj.cells #[Value.bool (sgn x), Value.slice a11 (lms x).length c11] 26))
      replace ka0 := (hbn.cell (p := ⟨w1.heap.size, 0, none⟩) (by dsimp only; omega)).trans ka0
      replace ka1 := (hbn.cell (p := ⟨w1.heap.size, 1, none⟩) (by dsimp only; omega)).trans ka1
      replace kb0 := (hbn.cell (p := ⟨w1.heap.size + 1, 0, none⟩) (by dsimp only; omega)).trans kb0
      replace kb1 := (hbn.cell (p := ⟨w1.heap.size + 1, 1, none⟩) (by dsimp only; omega)).trans kb1
      replace kq0 := (hbn.cell (p := ⟨w3.heap.size, 0, none⟩) (by dsimp only; omega)).trans kq0
      replace kq1 := (hbn.cell (p := ⟨w3.heap.size, 1, none⟩) (by dsimp only; omega)).trans kq1
      replace kr0 := (hbn.cell (p := ⟨w3.heap.size + 1, 0, none⟩) (by dsimp only; omega)).trans kr0
      replace kr1 := (hbn.cell (p := ⟨w3.heap.size + 1, 1, none⟩) (by dsimp only; omega)).trans kr1
      replace kp0 := (hbn.cell (p := ⟨w9.heap.size, 0, none⟩) (by dsimp only; omega)).trans kp0
      replace kp1 := (hbn.cell (p := ⟨w9.heap.size, 1, none⟩) (by dsimp only; omega)).trans kp1
      replace S1 := hide (S1.out.below hbn)
      replace S2 := hide (S2.out.below hbn)
      replace S3 := hide (S3.out.below hbn)
      replace S4 := hide (S4.out.below hbn)
      replace S9 := hide (S9.out.below hbn)
      replace S11 := hide (S11.out.below hbn)
      replace zr := Nat.lt_of_lt_of_le zr hbn.size
      replace HB := hide (bl_trans HB.out hbn)
      clear hbn
      go_wp2_with fail
      generalize (w11.alloc (Obj.cells #[Value.bool (sgn x), Value.slice a11 (lms x).length c11] 26)) = w12 at *
      refine (sameB (sgn x) (lms x) a11 c11 a1 c1 _ S11.out S1.out).mono ?_
      rintro e w13 ⟨rfl, hb⟩
      have yw13 := hb.size
      replace ka0 := (hb.cell (p := ⟨w1.heap.size, 0, none⟩) (by dsimp only; omega)).trans ka0
      replace ka1 := (hb.cell (p := ⟨w1.heap.size, 1, none⟩) (by dsimp only; omega)).trans ka1
      replace kb0 := (hb.cell (p := ⟨w1.heap.size + 1, 0, none⟩) (by dsimp only; omega)).trans kb0
      replace kb1 := (hb.cell (p := ⟨w1.heap.size + 1, 1, none⟩) (by dsimp only; omega)).trans kb1
      replace kq0 := (hb.cell (p := ⟨w3.heap.size, 0, none⟩) (by dsimp only; omega)).trans kq0
      replace kq1 := (hb.cell (p := ⟨w3.heap.size, 1, none⟩) (by dsimp only; omega)).trans kq1
      replace kr0 := (hb.cell (p := ⟨w3.heap.size + 1, 0, none⟩) (by dsimp only; omega)).trans kr0
      replace kr1 := (hb.cell (p := ⟨w3.heap.size + 1, 1, none⟩) (by dsimp only; omega)).trans kr1
      replace kp0 := (hb.cell (p := ⟨w9.heap.size, 0, none⟩) (by dsimp only; omega)).trans kp0
      replace kp1 := (hb.cell (p := ⟨w9.heap.size, 1, none⟩) (by dsimp only; omega)).trans kp1
      replace ks0 := (hb.cell (p := ⟨w11.heap.size, 0, none⟩) (by dsimp only; omega)).trans ks0
      replace ks1 := (hb.cell (p := ⟨w11.heap.size, 1, none⟩) (by dsimp only; omega)).trans ks1
      replace S1 := hide (S1.out.below hb)
      replace S2 := hide (S2.out.below hb)
      replace S3 := hide (S3.out.below hb)
      replace S4 := hide (S4.out.below hb)
      replace S9 := hide (S9.out.below hb)
      replace S11 := hide (S11.out.below hb)
      replace zr := Nat.lt_of_lt_of_le zr hb.size
      replace HB := hide (bl_trans HB.out hb)
      clear hb
      go_wp2
      go_ret
      exact ⟨rfl, HB.out⟩
end Go.Proofs.Ytmdohdnnhlnghaa
