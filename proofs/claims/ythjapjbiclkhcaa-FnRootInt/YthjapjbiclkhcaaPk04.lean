/- My texts CmpB, CmpS2, CmpF, in this order. -/
import Derived.Test.YthjapjbiclkhcaaPk02
/- The walks of what compares two numbers: l02Cmp, bigCompare, and what they call; nothing that was there turns. -/
namespace Go.Proofs.Ythjapjbiclkhcaa
open Go.RowKit
set_option linter.unusedVariables false

theorem noughtI (v : Value) (neg : Bool) (xs : List Nat) (w : World) (h : Raw w v neg xs) :
    Calls Try.prog 41 #[v] w fun e w' => e = .returned (.bool (decide (xs.length = 0))) ∧ Below w.heap.size w w' := by
  obtain ⟨a, cap, rfl, hs⟩ := h
  have hn := Nat.le_trans hs.2.1 hs.2.2.1
  clear hs
  by_cases h0 : xs.length = 0
  · rw [decide_eq_true h0]
    go_enter Try.func41, Try.ntmps41
    go_wp2
    go_ret
    exact ⟨rfl, bl_alloc (bl_refl w) _⟩
  · rw [decide_eq_false h0]
    go_enter Try.func41, Try.ntmps41
    go_wp2
    go_ret
    exact ⟨ret_bool (by rw [beq_eq_false_iff_ne]; omega), bl_alloc (bl_refl w) _⟩

theorem len_zero (z : Int) : decide ((lms z).length = 0) = decide (z = 0) := by
  by_cases h : z = 0
  · subst h; rw [show lms 0 = [] from Num.limbs_zero]; rfl
  · rw [decide_eq_false h, decide_eq_false]
    intro e; exact h (sgn_lms_nil e)

set_option maxHeartbeats 1000000 in
theorem signI (v : Value) (z : Int) (w : World) (h : Is w v z) :
    Calls Try.prog 62 #[v] w fun e w' => e = .returned (.int .i64 (Int.sign z)) ∧ Below w.heap.size w w' := by
  obtain ⟨a, cap, rfl, hs⟩ := h
  have HS := hide hs
  clear hs
  have HZ := hide (len_zero z)
  go_enter Try.func62, Try.ntmps62
  go_wp2_with fail
  refine (noughtI (.agg #[.bool (sgn z), .slice a (lms z).length cap]) (sgn z) (lms z) _ ⟨a, cap, rfl, HS.out.below (bl_alloc (bl_refl w) _)⟩).mono ?_
  rintro e w1 ⟨rfl, hb⟩
  rw [HZ.out]
  have HB := hide (bl_trans (bl_alloc (bl_refl w) _) hb)
  have k0 : w1.cell? ⟨w.heap.size, 0, none⟩ = some (.bool (sgn z)) := (hb.cell (p := ⟨w.heap.size, 0, none⟩) (by simp only [World.size_alloc]; omega)).trans (by go_simp)
  clear hb
  rcases Int.lt_trichotomy z 0 with h | h | h
  · have e1 : sgn z = true := decide_eq_true h
    have e2 : decide (z = 0) = false := decide_eq_false (by omega)
    rw [e1] at k0
    rw [e2]
    have HE := hide (Int.sign_eq_neg_one_of_neg h)
    go_wp2
    go_ret
    exact ⟨ret_int HE.out.symm, HB.out⟩
  · subst h
    go_wp2
    go_ret
    exact ⟨rfl, HB.out⟩
  · have e1 : sgn z = false := decide_eq_false (by omega)
    have e2 : decide (z = 0) = false := decide_eq_false (by omega)
    rw [e1] at k0
    rw [e2]
    have HE := hide (Int.sign_eq_one_of_pos h)
    go_wp2
    go_ret
    exact ⟨ret_int HE.out.symm, HB.out⟩

theorem cmp_flip (x y : Int) (hx : x < 0) (hy : y < 0) : cmpZ (y.natAbs : Int) (x.natAbs : Int) = cmpZ x y := by
  unfold cmpZ
  have h1 : (((y.natAbs : Nat) : Int) < ((x.natAbs : Nat) : Int)) ↔ x < y := by omega
  have h2 : (((x.natAbs : Nat) : Int) < ((y.natAbs : Nat) : Int)) ↔ y < x := by omega
  simp only [h1, h2]
theorem cmp_same (x y : Int) (hx : 0 ≤ x) (hy : 0 ≤ y) : cmpZ (x.natAbs : Int) (y.natAbs : Int) = cmpZ x y := by
  rw [show ((x.natAbs : Nat) : Int) = x by omega, show ((y.natAbs : Nat) : Int) = y by omega]
theorem below2 (w : World) (o1 o2 : Obj) : Below w.heap.size w ((w.alloc o1).alloc o2) := bl_alloc (bl_alloc (bl_refl w) _) _

theorem cmp_sign (x y : Int) (h : sgn x ≠ sgn y) : cmpZ (Int.sign x) (Int.sign y) = cmpZ x y := by
  unfold sgn at h
  by_cases hx : x < 0
  · have hy : 0 ≤ y := by
      refine Classical.byContradiction fun hc => h ?_
      rw [decide_eq_true hx, decide_eq_true (by omega)]
    rw [Int.sign_eq_neg_one_of_neg hx, cmp_lt (a := x) (b := y) (by omega)]
    refine cmp_lt ?_
    rcases Int.lt_or_eq_of_le hy with h' | h'
    · rw [Int.sign_eq_one_of_pos h']; decide
    · subst h'; decide
  · have hy : y < 0 := by
      refine Classical.byContradiction fun hc => h ?_
      rw [decide_eq_false hx, decide_eq_false hc]
    rw [Int.sign_eq_neg_one_of_neg hy, cmp_gt (a := x) (b := y) (by omega)]
    refine cmp_gt ?_
    rcases Int.lt_or_eq_of_le (Int.not_lt.1 hx) with h' | h'
    · rw [Int.sign_eq_one_of_pos h']; decide
    · subst h'; decide

set_option maxHeartbeats 1000000 in
set_option maxRecDepth 20000 in
theorem cmpBI (v1 v2 : Value) (x y : Int) (w : World) (h1 : Is w v1 x) (h2 : Is w v2 y) :
    Calls Try.prog 32 #[v1, v2] w fun e w' => e = .returned (.int .i64 (cmpZ x y)) ∧ Below w.heap.size w w' := by
  obtain ⟨a, ca, rfl, ha⟩ := h1
  obtain ⟨b, cb, rfl, hb⟩ := h2
  have HA := hide (fun o1 o2 => ha.below (below2 w o1 o2))
  have HB := hide (fun o1 o2 => hb.below (below2 w o1 o2))
  clear ha hb
  by_cases hs : sgn x = sgn y
  · by_cases hx : x < 0
    · have hy : y < 0 := by unfold sgn at hs; rw [decide_eq_true hx] at hs; exact of_decide_eq_true hs.symm
      have ex : sgn x = true := decide_eq_true hx
      have ey : sgn y = true := decide_eq_true hy
      have HE := hide (cmp_flip x y hx hy)
      clear hs
      rw [ex, ey]
      go_enter Try.func32, Try.ntmps32
      go_wp2_with fail
      refine (leastI y.natAbs x.natAbs b a _ _ cb ca _ (HB.out _ _) (HA.out _ _)).mono ?_
      rintro e w1 ⟨rfl, d, hw⟩
      subst w1
      go_wp2
      go_ret
      exact ⟨ret_int HE.out, below_drewN (below2 w _ _) d⟩
    · have hy : ¬ y < 0 := by unfold sgn at hs; rw [decide_eq_false hx] at hs; exact of_decide_eq_false hs.symm
      have ex : sgn x = false := decide_eq_false hx
      have ey : sgn y = false := decide_eq_false hy
      have HE := hide (cmp_same x y (by omega) (by omega))
      clear hs
      rw [ex, ey]
      go_enter Try.func32, Try.ntmps32
      go_wp2_with fail
      refine (leastI x.natAbs y.natAbs a b _ _ ca cb _ (HA.out _ _) (HB.out _ _)).mono ?_
      rintro e w1 ⟨rfl, d, hw⟩
      subst w1
      go_wp2
      go_ret
      exact ⟨ret_int HE.out, below_drewN (below2 w _ _) d⟩
  · have HE := hide (cmp_sign x y hs)
    have hne : (!sgn x == sgn y) = true := by
      cases h1 : sgn x <;> cases h2 : sgn y <;> first | rfl | exact absurd (h1.trans h2.symm) hs
    clear hs
    go_enter Try.func32, Try.ntmps32
    go_wp2_with fail
    have hB0 := below2 w (Obj.cells #[Value.bool (sgn x), Value.slice a (lms x).length ca] 26) (Obj.cells #[Value.bool (sgn y), Value.slice b (lms y).length cb] 26)
    have k0 : ((w.alloc (Obj.cells #[Value.bool (sgn x), Value.slice a (lms x).length ca] 26)).alloc (Obj.cells #[Value.bool (sgn y), Value.slice b (lms y).length cb] 26)).cell? ⟨w.heap.size, 0, none⟩ = some (.bool (sgn x)) := by go_simp
    have k1 : ((w.alloc (Obj.cells #[Value.bool (sgn x), Value.slice a (lms x).length ca] 26)).alloc (Obj.cells #[Value.bool (sgn y), Value.slice b (lms y).length cb] 26)).cell? ⟨w.heap.size, 1, none⟩ = some (.slice a (lms x).length ca) := by go_simp
    have k2 : ((w.alloc (Obj.cells #[Value.bool (sgn x), Value.slice a (lms x).length ca] 26)).alloc (Obj.cells #[Value.bool (sgn y), Value.slice b (lms y).length cb] 26)).cell? ⟨w.heap.size + 1, 0, none⟩ = some (.bool (sgn y)) := by go_simp
    have k3 : ((w.alloc (Obj.cells #[Value.bool (sgn x), Value.slice a (lms x).length ca] 26)).alloc (Obj.cells #[Value.bool (sgn y), Value.slice b (lms y).length cb] 26)).cell? ⟨w.heap.size + 1, 1, none⟩ = some (.slice b (lms y).length cb) := by go_simp
    have z1 : w.heap.size + 1 < ((w.alloc (Obj.cells #[Value.bool (sgn x), Value.slice a (lms x).length ca] 26)).alloc (Obj.cells #[Value.bool (sgn y), Value.slice b (lms y).length cb] 26)).heap.size := by simp only [World.size_alloc]; omega
    have ia : Is ((w.alloc (Obj.cells #[Value.bool (sgn x), Value.slice a (lms x).length ca] 26)).alloc (Obj.cells #[Value.bool (sgn y), Value.slice b (lms y).length cb] 26)) (.agg #[.bool (sgn x), .slice a (lms x).length ca]) x := ⟨a, ca, rfl, HA.out _ _⟩
    have ib : Is ((w.alloc (Obj.cells #[Value.bool (sgn x), Value.slice a (lms x).length ca] 26)).alloc (Obj.cells #[Value.bool (sgn y), Value.slice b (lms y).length cb] 26)) (.agg #[.bool (sgn y), .slice b (lms y).length cb]) y := ⟨b, cb, rfl, HB.out _ _⟩
    generalize (w.alloc (Obj.cells #[Value.bool (sgn x), Value.slice a (lms x).length ca] 26)).alloc (Obj.cells #[Value.bool (sgn y), Value.slice b (lms y).length cb] 26) = w1 at *
    have z0 : w.heap.size < w1.heap.size := by omega
    have HIA := hide ia
    have HIB := hide ib
    have HB0 := hide hB0
    clear ia ib hB0
    go_region_held3 (fun w' => w'.cell? ⟨w.heap.size, 0, none⟩ = some (.bool (sgn x)) ∧ w'.cell? ⟨w.heap.size, 1, none⟩ = some (.slice a (lms x).length ca) ∧ w'.cell? ⟨w.heap.size + 1, 0, none⟩ = some (.bool (sgn y)) ∧ w'.cell? ⟨w.heap.size + 1, 1, none⟩ = some (.slice b (lms y).length cb))
      (first
        | exact ⟨k0, k1, k2, k3⟩
        | exact ⟨(hb3.cell (p := ⟨w.heap.size, 0, none⟩) z0).trans k0, (hb3.cell (p := ⟨w.heap.size, 1, none⟩) z0).trans k1, (hb3.cell (p := ⟨w.heap.size + 1, 0, none⟩) z1).trans k2, (hb3.cell (p := ⟨w.heap.size + 1, 1, none⟩) z1).trans k3⟩
        | exact ⟨(hb2.cell (p := ⟨w.heap.size, 0, none⟩) z0).trans k0, (hb2.cell (p := ⟨w.heap.size, 1, none⟩) z0).trans k1, (hb2.cell (p := ⟨w.heap.size + 1, 0, none⟩) z1).trans k2, (hb2.cell (p := ⟨w.heap.size + 1, 1, none⟩) z1).trans k3⟩)
      (first
        | (go_at_call 61; refine (cmpI _ _ _).mono ?_; rintro e w4 ⟨rfl, hw4⟩; subst w4)
        | (go_at_call 62; refine (signI _ x _ (HIA.out.below (bl_refl w1).drew)).mono ?_; rintro e w2 ⟨rfl, hb2'⟩; have hb2 : Below w1.heap.size w1 w2 := (bl_refl w1).drew.trans hb2')
        | (go_at_call 62; refine (signI _ y _ (HIB.out.below hb2)).mono ?_; rintro e w3 ⟨rfl, hb3'⟩; have hb3 : Below w1.heap.size w1 w3 := bl_trans hb2 hb3'))
    have HB3 := hide (bl_trans HB0.out hb3)
    clear hb2 hb3 hb2' hb3'
    go_wp2
    go_ret
    exact ⟨ret_int HE.out, HB3.out⟩
end Go.Proofs.Ythjapjbiclkhcaa

/- The walk of l02Cmp. -/
namespace Go.Proofs.Ythjapjbiclkhcaa
open Go.RowKit
set_option linter.unusedVariables false

set_option maxHeartbeats 1000000 in
theorem cmpS (v1 v2 : Value) (x y : Int) (w : World) (h1 : Is w v1 x) (h2 : Is w v2 y) :
    Calls Try.prog 76 #[v1, v2] w fun e w' => e = .returned (.int .i64 (cmpZ x y)) ∧ Below w.heap.size w w' := by
  obtain ⟨a, ca, rfl, ha⟩ := h1
  obtain ⟨b, cb, rfl, hb⟩ := h2
  have HA := hide (fun o1 o2 => ha.below (below2 w o1 o2))
  have HB := hide (fun o1 o2 => hb.below (below2 w o1 o2))
  clear ha hb
  by_cases hx : x < 0
  · have ex : sgn x = true := decide_eq_true hx
    by_cases hy : y < 0
    · have ey : sgn y = true := decide_eq_true hy
      have HE := hide (cmp_flip x y hx hy)
      rw [ex, ey]
      go_enter Try.func76, Try.ntmps76
      go_wp2_with fail
      refine (leastS y.natAbs x.natAbs b a _ _ cb ca _ (HB.out _ _) (HA.out _ _)).mono ?_
      rintro e w1 ⟨rfl, d, hw⟩
      subst w1
      go_wp2
      go_ret
      exact ⟨ret_int HE.out, below_drewN (below2 w _ _) d⟩
    · have ey : sgn y = false := decide_eq_false hy
      have HE := hide (cmp_lt (a := x) (b := y) (by omega))
      rw [ex, ey]
      go_enter Try.func76, Try.ntmps76
      go_wp2
      go_ret
      exact ⟨ret_int HE.out.symm, below2 w _ _⟩
  · have ex : sgn x = false := decide_eq_false hx
    by_cases hy : y < 0
    · have ey : sgn y = true := decide_eq_true hy
      have HE := hide (cmp_gt (a := x) (b := y) (by omega))
      rw [ex, ey]
      go_enter Try.func76, Try.ntmps76
      go_wp2
      go_ret
      exact ⟨ret_int HE.out.symm, below2 w _ _⟩
    · have ey : sgn y = false := decide_eq_false hy
      have HE := hide (cmp_same x y (by omega) (by omega))
      rw [ex, ey]
      go_enter Try.func76, Try.ntmps76
      go_wp2_with fail
      refine (leastS x.natAbs y.natAbs a b _ _ ca cb _ (HA.out _ _) (HB.out _ _)).mono ?_
      rintro e w1 ⟨rfl, d, hw⟩
      subst w1
      go_wp2
      go_ret
      exact ⟨ret_int HE.out, below_drewN (below2 w _ _) d⟩
end Go.Proofs.Ythjapjbiclkhcaa

/- The walks of the two Cmp: -1, 0 or 1; 2 where one isn't right; nothing that was there turns. -/
namespace Go.Proofs.Ythjapjbiclkhcaa
open Go.RowKit
set_option linter.unusedVariables false

def cmpR (n1 : Bool) (xs : List Nat) (n2 : Bool) (ys : List Nat) : Int := if okB n1 xs && okB n2 ys then cmpZ (mk n1 (Num.nat xs)) (mk n2 (Num.nat ys)) else 2

set_option maxHeartbeats 1000000 in
set_option maxRecDepth 20000 in
theorem CmpI (v1 v2 : Value) (n1 n2 : Bool) (xs ys : List Nat) (w : World) (h1 : Raw w v1 n1 xs) (h2 : Raw w v2 n2 ys) :
    Calls Try.prog 12 #[v1, v2] w fun e w' => e = .returned (.int .i64 (cmpR n1 xs n2 ys)) ∧ Below w.heap.size w w' := by
  obtain ⟨a, ca, rfl, ha⟩ := h1
  obtain ⟨b, cb, rfl, hb⟩ := h2
  have HA := hide (ha.below (below2 w (Obj.cells #[Value.bool n1, Value.slice a xs.length ca] 26) (Obj.cells #[Value.bool n2, Value.slice b ys.length cb] 26)))
  have HB := hide (hb.below (below2 w (Obj.cells #[Value.bool n1, Value.slice a xs.length ca] 26) (Obj.cells #[Value.bool n2, Value.slice b ys.length cb] 26)))
  have HZ := hide (below2 w (Obj.cells #[Value.bool n1, Value.slice a xs.length ca] 26) (Obj.cells #[Value.bool n2, Value.slice b ys.length cb] 26))
  have k0 : ((w.alloc (Obj.cells #[Value.bool n1, Value.slice a xs.length ca] 26)).alloc (Obj.cells #[Value.bool n2, Value.slice b ys.length cb] 26)).cell? ⟨w.heap.size, 0, none⟩ = some (.bool n1) := by go_simp
  have k1 : ((w.alloc (Obj.cells #[Value.bool n1, Value.slice a xs.length ca] 26)).alloc (Obj.cells #[Value.bool n2, Value.slice b ys.length cb] 26)).cell? ⟨w.heap.size, 1, none⟩ = some (.slice a xs.length ca) := by go_simp
  have k2 : ((w.alloc (Obj.cells #[Value.bool n1, Value.slice a xs.length ca] 26)).alloc (Obj.cells #[Value.bool n2, Value.slice b ys.length cb] 26)).cell? ⟨w.heap.size + 1, 0, none⟩ = some (.bool n2) := by go_simp
  have k3 : ((w.alloc (Obj.cells #[Value.bool n1, Value.slice a xs.length ca] 26)).alloc (Obj.cells #[Value.bool n2, Value.slice b ys.length cb] 26)).cell? ⟨w.heap.size + 1, 1, none⟩ = some (.slice b ys.length cb) := by go_simp
  have z1 : w.heap.size + 1 < ((w.alloc (Obj.cells #[Value.bool n1, Value.slice a xs.length ca] 26)).alloc (Obj.cells #[Value.bool n2, Value.slice b ys.length cb] 26)).heap.size := by simp only [World.size_alloc]; omega
  clear ha hb
  go_enter Try.func12, Try.ntmps12
  go_wp2_with fail
  generalize ((w.alloc (Obj.cells #[Value.bool n1, Value.slice a xs.length ca] 26)).alloc (Obj.cells #[Value.bool n2, Value.slice b ys.length cb] 26)) = w1 at *
  have z0 : w.heap.size < w1.heap.size := by omega
  refine (okI _ n1 xs _ ⟨a, ca, rfl, HA.out⟩).mono ?_
  rintro e w2 ⟨rfl, hb2⟩
  replace k0 := (hb2.cell (p := ⟨w.heap.size, 0, none⟩) z0).trans k0
  replace k1 := (hb2.cell (p := ⟨w.heap.size, 1, none⟩) z0).trans k1
  replace k2 := (hb2.cell (p := ⟨w.heap.size + 1, 0, none⟩) z1).trans k2
  replace k3 := (hb2.cell (p := ⟨w.heap.size + 1, 1, none⟩) z1).trans k3
  replace z0 := Nat.lt_of_lt_of_le z0 hb2.size
  replace z1 := Nat.lt_of_lt_of_le z1 hb2.size
  replace HA := hide (HA.out.below hb2)
  replace HB := hide (HB.out.below hb2)
  replace HZ := hide (bl_trans HZ.out hb2)
  clear hb2
  cases e1 : okB n1 xs with
  | false =>
    have HR : Hid (cmpR n1 xs n2 ys = 2) := hide (by unfold cmpR; rw [e1]; rfl)
    clear e1
    go_wp2
    go_ret
    exact ⟨ret_int HR.out.symm, HZ.out⟩
  | true =>
  have E1 := hide e1
  clear e1
  go_wp2_with fail
  refine (okI _ n2 ys _ ⟨b, cb, rfl, HB.out⟩).mono ?_
  rintro e w3 ⟨rfl, hb3⟩
  replace k0 := (hb3.cell (p := ⟨w.heap.size, 0, none⟩) z0).trans k0
  replace k1 := (hb3.cell (p := ⟨w.heap.size, 1, none⟩) z0).trans k1
  replace k2 := (hb3.cell (p := ⟨w.heap.size + 1, 0, none⟩) z1).trans k2
  replace k3 := (hb3.cell (p := ⟨w.heap.size + 1, 1, none⟩) z1).trans k3
  replace HA := hide (HA.out.below hb3)
  replace HB := hide (HB.out.below hb3)
  replace HZ := hide (bl_trans HZ.out hb3)
  clear hb3 z0 z1
  cases e2 : okB n2 ys with
  | false =>
    have HR : Hid (cmpR n1 xs n2 ys = 2) := hide (by unfold cmpR; rw [E1.out, e2]; rfl)
    clear e2
    go_wp2
    go_ret
    exact ⟨ret_int HR.out.symm, HZ.out⟩
  | true =>
  obtain ⟨x, rfl, rfl, hx⟩ := ok_num HA.out.2.2.2.1 E1.out
  obtain ⟨y, rfl, rfl, hy⟩ := ok_num HB.out.2.2.2.1 e2
  have HR : Hid (cmpR (sgn x) (lms x) (sgn y) (lms y) = cmpZ x y) := hide (by unfold cmpR; rw [E1.out, e2, nat_lms, nat_lms, mk_self, mk_self]; rfl)
  clear e2 hx hy
  go_wp2_with fail
  refine (cmpBI _ _ x y _ ⟨a, ca, rfl, HA.out⟩ ⟨b, cb, rfl, HB.out⟩).mono ?_
  rintro e w4 ⟨rfl, hb4⟩
  replace HZ := hide (bl_trans HZ.out hb4)
  clear hb4
  go_wp2
  go_ret
  exact ⟨ret_int HR.out.symm, HZ.out⟩

end Go.Proofs.Ythjapjbiclkhcaa
