/- The walk of the law of sums: what is added is taken back, and a sum with its terms exchanged is the sum. -/
import Derived.Test.YtmdohdnnhlnghaaAsD
namespace Go.Proofs.Ytmdohdnnhlnghaa
open Go.RowKit
set_option linter.unusedVariables false

theorem mk_lm (z : Int) : mk (sgn z) (Num.nat (lms z)) = z := by rw [nat_lms, mk_self]
theorem as_num {n m : Bool} {xs ys : List Nat} (h1 : Num.Small xs) (h2 : Num.Small ys) (h : opT addZ n xs m ys = true) : ∃ x y : Int, n = sgn x ∧ xs = lms x ∧ m = sgn y ∧ ys = lms y ∧ fits x = true ∧ fits y = true ∧ fits (x + y) = true := by
  unfold opT at h
  rw [Bool.and_eq_true, Bool.and_eq_true] at h
  obtain ⟨⟨ha, hb⟩, hc⟩ := h
  obtain ⟨x, rfl, rfl, hx⟩ := ok_num h1 ha
  obtain ⟨y, rfl, rfl, hy⟩ := ok_num h2 hb
  rw [mk_lm, mk_lm] at hc
  exact ⟨x, y, rfl, rfl, rfl, rfl, decide_eq_true hx, decide_eq_true hy, hc⟩
theorem op_eval (f : Int → Int → Int) {x y z : Int} (hx : fits x = true) (hy : fits y = true) (hz : f x y = z) (hf : fits z = true) : opT f (sgn x) (lms x) (sgn y) (lms y) = true ∧ opZ f (sgn x) (lms x) (sgn y) (lms y) = z := by
  have h : opT f (sgn x) (lms x) (sgn y) (lms y) = true := by
    unfold opT; rw [ok_of_num, ok_of_num, mk_lm, mk_lm, hz, hf]
    unfold fits at hx hy; rw [hx, hy]; rfl
  refine ⟨h, ?_⟩
  unfold opZ; rw [if_pos h, mk_lm, mk_lm, hz]

set_option maxHeartbeats 4000000 in
set_option maxRecDepth 20000 in
theorem walkAs (a0 : Option Addr) (len0 cap0 : Nat) (w : World) (hr : Row a0 len0 cap0 w) :
    Calls Try.prog 3 #[.slice a0 len0 cap0] w fun e w' => e = .returned (.bool true) ∧ Below w.heap.size w w' := by
  have HROW := hide hr
  have hcap : len0 ≤ 9223372036854775807 := Nat.le_trans hr.2.1 hr.2.2
  clear hr
  by_cases hbig : (1048576 : Int) < (len0 : Int)
  · go_enter Try.func3, Try.ntmps3
    go_wp2
    go_ret
    exact ⟨rfl, Below.refl _ _⟩
  go_enter Try.func3, Try.ntmps3
  go_wp2_with (first | (go_at_call 5; go_in) | fail)
  refine (drawAdd _ _ _ _ HROW.out).mono ?_
  rintro e w1 ⟨n, a1, c1, xs, m, b1, e1, ys, rfl, hl1, hl2, s1, s2, hb⟩
  clear hl1 hl2
  have HB := hide hb
  cases ht : opT addZ n xs m ys with
  | false =>
    have S1 := hide s1
    have S2 := hide s2
    have HT := hide ht
    obtain ⟨z, hz⟩ : ∃ z, opZ addZ n xs m ys = z := ⟨_, rfl⟩
    have HZ := hide hz
    clear hb s1 s2 ht hz HROW
    have ka0 : ((w1.alloc (Obj.cells #[Value.bool n, Value.slice a1 xs.length c1] 26)).alloc (Obj.cells #[Value.bool m, Value.slice b1 ys.length e1] 26)).cell? ⟨w1.heap.size, 0, none⟩ = some (Value.bool n) := by go_simp
    have ka1 : ((w1.alloc (Obj.cells #[Value.bool n, Value.slice a1 xs.length c1] 26)).alloc (Obj.cells #[Value.bool m, Value.slice b1 ys.length e1] 26)).cell? ⟨w1.heap.size, 1, none⟩ = some (Value.slice a1 xs.length c1) := by go_simp
    have kb0 : ((w1.alloc (Obj.cells #[Value.bool n, Value.slice a1 xs.length c1] 26)).alloc (Obj.cells #[Value.bool m, Value.slice b1 ys.length e1] 26)).cell? ⟨w1.heap.size + 1, 0, none⟩ = some (Value.bool m) := by go_simp
    have kb1 : ((w1.alloc (Obj.cells #[Value.bool n, Value.slice a1 xs.length c1] 26)).alloc (Obj.cells #[Value.bool m, Value.slice b1 ys.length e1] 26)).cell? ⟨w1.heap.size + 1, 1, none⟩ = some (Value.slice b1 ys.length e1) := by go_simp
    have zr : w1.heap.size + 1 < ((w1.alloc (Obj.cells #[Value.bool n, Value.slice a1 xs.length c1] 26)).alloc (Obj.cells #[Value.bool m, Value.slice b1 ys.length e1] 26)).heap.size := by simp only [World.size_alloc]; omega
    have hbn := bl_alloc (bl_alloc (bl_refl w1) (Obj.cells #[Value.bool n, Value.slice a1 xs.length c1] 26)) (Obj.cells #[Value.bool m, Value.slice b1 ys.length e1] 26)
    replace S1 := hide (S1.out.below hbn)
    replace S2 := hide (S2.out.below hbn)
    replace HB := hide (bl_trans HB.out hbn)
    clear hbn
    go_wp2_with fail
    generalize ((w1.alloc (Obj.cells #[Value.bool n, Value.slice a1 xs.length c1] 26)).alloc (Obj.cells #[Value.bool m, Value.slice b1 ys.length e1] 26)) = w2 at *
    have y2 := zr
    have HQ := hide (AddP (Value.agg #[Value.bool n, Value.slice a1 xs.length c1]) (Value.agg #[Value.bool m, Value.slice b1 ys.length e1]) n m xs ys w2 ⟨a1, c1, rfl, S1.out⟩ ⟨b1, e1, rfl, S2.out⟩)
    rw [HT.out, HZ.out] at HQ
    refine HQ.out.mono ?_
    rintro e w3 ⟨v3, rfl, ⟨a3, c3, rfl, ho3⟩, hb⟩
    clear HQ
    have yw3 := hb.size
    replace ka0 := (hb.cell (p := ⟨w1.heap.size, 0, none⟩) (by dsimp only; omega)).trans ka0
    replace ka1 := (hb.cell (p := ⟨w1.heap.size, 1, none⟩) (by dsimp only; omega)).trans ka1
    replace kb0 := (hb.cell (p := ⟨w1.heap.size + 1, 0, none⟩) (by dsimp only; omega)).trans kb0
    replace kb1 := (hb.cell (p := ⟨w1.heap.size + 1, 1, none⟩) (by dsimp only; omega)).trans kb1
    replace S1 := hide (S1.out.below hb)
    replace S2 := hide (S2.out.below hb)
    replace zr := Nat.lt_of_lt_of_le zr hb.size
    replace HB := hide (bl_trans HB.out hb)
    clear hb
    clear ho3
    have yw4 : w3.heap.size + 1 ≤ (w3.alloc (Obj.cells #[Value.bool (sgn z), Value.slice a3 (lms z).length c3] 26)).heap.size := by simp only [World.size_alloc]; omega
    have hbn := (bl_alloc (bl_refl w3) (Obj.cells #[Value.bool (sgn z), Value.slice a3 (lms z).length c3] 26))
    replace ka0 := (hbn.cell (p := ⟨w1.heap.size, 0, none⟩) (by dsimp only; omega)).trans ka0
    replace ka1 := (hbn.cell (p := ⟨w1.heap.size, 1, none⟩) (by dsimp only; omega)).trans ka1
    replace kb0 := (hbn.cell (p := ⟨w1.heap.size + 1, 0, none⟩) (by dsimp only; omega)).trans kb0
    replace kb1 := (hbn.cell (p := ⟨w1.heap.size + 1, 1, none⟩) (by dsimp only; omega)).trans kb1
    replace S1 := hide (S1.out.below hbn)
    replace S2 := hide (S2.out.below hbn)
    replace zr := Nat.lt_of_lt_of_le zr hbn.size
    replace HB := hide (bl_trans HB.out hbn)
    clear hbn
    go_wp2_with fail
    generalize (w3.alloc (Obj.cells #[Value.bool (sgn z), Value.slice a3 (lms z).length c3] 26)) = w4 at *
    have HQ := hide (AddQ (Value.agg #[Value.bool n, Value.slice a1 xs.length c1]) (Value.agg #[Value.bool m, Value.slice b1 ys.length e1]) n m xs ys w4 ⟨a1, c1, rfl, S1.out⟩ ⟨b1, e1, rfl, S2.out⟩)
    rw [HT.out, HZ.out] at HQ
    refine HQ.out.mono ?_
    rintro e w9 ⟨v9, rfl, ⟨a9, c9, rfl, ho9⟩, hb⟩
    replace HB := hide (bl_trans HB.out hb)
    have HBE := hide (bl_alloc HB.out (Obj.cells #[Value.bool (sgn z), Value.slice a9 (lms z).length c9] 26))
    go_wp2
    go_ret
    exact ⟨rfl, HBE.out⟩
  | true =>
    obtain ⟨x, y, rfl, rfl, rfl, rfl, hx, hy, hxy⟩ := as_num s1.2.2.2.1 s2.2.2.2.1 ht
    obtain ⟨z, hz⟩ : ∃ z, x + y = z := ⟨_, rfl⟩
    rw [hz] at hxy
    have E1 := hide (op_eval addZ hx hy (show addZ x y = z from hz) hxy)
    have E2 := hide (op_eval subZ hxy hy (show subZ z y = x by unfold subZ; omega) hx)
    have E3 := hide (op_eval addZ hy hx (show addZ y x = z by unfold addZ; omega) hxy)
    have S1 := hide s1
    have S2 := hide s2
    clear hb s1 s2 ht hz hx hy hxy HROW
    have ka0 : ((w1.alloc (Obj.cells #[Value.bool (sgn x), Value.slice a1 (lms x).length c1] 26)).alloc (Obj.cells #[Value.bool (sgn y), Value.slice b1 (lms y).length e1] 26)).cell? ⟨w1.heap.size, 0, none⟩ = some (Value.bool (sgn x)) := by go_simp
    have ka1 : ((w1.alloc (Obj.cells #[Value.bool (sgn x), Value.slice a1 (lms x).length c1] 26)).alloc (Obj.cells #[Value.bool (sgn y), Value.slice b1 (lms y).length e1] 26)).cell? ⟨w1.heap.size, 1, none⟩ = some (Value.slice a1 (lms x).length c1) := by go_simp
    have kb0 : ((w1.alloc (Obj.cells #[Value.bool (sgn x), Value.slice a1 (lms x).length c1] 26)).alloc (Obj.cells #[Value.bool (sgn y), Value.slice b1 (lms y).length e1] 26)).cell? ⟨w1.heap.size + 1, 0, none⟩ = some (Value.bool (sgn y)) := by go_simp
    have kb1 : ((w1.alloc (Obj.cells #[Value.bool (sgn x), Value.slice a1 (lms x).length c1] 26)).alloc (Obj.cells #[Value.bool (sgn y), Value.slice b1 (lms y).length e1] 26)).cell? ⟨w1.heap.size + 1, 1, none⟩ = some (Value.slice b1 (lms y).length e1) := by go_simp
    have zr : w1.heap.size + 1 < ((w1.alloc (Obj.cells #[Value.bool (sgn x), Value.slice a1 (lms x).length c1] 26)).alloc (Obj.cells #[Value.bool (sgn y), Value.slice b1 (lms y).length e1] 26)).heap.size := by simp only [World.size_alloc]; omega
    have hbn := bl_alloc (bl_alloc (bl_refl w1) (Obj.cells #[Value.bool (sgn x), Value.slice a1 (lms x).length c1] 26)) (Obj.cells #[Value.bool (sgn y), Value.slice b1 (lms y).length e1] 26)
    replace S1 := hide (S1.out.below hbn)
    replace S2 := hide (S2.out.below hbn)
    replace HB := hide (bl_trans HB.out hbn)
    clear hbn
    go_wp2_with fail
    generalize ((w1.alloc (Obj.cells #[Value.bool (sgn x), Value.slice a1 (lms x).length c1] 26)).alloc (Obj.cells #[Value.bool (sgn y), Value.slice b1 (lms y).length e1] 26)) = w2 at *
    have y2 := zr
    have HQ := hide (AddP (Value.agg #[Value.bool (sgn x), Value.slice a1 (lms x).length c1]) (Value.agg #[Value.bool (sgn y), Value.slice b1 (lms y).length e1]) (sgn x) (sgn y) (lms x) (lms y) w2 ⟨a1, c1, rfl, S1.out⟩ ⟨b1, e1, rfl, S2.out⟩)
    rw [E1.out.1, E1.out.2] at HQ
    refine HQ.out.mono ?_
    rintro e w3 ⟨v3, rfl, ⟨a3, c3, rfl, ho3⟩, hb⟩
    clear HQ
    have yw3 := hb.size
    replace ka0 := (hb.cell (p := ⟨w1.heap.size, 0, none⟩) (by dsimp only; omega)).trans ka0
    replace ka1 := (hb.cell (p := ⟨w1.heap.size, 1, none⟩) (by dsimp only; omega)).trans ka1
    replace kb0 := (hb.cell (p := ⟨w1.heap.size + 1, 0, none⟩) (by dsimp only; omega)).trans kb0
    replace kb1 := (hb.cell (p := ⟨w1.heap.size + 1, 1, none⟩) (by dsimp only; omega)).trans kb1
    replace S1 := hide (S1.out.below hb)
    replace S2 := hide (S2.out.below hb)
    replace zr := Nat.lt_of_lt_of_le zr hb.size
    replace HB := hide (bl_trans HB.out hb)
    clear hb
    have S3 := hide ho3.seg
    clear ho3
    have yw4 : w3.heap.size + 1 ≤ (w3.alloc (Obj.cells #[Value.bool (sgn z), Value.slice a3 (lms z).length c3] 26)).heap.size := by simp only [World.size_alloc]; omega
    have kq30 : (w3.alloc (Obj.cells #[Value.bool (sgn z), Value.slice a3 (lms z).length c3] 26)).cell? ⟨w3.heap.size, 0, none⟩ = some (Value.bool (sgn z)) := by go_simp
    have kq31 : (w3.alloc (Obj.cells #[Value.bool (sgn z), Value.slice a3 (lms z).length c3] 26)).cell? ⟨w3.heap.size, 1, none⟩ = some (Value.slice a3 (lms z).length c3) := by go_simp
    have hbn := (bl_alloc (bl_refl w3) (Obj.cells #[Value.bool (sgn z), Value.slice a3 (lms z).length c3] 26))
    replace ka0 := (hbn.cell (p := ⟨w1.heap.size, 0, none⟩) (by dsimp only; omega)).trans ka0
    replace ka1 := (hbn.cell (p := ⟨w1.heap.size, 1, none⟩) (by dsimp only; omega)).trans ka1
    replace kb0 := (hbn.cell (p := ⟨w1.heap.size + 1, 0, none⟩) (by dsimp only; omega)).trans kb0
    replace kb1 := (hbn.cell (p := ⟨w1.heap.size + 1, 1, none⟩) (by dsimp only; omega)).trans kb1
    replace S1 := hide (S1.out.below hbn)
    replace S2 := hide (S2.out.below hbn)
    replace S3 := hide (S3.out.below hbn)
    replace zr := Nat.lt_of_lt_of_le zr hbn.size
    replace HB := hide (bl_trans HB.out hbn)
    clear hbn
    go_wp2_with fail
    generalize (w3.alloc (Obj.cells #[Value.bool (sgn z), Value.slice a3 (lms z).length c3] 26)) = w4 at *
    have HQ := hide (AddQ (Value.agg #[Value.bool (sgn x), Value.slice a1 (lms x).length c1]) (Value.agg #[Value.bool (sgn y), Value.slice b1 (lms y).length e1]) (sgn x) (sgn y) (lms x) (lms y) w4 ⟨a1, c1, rfl, S1.out⟩ ⟨b1, e1, rfl, S2.out⟩)
    rw [E1.out.1, E1.out.2] at HQ
    refine HQ.out.mono ?_
    rintro e w5 ⟨v4, rfl, ⟨a4, c4, rfl, ho4⟩, hb⟩
    clear HQ
    have yw5 := hb.size
    replace ka0 := (hb.cell (p := ⟨w1.heap.size, 0, none⟩) (by dsimp only; omega)).trans ka0
    replace ka1 := (hb.cell (p := ⟨w1.heap.size, 1, none⟩) (by dsimp only; omega)).trans ka1
    replace kb0 := (hb.cell (p := ⟨w1.heap.size + 1, 0, none⟩) (by dsimp only; omega)).trans kb0
    replace kb1 := (hb.cell (p := ⟨w1.heap.size + 1, 1, none⟩) (by dsimp only; omega)).trans kb1
    replace kq30 := (hb.cell (p := ⟨w3.heap.size, 0, none⟩) (by dsimp only; omega)).trans kq30
    replace kq31 := (hb.cell (p := ⟨w3.heap.size, 1, none⟩) (by dsimp only; omega)).trans kq31
    replace S1 := hide (S1.out.below hb)
    replace S2 := hide (S2.out.below hb)
    replace S3 := hide (S3.out.below hb)
    replace zr := Nat.lt_of_lt_of_le zr hb.size
    replace HB := hide (bl_trans HB.out hb)
    clear hb
    clear ho4
    have yw6 : w5.heap.size + 1 ≤ (w5.alloc (Obj.cells #[Value.bool (sgn z), Value.slice a4 (lms z).length c4] 26)).heap.size := by simp only [World.size_alloc]; omega
    have hbn := (bl_alloc (bl_refl w5) (Obj.cells #[Value.bool (sgn z), Value.slice a4 (lms z).length c4] 26))
    replace ka0 := (hbn.cell (p := ⟨w1.heap.size, 0, none⟩) (by dsimp only; omega)).trans ka0
    replace ka1 := (hbn.cell (p := ⟨w1.heap.size, 1, none⟩) (by dsimp only; omega)).trans ka1
    replace kb0 := (hbn.cell (p := ⟨w1.heap.size + 1, 0, none⟩) (by dsimp only; omega)).trans kb0
    replace kb1 := (hbn.cell (p := ⟨w1.heap.size + 1, 1, none⟩) (by dsimp only; omega)).trans kb1
    replace kq30 := (hbn.cell (p := ⟨w3.heap.size, 0, none⟩) (by dsimp only; omega)).trans kq30
    replace kq31 := (hbn.cell (p := ⟨w3.heap.size, 1, none⟩) (by dsimp only; omega)).trans kq31
    replace S1 := hide (S1.out.below hbn)
    replace S2 := hide (S2.out.below hbn)
    replace S3 := hide (S3.out.below hbn)
    replace zr := Nat.lt_of_lt_of_le zr hbn.size
    replace HB := hide (bl_trans HB.out hbn)
    clear hbn
    go_wp2_with fail
    generalize (w5.alloc (Obj.cells #[Value.bool (sgn z), Value.slice a4 (lms z).length c4] 26)) = w6 at *
    have HQ := hide (SubP (Value.agg #[Value.bool (sgn z), Value.slice a3 (lms z).length c3]) (Value.agg #[Value.bool (sgn y), Value.slice b1 (lms y).length e1]) (sgn z) (sgn y) (lms z) (lms y) w6 ⟨a3, c3, rfl, S3.out⟩ ⟨b1, e1, rfl, S2.out⟩)
    rw [E2.out.1, E2.out.2] at HQ
    refine HQ.out.mono ?_
    rintro e w7 ⟨v5, rfl, ⟨a5, c5, rfl, ho5⟩, hb⟩
    clear HQ
    have yw7 := hb.size
    replace ka0 := (hb.cell (p := ⟨w1.heap.size, 0, none⟩) (by dsimp only; omega)).trans ka0
    replace ka1 := (hb.cell (p := ⟨w1.heap.size, 1, none⟩) (by dsimp only; omega)).trans ka1
    replace kb0 := (hb.cell (p := ⟨w1.heap.size + 1, 0, none⟩) (by dsimp only; omega)).trans kb0
    replace kb1 := (hb.cell (p := ⟨w1.heap.size + 1, 1, none⟩) (by dsimp only; omega)).trans kb1
    replace kq30 := (hb.cell (p := ⟨w3.heap.size, 0, none⟩) (by dsimp only; omega)).trans kq30
    replace kq31 := (hb.cell (p := ⟨w3.heap.size, 1, none⟩) (by dsimp only; omega)).trans kq31
    replace S1 := hide (S1.out.below hb)
    replace S2 := hide (S2.out.below hb)
    replace S3 := hide (S3.out.below hb)
    replace zr := Nat.lt_of_lt_of_le zr hb.size
    replace HB := hide (bl_trans HB.out hb)
    clear hb
    have S5 := hide ho5.seg
    clear ho5
    have yw8 : w7.heap.size + 1 ≤ (w7.alloc (Obj.cells #[Value.bool (sgn x), Value.slice a5 (lms x).length c5] 26)).heap.size := by simp only [World.size_alloc]; omega
    have kq50 : (w7.alloc (Obj.cells #[Value.bool (sgn x), Value.slice a5 (lms x).length c5] 26)).cell? ⟨w7.heap.size, 0, none⟩ = some (Value.bool (sgn x)) := by go_simp
    have kq51 : (w7.alloc (Obj.cells #[Value.bool (sgn x), Value.slice a5 (lms x).length c5] 26)).cell? ⟨w7.heap.size, 1, none⟩ = some (Value.slice a5 (lms x).length c5) := by go_simp
    have hbn := (bl_alloc (bl_refl w7) (Obj.cells #[Value.bool (sgn x), Value.slice a5 (lms x).length c5] 26))
    replace ka0 := (hbn.cell (p := ⟨w1.heap.size, 0, none⟩) (by dsimp only; omega)).trans ka0
    replace ka1 := (hbn.cell (p := ⟨w1.heap.size, 1, none⟩) (by dsimp only; omega)).trans ka1
    replace kb0 := (hbn.cell (p := ⟨w1.heap.size + 1, 0, none⟩) (by dsimp only; omega)).trans kb0
    replace kb1 := (hbn.cell (p := ⟨w1.heap.size + 1, 1, none⟩) (by dsimp only; omega)).trans kb1
    replace kq30 := (hbn.cell (p := ⟨w3.heap.size, 0, none⟩) (by dsimp only; omega)).trans kq30
    replace kq31 := (hbn.cell (p := ⟨w3.heap.size, 1, none⟩) (by dsimp only; omega)).trans kq31
    replace S1 := hide (S1.out.below hbn)
    replace S2 := hide (S2.out.below hbn)
    replace S3 := hide (S3.out.below hbn)
    replace S5 := hide (S5.out.below hbn)
    replace zr := Nat.lt_of_lt_of_le zr hbn.size
    replace HB := hide (bl_trans HB.out hbn)
    clear hbn
    go_wp2_with fail
    generalize (w7.alloc (Obj.cells #[Value.bool (sgn x), Value.slice a5 (lms x).length c5] 26)) = w8 at *
    have HQ := hide (AddP (Value.agg #[Value.bool (sgn y), Value.slice b1 (lms y).length e1]) (Value.agg #[Value.bool (sgn x), Value.slice a1 (lms x).length c1]) (sgn y) (sgn x) (lms y) (lms x) w8 ⟨b1, e1, rfl, S2.out⟩ ⟨a1, c1, rfl, S1.out⟩)
    rw [E3.out.1, E3.out.2] at HQ
    refine HQ.out.mono ?_
    rintro e w9 ⟨v6, rfl, ⟨a6, c6, rfl, ho6⟩, hb⟩
    clear HQ
    have yw9 := hb.size
    replace ka0 := (hb.cell (p := ⟨w1.heap.size, 0, none⟩) (by dsimp only; omega)).trans ka0
    replace ka1 := (hb.cell (p := ⟨w1.heap.size, 1, none⟩) (by dsimp only; omega)).trans ka1
    replace kb0 := (hb.cell (p := ⟨w1.heap.size + 1, 0, none⟩) (by dsimp only; omega)).trans kb0
    replace kb1 := (hb.cell (p := ⟨w1.heap.size + 1, 1, none⟩) (by dsimp only; omega)).trans kb1
    replace kq30 := (hb.cell (p := ⟨w3.heap.size, 0, none⟩) (by dsimp only; omega)).trans kq30
    replace kq31 := (hb.cell (p := ⟨w3.heap.size, 1, none⟩) (by dsimp only; omega)).trans kq31
    replace kq50 := (hb.cell (p := ⟨w7.heap.size, 0, none⟩) (by dsimp only; omega)).trans kq50
    replace kq51 := (hb.cell (p := ⟨w7.heap.size, 1, none⟩) (by dsimp only; omega)).trans kq51
    replace S1 := hide (S1.out.below hb)
    replace S2 := hide (S2.out.below hb)
    replace S3 := hide (S3.out.below hb)
    replace S5 := hide (S5.out.below hb)
    replace zr := Nat.lt_of_lt_of_le zr hb.size
    replace HB := hide (bl_trans HB.out hb)
    clear hb
    have S6 := hide ho6.seg
    clear ho6
    have yw10 : w9.heap.size + 1 ≤ (w9.alloc (Obj.cells #[Value.bool (sgn z), Value.slice a6 (lms z).length c6] 26)).heap.size := by simp only [World.size_alloc]; omega
    have kq60 : (w9.alloc (Obj.cells #[Value.bool (sgn z), Value.slice a6 (lms z).length c6] 26)).cell? ⟨w9.heap.size, 0, none⟩ = some (Value.bool (sgn z)) := by go_simp
    have kq61 : (w9.alloc (Obj.cells #[Value.bool (sgn z), Value.slice a6 (lms z).length c6] 26)).cell? ⟨w9.heap.size, 1, none⟩ = some (Value.slice a6 (lms z).length c6) := by go_simp
    have hbn := (bl_alloc (bl_refl w9) (Obj.cells #[Value.bool (sgn z), Value.slice a6 (lms z).length c6] 26))
    replace ka0 := (hbn.cell (p := ⟨w1.heap.size, 0, none⟩) (by dsimp only; omega)).trans ka0
    replace ka1 := (hbn.cell (p := ⟨w1.heap.size, 1, none⟩) (by dsimp only; omega)).trans ka1
    replace kb0 := (hbn.cell (p := ⟨w1.heap.size + 1, 0, none⟩) (by dsimp only; omega)).trans kb0
    replace kb1 := (hbn.cell (p := ⟨w1.heap.size + 1, 1, none⟩) (by dsimp only; omega)).trans kb1
    replace kq30 := (hbn.cell (p := ⟨w3.heap.size, 0, none⟩) (by dsimp only; omega)).trans kq30
    replace kq31 := (hbn.cell (p := ⟨w3.heap.size, 1, none⟩) (by dsimp only; omega)).trans kq31
    replace kq50 := (hbn.cell (p := ⟨w7.heap.size, 0, none⟩) (by dsimp only; omega)).trans kq50
    replace kq51 := (hbn.cell (p := ⟨w7.heap.size, 1, none⟩) (by dsimp only; omega)).trans kq51
    replace S1 := hide (S1.out.below hbn)
    replace S2 := hide (S2.out.below hbn)
    replace S3 := hide (S3.out.below hbn)
    replace S5 := hide (S5.out.below hbn)
    replace S6 := hide (S6.out.below hbn)
    replace zr := Nat.lt_of_lt_of_le zr hbn.size
    replace HB := hide (bl_trans HB.out hbn)
    clear hbn
    go_wp2_with fail
    generalize (w9.alloc (Obj.cells #[Value.bool (sgn z), Value.slice a6 (lms z).length c6] 26)) = w10 at *
    refine (sameB (sgn x) (lms x) a5 c5 a1 c1 _ S5.out S1.out).mono ?_
    rintro e w11 ⟨rfl, hb⟩
    have yw11 := hb.size
    replace ka0 := (hb.cell (p := ⟨w1.heap.size, 0, none⟩) (by dsimp only; omega)).trans ka0
    replace ka1 := (hb.cell (p := ⟨w1.heap.size, 1, none⟩) (by dsimp only; omega)).trans ka1
    replace kb0 := (hb.cell (p := ⟨w1.heap.size + 1, 0, none⟩) (by dsimp only; omega)).trans kb0
    replace kb1 := (hb.cell (p := ⟨w1.heap.size + 1, 1, none⟩) (by dsimp only; omega)).trans kb1
    replace kq30 := (hb.cell (p := ⟨w3.heap.size, 0, none⟩) (by dsimp only; omega)).trans kq30
    replace kq31 := (hb.cell (p := ⟨w3.heap.size, 1, none⟩) (by dsimp only; omega)).trans kq31
    replace kq50 := (hb.cell (p := ⟨w7.heap.size, 0, none⟩) (by dsimp only; omega)).trans kq50
    replace kq51 := (hb.cell (p := ⟨w7.heap.size, 1, none⟩) (by dsimp only; omega)).trans kq51
    replace kq60 := (hb.cell (p := ⟨w9.heap.size, 0, none⟩) (by dsimp only; omega)).trans kq60
    replace kq61 := (hb.cell (p := ⟨w9.heap.size, 1, none⟩) (by dsimp only; omega)).trans kq61
    replace S1 := hide (S1.out.below hb)
    replace S2 := hide (S2.out.below hb)
    replace S3 := hide (S3.out.below hb)
    replace S5 := hide (S5.out.below hb)
    replace S6 := hide (S6.out.below hb)
    replace zr := Nat.lt_of_lt_of_le zr hb.size
    replace HB := hide (bl_trans HB.out hb)
    clear hb
    go_wp2_with fail
    refine (sameB (sgn z) (lms z) a6 c6 a3 c3 _ S6.out S3.out).mono ?_
    rintro e w12 ⟨rfl, hb⟩
    have yw12 := hb.size
    replace ka0 := (hb.cell (p := ⟨w1.heap.size, 0, none⟩) (by dsimp only; omega)).trans ka0
    replace ka1 := (hb.cell (p := ⟨w1.heap.size, 1, none⟩) (by dsimp only; omega)).trans ka1
    replace kb0 := (hb.cell (p := ⟨w1.heap.size + 1, 0, none⟩) (by dsimp only; omega)).trans kb0
    replace kb1 := (hb.cell (p := ⟨w1.heap.size + 1, 1, none⟩) (by dsimp only; omega)).trans kb1
    replace kq30 := (hb.cell (p := ⟨w3.heap.size, 0, none⟩) (by dsimp only; omega)).trans kq30
    replace kq31 := (hb.cell (p := ⟨w3.heap.size, 1, none⟩) (by dsimp only; omega)).trans kq31
    replace kq50 := (hb.cell (p := ⟨w7.heap.size, 0, none⟩) (by dsimp only; omega)).trans kq50
    replace kq51 := (hb.cell (p := ⟨w7.heap.size, 1, none⟩) (by dsimp only; omega)).trans kq51
    replace kq60 := (hb.cell (p := ⟨w9.heap.size, 0, none⟩) (by dsimp only; omega)).trans kq60
    replace kq61 := (hb.cell (p := ⟨w9.heap.size, 1, none⟩) (by dsimp only; omega)).trans kq61
    replace S1 := hide (S1.out.below hb)
    replace S2 := hide (S2.out.below hb)
    replace S3 := hide (S3.out.below hb)
    replace S5 := hide (S5.out.below hb)
    replace S6 := hide (S6.out.below hb)
    replace zr := Nat.lt_of_lt_of_le zr hb.size
    replace HB := hide (bl_trans HB.out hb)
    clear hb
    go_wp2
    go_ret
    exact ⟨rfl, HB.out⟩
end Go.Proofs.Ytmdohdnnhlnghaa
