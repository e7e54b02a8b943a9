/- The walk of FnFloor: a fraction is not less than its floor, and less than one more than that. -/
import Derived.Test.YtpjckilmbidbgaaFl1
import Derived.Test.YtpjckilmbidbgaaRes4
namespace Go.Proofs.Ytpjckilmbidbgaa
open Go.RowKit
set_option linter.unusedVariables false

theorem rat_whole {F : Int} (h : F.natAbs < 4294967296 ^ 40) : ratB (sgn F) (lms F) (sgn 1) (lms 1) = true := by
  unfold ratB
  rw [ok_fits, ok_fits, nat_lms, nat_lms, mk_self, mk_self]
  have h1 : fits F = true := decide_eq_true h
  have h2 : fits 1 = true := by decide
  rw [h1, h2, Int.gcd_one_right]
  rfl
theorem make_whole {F : Int} (h : F.natAbs < 4294967296 ^ 40) : rtT (okB (sgn F) (lms F) && okB (sgn 1) (lms 1)) (mk (sgn F) (Num.nat (lms F))) (mk (sgn 1) (Num.nat (lms 1))) = true ∧ rtN (okB (sgn F) (lms F) && okB (sgn 1) (lms 1)) (mk (sgn F) (Num.nat (lms F))) (mk (sgn 1) (Num.nat (lms 1))) = F ∧ rtD (okB (sgn F) (lms F) && okB (sgn 1) (lms 1)) (mk (sgn F) (Num.nat (lms F))) (mk (sgn 1) (Num.nat (lms 1))) = 1 := by
  rw [nat_lms, nat_lms, mk_self, mk_self]
  exact rt_back (by rw [ok_fits, ok_fits]; exact ft_num h (by decide)) (Int.gcd_one_right ..) (by decide) (by decide) rfl h (by decide)
theorem floor_le {x y : Int} (hx : x.natAbs < 4294967296 ^ 40) (hr : ratB (sgn x) (lms x) (sgn y) (lms y) = true) (hy : 0 < y) {F : Int} (hF : x / y = F) :
    rcZ (sgn F) (lms F) (sgn 1) (lms 1) (sgn x) (lms x) (sgn y) (lms y) ≤ 0 ∧ -1 ≤ rcZ (sgn F) (lms F) (sgn 1) (lms 1) (sgn x) (lms x) (sgn y) (lms y) := by
  have h : F.natAbs < 4294967296 ^ 40 := by rw [← hF]; exact Nat.lt_of_le_of_lt (div_abs_le _ _) hx
  unfold rcZ
  rw [rat_whole h, hr, Bool.and_self, if_pos rfl, nat_lms, nat_lms, nat_lms, nat_lms, mk_self, mk_self, mk_self, mk_self]
  have : F * y ≤ x := by rw [← hF]; exact Int.ediv_mul_le x (by omega)
  unfold cmpZ mulZ
  split
  · omega
  · split
    · omega
    · omega
theorem floor_lt {x y : Int} (hr : ratB (sgn x) (lms x) (sgn y) (lms y) = true) (hy : 0 < y) {F : Int} (hF : x / y = F) (hT : rtT (ratB (sgn F) (lms F) (sgn 1) (lms 1) && ratB (sgn 1) (lms 1) (sgn 1) (lms 1)) (addZ (mulZ (mk (sgn F) (Num.nat (lms F))) (mk (sgn 1) (Num.nat (lms 1)))) (mulZ (mk (sgn 1) (Num.nat (lms 1))) (mk (sgn 1) (Num.nat (lms 1))))) (mulZ (mk (sgn 1) (Num.nat (lms 1))) (mk (sgn 1) (Num.nat (lms 1)))) = true) :
    rcZ (sgn x) (lms x) (sgn y) (lms y) (sgn (rtN (ratB (sgn F) (lms F) (sgn 1) (lms 1) && ratB (sgn 1) (lms 1) (sgn 1) (lms 1)) (addZ (mulZ (mk (sgn F) (Num.nat (lms F))) (mk (sgn 1) (Num.nat (lms 1)))) (mulZ (mk (sgn 1) (Num.nat (lms 1))) (mk (sgn 1) (Num.nat (lms 1))))) (mulZ (mk (sgn 1) (Num.nat (lms 1))) (mk (sgn 1) (Num.nat (lms 1)))))) (lms (rtN (ratB (sgn F) (lms F) (sgn 1) (lms 1) && ratB (sgn 1) (lms 1) (sgn 1) (lms 1)) (addZ (mulZ (mk (sgn F) (Num.nat (lms F))) (mk (sgn 1) (Num.nat (lms 1)))) (mulZ (mk (sgn 1) (Num.nat (lms 1))) (mk (sgn 1) (Num.nat (lms 1))))) (mulZ (mk (sgn 1) (Num.nat (lms 1))) (mk (sgn 1) (Num.nat (lms 1)))))) (sgn (rtD (ratB (sgn F) (lms F) (sgn 1) (lms 1) && ratB (sgn 1) (lms 1) (sgn 1) (lms 1)) (addZ (mulZ (mk (sgn F) (Num.nat (lms F))) (mk (sgn 1) (Num.nat (lms 1)))) (mulZ (mk (sgn 1) (Num.nat (lms 1))) (mk (sgn 1) (Num.nat (lms 1))))) (mulZ (mk (sgn 1) (Num.nat (lms 1))) (mk (sgn 1) (Num.nat (lms 1)))))) (lms (rtD (ratB (sgn F) (lms F) (sgn 1) (lms 1) && ratB (sgn 1) (lms 1) (sgn 1) (lms 1)) (addZ (mulZ (mk (sgn F) (Num.nat (lms F))) (mk (sgn 1) (Num.nat (lms 1)))) (mulZ (mk (sgn 1) (Num.nat (lms 1))) (mk (sgn 1) (Num.nat (lms 1))))) (mulZ (mk (sgn 1) (Num.nat (lms 1))) (mk (sgn 1) (Num.nat (lms 1)))))) = -1 := by
  obtain ⟨-, y0, f0, eN, eD⟩ := rt_true hT
  have hR := rat_red y0 f0
  rw [eN, eD]
  rw [nat_lms, nat_lms, mk_self, mk_self] at *
  obtain ⟨e1, e2⟩ := red_unique (x := F + 1) (y := 1) (X := addZ (mulZ F 1) (mulZ 1 1)) (Y := mulZ 1 1) (Int.gcd_one_right ..) (by decide) y0 (by unfold addZ mulZ; omega)
  rw [e1, e2] at hR
  rw [e1, e2]
  unfold rcZ
  rw [hr, hR, Bool.and_self, if_pos rfl, nat_lms, nat_lms, nat_lms, nat_lms, mk_self, mk_self, mk_self, mk_self]
  refine cmp_lt ?_
  unfold mulZ
  have := Int.lt_ediv_add_one_mul_self x hy
  rw [hF] at this
  omega

set_option maxHeartbeats 8000000 in
set_option maxRecDepth 20000 in
theorem walkFloor (a0 : Option Addr) (len0 cap0 : Nat) (w : World) (hr : Row a0 len0 cap0 w) :
    Calls Try.prog 4 #[.slice a0 len0 cap0] w fun e w' => e = .returned (.bool true) ∧ Below w.heap.size w w' := by
  have HROW := hide hr
  have hcap : len0 ≤ 9223372036854775807 := Nat.le_trans hr.2.1 hr.2.2
  clear hr
  by_cases hbig : (1048576 : Int) < (len0 : Int)
  · go_enter Try.func4, Try.ntmps4
    go_wp2
    go_ret
    exact ⟨rfl, Below.refl _ _⟩
  have hl2 : len0 ≤ 1048576 := by omega
  go_enter Try.func4, Try.ntmps4
  go_wp2_with (first | (go_at_call 5; go_in) | fail)
  refine (drawFloor _ _ _ _ HROW.out).mono ?_
  rintro e w1 ⟨n, a1, c1, xs, m, b1, e1, ys, rfl, s1, t1, hb⟩
  replace HROW := hide (HROW.out.bel hb)
  have HB := hide hb
  have G1 := hide s1.2.2.2.1
  have G2 := hide t1.2.2.2.1
  have S1 := hide s1
  have T1 := hide t1
  clear hb s1 t1
  go_wp2_with fail
  have yw2 : w1.heap.size + 1 ≤ (w1.alloc (Obj.cells #[Value.bool n, Value.slice a1 xs.length c1, Value.bool m, Value.slice b1 ys.length e1] 28)).heap.size := by simp only [World.size_alloc]; omega
  have kR0 : (w1.alloc (Obj.cells #[Value.bool n, Value.slice a1 xs.length c1, Value.bool m, Value.slice b1 ys.length e1] 28)).cell? ⟨w1.heap.size, 0, none⟩ = some (Value.bool n) := by go_simp
  have kR1 : (w1.alloc (Obj.cells #[Value.bool n, Value.slice a1 xs.length c1, Value.bool m, Value.slice b1 ys.length e1] 28)).cell? ⟨w1.heap.size, 1, none⟩ = some (Value.slice a1 xs.length c1) := by go_simp
  have kR2 : (w1.alloc (Obj.cells #[Value.bool n, Value.slice a1 xs.length c1, Value.bool m, Value.slice b1 ys.length e1] 28)).cell? ⟨w1.heap.size, 2, none⟩ = some (Value.bool m) := by go_simp
  have kR3 : (w1.alloc (Obj.cells #[Value.bool n, Value.slice a1 xs.length c1, Value.bool m, Value.slice b1 ys.length e1] 28)).cell? ⟨w1.heap.size, 3, none⟩ = some (Value.slice b1 ys.length e1) := by go_simp
  have zR : w1.heap.size < (w1.alloc (Obj.cells #[Value.bool n, Value.slice a1 xs.length c1, Value.bool m, Value.slice b1 ys.length e1] 28)).heap.size := by simp only [World.size_alloc]; omega
  have hbn := (bl_alloc (bl_refl w1) (Obj.cells #[Value.bool n, Value.slice a1 xs.length c1, Value.bool m, Value.slice b1 ys.length e1] 28))
  replace HROW := hide (HROW.out.bel hbn)
  replace S1 := hide (S1.out.below hbn)
  replace T1 := hide (T1.out.below hbn)
  replace HB := hide (bl_trans HB.out hbn)
  clear hbn
  generalize (w1.alloc (Obj.cells #[Value.bool n, Value.slice a1 xs.length c1, Value.bool m, Value.slice b1 ys.length e1] 28)) = w2 at *
  refine (RatOkQ n xs m ys a1 c1 b1 e1 _ S1.out T1.out).mono ?_
  rintro e w3 ⟨rfl, hb⟩
  have yw3 := hb.size
  replace HROW := hide (HROW.out.bel hb)
  replace kR0 := (hb.cell (p := ⟨w1.heap.size, 0, none⟩) zR).trans kR0
  replace kR1 := (hb.cell (p := ⟨w1.heap.size, 1, none⟩) zR).trans kR1
  replace kR2 := (hb.cell (p := ⟨w1.heap.size, 2, none⟩) zR).trans kR2
  replace kR3 := (hb.cell (p := ⟨w1.heap.size, 3, none⟩) zR).trans kR3
  replace zR := Nat.lt_of_lt_of_le zR hb.size
  replace S1 := hide (S1.out.below hb)
  replace T1 := hide (T1.out.below hb)
  replace HB := hide (bl_trans HB.out hb)
  clear hb
  cases hrr : ratB n xs m ys with
  | false =>
    have hF : flZ n xs m ys = 0 := by unfold flZ; rw [hrr]; rfl
    have HF := hide hF
    clear hF hrr
    go_wp2_with fail
    refine (FloorP n xs m ys a1 c1 b1 e1 _ S1.out T1.out).mono ?_
    rintro e w4 ⟨v, rfl, ⟨aF, cF, rfl, ho⟩, hb⟩
    have yw4 := hb.size
    replace HROW := hide (HROW.out.bel hb)
    replace kR0 := (hb.cell (p := ⟨w1.heap.size, 0, none⟩) zR).trans kR0
    replace kR1 := (hb.cell (p := ⟨w1.heap.size, 1, none⟩) zR).trans kR1
    replace kR2 := (hb.cell (p := ⟨w1.heap.size, 2, none⟩) zR).trans kR2
    replace kR3 := (hb.cell (p := ⟨w1.heap.size, 3, none⟩) zR).trans kR3
    replace zR := Nat.lt_of_lt_of_le zR hb.size
    replace S1 := hide (S1.out.below hb)
    replace T1 := hide (T1.out.below hb)
    replace HB := hide (bl_trans HB.out hb)
    clear hb
    rw [HF.out]
    have hfl := fun (wx : World) => field_limbs (Value.bool (sgn 0)) (Value.slice aF (lms 0).length cF) wx ⟨_, _, _, rfl⟩
    have hz : (((lms 0).length : Int) == 0) = true := by rw [zero_lms]; rfl
    clear ho
    go_wp2
    go_ret
    exact ⟨rfl, HB.out⟩
  | true =>
  have HR := hide hrr
  clear hrr
  obtain ⟨x, y, rfl, rfl, rfl, rfl, hx, hy, hp, hg⟩ := rat_num G1.out G2.out HR.out
  have HX := hide hx
  have HP := hide hp
  clear hx hy hp hg G1 G2
  have hF : flZ (sgn x) (lms x) (sgn y) (lms y) = x / y := by unfold flZ; rw [HR.out, if_pos rfl, nat_lms, nat_lms, mk_self, mk_self]
  have HF := hide hF
  clear hF
  go_wp2_with fail
  refine (FloorP (sgn x) (lms x) (sgn y) (lms y) a1 c1 b1 e1 _ S1.out T1.out).mono ?_
  rintro e w5 ⟨v, rfl, ⟨aF, cF, rfl, ho⟩, hb⟩
  have yw5 := hb.size
  replace HROW := hide (HROW.out.bel hb)
  replace kR0 := (hb.cell (p := ⟨w1.heap.size, 0, none⟩) zR).trans kR0
  replace kR1 := (hb.cell (p := ⟨w1.heap.size, 1, none⟩) zR).trans kR1
  replace kR2 := (hb.cell (p := ⟨w1.heap.size, 2, none⟩) zR).trans kR2
  replace kR3 := (hb.cell (p := ⟨w1.heap.size, 3, none⟩) zR).trans kR3
  replace zR := Nat.lt_of_lt_of_le zR hb.size
  replace S1 := hide (S1.out.below hb)
  replace T1 := hide (T1.out.below hb)
  replace HB := hide (bl_trans HB.out hb)
  clear hb
  rw [HF.out] at ho
  rw [HF.out]
  generalize hFF : x / y = F at *
  have HFF := hide hFF
  have HFB : Hid (F.natAbs < 4294967296 ^ 40) := hide (by rw [← hFF]; exact Nat.lt_of_le_of_lt (div_abs_le _ _) HX.out)
  clear hFF HF
  have OF := hide ho
  clear ho
  go_wp2_with fail
  refine (fromS 1 _ (by omega) (by omega)).mono ?_
  rintro e w6 ⟨v, rfl, ⟨aO, cO, rfl, ho⟩, hb⟩
  have yw6 := hb.size
  replace HROW := hide (HROW.out.bel hb)
  replace kR0 := (hb.cell (p := ⟨w1.heap.size, 0, none⟩) zR).trans kR0
  replace kR1 := (hb.cell (p := ⟨w1.heap.size, 1, none⟩) zR).trans kR1
  replace kR2 := (hb.cell (p := ⟨w1.heap.size, 2, none⟩) zR).trans kR2
  replace kR3 := (hb.cell (p := ⟨w1.heap.size, 3, none⟩) zR).trans kR3
  replace zR := Nat.lt_of_lt_of_le zR hb.size
  replace S1 := hide (S1.out.below hb)
  replace T1 := hide (T1.out.below hb)
  replace OF := hide (OF.out.below hb)
  replace HB := hide (bl_trans HB.out hb)
  clear hb
  have OO := hide ho
  clear ho
  go_wp2_with fail
  refine (MakeRatP (sgn F) (lms F) (sgn 1) (lms 1) aF cF aO cO _ OF.out.seg OO.out.seg).mono ?_
  rintro e w7 ⟨aX, cX, bX, eX, rfl, ho1, ho2, -, hb⟩
  have yw7 := hb.size
  replace HROW := hide (HROW.out.bel hb)
  replace kR0 := (hb.cell (p := ⟨w1.heap.size, 0, none⟩) zR).trans kR0
  replace kR1 := (hb.cell (p := ⟨w1.heap.size, 1, none⟩) zR).trans kR1
  replace kR2 := (hb.cell (p := ⟨w1.heap.size, 2, none⟩) zR).trans kR2
  replace kR3 := (hb.cell (p := ⟨w1.heap.size, 3, none⟩) zR).trans kR3
  replace zR := Nat.lt_of_lt_of_le zR hb.size
  replace S1 := hide (S1.out.below hb)
  replace T1 := hide (T1.out.below hb)
  replace OF := hide (OF.out.below hb)
  replace OO := hide (OO.out.below hb)
  replace HB := hide (bl_trans HB.out hb)
  clear hb
  obtain ⟨q1, q2, q3⟩ := make_whole HFB.out
  rw [q2] at ho1
  rw [q3] at ho2
  rw [q1, q2, q3]
  clear q1 q2 q3
  have SX := hide ho1.seg
  have TX := hide ho2.seg
  clear ho1 ho2 OF OO
  go_upto_region 7 with fail
  have yw8 : w7.heap.size + 1 ≤ (w7.alloc (Obj.cells #[Value.bool (sgn F), Value.slice aX (lms F).length cX, Value.bool (sgn 1), Value.slice bX (lms 1).length eX] 28)).heap.size := by simp only [World.size_alloc]; omega
  have kX0 : (w7.alloc (Obj.cells #[Value.bool (sgn F), Value.slice aX (lms F).length cX, Value.bool (sgn 1), Value.slice bX (lms 1).length eX] 28)).cell? ⟨w7.heap.size, 0, none⟩ = some (Value.bool (sgn F)) := by go_simp
  have kX1 : (w7.alloc (Obj.cells #[Value.bool (sgn F), Value.slice aX (lms F).length cX, Value.bool (sgn 1), Value.slice bX (lms 1).length eX] 28)).cell? ⟨w7.heap.size, 1, none⟩ = some (Value.slice aX (lms F).length cX) := by go_simp
  have kX2 : (w7.alloc (Obj.cells #[Value.bool (sgn F), Value.slice aX (lms F).length cX, Value.bool (sgn 1), Value.slice bX (lms 1).length eX] 28)).cell? ⟨w7.heap.size, 2, none⟩ = some (Value.bool (sgn 1)) := by go_simp
  have kX3 : (w7.alloc (Obj.cells #[Value.bool (sgn F), Value.slice aX (lms F).length cX, Value.bool (sgn 1), Value.slice bX (lms 1).length eX] 28)).cell? ⟨w7.heap.size, 3, none⟩ = some (Value.slice bX (lms 1).length eX) := by go_simp
  have zX : w7.heap.size < (w7.alloc (Obj.cells #[Value.bool (sgn F), Value.slice aX (lms F).length cX, Value.bool (sgn 1), Value.slice bX (lms 1).length eX] 28)).heap.size := by simp only [World.size_alloc]; omega
  have hbn := (bl_alloc (bl_refl w7) (Obj.cells #[Value.bool (sgn F), Value.slice aX (lms F).length cX, Value.bool (sgn 1), Value.slice bX (lms 1).length eX] 28))
  replace HROW := hide (HROW.out.bel hbn)
  replace kR0 := (hbn.cell (p := ⟨w1.heap.size, 0, none⟩) zR).trans kR0
  replace kR1 := (hbn.cell (p := ⟨w1.heap.size, 1, none⟩) zR).trans kR1
  replace kR2 := (hbn.cell (p := ⟨w1.heap.size, 2, none⟩) zR).trans kR2
  replace kR3 := (hbn.cell (p := ⟨w1.heap.size, 3, none⟩) zR).trans kR3
  replace zR := Nat.lt_of_lt_of_le zR hbn.size
  replace S1 := hide (S1.out.below hbn)
  replace T1 := hide (T1.out.below hbn)
  replace SX := hide (SX.out.below hbn)
  replace TX := hide (TX.out.below hbn)
  replace HB := hide (bl_trans HB.out hbn)
  clear hbn
  generalize (w7.alloc (Obj.cells #[Value.bool (sgn F), Value.slice aX (lms F).length cX, Value.bool (sgn 1), Value.slice bX (lms 1).length eX] 28)) = w8 at *
  go_cut [6, 7] (fun s0 t0 wc => ∃ (N0 : Nat) (aC : Option Addr) (cC : Nat) (bC : Option Addr) (eC : Nat), s0 = .pointer (some ⟨N0, 0, none⟩) ∧ t0 = .bool (rtT (ratB (sgn F) (lms F) (sgn 1) (lms 1) && ratB (sgn 1) (lms 1) (sgn 1) (lms 1)) (addZ (mulZ (mk (sgn F) (Num.nat (lms F))) (mk (sgn 1) (Num.nat (lms 1)))) (mulZ (mk (sgn 1) (Num.nat (lms 1))) (mk (sgn 1) (Num.nat (lms 1))))) (mulZ (mk (sgn 1) (Num.nat (lms 1))) (mk (sgn 1) (Num.nat (lms 1))))) ∧ Hid (w8.heap.size ≤ N0 ∧ N0 < wc.heap.size ∧ wc.cell? ⟨N0, 0, none⟩ = some (Value.bool (sgn (rtN (ratB (sgn F) (lms F) (sgn 1) (lms 1) && ratB (sgn 1) (lms 1) (sgn 1) (lms 1)) (addZ (mulZ (mk (sgn F) (Num.nat (lms F))) (mk (sgn 1) (Num.nat (lms 1)))) (mulZ (mk (sgn 1) (Num.nat (lms 1))) (mk (sgn 1) (Num.nat (lms 1))))) (mulZ (mk (sgn 1) (Num.nat (lms 1))) (mk (sgn 1) (Num.nat (lms 1))))))) ∧ wc.cell? ⟨N0, 1, none⟩ = some (Value.slice aC (lms (rtN (ratB (sgn F) (lms F) (sgn 1) (lms 1) && ratB (sgn 1) (lms 1) (sgn 1) (lms 1)) (addZ (mulZ (mk (sgn F) (Num.nat (lms F))) (mk (sgn 1) (Num.nat (lms 1)))) (mulZ (mk (sgn 1) (Num.nat (lms 1))) (mk (sgn 1) (Num.nat (lms 1))))) (mulZ (mk (sgn 1) (Num.nat (lms 1))) (mk (sgn 1) (Num.nat (lms 1)))))).length cC) ∧ wc.cell? ⟨N0, 2, none⟩ = some (Value.bool (sgn (rtD (ratB (sgn F) (lms F) (sgn 1) (lms 1) && ratB (sgn 1) (lms 1) (sgn 1) (lms 1)) (addZ (mulZ (mk (sgn F) (Num.nat (lms F))) (mk (sgn 1) (Num.nat (lms 1)))) (mulZ (mk (sgn 1) (Num.nat (lms 1))) (mk (sgn 1) (Num.nat (lms 1))))) (mulZ (mk (sgn 1) (Num.nat (lms 1))) (mk (sgn 1) (Num.nat (lms 1))))))) ∧ wc.cell? ⟨N0, 3, none⟩ = some (Value.slice bC (lms (rtD (ratB (sgn F) (lms F) (sgn 1) (lms 1) && ratB (sgn 1) (lms 1) (sgn 1) (lms 1)) (addZ (mulZ (mk (sgn F) (Num.nat (lms F))) (mk (sgn 1) (Num.nat (lms 1)))) (mulZ (mk (sgn 1) (Num.nat (lms 1))) (mk (sgn 1) (Num.nat (lms 1))))) (mulZ (mk (sgn 1) (Num.nat (lms 1))) (mk (sgn 1) (Num.nat (lms 1)))))).length eC) ∧ Seg wc aC (lms (rtN (ratB (sgn F) (lms F) (sgn 1) (lms 1) && ratB (sgn 1) (lms 1) (sgn 1) (lms 1)) (addZ (mulZ (mk (sgn F) (Num.nat (lms F))) (mk (sgn 1) (Num.nat (lms 1)))) (mulZ (mk (sgn 1) (Num.nat (lms 1))) (mk (sgn 1) (Num.nat (lms 1))))) (mulZ (mk (sgn 1) (Num.nat (lms 1))) (mk (sgn 1) (Num.nat (lms 1)))))).length cC (lms (rtN (ratB (sgn F) (lms F) (sgn 1) (lms 1) && ratB (sgn 1) (lms 1) (sgn 1) (lms 1)) (addZ (mulZ (mk (sgn F) (Num.nat (lms F))) (mk (sgn 1) (Num.nat (lms 1)))) (mulZ (mk (sgn 1) (Num.nat (lms 1))) (mk (sgn 1) (Num.nat (lms 1))))) (mulZ (mk (sgn 1) (Num.nat (lms 1))) (mk (sgn 1) (Num.nat (lms 1)))))) ∧ Seg wc bC (lms (rtD (ratB (sgn F) (lms F) (sgn 1) (lms 1) && ratB (sgn 1) (lms 1) (sgn 1) (lms 1)) (addZ (mulZ (mk (sgn F) (Num.nat (lms F))) (mk (sgn 1) (Num.nat (lms 1)))) (mulZ (mk (sgn 1) (Num.nat (lms 1))) (mk (sgn 1) (Num.nat (lms 1))))) (mulZ (mk (sgn 1) (Num.nat (lms 1))) (mk (sgn 1) (Num.nat (lms 1)))))).length eC (lms (rtD (ratB (sgn F) (lms F) (sgn 1) (lms 1) && ratB (sgn 1) (lms 1) (sgn 1) (lms 1)) (addZ (mulZ (mk (sgn F) (Num.nat (lms F))) (mk (sgn 1) (Num.nat (lms 1)))) (mulZ (mk (sgn 1) (Num.nat (lms 1))) (mk (sgn 1) (Num.nat (lms 1))))) (mulZ (mk (sgn 1) (Num.nat (lms 1))) (mk (sgn 1) (Num.nat (lms 1)))))) ∧ Below w8.heap.size w8 wc))
  case first =>
    have KP : Hid (∀ w', Below w8.heap.size w8 w' → (w'.cell? ⟨w7.heap.size, 0, none⟩ = some (Value.bool (sgn F)) ∧ w'.cell? ⟨w7.heap.size, 1, none⟩ = some (Value.slice aX (lms F).length cX) ∧ w'.cell? ⟨w7.heap.size, 2, none⟩ = some (Value.bool (sgn 1)) ∧ w'.cell? ⟨w7.heap.size, 3, none⟩ = some (Value.slice bX (lms 1).length eX) ∧ Hid (Below w8.heap.size w8 w'))) := hide (fun w' hb => ⟨(hb.cell (p := ⟨w7.heap.size, 0, none⟩) zX).trans kX0, (hb.cell (p := ⟨w7.heap.size, 1, none⟩) zX).trans kX1, (hb.cell (p := ⟨w7.heap.size, 2, none⟩) zX).trans kX2, (hb.cell (p := ⟨w7.heap.size, 3, none⟩) zX).trans kX3, hide hb⟩)
    go_region_held3 (fun w' => w'.cell? ⟨w7.heap.size, 0, none⟩ = some (Value.bool (sgn F)) ∧ w'.cell? ⟨w7.heap.size, 1, none⟩ = some (Value.slice aX (lms F).length cX) ∧ w'.cell? ⟨w7.heap.size, 2, none⟩ = some (Value.bool (sgn 1)) ∧ w'.cell? ⟨w7.heap.size, 3, none⟩ = some (Value.slice bX (lms 1).length eX) ∧ Hid (Below w8.heap.size w8 w'))
      (first | with_reducible exact KP.out _ (bl_refl w8).drew | with_reducible exact KP.out _ bC | with_reducible exact KP.out _ bA | exact KP.out _ (by repeat first | with_reducible exact bC | with_reducible exact bA | with_reducible exact (bl_refl w8).drew | with_reducible exact bl_refl w8 | refine bl_alloc ?_ _ | refine bl_trans ?_ (bl_refl _).drew | refine Below.setCell ?_ (by first | omega | (dsimp only; omega) | (dsimp only; rw [World.size_drew]; omega)) _))
      (first
        | (go_at_call 19; refine (power0 a0 len0 cap0 _ (HROW.out.bel (Hid.out (And.right (And.right (And.right (And.right (by assumption))))))) hl2).mono ?_; rintro e wA ⟨d1, f1, d2, f2, rfl, ho1, ho2, hbA⟩; have bA : Below w8.heap.size w8 wA := bl_trans (Hid.out (And.right (And.right (And.right (And.right (by assumption)))))) hbA; have yA := bA.size; have HP1 := hide ho1.seg; have HP2 := hide ho2.seg; clear ho1 ho2; (first | have HZa0 := hide (show Zr4 wA w8.heap.size from born4 hbA) | have HZa0 := hide (show Zr4 wA w8.heap.size from born4 (bl_trans (bl_refl (w8.alloc (Obj.cells #[Value.bool false, Value.slice none 0 0, Value.bool false, Value.slice none 0 0] 28))).drew hbA)) | skip); (try have zza0 := HZa0.out.1); clear hbA)
        | (go_at_call 7; refine (RatAddP (sgn F) (lms F) (sgn 1) (lms 1) (sgn 1) (lms 1) (sgn 1) (lms 1) aX cX bX eX d1 f1 d2 f2 _ (SX.out.below (Hid.out (And.right (And.right (And.right (And.right (by assumption))))))) (TX.out.below (Hid.out (And.right (And.right (And.right (And.right (by assumption))))))) (HP1.out.below (by first | exact bl_refl _ | exact bl_alloc (bl_refl _) _ | exact bl_alloc (bl_alloc (bl_refl _) _) _)) (HP2.out.below (by first | exact bl_refl _ | exact bl_alloc (bl_refl _) _ | exact bl_alloc (bl_alloc (bl_refl _) _) _))).mono ?_; rintro e wC ⟨aC, cC, bC', eC, rfl, ho3, ho4, -, hbC⟩; have bAC : Below wA.heap.size wA wC := (by first | exact hbC | exact bl_one hbC | exact bl_two hbC); have bC : Below w8.heap.size w8 wC := bl_trans bA bAC; have yC := bAC.size; have R1 := hide ho3.rgs; have R2 := hide ho4.rgs; clear ho3 ho4; (try replace HZa0 := hide (HZa0.out.below bAC)); (first | have HZc0 := hide (show Zr4 wC wA.heap.size from born4 hbC) | have HZc0 := hide (show Zr4 wC wA.heap.size from born4 (bl_trans (bl_refl (wA.alloc (Obj.cells #[Value.bool false, Value.slice none 0 0, Value.bool false, Value.slice none 0 0] 28))).drew hbC)) | skip); (try have Qa0 := HZa0.out); (try obtain ⟨za0, ka0_0, ka0_1, ka0_2, ka0_3, fa0_0, fa0_1, fa0_2, fa0_3⟩ := HZa0.out); (try have Qc0 := HZc0.out); (try obtain ⟨zc0, kc0_0, kc0_1, kc0_2, kc0_3, fc0_0, fc0_1, fc0_2, fc0_3⟩ := HZc0.out); (try simp only [World.size_drew] at R1 R2); (try simp only [World.size_alloc] at R1 R2); clear hbC))
    all_goals (go_wp2_with fail; go_meet)
    · exact ⟨_, aC, cC, bC', eC, rfl, rfl, hide (res4_b R1.out R2.out bC)⟩
    · exact ⟨_, aC, cC, bC', eC, rfl, rfl, hide (res4_a R1.out R2.out bC Qc0 (by omega) (by omega) (by omega))⟩
    · exact ⟨_, aC, cC, bC', eC, rfl, rfl, hide (res4_a R1.out R2.out bC Qa0 (by omega) (by omega) (by omega))⟩
  case rest =>
  obtain ⟨N0, aC, cC, bC, eC, rfl, rfl, hres⟩ := hcut
  obtain ⟨nN, mN, kY0, kY1, kY2, kY3, gC, gD, hb⟩ := hres.out
  clear hres
  rename World => w9
  have yw9 := hb.size
  replace HROW := hide (HROW.out.bel hb)
  replace kR0 := (hb.cell (p := ⟨w1.heap.size, 0, none⟩) zR).trans kR0
  replace kR1 := (hb.cell (p := ⟨w1.heap.size, 1, none⟩) zR).trans kR1
  replace kR2 := (hb.cell (p := ⟨w1.heap.size, 2, none⟩) zR).trans kR2
  replace kR3 := (hb.cell (p := ⟨w1.heap.size, 3, none⟩) zR).trans kR3
  replace zR := Nat.lt_of_lt_of_le zR hb.size
  replace kX0 := (hb.cell (p := ⟨w7.heap.size, 0, none⟩) zX).trans kX0
  replace kX1 := (hb.cell (p := ⟨w7.heap.size, 1, none⟩) zX).trans kX1
  replace kX2 := (hb.cell (p := ⟨w7.heap.size, 2, none⟩) zX).trans kX2
  replace kX3 := (hb.cell (p := ⟨w7.heap.size, 3, none⟩) zX).trans kX3
  replace zX := Nat.lt_of_lt_of_le zX hb.size
  replace S1 := hide (S1.out.below hb)
  replace T1 := hide (T1.out.below hb)
  replace SX := hide (SX.out.below hb)
  replace TX := hide (TX.out.below hb)
  replace HB := hide (bl_trans HB.out hb)
  clear hb
  have SC := hide gC
  have TC := hide gD
  clear gC gD
  have zY := mN
  have HLT := hide (fun h => floor_lt HR.out HP.out HFF.out h)
  have hle := floor_le HX.out HR.out HP.out HFF.out
  have HLE := hide hle
  clear hle
  generalize rtN (ratB (sgn F) (lms F) (sgn 1) (lms 1) && ratB (sgn 1) (lms 1) (sgn 1) (lms 1)) (addZ (mulZ (mk (sgn F) (Num.nat (lms F))) (mk (sgn 1) (Num.nat (lms 1)))) (mulZ (mk (sgn 1) (Num.nat (lms 1))) (mk (sgn 1) (Num.nat (lms 1))))) (mulZ (mk (sgn 1) (Num.nat (lms 1))) (mk (sgn 1) (Num.nat (lms 1)))) = YN at *
  generalize rtD (ratB (sgn F) (lms F) (sgn 1) (lms 1) && ratB (sgn 1) (lms 1) (sgn 1) (lms 1)) (addZ (mulZ (mk (sgn F) (Num.nat (lms F))) (mk (sgn 1) (Num.nat (lms 1)))) (mulZ (mk (sgn 1) (Num.nat (lms 1))) (mk (sgn 1) (Num.nat (lms 1))))) (mulZ (mk (sgn 1) (Num.nat (lms 1))) (mk (sgn 1) (Num.nat (lms 1)))) = YD at *
  generalize rtT (ratB (sgn F) (lms F) (sgn 1) (lms 1) && ratB (sgn 1) (lms 1) (sgn 1) (lms 1)) (addZ (mulZ (mk (sgn F) (Num.nat (lms F))) (mk (sgn 1) (Num.nat (lms 1)))) (mulZ (mk (sgn 1) (Num.nat (lms 1))) (mk (sgn 1) (Num.nat (lms 1))))) (mulZ (mk (sgn 1) (Num.nat (lms 1))) (mk (sgn 1) (Num.nat (lms 1)))) = YT at *
  go_wp2_with fail
  refine (RatCmpI (sgn F) (lms F) (sgn 1) (lms 1) (sgn x) (lms x) (sgn y) (lms y) aX cX bX eX a1 c1 b1 e1 _ SX.out TX.out S1.out T1.out).mono ?_
  rintro e w10 ⟨rfl, hb⟩
  have yw10 := hb.size
  replace HROW := hide (HROW.out.bel hb)
  replace kR0 := (hb.cell (p := ⟨w1.heap.size, 0, none⟩) zR).trans kR0
  replace kR1 := (hb.cell (p := ⟨w1.heap.size, 1, none⟩) zR).trans kR1
  replace kR2 := (hb.cell (p := ⟨w1.heap.size, 2, none⟩) zR).trans kR2
  replace kR3 := (hb.cell (p := ⟨w1.heap.size, 3, none⟩) zR).trans kR3
  replace zR := Nat.lt_of_lt_of_le zR hb.size
  replace kX0 := (hb.cell (p := ⟨w7.heap.size, 0, none⟩) zX).trans kX0
  replace kX1 := (hb.cell (p := ⟨w7.heap.size, 1, none⟩) zX).trans kX1
  replace kX2 := (hb.cell (p := ⟨w7.heap.size, 2, none⟩) zX).trans kX2
  replace kX3 := (hb.cell (p := ⟨w7.heap.size, 3, none⟩) zX).trans kX3
  replace zX := Nat.lt_of_lt_of_le zX hb.size
  replace kY0 := (hb.cell (p := ⟨N0, 0, none⟩) zY).trans kY0
  replace kY1 := (hb.cell (p := ⟨N0, 1, none⟩) zY).trans kY1
  replace kY2 := (hb.cell (p := ⟨N0, 2, none⟩) zY).trans kY2
  replace kY3 := (hb.cell (p := ⟨N0, 3, none⟩) zY).trans kY3
  replace zY := Nat.lt_of_lt_of_le zY hb.size
  replace S1 := hide (S1.out.below hb)
  replace T1 := hide (T1.out.below hb)
  replace SX := hide (SX.out.below hb)
  replace TX := hide (TX.out.below hb)
  replace SC := hide (SC.out.below hb)
  replace TC := hide (TC.out.below hb)
  replace HB := hide (bl_trans HB.out hb)
  clear hb
  obtain ⟨hc1, hc2⟩ := HLE.out
  generalize rcZ (sgn F) (lms F) (sgn 1) (lms 1) (sgn x) (lms x) (sgn y) (lms y) = cc at *
  clear HLE
  cases YT with
  | false =>
    go_wp2
    go_ret
    exact ⟨rfl, HB.out⟩
  | true =>
  go_wp2_with fail
  refine (RatCmpI (sgn x) (lms x) (sgn y) (lms y) (sgn YN) (lms YN) (sgn YD) (lms YD) a1 c1 b1 e1 aC cC bC eC _ S1.out T1.out SC.out TC.out).mono ?_
  rintro e w11 ⟨rfl, hb⟩
  have yw11 := hb.size
  replace HROW := hide (HROW.out.bel hb)
  replace kR0 := (hb.cell (p := ⟨w1.heap.size, 0, none⟩) zR).trans kR0
  replace kR1 := (hb.cell (p := ⟨w1.heap.size, 1, none⟩) zR).trans kR1
  replace kR2 := (hb.cell (p := ⟨w1.heap.size, 2, none⟩) zR).trans kR2
  replace kR3 := (hb.cell (p := ⟨w1.heap.size, 3, none⟩) zR).trans kR3
  replace zR := Nat.lt_of_lt_of_le zR hb.size
  replace kX0 := (hb.cell (p := ⟨w7.heap.size, 0, none⟩) zX).trans kX0
  replace kX1 := (hb.cell (p := ⟨w7.heap.size, 1, none⟩) zX).trans kX1
  replace kX2 := (hb.cell (p := ⟨w7.heap.size, 2, none⟩) zX).trans kX2
  replace kX3 := (hb.cell (p := ⟨w7.heap.size, 3, none⟩) zX).trans kX3
  replace zX := Nat.lt_of_lt_of_le zX hb.size
  replace kY0 := (hb.cell (p := ⟨N0, 0, none⟩) zY).trans kY0
  replace kY1 := (hb.cell (p := ⟨N0, 1, none⟩) zY).trans kY1
  replace kY2 := (hb.cell (p := ⟨N0, 2, none⟩) zY).trans kY2
  replace kY3 := (hb.cell (p := ⟨N0, 3, none⟩) zY).trans kY3
  replace zY := Nat.lt_of_lt_of_le zY hb.size
  replace S1 := hide (S1.out.below hb)
  replace T1 := hide (T1.out.below hb)
  replace SX := hide (SX.out.below hb)
  replace TX := hide (TX.out.below hb)
  replace SC := hide (SC.out.below hb)
  replace TC := hide (TC.out.below hb)
  replace HB := hide (bl_trans HB.out hb)
  clear hb
  rw [HLT.out (by trivial)]
  go_wp2
  go_ret
  exact ⟨rfl, HB.out⟩

end Go.Proofs.Ytpjckilmbidbgaa
