/- The walk of the specification's RatOk. -/
import Derived.Test.YtbnjgfaojaimlaaRatOkI
import Derived.Test.YtbnjgfaojaimlaaGcdS
import Derived.Test.YtbnjgfaojaimlaaPowS
namespace Go.Proofs.Ytbnjgfaojaimlaa
open Go.RowKit
set_option linter.unusedVariables false

set_option maxHeartbeats 4000000 in
set_option maxRecDepth 20000 in
theorem RatOkQ (n : Bool) (xs : List Nat) (m : Bool) (ys : List Nat) (a : Option Addr) (c : Nat) (b : Option Addr) (d : Nat) (w : World) (s1 : Seg w a xs.length c xs) (s2 : Seg w b ys.length d ys) :
    Calls Try.prog 33 #[(.agg #[.bool n, .slice a xs.length c, .bool m, .slice b ys.length d])] w fun e w' => e = .returned (.bool (ratB n xs m ys)) ∧ Below w.heap.size w w' := by
  have H1 := hide s1
  have H2 := hide s2
  clear s1 s2
  have kA0 : (w.alloc (Obj.cells #[Value.bool n, Value.slice a xs.length c, Value.bool m, Value.slice b ys.length d] 37)).cell? ⟨w.heap.size, 0, none⟩ = some (Value.bool n) := by go_simp
  have kA1 : (w.alloc (Obj.cells #[Value.bool n, Value.slice a xs.length c, Value.bool m, Value.slice b ys.length d] 37)).cell? ⟨w.heap.size, 1, none⟩ = some (Value.slice a xs.length c) := by go_simp
  have kA2 : (w.alloc (Obj.cells #[Value.bool n, Value.slice a xs.length c, Value.bool m, Value.slice b ys.length d] 37)).cell? ⟨w.heap.size, 2, none⟩ = some (Value.bool m) := by go_simp
  have kA3 : (w.alloc (Obj.cells #[Value.bool n, Value.slice a xs.length c, Value.bool m, Value.slice b ys.length d] 37)).cell? ⟨w.heap.size, 3, none⟩ = some (Value.slice b ys.length d) := by go_simp
  have zA : w.heap.size < (w.alloc (Obj.cells #[Value.bool n, Value.slice a xs.length c, Value.bool m, Value.slice b ys.length d] 37)).heap.size := by simp only [World.size_alloc]; omega
  have HB := hide (bl_alloc (bl_refl w) (Obj.cells #[Value.bool n, Value.slice a xs.length c, Value.bool m, Value.slice b ys.length d] 37))
  replace H1 := hide (H1.out.below HB.out)
  replace H2 := hide (H2.out.below HB.out)
  have y0 : w.heap.size + 1 ≤ (w.alloc (Obj.cells #[Value.bool n, Value.slice a xs.length c, Value.bool m, Value.slice b ys.length d] 37)).heap.size := by simp only [World.size_alloc]; omega
  go_enter Try.func33, Try.ntmps33
  go_wp2_with fail
  generalize (w.alloc (Obj.cells #[Value.bool n, Value.slice a xs.length c, Value.bool m, Value.slice b ys.length d] 37)) = w1 at *
  refine (okS _ n xs _ ⟨a, c, rfl, H1.out⟩).mono ?_
  rintro e w2 ⟨rfl, hbw2⟩
  have yw2 := hbw2.size
  replace kA0 := (hbw2.cell (p := ⟨w.heap.size, 0, none⟩) zA).trans kA0
  replace kA1 := (hbw2.cell (p := ⟨w.heap.size, 1, none⟩) zA).trans kA1
  replace kA2 := (hbw2.cell (p := ⟨w.heap.size, 2, none⟩) zA).trans kA2
  replace kA3 := (hbw2.cell (p := ⟨w.heap.size, 3, none⟩) zA).trans kA3
  replace zA := Nat.lt_of_lt_of_le zA hbw2.size
  replace H1 := hide (H1.out.below hbw2)
  replace H2 := hide (H2.out.below hbw2)
  replace HB := hide (bl_trans HB.out hbw2)
  clear hbw2
  cases e1 : okB n xs with
  | false =>
    have HE : Hid (ratB n xs m ys = false) := hide (by unfold ratB; rw [e1]; rfl)
    clear e1
    go_wp2
    go_ret
    exact ⟨ret_bool HE.out.symm, HB.out⟩
  | true =>
  have E1 := hide e1
  clear e1
  go_wp2_with fail
  refine (okS _ m ys _ ⟨b, d, rfl, H2.out⟩).mono ?_
  rintro e w3 ⟨rfl, hbw3⟩
  have yw3 := hbw3.size
  replace kA0 := (hbw3.cell (p := ⟨w.heap.size, 0, none⟩) zA).trans kA0
  replace kA1 := (hbw3.cell (p := ⟨w.heap.size, 1, none⟩) zA).trans kA1
  replace kA2 := (hbw3.cell (p := ⟨w.heap.size, 2, none⟩) zA).trans kA2
  replace kA3 := (hbw3.cell (p := ⟨w.heap.size, 3, none⟩) zA).trans kA3
  replace zA := Nat.lt_of_lt_of_le zA hbw3.size
  replace H1 := hide (H1.out.below hbw3)
  replace H2 := hide (H2.out.below hbw3)
  replace HB := hide (bl_trans HB.out hbw3)
  clear hbw3
  cases e2 : okB m ys with
  | false =>
    have HE : Hid (ratB n xs m ys = false) := hide (by unfold ratB; rw [e2, Bool.and_false]; rfl)
    clear e2
    go_wp2
    go_ret
    exact ⟨ret_bool HE.out.symm, HB.out⟩
  | true =>
  have E2 := hide e2
  clear e2
  obtain ⟨x, rfl, rfl, hx⟩ := ok_num H1.out.2.2.2.1 E1.out
  obtain ⟨y, rfl, rfl, hy⟩ := ok_num H2.out.2.2.2.1 E2.out
  have HR : Hid (ratB (sgn x) (lms x) (sgn y) (lms y) = (decide (0 < y) && decide (Int.gcd x y = 1))) := hide (by unfold ratB; rw [E1.out, E2.out, nat_lms, nat_lms, mk_self, mk_self]; rfl)
  have lx : (lms x).length ≤ 40 := Num.limbs_len.2 hx
  have ly : (lms y).length ≤ 40 := Num.limbs_len.2 hy
  clear hx hy
  by_cases hy0 : 0 < y
  · have hs : sgn y = false := decide_eq_false (by omega)
    have hl : (((lms y).length : Int) == 0) = false := by rw [beq_eq_false_iff_ne]; intro e; have := sgn_lms_nil (z := y) (by omega); omega
    have HE : Hid (ratB (sgn x) (lms x) (sgn y) (lms y) = decide (Int.gcd x y = 1)) := hide (by rw [HR.out, decide_eq_true hy0, Bool.true_and])
    go_upto_region 3 with fail
    clear hs hl
    go_wp2_with fail
    refine (gcdS (.agg #[.bool (sgn x), .slice a (lms x).length c]) (.agg #[.bool (sgn y), .slice b (lms y).length d]) x y _ ⟨a, c, rfl, H1.out⟩ ⟨b, d, rfl, H2.out⟩ (by omega) (by omega)).mono ?_
    rintro e w4 ⟨v5, rfl, hn5, hbw4⟩
    have yw4 := hbw4.size
    replace kA0 := (hbw4.cell (p := ⟨w.heap.size, 0, none⟩) zA).trans kA0
    replace kA1 := (hbw4.cell (p := ⟨w.heap.size, 1, none⟩) zA).trans kA1
    replace kA2 := (hbw4.cell (p := ⟨w.heap.size, 2, none⟩) zA).trans kA2
    replace kA3 := (hbw4.cell (p := ⟨w.heap.size, 3, none⟩) zA).trans kA3
    replace zA := Nat.lt_of_lt_of_le zA hbw4.size
    replace H1 := hide (H1.out.below hbw4)
    replace H2 := hide (H2.out.below hbw4)
    replace HB := hide (bl_trans HB.out hbw4)
    obtain ⟨a5, c5, rfl, ho5⟩ := hn5
    have HG := hide ho5.1
    clear ho5
    clear hbw4
    go_upto_region 4 with fail
    have kQ0 : (w4.alloc (Obj.cells #[Value.bool (sgn (Int.gcd x y : Int)), Value.slice a5 (lms (Int.gcd x y : Int)).length c5] 26)).cell? ⟨w4.heap.size, 0, none⟩ = some (Value.bool (sgn (Int.gcd x y : Int))) := by go_simp
    have kQ1 : (w4.alloc (Obj.cells #[Value.bool (sgn (Int.gcd x y : Int)), Value.slice a5 (lms (Int.gcd x y : Int)).length c5] 26)).cell? ⟨w4.heap.size, 1, none⟩ = some (Value.slice a5 (lms (Int.gcd x y : Int)).length c5) := by go_simp
    have zQ : w4.heap.size < (w4.alloc (Obj.cells #[Value.bool (sgn (Int.gcd x y : Int)), Value.slice a5 (lms (Int.gcd x y : Int)).length c5] 26)).heap.size := by simp only [World.size_alloc]; omega
    have yw5 : w4.heap.size + 1 ≤ (w4.alloc (Obj.cells #[Value.bool (sgn (Int.gcd x y : Int)), Value.slice a5 (lms (Int.gcd x y : Int)).length c5] 26)).heap.size := by simp only [World.size_alloc]; omega
    have hbw5 := (bl_alloc (bl_refl w4) (Obj.cells #[Value.bool (sgn (Int.gcd x y : Int)), Value.slice a5 (lms (Int.gcd x y : Int)).length c5] 26))
    generalize (w4.alloc (Obj.cells #[Value.bool (sgn (Int.gcd x y : Int)), Value.slice a5 (lms (Int.gcd x y : Int)).length c5] 26)) = w5 at *
    replace kA0 := (hbw5.cell (p := ⟨w.heap.size, 0, none⟩) zA).trans kA0
    replace kA1 := (hbw5.cell (p := ⟨w.heap.size, 1, none⟩) zA).trans kA1
    replace kA2 := (hbw5.cell (p := ⟨w.heap.size, 2, none⟩) zA).trans kA2
    replace kA3 := (hbw5.cell (p := ⟨w.heap.size, 3, none⟩) zA).trans kA3
    replace zA := Nat.lt_of_lt_of_le zA hbw5.size
    replace H1 := hide (H1.out.below hbw5)
    replace H2 := hide (H2.out.below hbw5)
    replace HG := hide (HG.out.below hbw5)
    replace HB := hide (bl_trans HB.out hbw5)
    clear hbw5
    by_cases hg : Int.gcd x y = 1
    · rw [decide_eq_true hg] at HE
      have e1 : lms (Int.gcd x y : Int) = [1] := by rw [hg]; unfold lms; rw [show Int.natAbs ((1 : Nat) : Int) = 1 from rfl, Num.limbs_pos (by decide)]; simp [Num.limbs_zero]
      have hcap := HG.out.2.1
      have hcm := HG.out.2.2.1
      obtain ⟨g5, o5, rfl, hg5, hc5⟩ := seg_cell HG.out 0 (by rw [e1]; decide)
      have e2 : (lms (Int.gcd x y : Int))[0]'(by rw [e1]; decide) = 1 := by simp [e1]
      rw [e2, Nat.add_zero] at hc5
      have hl1 : (((lms (Int.gcd x y : Int)).length : Int) == 1) = true := by rw [e1]; rfl
      have hl2 : (0 : Int) < ((lms (Int.gcd x y : Int)).length : Int) := by rw [e1]; decide
      clear e1 e2 hg
      generalize (lms (Int.gcd x y : Int)).length = L at *
      generalize sgn (Int.gcd x y : Int) = G at *
      go_wp2
      go_ret
      exact ⟨ret_bool HE.out.symm, HB.out⟩
    · rw [decide_eq_false hg] at HE
      by_cases hlen : (lms (Int.gcd x y : Int)).length = 1
      · have hcap := HG.out.2.1
        have hcm := HG.out.2.2.1
        obtain ⟨g5, o5, rfl, hg5, hc5⟩ := seg_cell HG.out 0 (by omega)
        have hne : ((((lms (Int.gcd x y : Int))[0]'(by omega) : Nat) : Int) == 1) = false := by rw [beq_eq_false_iff_ne]; intro e; exact hg (by have := abs_one hlen (by omega); omega)
        rw [Nat.add_zero] at hc5
        generalize (lms (Int.gcd x y : Int))[0]'_ = l0 at *
        have hl1 : (((lms (Int.gcd x y : Int)).length : Int) == 1) = true := by rw [hlen]; rfl
        have hl2 : (0 : Int) < ((lms (Int.gcd x y : Int)).length : Int) := by omega
        clear hlen hg
        generalize (lms (Int.gcd x y : Int)).length = L at *
        generalize sgn (Int.gcd x y : Int) = G at *
        go_wp2
        go_ret
        exact ⟨ret_bool HE.out.symm, HB.out⟩
      · have hl1 : (((lms (Int.gcd x y : Int)).length : Int) == 1) = false := by rw [beq_eq_false_iff_ne]; omega
        clear hlen hg
        generalize (lms (Int.gcd x y : Int)).length = L at *
        generalize sgn (Int.gcd x y : Int) = G at *
        go_wp2
        go_ret
        exact ⟨ret_bool HE.out.symm, HB.out⟩
  · have HE : Hid (ratB (sgn x) (lms x) (sgn y) (lms y) = false) := hide (by rw [HR.out, decide_eq_false hy0]; rfl)
    by_cases hyn : y < 0
    · have hs : sgn y = true := decide_eq_true hyn
      go_wp2
      go_ret
      exact ⟨ret_bool HE.out.symm, HB.out⟩
    · have hs : sgn y = false := decide_eq_false hyn
      have hl : (((lms y).length : Int) == 0) = true := by rw [show y = 0 by omega, zero_lms]; rfl
      go_wp2
      go_ret
      exact ⟨ret_bool HE.out.symm, HB.out⟩

end Go.Proofs.Ytbnjgfaojaimlaa
