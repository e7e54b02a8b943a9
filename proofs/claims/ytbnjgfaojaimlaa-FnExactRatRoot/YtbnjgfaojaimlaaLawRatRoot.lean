/- The walk of the exact law of RatRoot. -/
import Derived.Test.YtbnjgfaojaimlaaRrA
import Derived.Test.YtbnjgfaojaimlaaRatL
import Derived.Test.YtbnjgfaojaimlaaLawKit
import Derived.Test.YtbnjgfaojaimlaaLawBase
namespace Go.Proofs.Ytbnjgfaojaimlaa
open Go.RowKit
set_option linter.unusedVariables false

theorem rr_len (n1 : Bool) (xs1 : List Nat) (m1 : Bool) (ys1 : List Nat) (k : Int) (h1 : Num.Small xs1) (h2 : Num.Small ys1) : (lms (rrN n1 xs1 m1 ys1 k)).length ≤ 40 ∧ (lms (rrD n1 xs1 m1 ys1 k)).length ≤ 40 := by
  cases h : rrB n1 xs1 m1 ys1 k with
  | false => obtain ⟨e1, e2⟩ := rr_f h; rw [e1, e2, zero_lms]; decide
  | true => obtain ⟨e1, e2⟩ := rr_t h; rw [e1, e2]; exact ⟨rt_len _ _ _ h1, rt_len _ _ _ h2⟩

set_option maxHeartbeats 40000000 in
set_option maxRecDepth 20000 in
theorem walk4 (n1n : Bool) (a1n : Option Addr) (c1n : Nat) (xs1n : List Nat) (n1d : Bool) (a1d : Option Addr) (c1d : Nat) (xs1d : List Nat) (n : Int) (w : World) (s1n : Seg w a1n xs1n.length c1n xs1n) (s1d : Seg w a1d xs1d.length c1d xs1d) (hi1 : -9223372036854775808 ≤ n) (hi2 : n ≤ 9223372036854775807) :
    Calls Try.prog 4 #[Value.agg #[Value.bool n1n, Value.slice a1n xs1n.length c1n, Value.bool n1d, Value.slice a1d xs1d.length c1d], .int .i64 n] w fun e w' => e = .returned (.bool true) ∧ Below w.heap.size w w' := by
  have hL0 : (lms (rrN n1n xs1n n1d xs1d n)).length ≤ 40 := (rr_len _ _ _ _ _ s1n.2.2.2.1 s1d.2.2.2.1).1
  have hL1 : (lms (rrD n1n xs1n n1d xs1d n)).length ≤ 40 := (rr_len _ _ _ _ _ s1n.2.2.2.1 s1d.2.2.2.1).2
  have A1n := hide s1n
  have hn1n := s1n.le
  have A1d := hide s1d
  have hn1d := s1d.le
  have k1_0 : (w.alloc (Obj.cells #[Value.bool n1n, Value.slice a1n xs1n.length c1n, Value.bool n1d, Value.slice a1d xs1d.length c1d] 34)).cell? ⟨w.heap.size, 0, none⟩ = some (Value.bool n1n) := by go_simp
  have k1_1 : (w.alloc (Obj.cells #[Value.bool n1n, Value.slice a1n xs1n.length c1n, Value.bool n1d, Value.slice a1d xs1d.length c1d] 34)).cell? ⟨w.heap.size, 1, none⟩ = some (Value.slice a1n xs1n.length c1n) := by go_simp
  have k1_2 : (w.alloc (Obj.cells #[Value.bool n1n, Value.slice a1n xs1n.length c1n, Value.bool n1d, Value.slice a1d xs1d.length c1d] 34)).cell? ⟨w.heap.size, 2, none⟩ = some (Value.bool n1d) := by go_simp
  have k1_3 : (w.alloc (Obj.cells #[Value.bool n1n, Value.slice a1n xs1n.length c1n, Value.bool n1d, Value.slice a1d xs1d.length c1d] 34)).cell? ⟨w.heap.size, 3, none⟩ = some (Value.slice a1d xs1d.length c1d) := by go_simp
  have z1 : w.heap.size < (w.alloc (Obj.cells #[Value.bool n1n, Value.slice a1n xs1n.length c1n, Value.bool n1d, Value.slice a1d xs1d.length c1d] 34)).heap.size := by simp only [World.size_alloc]; omega
  have S1n := hide (s1n.below (bl_alloc (bl_refl w) (Obj.cells #[Value.bool n1n, Value.slice a1n xs1n.length c1n, Value.bool n1d, Value.slice a1d xs1d.length c1d] 34)))
  clear s1n
  have S1d := hide (s1d.below (bl_alloc (bl_refl w) (Obj.cells #[Value.bool n1n, Value.slice a1n xs1n.length c1n, Value.bool n1d, Value.slice a1d xs1d.length c1d] 34)))
  clear s1d
  have HB := hide (bl_alloc (bl_refl w) (Obj.cells #[Value.bool n1n, Value.slice a1n xs1n.length c1n, Value.bool n1d, Value.slice a1d xs1d.length c1d] 34))
  have y0 : w.heap.size + 1 ≤ (w.alloc (Obj.cells #[Value.bool n1n, Value.slice a1n xs1n.length c1n, Value.bool n1d, Value.slice a1d xs1d.length c1d] 34)).heap.size := by simp only [World.size_alloc]; omega
  go_enter Try.func4, Try.ntmps4
  go_wp2_with fail
  generalize (w.alloc (Obj.cells #[Value.bool n1n, Value.slice a1n xs1n.length c1n, Value.bool n1d, Value.slice a1d xs1d.length c1d] 34)) = w1 at *
  refine (szR n1n a1n xs1n.length c1n n1d a1d xs1d.length c1d (1048576) _ hn1n hn1d (by omega) (by omega)).mono ?_
  rintro e w2 ⟨rfl, hbw2⟩
  have yw2 := hbw2.size
  replace k1_0 := (hbw2.cell (p := ⟨w.heap.size, 0, none⟩) z1).trans k1_0
  replace k1_1 := (hbw2.cell (p := ⟨w.heap.size, 1, none⟩) z1).trans k1_1
  replace k1_2 := (hbw2.cell (p := ⟨w.heap.size, 2, none⟩) z1).trans k1_2
  replace k1_3 := (hbw2.cell (p := ⟨w.heap.size, 3, none⟩) z1).trans k1_3
  replace z1 := Nat.lt_of_lt_of_le z1 hbw2.size
  replace S1n := hide (S1n.out.below hbw2)
  replace S1d := hide (S1d.out.below hbw2)
  replace HB := hide (bl_trans HB.out hbw2)
  clear hbw2
  by_cases hbig1n : (1048576 : Int) < (xs1n.length : Int)
  · rw [if_pos hbig1n]
    go_wp2
    go_ret
    exact ⟨rfl, HB.out⟩
  rw [if_neg hbig1n]
  by_cases hbig1d : (1048576 - (xs1n.length : Int) : Int) < (xs1d.length : Int)
  · rw [if_pos hbig1d]
    go_wp2
    go_ret
    exact ⟨rfl, HB.out⟩
  rw [if_neg hbig1d]
  go_wp2_with fail
  refine (toR n1n a1n c1n xs1n n1d a1d c1d xs1d _ S1n.out S1d.out (by omega) (by omega)).mono ?_
  rintro e w3 ⟨auWn, cuWn, auWd, cuWd, rfl, houWn, houWd, hapuW, hbw3⟩
  have yw3 := hbw3.size
  replace k1_0 := (hbw3.cell (p := ⟨w.heap.size, 0, none⟩) z1).trans k1_0
  replace k1_1 := (hbw3.cell (p := ⟨w.heap.size, 1, none⟩) z1).trans k1_1
  replace k1_2 := (hbw3.cell (p := ⟨w.heap.size, 2, none⟩) z1).trans k1_2
  replace k1_3 := (hbw3.cell (p := ⟨w.heap.size, 3, none⟩) z1).trans k1_3
  replace z1 := Nat.lt_of_lt_of_le z1 hbw3.size
  replace S1n := hide (S1n.out.below hbw3)
  replace S1d := hide (S1d.out.below hbw3)
  replace HB := hide (bl_trans HB.out hbw3)
  clear hbw3
  have HuWn := hide houWn.seg
  clear houWn
  have HuWd := hide houWd.seg
  clear houWd
  clear hapuW
  go_wp2_with fail
  refine (ratRootQ n1n xs1n n1d xs1d n auWn cuWn auWd cuWd _ (HuWn.out) (HuWd.out) hi1 hi2).mono ?_
  rintro e w4 ⟨aW0n, cW0n, aW0d, cW0d, rfl, hoW0n, hoW0d, hapW01, hbw4⟩
  have yw4 := hbw4.size
  replace k1_0 := (hbw4.cell (p := ⟨w.heap.size, 0, none⟩) z1).trans k1_0
  replace k1_1 := (hbw4.cell (p := ⟨w.heap.size, 1, none⟩) z1).trans k1_1
  replace k1_2 := (hbw4.cell (p := ⟨w.heap.size, 2, none⟩) z1).trans k1_2
  replace k1_3 := (hbw4.cell (p := ⟨w.heap.size, 3, none⟩) z1).trans k1_3
  replace z1 := Nat.lt_of_lt_of_le z1 hbw4.size
  replace S1n := hide (S1n.out.below hbw4)
  replace S1d := hide (S1d.out.below hbw4)
  replace HuWn := hide (HuWn.out.below hbw4)
  replace HuWd := hide (HuWd.out.below hbw4)
  replace HB := hide (bl_trans HB.out hbw4)
  clear hbw4
  clear HuWn
  clear HuWd
  have SW0n := hide hoW0n.seg
  have AW0n := SW0n
  clear hoW0n
  have SW0d := hide hoW0d.seg
  have AW0d := SW0d
  clear hoW0d
  try clear hapW01
  go_wp2_with fail
  have kW0_0 : (w4.alloc (Obj.cells #[Value.bool (sgn (rrN n1n xs1n n1d xs1d n)), Value.slice aW0n (lms (rrN n1n xs1n n1d xs1d n)).length cW0n, Value.bool (sgn (rrD n1n xs1n n1d xs1d n)), Value.slice aW0d (lms (rrD n1n xs1n n1d xs1d n)).length cW0d] 37)).cell? ⟨w4.heap.size, 0, none⟩ = some (Value.bool (sgn (rrN n1n xs1n n1d xs1d n))) := by go_simp
  have kW0_1 : (w4.alloc (Obj.cells #[Value.bool (sgn (rrN n1n xs1n n1d xs1d n)), Value.slice aW0n (lms (rrN n1n xs1n n1d xs1d n)).length cW0n, Value.bool (sgn (rrD n1n xs1n n1d xs1d n)), Value.slice aW0d (lms (rrD n1n xs1n n1d xs1d n)).length cW0d] 37)).cell? ⟨w4.heap.size, 1, none⟩ = some (Value.slice aW0n (lms (rrN n1n xs1n n1d xs1d n)).length cW0n) := by go_simp
  have kW0_2 : (w4.alloc (Obj.cells #[Value.bool (sgn (rrN n1n xs1n n1d xs1d n)), Value.slice aW0n (lms (rrN n1n xs1n n1d xs1d n)).length cW0n, Value.bool (sgn (rrD n1n xs1n n1d xs1d n)), Value.slice aW0d (lms (rrD n1n xs1n n1d xs1d n)).length cW0d] 37)).cell? ⟨w4.heap.size, 2, none⟩ = some (Value.bool (sgn (rrD n1n xs1n n1d xs1d n))) := by go_simp
  have kW0_3 : (w4.alloc (Obj.cells #[Value.bool (sgn (rrN n1n xs1n n1d xs1d n)), Value.slice aW0n (lms (rrN n1n xs1n n1d xs1d n)).length cW0n, Value.bool (sgn (rrD n1n xs1n n1d xs1d n)), Value.slice aW0d (lms (rrD n1n xs1n n1d xs1d n)).length cW0d] 37)).cell? ⟨w4.heap.size, 3, none⟩ = some (Value.slice aW0d (lms (rrD n1n xs1n n1d xs1d n)).length cW0d) := by go_simp
  have zW0 : w4.heap.size < (w4.alloc (Obj.cells #[Value.bool (sgn (rrN n1n xs1n n1d xs1d n)), Value.slice aW0n (lms (rrN n1n xs1n n1d xs1d n)).length cW0n, Value.bool (sgn (rrD n1n xs1n n1d xs1d n)), Value.slice aW0d (lms (rrD n1n xs1n n1d xs1d n)).length cW0d] 37)).heap.size := by simp only [World.size_alloc]; omega
  have yw5 : w4.heap.size + 1 ≤ (w4.alloc (Obj.cells #[Value.bool (sgn (rrN n1n xs1n n1d xs1d n)), Value.slice aW0n (lms (rrN n1n xs1n n1d xs1d n)).length cW0n, Value.bool (sgn (rrD n1n xs1n n1d xs1d n)), Value.slice aW0d (lms (rrD n1n xs1n n1d xs1d n)).length cW0d] 37)).heap.size := by simp only [World.size_alloc]; omega
  have hbw5 := (bl_alloc (bl_refl w4) (Obj.cells #[Value.bool (sgn (rrN n1n xs1n n1d xs1d n)), Value.slice aW0n (lms (rrN n1n xs1n n1d xs1d n)).length cW0n, Value.bool (sgn (rrD n1n xs1n n1d xs1d n)), Value.slice aW0d (lms (rrD n1n xs1n n1d xs1d n)).length cW0d] 37))
  generalize (w4.alloc (Obj.cells #[Value.bool (sgn (rrN n1n xs1n n1d xs1d n)), Value.slice aW0n (lms (rrN n1n xs1n n1d xs1d n)).length cW0n, Value.bool (sgn (rrD n1n xs1n n1d xs1d n)), Value.slice aW0d (lms (rrD n1n xs1n n1d xs1d n)).length cW0d] 37)) = w5 at *
  replace k1_0 := (hbw5.cell (p := ⟨w.heap.size, 0, none⟩) z1).trans k1_0
  replace k1_1 := (hbw5.cell (p := ⟨w.heap.size, 1, none⟩) z1).trans k1_1
  replace k1_2 := (hbw5.cell (p := ⟨w.heap.size, 2, none⟩) z1).trans k1_2
  replace k1_3 := (hbw5.cell (p := ⟨w.heap.size, 3, none⟩) z1).trans k1_3
  replace z1 := Nat.lt_of_lt_of_le z1 hbw5.size
  replace S1n := hide (S1n.out.below hbw5)
  replace S1d := hide (S1d.out.below hbw5)
  replace SW0n := hide (SW0n.out.below hbw5)
  replace SW0d := hide (SW0d.out.below hbw5)
  replace HB := hide (bl_trans HB.out hbw5)
  clear hbw5
  refine (toR n1n a1n c1n xs1n n1d a1d c1d xs1d _ S1n.out S1d.out (by omega) (by omega)).mono ?_
  rintro e w6 ⟨aPn, cPn, aPd, cPd, rfl, hoPn, hoPd, hapP, hbw6⟩
  have yw6 := hbw6.size
  replace k1_0 := (hbw6.cell (p := ⟨w.heap.size, 0, none⟩) z1).trans k1_0
  replace k1_1 := (hbw6.cell (p := ⟨w.heap.size, 1, none⟩) z1).trans k1_1
  replace k1_2 := (hbw6.cell (p := ⟨w.heap.size, 2, none⟩) z1).trans k1_2
  replace k1_3 := (hbw6.cell (p := ⟨w.heap.size, 3, none⟩) z1).trans k1_3
  replace z1 := Nat.lt_of_lt_of_le z1 hbw6.size
  replace kW0_0 := (hbw6.cell (p := ⟨w4.heap.size, 0, none⟩) zW0).trans kW0_0
  replace kW0_1 := (hbw6.cell (p := ⟨w4.heap.size, 1, none⟩) zW0).trans kW0_1
  replace kW0_2 := (hbw6.cell (p := ⟨w4.heap.size, 2, none⟩) zW0).trans kW0_2
  replace kW0_3 := (hbw6.cell (p := ⟨w4.heap.size, 3, none⟩) zW0).trans kW0_3
  replace zW0 := Nat.lt_of_lt_of_le zW0 hbw6.size
  replace S1n := hide (S1n.out.below hbw6)
  replace S1d := hide (S1d.out.below hbw6)
  replace SW0n := hide (SW0n.out.below hbw6)
  replace SW0d := hide (SW0d.out.below hbw6)
  replace HB := hide (bl_trans HB.out hbw6)
  clear hbw6
  have oPn : ∀ k, (Value.slice aPn xs1n.length cPn).ownBlock = some k → w5.heap.size ≤ k ∧ k < w6.heap.size := fun k e => hoPn.1.lt k e
  have HPn := hide hoPn
  clear hoPn
  have oPd : ∀ k, (Value.slice aPd xs1d.length cPd).ownBlock = some k → w5.heap.size ≤ k ∧ k < w6.heap.size := fun k e => hoPd.1.lt k e
  have HPd := hide hoPd
  clear hoPd
  have HAPP := hide hapP
  clear hapP
  go_wp2_with fail
  have kP_0 : (w6.alloc (Obj.cells #[Value.bool n1n, Value.slice aPn xs1n.length cPn, Value.bool n1d, Value.slice aPd xs1d.length cPd] 37)).cell? ⟨w6.heap.size, 0, none⟩ = some (Value.bool n1n) := by go_simp
  have kP_1 : (w6.alloc (Obj.cells #[Value.bool n1n, Value.slice aPn xs1n.length cPn, Value.bool n1d, Value.slice aPd xs1d.length cPd] 37)).cell? ⟨w6.heap.size, 1, none⟩ = some (Value.slice aPn xs1n.length cPn) := by go_simp
  have kP_2 : (w6.alloc (Obj.cells #[Value.bool n1n, Value.slice aPn xs1n.length cPn, Value.bool n1d, Value.slice aPd xs1d.length cPd] 37)).cell? ⟨w6.heap.size, 2, none⟩ = some (Value.bool n1d) := by go_simp
  have kP_3 : (w6.alloc (Obj.cells #[Value.bool n1n, Value.slice aPn xs1n.length cPn, Value.bool n1d, Value.slice aPd xs1d.length cPd] 37)).cell? ⟨w6.heap.size, 3, none⟩ = some (Value.slice aPd xs1d.length cPd) := by go_simp
  have zP : w6.heap.size < (w6.alloc (Obj.cells #[Value.bool n1n, Value.slice aPn xs1n.length cPn, Value.bool n1d, Value.slice aPd xs1d.length cPd] 37)).heap.size := by simp only [World.size_alloc]; omega
  have yw7 : w6.heap.size + 1 ≤ (w6.alloc (Obj.cells #[Value.bool n1n, Value.slice aPn xs1n.length cPn, Value.bool n1d, Value.slice aPd xs1d.length cPd] 37)).heap.size := by simp only [World.size_alloc]; omega
  have hbw7 := (bl_alloc (bl_refl w6) (Obj.cells #[Value.bool n1n, Value.slice aPn xs1n.length cPn, Value.bool n1d, Value.slice aPd xs1d.length cPd] 37))
  generalize (w6.alloc (Obj.cells #[Value.bool n1n, Value.slice aPn xs1n.length cPn, Value.bool n1d, Value.slice aPd xs1d.length cPd] 37)) = w7 at *
  replace k1_0 := (hbw7.cell (p := ⟨w.heap.size, 0, none⟩) z1).trans k1_0
  replace k1_1 := (hbw7.cell (p := ⟨w.heap.size, 1, none⟩) z1).trans k1_1
  replace k1_2 := (hbw7.cell (p := ⟨w.heap.size, 2, none⟩) z1).trans k1_2
  replace k1_3 := (hbw7.cell (p := ⟨w.heap.size, 3, none⟩) z1).trans k1_3
  replace z1 := Nat.lt_of_lt_of_le z1 hbw7.size
  replace kW0_0 := (hbw7.cell (p := ⟨w4.heap.size, 0, none⟩) zW0).trans kW0_0
  replace kW0_1 := (hbw7.cell (p := ⟨w4.heap.size, 1, none⟩) zW0).trans kW0_1
  replace kW0_2 := (hbw7.cell (p := ⟨w4.heap.size, 2, none⟩) zW0).trans kW0_2
  replace kW0_3 := (hbw7.cell (p := ⟨w4.heap.size, 3, none⟩) zW0).trans kW0_3
  replace zW0 := Nat.lt_of_lt_of_le zW0 hbw7.size
  replace S1n := hide (S1n.out.below hbw7)
  replace S1d := hide (S1d.out.below hbw7)
  replace SW0n := hide (SW0n.out.below hbw7)
  replace SW0d := hide (SW0d.out.below hbw7)
  replace HPn := hide (HPn.out.below hbw7)
  replace HPd := hide (HPd.out.below hbw7)
  replace HB := hide (bl_trans HB.out hbw7)
  clear hbw7
  refine (ratRootP n1n xs1n n1d xs1d n aPn cPn aPd cPd _ (HPn.out.seg) (HPd.out.seg) hi1 hi2).mono ?_
  rintro e w8 ⟨aG0n, cG0n, aG0d, cG0d, rfl, hoG0n, hoG0d, hapG01, hbw8⟩
  have yw8 := hbw8.size
  replace k1_0 := (hbw8.cell (p := ⟨w.heap.size, 0, none⟩) z1).trans k1_0
  replace k1_1 := (hbw8.cell (p := ⟨w.heap.size, 1, none⟩) z1).trans k1_1
  replace k1_2 := (hbw8.cell (p := ⟨w.heap.size, 2, none⟩) z1).trans k1_2
  replace k1_3 := (hbw8.cell (p := ⟨w.heap.size, 3, none⟩) z1).trans k1_3
  replace z1 := Nat.lt_of_lt_of_le z1 hbw8.size
  replace kW0_0 := (hbw8.cell (p := ⟨w4.heap.size, 0, none⟩) zW0).trans kW0_0
  replace kW0_1 := (hbw8.cell (p := ⟨w4.heap.size, 1, none⟩) zW0).trans kW0_1
  replace kW0_2 := (hbw8.cell (p := ⟨w4.heap.size, 2, none⟩) zW0).trans kW0_2
  replace kW0_3 := (hbw8.cell (p := ⟨w4.heap.size, 3, none⟩) zW0).trans kW0_3
  replace zW0 := Nat.lt_of_lt_of_le zW0 hbw8.size
  replace kP_0 := (hbw8.cell (p := ⟨w6.heap.size, 0, none⟩) zP).trans kP_0
  replace kP_1 := (hbw8.cell (p := ⟨w6.heap.size, 1, none⟩) zP).trans kP_1
  replace kP_2 := (hbw8.cell (p := ⟨w6.heap.size, 2, none⟩) zP).trans kP_2
  replace kP_3 := (hbw8.cell (p := ⟨w6.heap.size, 3, none⟩) zP).trans kP_3
  replace zP := Nat.lt_of_lt_of_le zP hbw8.size
  replace S1n := hide (S1n.out.below hbw8)
  replace S1d := hide (S1d.out.below hbw8)
  replace SW0n := hide (SW0n.out.below hbw8)
  replace SW0d := hide (SW0d.out.below hbw8)
  replace HPn := hide (HPn.out.below hbw8)
  replace HPd := hide (HPd.out.below hbw8)
  replace HB := hide (bl_trans HB.out hbw8)
  clear hbw8
  have oG0n : ∀ k, (Value.slice aG0n (lms (rrN n1n xs1n n1d xs1d n)).length cG0n).ownBlock = some k → w7.heap.size ≤ k ∧ k < w8.heap.size := fun k e => hoG0n.1.lt k e
  have HG0n := hide hoG0n
  clear hoG0n
  have oG0d : ∀ k, (Value.slice aG0d (lms (rrD n1n xs1n n1d xs1d n)).length cG0d).ownBlock = some k → w7.heap.size ≤ k ∧ k < w8.heap.size := fun k e => hoG0d.1.lt k e
  have HG0d := hide hoG0d
  clear hoG0d
  have HAPG01 := hide hapG01
  clear hapG01
  go_wp2_with fail
  have kG0_0 : (w8.alloc (Obj.cells #[Value.bool (sgn (rrN n1n xs1n n1d xs1d n)), Value.slice aG0n (lms (rrN n1n xs1n n1d xs1d n)).length cG0n, Value.bool (sgn (rrD n1n xs1n n1d xs1d n)), Value.slice aG0d (lms (rrD n1n xs1n n1d xs1d n)).length cG0d] 37)).cell? ⟨w8.heap.size, 0, none⟩ = some (Value.bool (sgn (rrN n1n xs1n n1d xs1d n))) := by go_simp
  have kG0_1 : (w8.alloc (Obj.cells #[Value.bool (sgn (rrN n1n xs1n n1d xs1d n)), Value.slice aG0n (lms (rrN n1n xs1n n1d xs1d n)).length cG0n, Value.bool (sgn (rrD n1n xs1n n1d xs1d n)), Value.slice aG0d (lms (rrD n1n xs1n n1d xs1d n)).length cG0d] 37)).cell? ⟨w8.heap.size, 1, none⟩ = some (Value.slice aG0n (lms (rrN n1n xs1n n1d xs1d n)).length cG0n) := by go_simp
  have kG0_2 : (w8.alloc (Obj.cells #[Value.bool (sgn (rrN n1n xs1n n1d xs1d n)), Value.slice aG0n (lms (rrN n1n xs1n n1d xs1d n)).length cG0n, Value.bool (sgn (rrD n1n xs1n n1d xs1d n)), Value.slice aG0d (lms (rrD n1n xs1n n1d xs1d n)).length cG0d] 37)).cell? ⟨w8.heap.size, 2, none⟩ = some (Value.bool (sgn (rrD n1n xs1n n1d xs1d n))) := by go_simp
  have kG0_3 : (w8.alloc (Obj.cells #[Value.bool (sgn (rrN n1n xs1n n1d xs1d n)), Value.slice aG0n (lms (rrN n1n xs1n n1d xs1d n)).length cG0n, Value.bool (sgn (rrD n1n xs1n n1d xs1d n)), Value.slice aG0d (lms (rrD n1n xs1n n1d xs1d n)).length cG0d] 37)).cell? ⟨w8.heap.size, 3, none⟩ = some (Value.slice aG0d (lms (rrD n1n xs1n n1d xs1d n)).length cG0d) := by go_simp
  have zG0 : w8.heap.size < (w8.alloc (Obj.cells #[Value.bool (sgn (rrN n1n xs1n n1d xs1d n)), Value.slice aG0n (lms (rrN n1n xs1n n1d xs1d n)).length cG0n, Value.bool (sgn (rrD n1n xs1n n1d xs1d n)), Value.slice aG0d (lms (rrD n1n xs1n n1d xs1d n)).length cG0d] 37)).heap.size := by simp only [World.size_alloc]; omega
  have yw9 : w8.heap.size + 1 ≤ (w8.alloc (Obj.cells #[Value.bool (sgn (rrN n1n xs1n n1d xs1d n)), Value.slice aG0n (lms (rrN n1n xs1n n1d xs1d n)).length cG0n, Value.bool (sgn (rrD n1n xs1n n1d xs1d n)), Value.slice aG0d (lms (rrD n1n xs1n n1d xs1d n)).length cG0d] 37)).heap.size := by simp only [World.size_alloc]; omega
  have hbw9 := (bl_alloc (bl_refl w8) (Obj.cells #[Value.bool (sgn (rrN n1n xs1n n1d xs1d n)), Value.slice aG0n (lms (rrN n1n xs1n n1d xs1d n)).length cG0n, Value.bool (sgn (rrD n1n xs1n n1d xs1d n)), Value.slice aG0d (lms (rrD n1n xs1n n1d xs1d n)).length cG0d] 37))
  generalize (w8.alloc (Obj.cells #[Value.bool (sgn (rrN n1n xs1n n1d xs1d n)), Value.slice aG0n (lms (rrN n1n xs1n n1d xs1d n)).length cG0n, Value.bool (sgn (rrD n1n xs1n n1d xs1d n)), Value.slice aG0d (lms (rrD n1n xs1n n1d xs1d n)).length cG0d] 37)) = w9 at *
  replace k1_0 := (hbw9.cell (p := ⟨w.heap.size, 0, none⟩) z1).trans k1_0
  replace k1_1 := (hbw9.cell (p := ⟨w.heap.size, 1, none⟩) z1).trans k1_1
  replace k1_2 := (hbw9.cell (p := ⟨w.heap.size, 2, none⟩) z1).trans k1_2
  replace k1_3 := (hbw9.cell (p := ⟨w.heap.size, 3, none⟩) z1).trans k1_3
  replace z1 := Nat.lt_of_lt_of_le z1 hbw9.size
  replace kW0_0 := (hbw9.cell (p := ⟨w4.heap.size, 0, none⟩) zW0).trans kW0_0
  replace kW0_1 := (hbw9.cell (p := ⟨w4.heap.size, 1, none⟩) zW0).trans kW0_1
  replace kW0_2 := (hbw9.cell (p := ⟨w4.heap.size, 2, none⟩) zW0).trans kW0_2
  replace kW0_3 := (hbw9.cell (p := ⟨w4.heap.size, 3, none⟩) zW0).trans kW0_3
  replace zW0 := Nat.lt_of_lt_of_le zW0 hbw9.size
  replace kP_0 := (hbw9.cell (p := ⟨w6.heap.size, 0, none⟩) zP).trans kP_0
  replace kP_1 := (hbw9.cell (p := ⟨w6.heap.size, 1, none⟩) zP).trans kP_1
  replace kP_2 := (hbw9.cell (p := ⟨w6.heap.size, 2, none⟩) zP).trans kP_2
  replace kP_3 := (hbw9.cell (p := ⟨w6.heap.size, 3, none⟩) zP).trans kP_3
  replace zP := Nat.lt_of_lt_of_le zP hbw9.size
  replace S1n := hide (S1n.out.below hbw9)
  replace S1d := hide (S1d.out.below hbw9)
  replace SW0n := hide (SW0n.out.below hbw9)
  replace SW0d := hide (SW0d.out.below hbw9)
  replace HPn := hide (HPn.out.below hbw9)
  replace HPd := hide (HPd.out.below hbw9)
  replace HG0n := hide (HG0n.out.below hbw9)
  replace HG0d := hide (HG0d.out.below hbw9)
  replace HB := hide (bl_trans HB.out hbw9)
  clear hbw9
  refine (eqR (sgn (rrN n1n xs1n n1d xs1d n)) (lms (rrN n1n xs1n n1d xs1d n)) (sgn (rrD n1n xs1n n1d xs1d n)) (lms (rrD n1n xs1n n1d xs1d n)) aG0n cG0n aG0d cG0d aW0n cW0n aW0d cW0d _ (HG0n.out.seg) (HG0d.out.seg) (SW0n.out) (SW0d.out)).mono ?_
  rintro e w10 ⟨rfl, hbw10⟩
  have yw10 := hbw10.size
  replace k1_0 := (hbw10.cell (p := ⟨w.heap.size, 0, none⟩) z1).trans k1_0
  replace k1_1 := (hbw10.cell (p := ⟨w.heap.size, 1, none⟩) z1).trans k1_1
  replace k1_2 := (hbw10.cell (p := ⟨w.heap.size, 2, none⟩) z1).trans k1_2
  replace k1_3 := (hbw10.cell (p := ⟨w.heap.size, 3, none⟩) z1).trans k1_3
  replace z1 := Nat.lt_of_lt_of_le z1 hbw10.size
  replace kW0_0 := (hbw10.cell (p := ⟨w4.heap.size, 0, none⟩) zW0).trans kW0_0
  replace kW0_1 := (hbw10.cell (p := ⟨w4.heap.size, 1, none⟩) zW0).trans kW0_1
  replace kW0_2 := (hbw10.cell (p := ⟨w4.heap.size, 2, none⟩) zW0).trans kW0_2
  replace kW0_3 := (hbw10.cell (p := ⟨w4.heap.size, 3, none⟩) zW0).trans kW0_3
  replace zW0 := Nat.lt_of_lt_of_le zW0 hbw10.size
  replace kP_0 := (hbw10.cell (p := ⟨w6.heap.size, 0, none⟩) zP).trans kP_0
  replace kP_1 := (hbw10.cell (p := ⟨w6.heap.size, 1, none⟩) zP).trans kP_1
  replace kP_2 := (hbw10.cell (p := ⟨w6.heap.size, 2, none⟩) zP).trans kP_2
  replace kP_3 := (hbw10.cell (p := ⟨w6.heap.size, 3, none⟩) zP).trans kP_3
  replace zP := Nat.lt_of_lt_of_le zP hbw10.size
  replace kG0_0 := (hbw10.cell (p := ⟨w8.heap.size, 0, none⟩) zG0).trans kG0_0
  replace kG0_1 := (hbw10.cell (p := ⟨w8.heap.size, 1, none⟩) zG0).trans kG0_1
  replace kG0_2 := (hbw10.cell (p := ⟨w8.heap.size, 2, none⟩) zG0).trans kG0_2
  replace kG0_3 := (hbw10.cell (p := ⟨w8.heap.size, 3, none⟩) zG0).trans kG0_3
  replace zG0 := Nat.lt_of_lt_of_le zG0 hbw10.size
  replace S1n := hide (S1n.out.below hbw10)
  replace S1d := hide (S1d.out.below hbw10)
  replace SW0n := hide (SW0n.out.below hbw10)
  replace SW0d := hide (SW0d.out.below hbw10)
  replace HPn := hide (HPn.out.below hbw10)
  replace HPd := hide (HPd.out.below hbw10)
  replace HG0n := hide (HG0n.out.below hbw10)
  replace HG0d := hide (HG0d.out.below hbw10)
  replace HB := hide (bl_trans HB.out hbw10)
  clear hbw10
  go_wp2_with fail
  have KP : Hid (∀ w', Below w10.heap.size w10 w' → (w'.cell? ⟨w.heap.size, 0, none⟩ = some (Value.bool n1n) ∧ w'.cell? ⟨w.heap.size, 1, none⟩ = some (Value.slice a1n xs1n.length c1n) ∧ w'.cell? ⟨w.heap.size, 2, none⟩ = some (Value.bool n1d) ∧ w'.cell? ⟨w.heap.size, 3, none⟩ = some (Value.slice a1d xs1d.length c1d) ∧ w'.cell? ⟨w6.heap.size, 0, none⟩ = some (Value.bool n1n) ∧ w'.cell? ⟨w6.heap.size, 1, none⟩ = some (Value.slice aPn xs1n.length cPn) ∧ w'.cell? ⟨w6.heap.size, 2, none⟩ = some (Value.bool n1d) ∧ w'.cell? ⟨w6.heap.size, 3, none⟩ = some (Value.slice aPd xs1d.length cPd))) := hide (fun w' hb => ⟨(hb.cell (p := ⟨w.heap.size, 0, none⟩) z1).trans k1_0, (hb.cell (p := ⟨w.heap.size, 1, none⟩) z1).trans k1_1, (hb.cell (p := ⟨w.heap.size, 2, none⟩) z1).trans k1_2, (hb.cell (p := ⟨w.heap.size, 3, none⟩) z1).trans k1_3, (hb.cell (p := ⟨w6.heap.size, 0, none⟩) zP).trans kP_0, (hb.cell (p := ⟨w6.heap.size, 1, none⟩) zP).trans kP_1, (hb.cell (p := ⟨w6.heap.size, 2, none⟩) zP).trans kP_2, (hb.cell (p := ⟨w6.heap.size, 3, none⟩) zP).trans kP_3⟩)
  go_region_held3 (fun w' => w'.cell? ⟨w.heap.size, 0, none⟩ = some (Value.bool n1n) ∧ w'.cell? ⟨w.heap.size, 1, none⟩ = some (Value.slice a1n xs1n.length c1n) ∧ w'.cell? ⟨w.heap.size, 2, none⟩ = some (Value.bool n1d) ∧ w'.cell? ⟨w.heap.size, 3, none⟩ = some (Value.slice a1d xs1d.length c1d) ∧ w'.cell? ⟨w6.heap.size, 0, none⟩ = some (Value.bool n1n) ∧ w'.cell? ⟨w6.heap.size, 1, none⟩ = some (Value.slice aPn xs1n.length cPn) ∧ w'.cell? ⟨w6.heap.size, 2, none⟩ = some (Value.bool n1d) ∧ w'.cell? ⟨w6.heap.size, 3, none⟩ = some (Value.slice aPd xs1d.length cPd))
    (first | exact KP.out _ (bl_refl w10).drew | exact KP.out _ hbw12 | exact KP.out _ hbw11)
    (first
      | (go_at_call_of 14 (Value.agg #[Value.bool n1n, Value.slice a1n xs1n.length c1n, Value.bool n1d, Value.slice a1d xs1d.length c1d]); refine (toR n1n a1n c1n xs1n n1d a1d c1d xs1d _ (S1n.out.below ((bl_refl w10).drew)) (S1d.out.below ((bl_refl w10).drew)) (by omega) (by omega)).mono ?_; rintro e w11 ⟨ux, cx, uy, cy, rfl, hox, hoy, hapu, hbw11r⟩; have hbw11 : Below w10.heap.size w10 w11 := (bl_refl w10).drew.trans hbw11r)
      | (go_at_call 16; refine (eqR n1n xs1n n1d xs1d aPn cPn aPd cPd ux cx uy cy _ (HPn.out.seg.below hbw11) (HPd.out.seg.below hbw11) hox.seg hoy.seg).mono ?_; rintro e w12 ⟨rfl, hbw12r⟩; have hbw12 : Below w10.heap.size w10 w12 := bl_trans hbw11 hbw12r))
  clear KP
  have yw12 := hbw12.size
  replace k1_0 := (hbw12.cell (p := ⟨w.heap.size, 0, none⟩) z1).trans k1_0
  replace k1_1 := (hbw12.cell (p := ⟨w.heap.size, 1, none⟩) z1).trans k1_1
  replace k1_2 := (hbw12.cell (p := ⟨w.heap.size, 2, none⟩) z1).trans k1_2
  replace k1_3 := (hbw12.cell (p := ⟨w.heap.size, 3, none⟩) z1).trans k1_3
  replace z1 := Nat.lt_of_lt_of_le z1 hbw12.size
  replace kW0_0 := (hbw12.cell (p := ⟨w4.heap.size, 0, none⟩) zW0).trans kW0_0
  replace kW0_1 := (hbw12.cell (p := ⟨w4.heap.size, 1, none⟩) zW0).trans kW0_1
  replace kW0_2 := (hbw12.cell (p := ⟨w4.heap.size, 2, none⟩) zW0).trans kW0_2
  replace kW0_3 := (hbw12.cell (p := ⟨w4.heap.size, 3, none⟩) zW0).trans kW0_3
  replace zW0 := Nat.lt_of_lt_of_le zW0 hbw12.size
  replace kP_0 := (hbw12.cell (p := ⟨w6.heap.size, 0, none⟩) zP).trans kP_0
  replace kP_1 := (hbw12.cell (p := ⟨w6.heap.size, 1, none⟩) zP).trans kP_1
  replace kP_2 := (hbw12.cell (p := ⟨w6.heap.size, 2, none⟩) zP).trans kP_2
  replace kP_3 := (hbw12.cell (p := ⟨w6.heap.size, 3, none⟩) zP).trans kP_3
  replace zP := Nat.lt_of_lt_of_le zP hbw12.size
  replace kG0_0 := (hbw12.cell (p := ⟨w8.heap.size, 0, none⟩) zG0).trans kG0_0
  replace kG0_1 := (hbw12.cell (p := ⟨w8.heap.size, 1, none⟩) zG0).trans kG0_1
  replace kG0_2 := (hbw12.cell (p := ⟨w8.heap.size, 2, none⟩) zG0).trans kG0_2
  replace kG0_3 := (hbw12.cell (p := ⟨w8.heap.size, 3, none⟩) zG0).trans kG0_3
  replace zG0 := Nat.lt_of_lt_of_le zG0 hbw12.size
  replace S1n := hide (S1n.out.below hbw12)
  replace S1d := hide (S1d.out.below hbw12)
  replace SW0n := hide (SW0n.out.below hbw12)
  replace SW0d := hide (SW0d.out.below hbw12)
  replace HPn := hide (HPn.out.below hbw12)
  replace HPd := hide (HPd.out.below hbw12)
  replace HG0n := hide (HG0n.out.below hbw12)
  replace HG0d := hide (HG0d.out.below hbw12)
  replace HB := hide (bl_trans HB.out hbw12)
  clear hbw11 hbw11r hbw12 hbw12r hox hoy hapu
  go_wp2_with fail
  refine (markR n1n aPn xs1n.length cPn _ _ n1d aPd xs1d.length cPd _ _ (0) (1) _ (by omega) (by omega) HPn.out HPd.out HAPP.out).mono ?_
  rintro e w14 ⟨rfl, hm, hm2, w13, hg, hg2⟩
  have yw13 := hg.size
  replace k1_0 := hg.cell k1_0 (fun e => by have := oPn _ e.symm; dsimp only at this; omega)
  replace k1_1 := hg.cell k1_1 (fun e => by have := oPn _ e.symm; dsimp only at this; omega)
  replace k1_2 := hg.cell k1_2 (fun e => by have := oPn _ e.symm; dsimp only at this; omega)
  replace k1_3 := hg.cell k1_3 (fun e => by have := oPn _ e.symm; dsimp only at this; omega)
  replace z1 := Nat.lt_of_lt_of_le z1 yw13
  replace kW0_0 := hg.cell kW0_0 (fun e => by have := oPn _ e.symm; dsimp only at this; omega)
  replace kW0_1 := hg.cell kW0_1 (fun e => by have := oPn _ e.symm; dsimp only at this; omega)
  replace kW0_2 := hg.cell kW0_2 (fun e => by have := oPn _ e.symm; dsimp only at this; omega)
  replace kW0_3 := hg.cell kW0_3 (fun e => by have := oPn _ e.symm; dsimp only at this; omega)
  replace zW0 := Nat.lt_of_lt_of_le zW0 yw13
  replace kP_0 := hg.cell kP_0 (fun e => by have := oPn _ e.symm; dsimp only at this; omega)
  replace kP_1 := hg.cell kP_1 (fun e => by have := oPn _ e.symm; dsimp only at this; omega)
  replace kP_2 := hg.cell kP_2 (fun e => by have := oPn _ e.symm; dsimp only at this; omega)
  replace kP_3 := hg.cell kP_3 (fun e => by have := oPn _ e.symm; dsimp only at this; omega)
  replace zP := Nat.lt_of_lt_of_le zP yw13
  replace kG0_0 := hg.cell kG0_0 (fun e => by have := oPn _ e.symm; dsimp only at this; omega)
  replace kG0_1 := hg.cell kG0_1 (fun e => by have := oPn _ e.symm; dsimp only at this; omega)
  replace kG0_2 := hg.cell kG0_2 (fun e => by have := oPn _ e.symm; dsimp only at this; omega)
  replace kG0_3 := hg.cell kG0_3 (fun e => by have := oPn _ e.symm; dsimp only at this; omega)
  replace zG0 := Nat.lt_of_lt_of_le zG0 yw13
  replace S1n := hide (S1n.out.grownLow A1n.out hg (fun k e => by have := oPn k e; omega))
  replace S1d := hide (S1d.out.grownLow A1d.out hg (fun k e => by have := oPn k e; omega))
  replace SW0n := hide (SW0n.out.grownLow AW0n.out hg (fun k e => by have := oPn k e; omega))
  replace SW0d := hide (SW0d.out.grownLow AW0d.out hg (fun k e => by have := oPn k e; omega))
  replace HG0n := hide (HG0n.out.kept hg (apart_of oG0n oPn (by omega)))
  replace HG0d := hide (HG0d.out.kept hg (apart_of oG0d oPn (by omega)))
  replace HB := hide (HB.out.grown hg HB.out.size (fun k e => by have := oPn k e; omega))
  have yw14 := hg2.size
  replace k1_0 := hg2.cell k1_0 (fun e => by have := oPd _ e.symm; dsimp only at this; omega)
  replace k1_1 := hg2.cell k1_1 (fun e => by have := oPd _ e.symm; dsimp only at this; omega)
  replace k1_2 := hg2.cell k1_2 (fun e => by have := oPd _ e.symm; dsimp only at this; omega)
  replace k1_3 := hg2.cell k1_3 (fun e => by have := oPd _ e.symm; dsimp only at this; omega)
  replace z1 := Nat.lt_of_lt_of_le z1 yw14
  replace kW0_0 := hg2.cell kW0_0 (fun e => by have := oPd _ e.symm; dsimp only at this; omega)
  replace kW0_1 := hg2.cell kW0_1 (fun e => by have := oPd _ e.symm; dsimp only at this; omega)
  replace kW0_2 := hg2.cell kW0_2 (fun e => by have := oPd _ e.symm; dsimp only at this; omega)
  replace kW0_3 := hg2.cell kW0_3 (fun e => by have := oPd _ e.symm; dsimp only at this; omega)
  replace zW0 := Nat.lt_of_lt_of_le zW0 yw14
  replace kP_0 := hg2.cell kP_0 (fun e => by have := oPd _ e.symm; dsimp only at this; omega)
  replace kP_1 := hg2.cell kP_1 (fun e => by have := oPd _ e.symm; dsimp only at this; omega)
  replace kP_2 := hg2.cell kP_2 (fun e => by have := oPd _ e.symm; dsimp only at this; omega)
  replace kP_3 := hg2.cell kP_3 (fun e => by have := oPd _ e.symm; dsimp only at this; omega)
  replace zP := Nat.lt_of_lt_of_le zP yw14
  replace kG0_0 := hg2.cell kG0_0 (fun e => by have := oPd _ e.symm; dsimp only at this; omega)
  replace kG0_1 := hg2.cell kG0_1 (fun e => by have := oPd _ e.symm; dsimp only at this; omega)
  replace kG0_2 := hg2.cell kG0_2 (fun e => by have := oPd _ e.symm; dsimp only at this; omega)
  replace kG0_3 := hg2.cell kG0_3 (fun e => by have := oPd _ e.symm; dsimp only at this; omega)
  replace zG0 := Nat.lt_of_lt_of_le zG0 yw14
  replace S1n := hide (S1n.out.grownLow A1n.out hg2 (fun k e => by have := oPd k e; omega))
  replace S1d := hide (S1d.out.grownLow A1d.out hg2 (fun k e => by have := oPd k e; omega))
  replace SW0n := hide (SW0n.out.grownLow AW0n.out hg2 (fun k e => by have := oPd k e; omega))
  replace SW0d := hide (SW0d.out.grownLow AW0d.out hg2 (fun k e => by have := oPd k e; omega))
  replace HG0n := hide (HG0n.out.kept hg2 (apart_of oG0n oPd (by omega)))
  replace HG0d := hide (HG0d.out.kept hg2 (apart_of oG0d oPd (by omega)))
  replace HB := hide (HB.out.grown hg2 HB.out.size (fun k e => by have := oPd k e; omega))
  replace HPn := hide hm
  replace HPd := hide hm2
  clear hg hg2 hm hm2
  go_wp2_with fail
  refine (eqR (sgn (rrN n1n xs1n n1d xs1d n)) (lms (rrN n1n xs1n n1d xs1d n)) (sgn (rrD n1n xs1n n1d xs1d n)) (lms (rrD n1n xs1n n1d xs1d n)) aG0n cG0n aG0d cG0d aW0n cW0n aW0d cW0d _ (HG0n.out.seg) (HG0d.out.seg) (SW0n.out) (SW0d.out)).mono ?_
  rintro e w15 ⟨rfl, hbw15⟩
  have yw15 := hbw15.size
  replace k1_0 := (hbw15.cell (p := ⟨w.heap.size, 0, none⟩) z1).trans k1_0
  replace k1_1 := (hbw15.cell (p := ⟨w.heap.size, 1, none⟩) z1).trans k1_1
  replace k1_2 := (hbw15.cell (p := ⟨w.heap.size, 2, none⟩) z1).trans k1_2
  replace k1_3 := (hbw15.cell (p := ⟨w.heap.size, 3, none⟩) z1).trans k1_3
  replace z1 := Nat.lt_of_lt_of_le z1 hbw15.size
  replace kW0_0 := (hbw15.cell (p := ⟨w4.heap.size, 0, none⟩) zW0).trans kW0_0
  replace kW0_1 := (hbw15.cell (p := ⟨w4.heap.size, 1, none⟩) zW0).trans kW0_1
  replace kW0_2 := (hbw15.cell (p := ⟨w4.heap.size, 2, none⟩) zW0).trans kW0_2
  replace kW0_3 := (hbw15.cell (p := ⟨w4.heap.size, 3, none⟩) zW0).trans kW0_3
  replace zW0 := Nat.lt_of_lt_of_le zW0 hbw15.size
  replace kP_0 := (hbw15.cell (p := ⟨w6.heap.size, 0, none⟩) zP).trans kP_0
  replace kP_1 := (hbw15.cell (p := ⟨w6.heap.size, 1, none⟩) zP).trans kP_1
  replace kP_2 := (hbw15.cell (p := ⟨w6.heap.size, 2, none⟩) zP).trans kP_2
  replace kP_3 := (hbw15.cell (p := ⟨w6.heap.size, 3, none⟩) zP).trans kP_3
  replace zP := Nat.lt_of_lt_of_le zP hbw15.size
  replace kG0_0 := (hbw15.cell (p := ⟨w8.heap.size, 0, none⟩) zG0).trans kG0_0
  replace kG0_1 := (hbw15.cell (p := ⟨w8.heap.size, 1, none⟩) zG0).trans kG0_1
  replace kG0_2 := (hbw15.cell (p := ⟨w8.heap.size, 2, none⟩) zG0).trans kG0_2
  replace kG0_3 := (hbw15.cell (p := ⟨w8.heap.size, 3, none⟩) zG0).trans kG0_3
  replace zG0 := Nat.lt_of_lt_of_le zG0 hbw15.size
  replace S1n := hide (S1n.out.below hbw15)
  replace S1d := hide (S1d.out.below hbw15)
  replace SW0n := hide (SW0n.out.below hbw15)
  replace SW0d := hide (SW0d.out.below hbw15)
  replace HPn := hide (HPn.out.below hbw15)
  replace HPd := hide (HPd.out.below hbw15)
  replace HG0n := hide (HG0n.out.below hbw15)
  replace HG0d := hide (HG0d.out.below hbw15)
  replace HB := hide (bl_trans HB.out hbw15)
  clear hbw15
  go_wp2_with fail
  refine (markR (sgn (rrN n1n xs1n n1d xs1d n)) aG0n (lms (rrN n1n xs1n n1d xs1d n)).length cG0n _ _ (sgn (rrD n1n xs1n n1d xs1d n)) aG0d (lms (rrD n1n xs1n n1d xs1d n)).length cG0d _ _ (0) (1) _ (by omega) (by omega) HG0n.out HG0d.out HAPG01.out).mono ?_
  rintro e w17 ⟨rfl, hm, hm2, w16, hg, hg2⟩
  have yw16 := hg.size
  replace k1_0 := hg.cell k1_0 (fun e => by have := oG0n _ e.symm; dsimp only at this; omega)
  replace k1_1 := hg.cell k1_1 (fun e => by have := oG0n _ e.symm; dsimp only at this; omega)
  replace k1_2 := hg.cell k1_2 (fun e => by have := oG0n _ e.symm; dsimp only at this; omega)
  replace k1_3 := hg.cell k1_3 (fun e => by have := oG0n _ e.symm; dsimp only at this; omega)
  replace z1 := Nat.lt_of_lt_of_le z1 yw16
  replace kW0_0 := hg.cell kW0_0 (fun e => by have := oG0n _ e.symm; dsimp only at this; omega)
  replace kW0_1 := hg.cell kW0_1 (fun e => by have := oG0n _ e.symm; dsimp only at this; omega)
  replace kW0_2 := hg.cell kW0_2 (fun e => by have := oG0n _ e.symm; dsimp only at this; omega)
  replace kW0_3 := hg.cell kW0_3 (fun e => by have := oG0n _ e.symm; dsimp only at this; omega)
  replace zW0 := Nat.lt_of_lt_of_le zW0 yw16
  replace kP_0 := hg.cell kP_0 (fun e => by have := oG0n _ e.symm; dsimp only at this; omega)
  replace kP_1 := hg.cell kP_1 (fun e => by have := oG0n _ e.symm; dsimp only at this; omega)
  replace kP_2 := hg.cell kP_2 (fun e => by have := oG0n _ e.symm; dsimp only at this; omega)
  replace kP_3 := hg.cell kP_3 (fun e => by have := oG0n _ e.symm; dsimp only at this; omega)
  replace zP := Nat.lt_of_lt_of_le zP yw16
  replace kG0_0 := hg.cell kG0_0 (fun e => by have := oG0n _ e.symm; dsimp only at this; omega)
  replace kG0_1 := hg.cell kG0_1 (fun e => by have := oG0n _ e.symm; dsimp only at this; omega)
  replace kG0_2 := hg.cell kG0_2 (fun e => by have := oG0n _ e.symm; dsimp only at this; omega)
  replace kG0_3 := hg.cell kG0_3 (fun e => by have := oG0n _ e.symm; dsimp only at this; omega)
  replace zG0 := Nat.lt_of_lt_of_le zG0 yw16
  replace S1n := hide (S1n.out.grownLow A1n.out hg (fun k e => by have := oG0n k e; omega))
  replace S1d := hide (S1d.out.grownLow A1d.out hg (fun k e => by have := oG0n k e; omega))
  replace SW0n := hide (SW0n.out.grownLow AW0n.out hg (fun k e => by have := oG0n k e; omega))
  replace SW0d := hide (SW0d.out.grownLow AW0d.out hg (fun k e => by have := oG0n k e; omega))
  replace HPn := hide (HPn.out.kept hg (apart_of oPn oG0n (by omega)))
  replace HPd := hide (HPd.out.kept hg (apart_of oPd oG0n (by omega)))
  replace HB := hide (HB.out.grown hg HB.out.size (fun k e => by have := oG0n k e; omega))
  have yw17 := hg2.size
  replace k1_0 := hg2.cell k1_0 (fun e => by have := oG0d _ e.symm; dsimp only at this; omega)
  replace k1_1 := hg2.cell k1_1 (fun e => by have := oG0d _ e.symm; dsimp only at this; omega)
  replace k1_2 := hg2.cell k1_2 (fun e => by have := oG0d _ e.symm; dsimp only at this; omega)
  replace k1_3 := hg2.cell k1_3 (fun e => by have := oG0d _ e.symm; dsimp only at this; omega)
  replace z1 := Nat.lt_of_lt_of_le z1 yw17
  replace kW0_0 := hg2.cell kW0_0 (fun e => by have := oG0d _ e.symm; dsimp only at this; omega)
  replace kW0_1 := hg2.cell kW0_1 (fun e => by have := oG0d _ e.symm; dsimp only at this; omega)
  replace kW0_2 := hg2.cell kW0_2 (fun e => by have := oG0d _ e.symm; dsimp only at this; omega)
  replace kW0_3 := hg2.cell kW0_3 (fun e => by have := oG0d _ e.symm; dsimp only at this; omega)
  replace zW0 := Nat.lt_of_lt_of_le zW0 yw17
  replace kP_0 := hg2.cell kP_0 (fun e => by have := oG0d _ e.symm; dsimp only at this; omega)
  replace kP_1 := hg2.cell kP_1 (fun e => by have := oG0d _ e.symm; dsimp only at this; omega)
  replace kP_2 := hg2.cell kP_2 (fun e => by have := oG0d _ e.symm; dsimp only at this; omega)
  replace kP_3 := hg2.cell kP_3 (fun e => by have := oG0d _ e.symm; dsimp only at this; omega)
  replace zP := Nat.lt_of_lt_of_le zP yw17
  replace kG0_0 := hg2.cell kG0_0 (fun e => by have := oG0d _ e.symm; dsimp only at this; omega)
  replace kG0_1 := hg2.cell kG0_1 (fun e => by have := oG0d _ e.symm; dsimp only at this; omega)
  replace kG0_2 := hg2.cell kG0_2 (fun e => by have := oG0d _ e.symm; dsimp only at this; omega)
  replace kG0_3 := hg2.cell kG0_3 (fun e => by have := oG0d _ e.symm; dsimp only at this; omega)
  replace zG0 := Nat.lt_of_lt_of_le zG0 yw17
  replace S1n := hide (S1n.out.grownLow A1n.out hg2 (fun k e => by have := oG0d k e; omega))
  replace S1d := hide (S1d.out.grownLow A1d.out hg2 (fun k e => by have := oG0d k e; omega))
  replace SW0n := hide (SW0n.out.grownLow AW0n.out hg2 (fun k e => by have := oG0d k e; omega))
  replace SW0d := hide (SW0d.out.grownLow AW0d.out hg2 (fun k e => by have := oG0d k e; omega))
  replace HPn := hide (HPn.out.kept hg2 (apart_of oPn oG0d (by omega)))
  replace HPd := hide (HPd.out.kept hg2 (apart_of oPd oG0d (by omega)))
  replace HB := hide (HB.out.grown hg2 HB.out.size (fun k e => by have := oG0d k e; omega))
  replace HG0n := hide hm
  replace HG0d := hide hm2
  clear hg hg2 hm hm2
  go_wp2_with fail
  refine (heldR (sgn (rrN n1n xs1n n1d xs1d n)) aG0n (lms (rrN n1n xs1n n1d xs1d n)).length cG0n (sgn (rrD n1n xs1n n1d xs1d n)) aG0d (lms (rrD n1n xs1n n1d xs1d n)).length cG0d (0) (1) _ (by omega) (by omega) HG0n.out.seg HG0d.out.seg).mono ?_
  rintro e w18 ⟨rfl, hbw18⟩
  have yw18 := hbw18.size
  replace k1_0 := (hbw18.cell (p := ⟨w.heap.size, 0, none⟩) z1).trans k1_0
  replace k1_1 := (hbw18.cell (p := ⟨w.heap.size, 1, none⟩) z1).trans k1_1
  replace k1_2 := (hbw18.cell (p := ⟨w.heap.size, 2, none⟩) z1).trans k1_2
  replace k1_3 := (hbw18.cell (p := ⟨w.heap.size, 3, none⟩) z1).trans k1_3
  replace z1 := Nat.lt_of_lt_of_le z1 hbw18.size
  replace kW0_0 := (hbw18.cell (p := ⟨w4.heap.size, 0, none⟩) zW0).trans kW0_0
  replace kW0_1 := (hbw18.cell (p := ⟨w4.heap.size, 1, none⟩) zW0).trans kW0_1
  replace kW0_2 := (hbw18.cell (p := ⟨w4.heap.size, 2, none⟩) zW0).trans kW0_2
  replace kW0_3 := (hbw18.cell (p := ⟨w4.heap.size, 3, none⟩) zW0).trans kW0_3
  replace zW0 := Nat.lt_of_lt_of_le zW0 hbw18.size
  replace kP_0 := (hbw18.cell (p := ⟨w6.heap.size, 0, none⟩) zP).trans kP_0
  replace kP_1 := (hbw18.cell (p := ⟨w6.heap.size, 1, none⟩) zP).trans kP_1
  replace kP_2 := (hbw18.cell (p := ⟨w6.heap.size, 2, none⟩) zP).trans kP_2
  replace kP_3 := (hbw18.cell (p := ⟨w6.heap.size, 3, none⟩) zP).trans kP_3
  replace zP := Nat.lt_of_lt_of_le zP hbw18.size
  replace kG0_0 := (hbw18.cell (p := ⟨w8.heap.size, 0, none⟩) zG0).trans kG0_0
  replace kG0_1 := (hbw18.cell (p := ⟨w8.heap.size, 1, none⟩) zG0).trans kG0_1
  replace kG0_2 := (hbw18.cell (p := ⟨w8.heap.size, 2, none⟩) zG0).trans kG0_2
  replace kG0_3 := (hbw18.cell (p := ⟨w8.heap.size, 3, none⟩) zG0).trans kG0_3
  replace zG0 := Nat.lt_of_lt_of_le zG0 hbw18.size
  replace S1n := hide (S1n.out.below hbw18)
  replace S1d := hide (S1d.out.below hbw18)
  replace SW0n := hide (SW0n.out.below hbw18)
  replace SW0d := hide (SW0d.out.below hbw18)
  replace HPn := hide (HPn.out.below hbw18)
  replace HPd := hide (HPd.out.below hbw18)
  replace HG0n := hide (HG0n.out.below hbw18)
  replace HG0d := hide (HG0d.out.below hbw18)
  replace HB := hide (bl_trans HB.out hbw18)
  clear hbw18
  go_wp2_with fail
  refine (toR n1n a1n c1n xs1n n1d a1d c1d xs1d _ S1n.out S1d.out (by omega) (by omega)).mono ?_
  rintro e w19 ⟨auVn, cuVn, auVd, cuVd, rfl, houVn, houVd, hapuV, hbw19⟩
  have yw19 := hbw19.size
  replace k1_0 := (hbw19.cell (p := ⟨w.heap.size, 0, none⟩) z1).trans k1_0
  replace k1_1 := (hbw19.cell (p := ⟨w.heap.size, 1, none⟩) z1).trans k1_1
  replace k1_2 := (hbw19.cell (p := ⟨w.heap.size, 2, none⟩) z1).trans k1_2
  replace k1_3 := (hbw19.cell (p := ⟨w.heap.size, 3, none⟩) z1).trans k1_3
  replace z1 := Nat.lt_of_lt_of_le z1 hbw19.size
  replace kW0_0 := (hbw19.cell (p := ⟨w4.heap.size, 0, none⟩) zW0).trans kW0_0
  replace kW0_1 := (hbw19.cell (p := ⟨w4.heap.size, 1, none⟩) zW0).trans kW0_1
  replace kW0_2 := (hbw19.cell (p := ⟨w4.heap.size, 2, none⟩) zW0).trans kW0_2
  replace kW0_3 := (hbw19.cell (p := ⟨w4.heap.size, 3, none⟩) zW0).trans kW0_3
  replace zW0 := Nat.lt_of_lt_of_le zW0 hbw19.size
  replace kP_0 := (hbw19.cell (p := ⟨w6.heap.size, 0, none⟩) zP).trans kP_0
  replace kP_1 := (hbw19.cell (p := ⟨w6.heap.size, 1, none⟩) zP).trans kP_1
  replace kP_2 := (hbw19.cell (p := ⟨w6.heap.size, 2, none⟩) zP).trans kP_2
  replace kP_3 := (hbw19.cell (p := ⟨w6.heap.size, 3, none⟩) zP).trans kP_3
  replace zP := Nat.lt_of_lt_of_le zP hbw19.size
  replace kG0_0 := (hbw19.cell (p := ⟨w8.heap.size, 0, none⟩) zG0).trans kG0_0
  replace kG0_1 := (hbw19.cell (p := ⟨w8.heap.size, 1, none⟩) zG0).trans kG0_1
  replace kG0_2 := (hbw19.cell (p := ⟨w8.heap.size, 2, none⟩) zG0).trans kG0_2
  replace kG0_3 := (hbw19.cell (p := ⟨w8.heap.size, 3, none⟩) zG0).trans kG0_3
  replace zG0 := Nat.lt_of_lt_of_le zG0 hbw19.size
  replace S1n := hide (S1n.out.below hbw19)
  replace S1d := hide (S1d.out.below hbw19)
  replace SW0n := hide (SW0n.out.below hbw19)
  replace SW0d := hide (SW0d.out.below hbw19)
  replace HPn := hide (HPn.out.below hbw19)
  replace HPd := hide (HPd.out.below hbw19)
  replace HG0n := hide (HG0n.out.below hbw19)
  replace HG0d := hide (HG0d.out.below hbw19)
  replace HB := hide (bl_trans HB.out hbw19)
  clear hbw19
  have HuVn := hide houVn.seg
  clear houVn
  have HuVd := hide houVd.seg
  clear houVd
  clear hapuV
  go_wp2_with fail
  refine (ratRootP n1n xs1n n1d xs1d n auVn cuVn auVd cuVd _ (HuVn.out) (HuVd.out) hi1 hi2).mono ?_
  rintro e w20 ⟨aV0n, cV0n, aV0d, cV0d, rfl, hoV0n, hoV0d, hapV01, hbw20⟩
  have yw20 := hbw20.size
  replace k1_0 := (hbw20.cell (p := ⟨w.heap.size, 0, none⟩) z1).trans k1_0
  replace k1_1 := (hbw20.cell (p := ⟨w.heap.size, 1, none⟩) z1).trans k1_1
  replace k1_2 := (hbw20.cell (p := ⟨w.heap.size, 2, none⟩) z1).trans k1_2
  replace k1_3 := (hbw20.cell (p := ⟨w.heap.size, 3, none⟩) z1).trans k1_3
  replace z1 := Nat.lt_of_lt_of_le z1 hbw20.size
  replace kW0_0 := (hbw20.cell (p := ⟨w4.heap.size, 0, none⟩) zW0).trans kW0_0
  replace kW0_1 := (hbw20.cell (p := ⟨w4.heap.size, 1, none⟩) zW0).trans kW0_1
  replace kW0_2 := (hbw20.cell (p := ⟨w4.heap.size, 2, none⟩) zW0).trans kW0_2
  replace kW0_3 := (hbw20.cell (p := ⟨w4.heap.size, 3, none⟩) zW0).trans kW0_3
  replace zW0 := Nat.lt_of_lt_of_le zW0 hbw20.size
  replace kP_0 := (hbw20.cell (p := ⟨w6.heap.size, 0, none⟩) zP).trans kP_0
  replace kP_1 := (hbw20.cell (p := ⟨w6.heap.size, 1, none⟩) zP).trans kP_1
  replace kP_2 := (hbw20.cell (p := ⟨w6.heap.size, 2, none⟩) zP).trans kP_2
  replace kP_3 := (hbw20.cell (p := ⟨w6.heap.size, 3, none⟩) zP).trans kP_3
  replace zP := Nat.lt_of_lt_of_le zP hbw20.size
  replace kG0_0 := (hbw20.cell (p := ⟨w8.heap.size, 0, none⟩) zG0).trans kG0_0
  replace kG0_1 := (hbw20.cell (p := ⟨w8.heap.size, 1, none⟩) zG0).trans kG0_1
  replace kG0_2 := (hbw20.cell (p := ⟨w8.heap.size, 2, none⟩) zG0).trans kG0_2
  replace kG0_3 := (hbw20.cell (p := ⟨w8.heap.size, 3, none⟩) zG0).trans kG0_3
  replace zG0 := Nat.lt_of_lt_of_le zG0 hbw20.size
  replace S1n := hide (S1n.out.below hbw20)
  replace S1d := hide (S1d.out.below hbw20)
  replace SW0n := hide (SW0n.out.below hbw20)
  replace SW0d := hide (SW0d.out.below hbw20)
  replace HPn := hide (HPn.out.below hbw20)
  replace HPd := hide (HPd.out.below hbw20)
  replace HG0n := hide (HG0n.out.below hbw20)
  replace HG0d := hide (HG0d.out.below hbw20)
  replace HuVn := hide (HuVn.out.below hbw20)
  replace HuVd := hide (HuVd.out.below hbw20)
  replace HB := hide (bl_trans HB.out hbw20)
  clear hbw20
  clear HuVn
  clear HuVd
  have SV0n := hide hoV0n.seg
  have AV0n := SV0n
  clear hoV0n
  have SV0d := hide hoV0d.seg
  have AV0d := SV0d
  clear hoV0d
  try clear hapV01
  go_wp2_with fail
  have kV0_0 : (w20.alloc (Obj.cells #[Value.bool (sgn (rrN n1n xs1n n1d xs1d n)), Value.slice aV0n (lms (rrN n1n xs1n n1d xs1d n)).length cV0n, Value.bool (sgn (rrD n1n xs1n n1d xs1d n)), Value.slice aV0d (lms (rrD n1n xs1n n1d xs1d n)).length cV0d] 37)).cell? ⟨w20.heap.size, 0, none⟩ = some (Value.bool (sgn (rrN n1n xs1n n1d xs1d n))) := by go_simp
  have kV0_1 : (w20.alloc (Obj.cells #[Value.bool (sgn (rrN n1n xs1n n1d xs1d n)), Value.slice aV0n (lms (rrN n1n xs1n n1d xs1d n)).length cV0n, Value.bool (sgn (rrD n1n xs1n n1d xs1d n)), Value.slice aV0d (lms (rrD n1n xs1n n1d xs1d n)).length cV0d] 37)).cell? ⟨w20.heap.size, 1, none⟩ = some (Value.slice aV0n (lms (rrN n1n xs1n n1d xs1d n)).length cV0n) := by go_simp
  have kV0_2 : (w20.alloc (Obj.cells #[Value.bool (sgn (rrN n1n xs1n n1d xs1d n)), Value.slice aV0n (lms (rrN n1n xs1n n1d xs1d n)).length cV0n, Value.bool (sgn (rrD n1n xs1n n1d xs1d n)), Value.slice aV0d (lms (rrD n1n xs1n n1d xs1d n)).length cV0d] 37)).cell? ⟨w20.heap.size, 2, none⟩ = some (Value.bool (sgn (rrD n1n xs1n n1d xs1d n))) := by go_simp
  have kV0_3 : (w20.alloc (Obj.cells #[Value.bool (sgn (rrN n1n xs1n n1d xs1d n)), Value.slice aV0n (lms (rrN n1n xs1n n1d xs1d n)).length cV0n, Value.bool (sgn (rrD n1n xs1n n1d xs1d n)), Value.slice aV0d (lms (rrD n1n xs1n n1d xs1d n)).length cV0d] 37)).cell? ⟨w20.heap.size, 3, none⟩ = some (Value.slice aV0d (lms (rrD n1n xs1n n1d xs1d n)).length cV0d) := by go_simp
  have zV0 : w20.heap.size < (w20.alloc (Obj.cells #[Value.bool (sgn (rrN n1n xs1n n1d xs1d n)), Value.slice aV0n (lms (rrN n1n xs1n n1d xs1d n)).length cV0n, Value.bool (sgn (rrD n1n xs1n n1d xs1d n)), Value.slice aV0d (lms (rrD n1n xs1n n1d xs1d n)).length cV0d] 37)).heap.size := by simp only [World.size_alloc]; omega
  have yw21 : w20.heap.size + 1 ≤ (w20.alloc (Obj.cells #[Value.bool (sgn (rrN n1n xs1n n1d xs1d n)), Value.slice aV0n (lms (rrN n1n xs1n n1d xs1d n)).length cV0n, Value.bool (sgn (rrD n1n xs1n n1d xs1d n)), Value.slice aV0d (lms (rrD n1n xs1n n1d xs1d n)).length cV0d] 37)).heap.size := by simp only [World.size_alloc]; omega
  have hbw21 := (bl_alloc (bl_refl w20) (Obj.cells #[Value.bool (sgn (rrN n1n xs1n n1d xs1d n)), Value.slice aV0n (lms (rrN n1n xs1n n1d xs1d n)).length cV0n, Value.bool (sgn (rrD n1n xs1n n1d xs1d n)), Value.slice aV0d (lms (rrD n1n xs1n n1d xs1d n)).length cV0d] 37))
  generalize (w20.alloc (Obj.cells #[Value.bool (sgn (rrN n1n xs1n n1d xs1d n)), Value.slice aV0n (lms (rrN n1n xs1n n1d xs1d n)).length cV0n, Value.bool (sgn (rrD n1n xs1n n1d xs1d n)), Value.slice aV0d (lms (rrD n1n xs1n n1d xs1d n)).length cV0d] 37)) = w21 at *
  replace k1_0 := (hbw21.cell (p := ⟨w.heap.size, 0, none⟩) z1).trans k1_0
  replace k1_1 := (hbw21.cell (p := ⟨w.heap.size, 1, none⟩) z1).trans k1_1
  replace k1_2 := (hbw21.cell (p := ⟨w.heap.size, 2, none⟩) z1).trans k1_2
  replace k1_3 := (hbw21.cell (p := ⟨w.heap.size, 3, none⟩) z1).trans k1_3
  replace z1 := Nat.lt_of_lt_of_le z1 hbw21.size
  replace kW0_0 := (hbw21.cell (p := ⟨w4.heap.size, 0, none⟩) zW0).trans kW0_0
  replace kW0_1 := (hbw21.cell (p := ⟨w4.heap.size, 1, none⟩) zW0).trans kW0_1
  replace kW0_2 := (hbw21.cell (p := ⟨w4.heap.size, 2, none⟩) zW0).trans kW0_2
  replace kW0_3 := (hbw21.cell (p := ⟨w4.heap.size, 3, none⟩) zW0).trans kW0_3
  replace zW0 := Nat.lt_of_lt_of_le zW0 hbw21.size
  replace kP_0 := (hbw21.cell (p := ⟨w6.heap.size, 0, none⟩) zP).trans kP_0
  replace kP_1 := (hbw21.cell (p := ⟨w6.heap.size, 1, none⟩) zP).trans kP_1
  replace kP_2 := (hbw21.cell (p := ⟨w6.heap.size, 2, none⟩) zP).trans kP_2
  replace kP_3 := (hbw21.cell (p := ⟨w6.heap.size, 3, none⟩) zP).trans kP_3
  replace zP := Nat.lt_of_lt_of_le zP hbw21.size
  replace kG0_0 := (hbw21.cell (p := ⟨w8.heap.size, 0, none⟩) zG0).trans kG0_0
  replace kG0_1 := (hbw21.cell (p := ⟨w8.heap.size, 1, none⟩) zG0).trans kG0_1
  replace kG0_2 := (hbw21.cell (p := ⟨w8.heap.size, 2, none⟩) zG0).trans kG0_2
  replace kG0_3 := (hbw21.cell (p := ⟨w8.heap.size, 3, none⟩) zG0).trans kG0_3
  replace zG0 := Nat.lt_of_lt_of_le zG0 hbw21.size
  replace S1n := hide (S1n.out.below hbw21)
  replace S1d := hide (S1d.out.below hbw21)
  replace SW0n := hide (SW0n.out.below hbw21)
  replace SW0d := hide (SW0d.out.below hbw21)
  replace HPn := hide (HPn.out.below hbw21)
  replace HPd := hide (HPd.out.below hbw21)
  replace HG0n := hide (HG0n.out.below hbw21)
  replace HG0d := hide (HG0d.out.below hbw21)
  replace SV0n := hide (SV0n.out.below hbw21)
  replace SV0d := hide (SV0d.out.below hbw21)
  replace HB := hide (bl_trans HB.out hbw21)
  clear hbw21
  refine (eqR (sgn (rrN n1n xs1n n1d xs1d n)) (lms (rrN n1n xs1n n1d xs1d n)) (sgn (rrD n1n xs1n n1d xs1d n)) (lms (rrD n1n xs1n n1d xs1d n)) aV0n cV0n aV0d cV0d aW0n cW0n aW0d cW0d _ (SV0n.out) (SV0d.out) (SW0n.out) (SW0d.out)).mono ?_
  rintro e w22 ⟨rfl, hbw22⟩
  have yw22 := hbw22.size
  replace k1_0 := (hbw22.cell (p := ⟨w.heap.size, 0, none⟩) z1).trans k1_0
  replace k1_1 := (hbw22.cell (p := ⟨w.heap.size, 1, none⟩) z1).trans k1_1
  replace k1_2 := (hbw22.cell (p := ⟨w.heap.size, 2, none⟩) z1).trans k1_2
  replace k1_3 := (hbw22.cell (p := ⟨w.heap.size, 3, none⟩) z1).trans k1_3
  replace z1 := Nat.lt_of_lt_of_le z1 hbw22.size
  replace kW0_0 := (hbw22.cell (p := ⟨w4.heap.size, 0, none⟩) zW0).trans kW0_0
  replace kW0_1 := (hbw22.cell (p := ⟨w4.heap.size, 1, none⟩) zW0).trans kW0_1
  replace kW0_2 := (hbw22.cell (p := ⟨w4.heap.size, 2, none⟩) zW0).trans kW0_2
  replace kW0_3 := (hbw22.cell (p := ⟨w4.heap.size, 3, none⟩) zW0).trans kW0_3
  replace zW0 := Nat.lt_of_lt_of_le zW0 hbw22.size
  replace kP_0 := (hbw22.cell (p := ⟨w6.heap.size, 0, none⟩) zP).trans kP_0
  replace kP_1 := (hbw22.cell (p := ⟨w6.heap.size, 1, none⟩) zP).trans kP_1
  replace kP_2 := (hbw22.cell (p := ⟨w6.heap.size, 2, none⟩) zP).trans kP_2
  replace kP_3 := (hbw22.cell (p := ⟨w6.heap.size, 3, none⟩) zP).trans kP_3
  replace zP := Nat.lt_of_lt_of_le zP hbw22.size
  replace kG0_0 := (hbw22.cell (p := ⟨w8.heap.size, 0, none⟩) zG0).trans kG0_0
  replace kG0_1 := (hbw22.cell (p := ⟨w8.heap.size, 1, none⟩) zG0).trans kG0_1
  replace kG0_2 := (hbw22.cell (p := ⟨w8.heap.size, 2, none⟩) zG0).trans kG0_2
  replace kG0_3 := (hbw22.cell (p := ⟨w8.heap.size, 3, none⟩) zG0).trans kG0_3
  replace zG0 := Nat.lt_of_lt_of_le zG0 hbw22.size
  replace kV0_0 := (hbw22.cell (p := ⟨w20.heap.size, 0, none⟩) zV0).trans kV0_0
  replace kV0_1 := (hbw22.cell (p := ⟨w20.heap.size, 1, none⟩) zV0).trans kV0_1
  replace kV0_2 := (hbw22.cell (p := ⟨w20.heap.size, 2, none⟩) zV0).trans kV0_2
  replace kV0_3 := (hbw22.cell (p := ⟨w20.heap.size, 3, none⟩) zV0).trans kV0_3
  replace zV0 := Nat.lt_of_lt_of_le zV0 hbw22.size
  replace S1n := hide (S1n.out.below hbw22)
  replace S1d := hide (S1d.out.below hbw22)
  replace SW0n := hide (SW0n.out.below hbw22)
  replace SW0d := hide (SW0d.out.below hbw22)
  replace HPn := hide (HPn.out.below hbw22)
  replace HPd := hide (HPd.out.below hbw22)
  replace HG0n := hide (HG0n.out.below hbw22)
  replace HG0d := hide (HG0d.out.below hbw22)
  replace SV0n := hide (SV0n.out.below hbw22)
  replace SV0d := hide (SV0d.out.below hbw22)
  replace HB := hide (bl_trans HB.out hbw22)
  clear hbw22
  go_wp2_with fail
  refine (heldR (sgn (rrN n1n xs1n n1d xs1d n)) aG0n (lms (rrN n1n xs1n n1d xs1d n)).length cG0n (sgn (rrD n1n xs1n n1d xs1d n)) aG0d (lms (rrD n1n xs1n n1d xs1d n)).length cG0d (0) (1) _ (by omega) (by omega) HG0n.out.seg HG0d.out.seg).mono ?_
  rintro e w23 ⟨rfl, hbw23⟩
  have yw23 := hbw23.size
  replace k1_0 := (hbw23.cell (p := ⟨w.heap.size, 0, none⟩) z1).trans k1_0
  replace k1_1 := (hbw23.cell (p := ⟨w.heap.size, 1, none⟩) z1).trans k1_1
  replace k1_2 := (hbw23.cell (p := ⟨w.heap.size, 2, none⟩) z1).trans k1_2
  replace k1_3 := (hbw23.cell (p := ⟨w.heap.size, 3, none⟩) z1).trans k1_3
  replace z1 := Nat.lt_of_lt_of_le z1 hbw23.size
  replace kW0_0 := (hbw23.cell (p := ⟨w4.heap.size, 0, none⟩) zW0).trans kW0_0
  replace kW0_1 := (hbw23.cell (p := ⟨w4.heap.size, 1, none⟩) zW0).trans kW0_1
  replace kW0_2 := (hbw23.cell (p := ⟨w4.heap.size, 2, none⟩) zW0).trans kW0_2
  replace kW0_3 := (hbw23.cell (p := ⟨w4.heap.size, 3, none⟩) zW0).trans kW0_3
  replace zW0 := Nat.lt_of_lt_of_le zW0 hbw23.size
  replace kP_0 := (hbw23.cell (p := ⟨w6.heap.size, 0, none⟩) zP).trans kP_0
  replace kP_1 := (hbw23.cell (p := ⟨w6.heap.size, 1, none⟩) zP).trans kP_1
  replace kP_2 := (hbw23.cell (p := ⟨w6.heap.size, 2, none⟩) zP).trans kP_2
  replace kP_3 := (hbw23.cell (p := ⟨w6.heap.size, 3, none⟩) zP).trans kP_3
  replace zP := Nat.lt_of_lt_of_le zP hbw23.size
  replace kG0_0 := (hbw23.cell (p := ⟨w8.heap.size, 0, none⟩) zG0).trans kG0_0
  replace kG0_1 := (hbw23.cell (p := ⟨w8.heap.size, 1, none⟩) zG0).trans kG0_1
  replace kG0_2 := (hbw23.cell (p := ⟨w8.heap.size, 2, none⟩) zG0).trans kG0_2
  replace kG0_3 := (hbw23.cell (p := ⟨w8.heap.size, 3, none⟩) zG0).trans kG0_3
  replace zG0 := Nat.lt_of_lt_of_le zG0 hbw23.size
  replace kV0_0 := (hbw23.cell (p := ⟨w20.heap.size, 0, none⟩) zV0).trans kV0_0
  replace kV0_1 := (hbw23.cell (p := ⟨w20.heap.size, 1, none⟩) zV0).trans kV0_1
  replace kV0_2 := (hbw23.cell (p := ⟨w20.heap.size, 2, none⟩) zV0).trans kV0_2
  replace kV0_3 := (hbw23.cell (p := ⟨w20.heap.size, 3, none⟩) zV0).trans kV0_3
  replace zV0 := Nat.lt_of_lt_of_le zV0 hbw23.size
  replace S1n := hide (S1n.out.below hbw23)
  replace S1d := hide (S1d.out.below hbw23)
  replace SW0n := hide (SW0n.out.below hbw23)
  replace SW0d := hide (SW0d.out.below hbw23)
  replace HPn := hide (HPn.out.below hbw23)
  replace HPd := hide (HPd.out.below hbw23)
  replace HG0n := hide (HG0n.out.below hbw23)
  replace HG0d := hide (HG0d.out.below hbw23)
  replace SV0n := hide (SV0n.out.below hbw23)
  replace SV0d := hide (SV0d.out.below hbw23)
  replace HB := hide (bl_trans HB.out hbw23)
  clear hbw23
  go_wp2
  go_ret
  exact ⟨rfl, HB.out⟩
end Go.Proofs.Ytbnjgfaojaimlaa
