/- The walk of the exact law of RootInt. -/
import Derived.Test.YtbnjgfaojaimlaaRootF
import Derived.Test.YtbnjgfaojaimlaaLawKit
import Derived.Test.YtbnjgfaojaimlaaPk22
import Derived.Test.YtbnjgfaojaimlaaResN
namespace Go.Proofs.Ytbnjgfaojaimlaa
open Go.RowKit
set_option linter.unusedVariables false


set_option maxHeartbeats 40000000 in
set_option maxRecDepth 20000 in
theorem walk3 (n1 : Bool) (a1 : Option Addr) (c1 : Nat) (xs1 : List Nat) (n : Int) (w : World) (s1 : Seg w a1 xs1.length c1 xs1) (hi1 : -9223372036854775808 ≤ n) (hi2 : n ≤ 9223372036854775807) :
    Calls Try.prog 3 #[Value.agg #[Value.bool n1, Value.slice a1 xs1.length c1], .int .i64 n] w fun e w' => e = .returned (.bool true) ∧ Below w.heap.size w w' := by
  have hL0 : (lms (rtZ n1 xs1 n)).length ≤ 40 := rt_len _ _ _ s1.2.2.2.1
  have A1 := hide s1
  have hn1 := s1.le
  have k1_0 : (w.alloc (Obj.cells #[Value.bool n1, Value.slice a1 xs1.length c1] 24)).cell? ⟨w.heap.size, 0, none⟩ = some (Value.bool n1) := by go_simp
  have k1_1 : (w.alloc (Obj.cells #[Value.bool n1, Value.slice a1 xs1.length c1] 24)).cell? ⟨w.heap.size, 1, none⟩ = some (Value.slice a1 xs1.length c1) := by go_simp
  have z1 : w.heap.size < (w.alloc (Obj.cells #[Value.bool n1, Value.slice a1 xs1.length c1] 24)).heap.size := by simp only [World.size_alloc]; omega
  have S1 := hide (s1.below (bl_alloc (bl_refl w) (Obj.cells #[Value.bool n1, Value.slice a1 xs1.length c1] 24)))
  clear s1
  have HB := hide (bl_alloc (bl_refl w) (Obj.cells #[Value.bool n1, Value.slice a1 xs1.length c1] 24))
  have y0 : w.heap.size + 1 ≤ (w.alloc (Obj.cells #[Value.bool n1, Value.slice a1 xs1.length c1] 24)).heap.size := by simp only [World.size_alloc]; omega
  go_enter Try.func3, Try.ntmps3
  go_wp2_with fail
  generalize (w.alloc (Obj.cells #[Value.bool n1, Value.slice a1 xs1.length c1] 24)) = w1 at *
  refine (szB n1 a1 xs1.length c1 (1048576) _ hn1 (by omega) (by omega)).mono ?_
  rintro e w2 ⟨rfl, hbw2⟩
  have yw2 := hbw2.size
  replace k1_0 := (hbw2.cell (p := ⟨w.heap.size, 0, none⟩) z1).trans k1_0
  replace k1_1 := (hbw2.cell (p := ⟨w.heap.size, 1, none⟩) z1).trans k1_1
  replace z1 := Nat.lt_of_lt_of_le z1 hbw2.size
  replace S1 := hide (S1.out.below hbw2)
  replace HB := hide (bl_trans HB.out hbw2)
  clear hbw2
  by_cases hbig1 : (1048576 : Int) < (xs1.length : Int)
  · rw [if_pos hbig1]
    go_wp2
    go_ret
    exact ⟨rfl, HB.out⟩
  rw [if_neg hbig1]
  go_wp2_with fail
  refine (toB n1 a1 xs1.length c1 xs1 _ S1.out (by omega)).mono ?_
  rintro e w3 ⟨uuW, rfl, ⟨auW, cuW, rfl, houW⟩, hbw3⟩
  have yw3 := hbw3.size
  replace k1_0 := (hbw3.cell (p := ⟨w.heap.size, 0, none⟩) z1).trans k1_0
  replace k1_1 := (hbw3.cell (p := ⟨w.heap.size, 1, none⟩) z1).trans k1_1
  replace z1 := Nat.lt_of_lt_of_le z1 hbw3.size
  replace S1 := hide (S1.out.below hbw3)
  replace HB := hide (bl_trans HB.out hbw3)
  clear hbw3
  have HuW := hide houW.seg
  clear houW
  go_wp2_with fail
  refine (rootQ n1 xs1 n auW cuW _ (HuW.out) hi1 hi2).mono ?_
  rintro e w4 ⟨aW0, cW0, rfl, hoW0, hbw4⟩
  have yw4 := hbw4.size
  replace k1_0 := (hbw4.cell (p := ⟨w.heap.size, 0, none⟩) z1).trans k1_0
  replace k1_1 := (hbw4.cell (p := ⟨w.heap.size, 1, none⟩) z1).trans k1_1
  replace z1 := Nat.lt_of_lt_of_le z1 hbw4.size
  replace S1 := hide (S1.out.below hbw4)
  replace HuW := hide (HuW.out.below hbw4)
  replace HB := hide (bl_trans HB.out hbw4)
  clear hbw4
  clear HuW
  have SW0 := hide hoW0.seg
  have AW0 := SW0
  clear hoW0
  go_wp2_with fail
  have kW0_0 : (w4.alloc (Obj.cells #[Value.bool (sgn (rtZ n1 xs1 n)), Value.slice aW0 (lms (rtZ n1 xs1 n)).length cW0] 26)).cell? ⟨w4.heap.size, 0, none⟩ = some (Value.bool (sgn (rtZ n1 xs1 n))) := by go_simp
  have kW0_1 : (w4.alloc (Obj.cells #[Value.bool (sgn (rtZ n1 xs1 n)), Value.slice aW0 (lms (rtZ n1 xs1 n)).length cW0] 26)).cell? ⟨w4.heap.size, 1, none⟩ = some (Value.slice aW0 (lms (rtZ n1 xs1 n)).length cW0) := by go_simp
  have zW0 : w4.heap.size < (w4.alloc (Obj.cells #[Value.bool (sgn (rtZ n1 xs1 n)), Value.slice aW0 (lms (rtZ n1 xs1 n)).length cW0] 26)).heap.size := by simp only [World.size_alloc]; omega
  have yw5 : w4.heap.size + 1 ≤ (w4.alloc (Obj.cells #[Value.bool (sgn (rtZ n1 xs1 n)), Value.slice aW0 (lms (rtZ n1 xs1 n)).length cW0] 26)).heap.size := by simp only [World.size_alloc]; omega
  have hbw5 := (bl_alloc (bl_refl w4) (Obj.cells #[Value.bool (sgn (rtZ n1 xs1 n)), Value.slice aW0 (lms (rtZ n1 xs1 n)).length cW0] 26))
  generalize (w4.alloc (Obj.cells #[Value.bool (sgn (rtZ n1 xs1 n)), Value.slice aW0 (lms (rtZ n1 xs1 n)).length cW0] 26)) = w5 at *
  replace k1_0 := (hbw5.cell (p := ⟨w.heap.size, 0, none⟩) z1).trans k1_0
  replace k1_1 := (hbw5.cell (p := ⟨w.heap.size, 1, none⟩) z1).trans k1_1
  replace z1 := Nat.lt_of_lt_of_le z1 hbw5.size
  replace S1 := hide (S1.out.below hbw5)
  replace SW0 := hide (SW0.out.below hbw5)
  replace HB := hide (bl_trans HB.out hbw5)
  clear hbw5
  refine (toB n1 a1 xs1.length c1 xs1 _ S1.out (by omega)).mono ?_
  rintro e w6 ⟨uP, rfl, ⟨aP, cP, rfl, hoP⟩, hbw6⟩
  have yw6 := hbw6.size
  replace k1_0 := (hbw6.cell (p := ⟨w.heap.size, 0, none⟩) z1).trans k1_0
  replace k1_1 := (hbw6.cell (p := ⟨w.heap.size, 1, none⟩) z1).trans k1_1
  replace z1 := Nat.lt_of_lt_of_le z1 hbw6.size
  replace kW0_0 := (hbw6.cell (p := ⟨w4.heap.size, 0, none⟩) zW0).trans kW0_0
  replace kW0_1 := (hbw6.cell (p := ⟨w4.heap.size, 1, none⟩) zW0).trans kW0_1
  replace zW0 := Nat.lt_of_lt_of_le zW0 hbw6.size
  replace S1 := hide (S1.out.below hbw6)
  replace SW0 := hide (SW0.out.below hbw6)
  replace HB := hide (bl_trans HB.out hbw6)
  clear hbw6
  have oP : ∀ k, (Value.slice aP xs1.length cP).ownBlock = some k → w5.heap.size ≤ k ∧ k < w6.heap.size := fun k e => hoP.1.lt k e
  have HP := hide hoP
  clear hoP
  go_wp2_with fail
  have kP_0 : (w6.alloc (Obj.cells #[Value.bool n1, Value.slice aP xs1.length cP] 26)).cell? ⟨w6.heap.size, 0, none⟩ = some (Value.bool n1) := by go_simp
  have kP_1 : (w6.alloc (Obj.cells #[Value.bool n1, Value.slice aP xs1.length cP] 26)).cell? ⟨w6.heap.size, 1, none⟩ = some (Value.slice aP xs1.length cP) := by go_simp
  have zP : w6.heap.size < (w6.alloc (Obj.cells #[Value.bool n1, Value.slice aP xs1.length cP] 26)).heap.size := by simp only [World.size_alloc]; omega
  have yw7 : w6.heap.size + 1 ≤ (w6.alloc (Obj.cells #[Value.bool n1, Value.slice aP xs1.length cP] 26)).heap.size := by simp only [World.size_alloc]; omega
  have hbw7 := (bl_alloc (bl_refl w6) (Obj.cells #[Value.bool n1, Value.slice aP xs1.length cP] 26))
  generalize (w6.alloc (Obj.cells #[Value.bool n1, Value.slice aP xs1.length cP] 26)) = w7 at *
  replace k1_0 := (hbw7.cell (p := ⟨w.heap.size, 0, none⟩) z1).trans k1_0
  replace k1_1 := (hbw7.cell (p := ⟨w.heap.size, 1, none⟩) z1).trans k1_1
  replace z1 := Nat.lt_of_lt_of_le z1 hbw7.size
  replace kW0_0 := (hbw7.cell (p := ⟨w4.heap.size, 0, none⟩) zW0).trans kW0_0
  replace kW0_1 := (hbw7.cell (p := ⟨w4.heap.size, 1, none⟩) zW0).trans kW0_1
  replace zW0 := Nat.lt_of_lt_of_le zW0 hbw7.size
  replace S1 := hide (S1.out.below hbw7)
  replace SW0 := hide (SW0.out.below hbw7)
  replace HP := hide (HP.out.below hbw7)
  replace HB := hide (bl_trans HB.out hbw7)
  clear hbw7
  refine (rootP n1 xs1 n aP cP _ (HP.out.seg) hi1 hi2).mono ?_
  rintro e w8 ⟨aG0, cG0, rfl, hoG0, hbw8⟩
  have yw8 := hbw8.size
  replace k1_0 := (hbw8.cell (p := ⟨w.heap.size, 0, none⟩) z1).trans k1_0
  replace k1_1 := (hbw8.cell (p := ⟨w.heap.size, 1, none⟩) z1).trans k1_1
  replace z1 := Nat.lt_of_lt_of_le z1 hbw8.size
  replace kW0_0 := (hbw8.cell (p := ⟨w4.heap.size, 0, none⟩) zW0).trans kW0_0
  replace kW0_1 := (hbw8.cell (p := ⟨w4.heap.size, 1, none⟩) zW0).trans kW0_1
  replace zW0 := Nat.lt_of_lt_of_le zW0 hbw8.size
  replace kP_0 := (hbw8.cell (p := ⟨w6.heap.size, 0, none⟩) zP).trans kP_0
  replace kP_1 := (hbw8.cell (p := ⟨w6.heap.size, 1, none⟩) zP).trans kP_1
  replace zP := Nat.lt_of_lt_of_le zP hbw8.size
  replace S1 := hide (S1.out.below hbw8)
  replace SW0 := hide (SW0.out.below hbw8)
  replace HP := hide (HP.out.below hbw8)
  replace HB := hide (bl_trans HB.out hbw8)
  clear hbw8
  have oG0 : ∀ k, (Value.slice aG0 (lms (rtZ n1 xs1 n)).length cG0).ownBlock = some k → w7.heap.size ≤ k ∧ k < w8.heap.size := fun k e => hoG0.1.lt k e
  have HG0 := hide hoG0
  clear hoG0
  go_wp2_with fail
  have kG0_0 : (w8.alloc (Obj.cells #[Value.bool (sgn (rtZ n1 xs1 n)), Value.slice aG0 (lms (rtZ n1 xs1 n)).length cG0] 26)).cell? ⟨w8.heap.size, 0, none⟩ = some (Value.bool (sgn (rtZ n1 xs1 n))) := by go_simp
  have kG0_1 : (w8.alloc (Obj.cells #[Value.bool (sgn (rtZ n1 xs1 n)), Value.slice aG0 (lms (rtZ n1 xs1 n)).length cG0] 26)).cell? ⟨w8.heap.size, 1, none⟩ = some (Value.slice aG0 (lms (rtZ n1 xs1 n)).length cG0) := by go_simp
  have zG0 : w8.heap.size < (w8.alloc (Obj.cells #[Value.bool (sgn (rtZ n1 xs1 n)), Value.slice aG0 (lms (rtZ n1 xs1 n)).length cG0] 26)).heap.size := by simp only [World.size_alloc]; omega
  have yw9 : w8.heap.size + 1 ≤ (w8.alloc (Obj.cells #[Value.bool (sgn (rtZ n1 xs1 n)), Value.slice aG0 (lms (rtZ n1 xs1 n)).length cG0] 26)).heap.size := by simp only [World.size_alloc]; omega
  have hbw9 := (bl_alloc (bl_refl w8) (Obj.cells #[Value.bool (sgn (rtZ n1 xs1 n)), Value.slice aG0 (lms (rtZ n1 xs1 n)).length cG0] 26))
  generalize (w8.alloc (Obj.cells #[Value.bool (sgn (rtZ n1 xs1 n)), Value.slice aG0 (lms (rtZ n1 xs1 n)).length cG0] 26)) = w9 at *
  replace k1_0 := (hbw9.cell (p := ⟨w.heap.size, 0, none⟩) z1).trans k1_0
  replace k1_1 := (hbw9.cell (p := ⟨w.heap.size, 1, none⟩) z1).trans k1_1
  replace z1 := Nat.lt_of_lt_of_le z1 hbw9.size
  replace kW0_0 := (hbw9.cell (p := ⟨w4.heap.size, 0, none⟩) zW0).trans kW0_0
  replace kW0_1 := (hbw9.cell (p := ⟨w4.heap.size, 1, none⟩) zW0).trans kW0_1
  replace zW0 := Nat.lt_of_lt_of_le zW0 hbw9.size
  replace kP_0 := (hbw9.cell (p := ⟨w6.heap.size, 0, none⟩) zP).trans kP_0
  replace kP_1 := (hbw9.cell (p := ⟨w6.heap.size, 1, none⟩) zP).trans kP_1
  replace zP := Nat.lt_of_lt_of_le zP hbw9.size
  replace S1 := hide (S1.out.below hbw9)
  replace SW0 := hide (SW0.out.below hbw9)
  replace HP := hide (HP.out.below hbw9)
  replace HG0 := hide (HG0.out.below hbw9)
  replace HB := hide (bl_trans HB.out hbw9)
  clear hbw9
  refine (eqB _ _ (sgn (rtZ n1 xs1 n)) (lms (rtZ n1 xs1 n)) _ ⟨aG0, cG0, rfl, HG0.out.seg⟩ ⟨aW0, cW0, rfl, SW0.out⟩).mono ?_
  rintro e w10 ⟨rfl, hbw10⟩
  have yw10 := hbw10.size
  replace k1_0 := (hbw10.cell (p := ⟨w.heap.size, 0, none⟩) z1).trans k1_0
  replace k1_1 := (hbw10.cell (p := ⟨w.heap.size, 1, none⟩) z1).trans k1_1
  replace z1 := Nat.lt_of_lt_of_le z1 hbw10.size
  replace kW0_0 := (hbw10.cell (p := ⟨w4.heap.size, 0, none⟩) zW0).trans kW0_0
  replace kW0_1 := (hbw10.cell (p := ⟨w4.heap.size, 1, none⟩) zW0).trans kW0_1
  replace zW0 := Nat.lt_of_lt_of_le zW0 hbw10.size
  replace kP_0 := (hbw10.cell (p := ⟨w6.heap.size, 0, none⟩) zP).trans kP_0
  replace kP_1 := (hbw10.cell (p := ⟨w6.heap.size, 1, none⟩) zP).trans kP_1
  replace zP := Nat.lt_of_lt_of_le zP hbw10.size
  replace kG0_0 := (hbw10.cell (p := ⟨w8.heap.size, 0, none⟩) zG0).trans kG0_0
  replace kG0_1 := (hbw10.cell (p := ⟨w8.heap.size, 1, none⟩) zG0).trans kG0_1
  replace zG0 := Nat.lt_of_lt_of_le zG0 hbw10.size
  replace S1 := hide (S1.out.below hbw10)
  replace SW0 := hide (SW0.out.below hbw10)
  replace HP := hide (HP.out.below hbw10)
  replace HG0 := hide (HG0.out.below hbw10)
  replace HB := hide (bl_trans HB.out hbw10)
  clear hbw10
  go_wp2_with fail
  have KP : Hid (∀ w', Below w10.heap.size w10 w' → (w'.cell? ⟨w.heap.size, 0, none⟩ = some (Value.bool n1) ∧ w'.cell? ⟨w.heap.size, 1, none⟩ = some (Value.slice a1 xs1.length c1) ∧ w'.cell? ⟨w6.heap.size, 0, none⟩ = some (Value.bool n1) ∧ w'.cell? ⟨w6.heap.size, 1, none⟩ = some (Value.slice aP xs1.length cP))) := hide (fun w' hb => ⟨(hb.cell (p := ⟨w.heap.size, 0, none⟩) z1).trans k1_0, (hb.cell (p := ⟨w.heap.size, 1, none⟩) z1).trans k1_1, (hb.cell (p := ⟨w6.heap.size, 0, none⟩) zP).trans kP_0, (hb.cell (p := ⟨w6.heap.size, 1, none⟩) zP).trans kP_1⟩)
  go_region_held3 (fun w' => w'.cell? ⟨w.heap.size, 0, none⟩ = some (Value.bool n1) ∧ w'.cell? ⟨w.heap.size, 1, none⟩ = some (Value.slice a1 xs1.length c1) ∧ w'.cell? ⟨w6.heap.size, 0, none⟩ = some (Value.bool n1) ∧ w'.cell? ⟨w6.heap.size, 1, none⟩ = some (Value.slice aP xs1.length cP))
    (first | exact KP.out _ (bl_refl w10).drew | exact KP.out _ hbw12 | exact KP.out _ hbw11)
    (first
      | (go_at_call_of 7 (Value.agg #[Value.bool n1, Value.slice a1 xs1.length c1]); refine (toB n1 a1 xs1.length c1 xs1 _ (S1.out.below ((bl_refl w10).drew)) (by omega)).mono ?_; rintro e w11 ⟨u, rfl, hgu, hbw11r⟩; have hbw11 : Below w10.heap.size w10 w11 := (bl_refl w10).drew.trans hbw11r)
      | (go_at_call 9; refine (eqB _ u n1 xs1 _ ⟨aP, cP, rfl, HP.out.seg.below hbw11⟩ hgu.raw).mono ?_; rintro e w12 ⟨rfl, hbw12r⟩; have hbw12 : Below w10.heap.size w10 w12 := bl_trans hbw11 hbw12r))
  clear KP
  have yw12 := hbw12.size
  replace k1_0 := (hbw12.cell (p := ⟨w.heap.size, 0, none⟩) z1).trans k1_0
  replace k1_1 := (hbw12.cell (p := ⟨w.heap.size, 1, none⟩) z1).trans k1_1
  replace z1 := Nat.lt_of_lt_of_le z1 hbw12.size
  replace kW0_0 := (hbw12.cell (p := ⟨w4.heap.size, 0, none⟩) zW0).trans kW0_0
  replace kW0_1 := (hbw12.cell (p := ⟨w4.heap.size, 1, none⟩) zW0).trans kW0_1
  replace zW0 := Nat.lt_of_lt_of_le zW0 hbw12.size
  replace kP_0 := (hbw12.cell (p := ⟨w6.heap.size, 0, none⟩) zP).trans kP_0
  replace kP_1 := (hbw12.cell (p := ⟨w6.heap.size, 1, none⟩) zP).trans kP_1
  replace zP := Nat.lt_of_lt_of_le zP hbw12.size
  replace kG0_0 := (hbw12.cell (p := ⟨w8.heap.size, 0, none⟩) zG0).trans kG0_0
  replace kG0_1 := (hbw12.cell (p := ⟨w8.heap.size, 1, none⟩) zG0).trans kG0_1
  replace zG0 := Nat.lt_of_lt_of_le zG0 hbw12.size
  replace S1 := hide (S1.out.below hbw12)
  replace SW0 := hide (SW0.out.below hbw12)
  replace HP := hide (HP.out.below hbw12)
  replace HG0 := hide (HG0.out.below hbw12)
  replace HB := hide (bl_trans HB.out hbw12)
  clear hbw11 hbw11r hbw12 hbw12r hgu
  go_wp2_with fail
  refine (markBe n1 aP xs1.length cP _ _ (0) (1) _ (by omega) (by omega) HP.out).mono ?_
  rintro e w13 ⟨rfl, hm, hg⟩
  have yw13 := hg.size
  replace k1_0 := hg.cell k1_0 (fun e => by have := oP _ e.symm; dsimp only at this; omega)
  replace k1_1 := hg.cell k1_1 (fun e => by have := oP _ e.symm; dsimp only at this; omega)
  replace z1 := Nat.lt_of_lt_of_le z1 yw13
  replace kW0_0 := hg.cell kW0_0 (fun e => by have := oP _ e.symm; dsimp only at this; omega)
  replace kW0_1 := hg.cell kW0_1 (fun e => by have := oP _ e.symm; dsimp only at this; omega)
  replace zW0 := Nat.lt_of_lt_of_le zW0 yw13
  replace kP_0 := hg.cell kP_0 (fun e => by have := oP _ e.symm; dsimp only at this; omega)
  replace kP_1 := hg.cell kP_1 (fun e => by have := oP _ e.symm; dsimp only at this; omega)
  replace zP := Nat.lt_of_lt_of_le zP yw13
  replace kG0_0 := hg.cell kG0_0 (fun e => by have := oP _ e.symm; dsimp only at this; omega)
  replace kG0_1 := hg.cell kG0_1 (fun e => by have := oP _ e.symm; dsimp only at this; omega)
  replace zG0 := Nat.lt_of_lt_of_le zG0 yw13
  replace S1 := hide (S1.out.grownLow A1.out hg (fun k e => by have := oP k e; omega))
  replace SW0 := hide (SW0.out.grownLow AW0.out hg (fun k e => by have := oP k e; omega))
  replace HG0 := hide (HG0.out.kept hg (apart_of oG0 oP (by omega)))
  replace HB := hide (HB.out.grown hg HB.out.size (fun k e => by have := oP k e; omega))
  replace HP := hide hm
  clear hg hm
  go_wp2_with fail
  refine (eqB _ _ (sgn (rtZ n1 xs1 n)) (lms (rtZ n1 xs1 n)) _ ⟨aG0, cG0, rfl, HG0.out.seg⟩ ⟨aW0, cW0, rfl, SW0.out⟩).mono ?_
  rintro e w14 ⟨rfl, hbw14⟩
  have yw14 := hbw14.size
  replace k1_0 := (hbw14.cell (p := ⟨w.heap.size, 0, none⟩) z1).trans k1_0
  replace k1_1 := (hbw14.cell (p := ⟨w.heap.size, 1, none⟩) z1).trans k1_1
  replace z1 := Nat.lt_of_lt_of_le z1 hbw14.size
  replace kW0_0 := (hbw14.cell (p := ⟨w4.heap.size, 0, none⟩) zW0).trans kW0_0
  replace kW0_1 := (hbw14.cell (p := ⟨w4.heap.size, 1, none⟩) zW0).trans kW0_1
  replace zW0 := Nat.lt_of_lt_of_le zW0 hbw14.size
  replace kP_0 := (hbw14.cell (p := ⟨w6.heap.size, 0, none⟩) zP).trans kP_0
  replace kP_1 := (hbw14.cell (p := ⟨w6.heap.size, 1, none⟩) zP).trans kP_1
  replace zP := Nat.lt_of_lt_of_le zP hbw14.size
  replace kG0_0 := (hbw14.cell (p := ⟨w8.heap.size, 0, none⟩) zG0).trans kG0_0
  replace kG0_1 := (hbw14.cell (p := ⟨w8.heap.size, 1, none⟩) zG0).trans kG0_1
  replace zG0 := Nat.lt_of_lt_of_le zG0 hbw14.size
  replace S1 := hide (S1.out.below hbw14)
  replace SW0 := hide (SW0.out.below hbw14)
  replace HP := hide (HP.out.below hbw14)
  replace HG0 := hide (HG0.out.below hbw14)
  replace HB := hide (bl_trans HB.out hbw14)
  clear hbw14
  go_wp2_with fail
  refine (markBe (sgn (rtZ n1 xs1 n)) aG0 (lms (rtZ n1 xs1 n)).length cG0 _ _ (0) (1) _ (by omega) (by omega) HG0.out).mono ?_
  rintro e w15 ⟨rfl, hm, hg⟩
  have yw15 := hg.size
  replace k1_0 := hg.cell k1_0 (fun e => by have := oG0 _ e.symm; dsimp only at this; omega)
  replace k1_1 := hg.cell k1_1 (fun e => by have := oG0 _ e.symm; dsimp only at this; omega)
  replace z1 := Nat.lt_of_lt_of_le z1 yw15
  replace kW0_0 := hg.cell kW0_0 (fun e => by have := oG0 _ e.symm; dsimp only at this; omega)
  replace kW0_1 := hg.cell kW0_1 (fun e => by have := oG0 _ e.symm; dsimp only at this; omega)
  replace zW0 := Nat.lt_of_lt_of_le zW0 yw15
  replace kP_0 := hg.cell kP_0 (fun e => by have := oG0 _ e.symm; dsimp only at this; omega)
  replace kP_1 := hg.cell kP_1 (fun e => by have := oG0 _ e.symm; dsimp only at this; omega)
  replace zP := Nat.lt_of_lt_of_le zP yw15
  replace kG0_0 := hg.cell kG0_0 (fun e => by have := oG0 _ e.symm; dsimp only at this; omega)
  replace kG0_1 := hg.cell kG0_1 (fun e => by have := oG0 _ e.symm; dsimp only at this; omega)
  replace zG0 := Nat.lt_of_lt_of_le zG0 yw15
  replace S1 := hide (S1.out.grownLow A1.out hg (fun k e => by have := oG0 k e; omega))
  replace SW0 := hide (SW0.out.grownLow AW0.out hg (fun k e => by have := oG0 k e; omega))
  replace HP := hide (HP.out.kept hg (apart_of oP oG0 (by omega)))
  replace HB := hide (HB.out.grown hg HB.out.size (fun k e => by have := oG0 k e; omega))
  replace HG0 := hide hm
  clear hg hm
  go_wp2_with fail
  refine (heldBe (sgn (rtZ n1 xs1 n)) aG0 (lms (rtZ n1 xs1 n)).length cG0 (0) (1) _ (by omega) (by omega) HG0.out.seg).mono ?_
  rintro e w16 ⟨rfl, hbw16⟩
  have yw16 := hbw16.size
  replace k1_0 := (hbw16.cell (p := ⟨w.heap.size, 0, none⟩) z1).trans k1_0
  replace k1_1 := (hbw16.cell (p := ⟨w.heap.size, 1, none⟩) z1).trans k1_1
  replace z1 := Nat.lt_of_lt_of_le z1 hbw16.size
  replace kW0_0 := (hbw16.cell (p := ⟨w4.heap.size, 0, none⟩) zW0).trans kW0_0
  replace kW0_1 := (hbw16.cell (p := ⟨w4.heap.size, 1, none⟩) zW0).trans kW0_1
  replace zW0 := Nat.lt_of_lt_of_le zW0 hbw16.size
  replace kP_0 := (hbw16.cell (p := ⟨w6.heap.size, 0, none⟩) zP).trans kP_0
  replace kP_1 := (hbw16.cell (p := ⟨w6.heap.size, 1, none⟩) zP).trans kP_1
  replace zP := Nat.lt_of_lt_of_le zP hbw16.size
  replace kG0_0 := (hbw16.cell (p := ⟨w8.heap.size, 0, none⟩) zG0).trans kG0_0
  replace kG0_1 := (hbw16.cell (p := ⟨w8.heap.size, 1, none⟩) zG0).trans kG0_1
  replace zG0 := Nat.lt_of_lt_of_le zG0 hbw16.size
  replace S1 := hide (S1.out.below hbw16)
  replace SW0 := hide (SW0.out.below hbw16)
  replace HP := hide (HP.out.below hbw16)
  replace HG0 := hide (HG0.out.below hbw16)
  replace HB := hide (bl_trans HB.out hbw16)
  clear hbw16
  go_wp2_with fail
  refine (toB n1 a1 xs1.length c1 xs1 _ S1.out (by omega)).mono ?_
  rintro e w17 ⟨uuV, rfl, ⟨auV, cuV, rfl, houV⟩, hbw17⟩
  have yw17 := hbw17.size
  replace k1_0 := (hbw17.cell (p := ⟨w.heap.size, 0, none⟩) z1).trans k1_0
  replace k1_1 := (hbw17.cell (p := ⟨w.heap.size, 1, none⟩) z1).trans k1_1
  replace z1 := Nat.lt_of_lt_of_le z1 hbw17.size
  replace kW0_0 := (hbw17.cell (p := ⟨w4.heap.size, 0, none⟩) zW0).trans kW0_0
  replace kW0_1 := (hbw17.cell (p := ⟨w4.heap.size, 1, none⟩) zW0).trans kW0_1
  replace zW0 := Nat.lt_of_lt_of_le zW0 hbw17.size
  replace kP_0 := (hbw17.cell (p := ⟨w6.heap.size, 0, none⟩) zP).trans kP_0
  replace kP_1 := (hbw17.cell (p := ⟨w6.heap.size, 1, none⟩) zP).trans kP_1
  replace zP := Nat.lt_of_lt_of_le zP hbw17.size
  replace kG0_0 := (hbw17.cell (p := ⟨w8.heap.size, 0, none⟩) zG0).trans kG0_0
  replace kG0_1 := (hbw17.cell (p := ⟨w8.heap.size, 1, none⟩) zG0).trans kG0_1
  replace zG0 := Nat.lt_of_lt_of_le zG0 hbw17.size
  replace S1 := hide (S1.out.below hbw17)
  replace SW0 := hide (SW0.out.below hbw17)
  replace HP := hide (HP.out.below hbw17)
  replace HG0 := hide (HG0.out.below hbw17)
  replace HB := hide (bl_trans HB.out hbw17)
  clear hbw17
  have HuV := hide houV.seg
  clear houV
  go_wp2_with fail
  refine (rootP n1 xs1 n auV cuV _ (HuV.out) hi1 hi2).mono ?_
  rintro e w18 ⟨aV0, cV0, rfl, hoV0, hbw18⟩
  have yw18 := hbw18.size
  replace k1_0 := (hbw18.cell (p := ⟨w.heap.size, 0, none⟩) z1).trans k1_0
  replace k1_1 := (hbw18.cell (p := ⟨w.heap.size, 1, none⟩) z1).trans k1_1
  replace z1 := Nat.lt_of_lt_of_le z1 hbw18.size
  replace kW0_0 := (hbw18.cell (p := ⟨w4.heap.size, 0, none⟩) zW0).trans kW0_0
  replace kW0_1 := (hbw18.cell (p := ⟨w4.heap.size, 1, none⟩) zW0).trans kW0_1
  replace zW0 := Nat.lt_of_lt_of_le zW0 hbw18.size
  replace kP_0 := (hbw18.cell (p := ⟨w6.heap.size, 0, none⟩) zP).trans kP_0
  replace kP_1 := (hbw18.cell (p := ⟨w6.heap.size, 1, none⟩) zP).trans kP_1
  replace zP := Nat.lt_of_lt_of_le zP hbw18.size
  replace kG0_0 := (hbw18.cell (p := ⟨w8.heap.size, 0, none⟩) zG0).trans kG0_0
  replace kG0_1 := (hbw18.cell (p := ⟨w8.heap.size, 1, none⟩) zG0).trans kG0_1
  replace zG0 := Nat.lt_of_lt_of_le zG0 hbw18.size
  replace S1 := hide (S1.out.below hbw18)
  replace SW0 := hide (SW0.out.below hbw18)
  replace HP := hide (HP.out.below hbw18)
  replace HG0 := hide (HG0.out.below hbw18)
  replace HuV := hide (HuV.out.below hbw18)
  replace HB := hide (bl_trans HB.out hbw18)
  clear hbw18
  clear HuV
  have SV0 := hide hoV0.seg
  have AV0 := SV0
  clear hoV0
  go_wp2_with fail
  have kV0_0 : (w18.alloc (Obj.cells #[Value.bool (sgn (rtZ n1 xs1 n)), Value.slice aV0 (lms (rtZ n1 xs1 n)).length cV0] 26)).cell? ⟨w18.heap.size, 0, none⟩ = some (Value.bool (sgn (rtZ n1 xs1 n))) := by go_simp
  have kV0_1 : (w18.alloc (Obj.cells #[Value.bool (sgn (rtZ n1 xs1 n)), Value.slice aV0 (lms (rtZ n1 xs1 n)).length cV0] 26)).cell? ⟨w18.heap.size, 1, none⟩ = some (Value.slice aV0 (lms (rtZ n1 xs1 n)).length cV0) := by go_simp
  have zV0 : w18.heap.size < (w18.alloc (Obj.cells #[Value.bool (sgn (rtZ n1 xs1 n)), Value.slice aV0 (lms (rtZ n1 xs1 n)).length cV0] 26)).heap.size := by simp only [World.size_alloc]; omega
  have yw19 : w18.heap.size + 1 ≤ (w18.alloc (Obj.cells #[Value.bool (sgn (rtZ n1 xs1 n)), Value.slice aV0 (lms (rtZ n1 xs1 n)).length cV0] 26)).heap.size := by simp only [World.size_alloc]; omega
  have hbw19 := (bl_alloc (bl_refl w18) (Obj.cells #[Value.bool (sgn (rtZ n1 xs1 n)), Value.slice aV0 (lms (rtZ n1 xs1 n)).length cV0] 26))
  generalize (w18.alloc (Obj.cells #[Value.bool (sgn (rtZ n1 xs1 n)), Value.slice aV0 (lms (rtZ n1 xs1 n)).length cV0] 26)) = w19 at *
  replace k1_0 := (hbw19.cell (p := ⟨w.heap.size, 0, none⟩) z1).trans k1_0
  replace k1_1 := (hbw19.cell (p := ⟨w.heap.size, 1, none⟩) z1).trans k1_1
  replace z1 := Nat.lt_of_lt_of_le z1 hbw19.size
  replace kW0_0 := (hbw19.cell (p := ⟨w4.heap.size, 0, none⟩) zW0).trans kW0_0
  replace kW0_1 := (hbw19.cell (p := ⟨w4.heap.size, 1, none⟩) zW0).trans kW0_1
  replace zW0 := Nat.lt_of_lt_of_le zW0 hbw19.size
  replace kP_0 := (hbw19.cell (p := ⟨w6.heap.size, 0, none⟩) zP).trans kP_0
  replace kP_1 := (hbw19.cell (p := ⟨w6.heap.size, 1, none⟩) zP).trans kP_1
  replace zP := Nat.lt_of_lt_of_le zP hbw19.size
  replace kG0_0 := (hbw19.cell (p := ⟨w8.heap.size, 0, none⟩) zG0).trans kG0_0
  replace kG0_1 := (hbw19.cell (p := ⟨w8.heap.size, 1, none⟩) zG0).trans kG0_1
  replace zG0 := Nat.lt_of_lt_of_le zG0 hbw19.size
  replace S1 := hide (S1.out.below hbw19)
  replace SW0 := hide (SW0.out.below hbw19)
  replace HP := hide (HP.out.below hbw19)
  replace HG0 := hide (HG0.out.below hbw19)
  replace SV0 := hide (SV0.out.below hbw19)
  replace HB := hide (bl_trans HB.out hbw19)
  clear hbw19
  refine (eqB _ _ (sgn (rtZ n1 xs1 n)) (lms (rtZ n1 xs1 n)) _ ⟨aV0, cV0, rfl, SV0.out⟩ ⟨aW0, cW0, rfl, SW0.out⟩).mono ?_
  rintro e w20 ⟨rfl, hbw20⟩
  have yw20 := hbw20.size
  replace k1_0 := (hbw20.cell (p := ⟨w.heap.size, 0, none⟩) z1).trans k1_0
  replace k1_1 := (hbw20.cell (p := ⟨w.heap.size, 1, none⟩) z1).trans k1_1
  replace z1 := Nat.lt_of_lt_of_le z1 hbw20.size
  replace kW0_0 := (hbw20.cell (p := ⟨w4.heap.size, 0, none⟩) zW0).trans kW0_0
  replace kW0_1 := (hbw20.cell (p := ⟨w4.heap.size, 1, none⟩) zW0).trans kW0_1
  replace zW0 := Nat.lt_of_lt_of_le zW0 hbw20.size
  replace kP_0 := (hbw20.cell (p := ⟨w6.heap.size, 0, none⟩) zP).trans kP_0
  replace kP_1 := (hbw20.cell (p := ⟨w6.heap.size, 1, none⟩) zP).trans kP_1
  replace zP := Nat.lt_of_lt_of_le zP hbw20.size
  replace kG0_0 := (hbw20.cell (p := ⟨w8.heap.size, 0, none⟩) zG0).trans kG0_0
  replace kG0_1 := (hbw20.cell (p := ⟨w8.heap.size, 1, none⟩) zG0).trans kG0_1
  replace zG0 := Nat.lt_of_lt_of_le zG0 hbw20.size
  replace kV0_0 := (hbw20.cell (p := ⟨w18.heap.size, 0, none⟩) zV0).trans kV0_0
  replace kV0_1 := (hbw20.cell (p := ⟨w18.heap.size, 1, none⟩) zV0).trans kV0_1
  replace zV0 := Nat.lt_of_lt_of_le zV0 hbw20.size
  replace S1 := hide (S1.out.below hbw20)
  replace SW0 := hide (SW0.out.below hbw20)
  replace HP := hide (HP.out.below hbw20)
  replace HG0 := hide (HG0.out.below hbw20)
  replace SV0 := hide (SV0.out.below hbw20)
  replace HB := hide (bl_trans HB.out hbw20)
  clear hbw20
  go_wp2_with fail
  refine (heldBe (sgn (rtZ n1 xs1 n)) aG0 (lms (rtZ n1 xs1 n)).length cG0 (0) (1) _ (by omega) (by omega) HG0.out.seg).mono ?_
  rintro e w21 ⟨rfl, hbw21⟩
  have yw21 := hbw21.size
  replace k1_0 := (hbw21.cell (p := ⟨w.heap.size, 0, none⟩) z1).trans k1_0
  replace k1_1 := (hbw21.cell (p := ⟨w.heap.size, 1, none⟩) z1).trans k1_1
  replace z1 := Nat.lt_of_lt_of_le z1 hbw21.size
  replace kW0_0 := (hbw21.cell (p := ⟨w4.heap.size, 0, none⟩) zW0).trans kW0_0
  replace kW0_1 := (hbw21.cell (p := ⟨w4.heap.size, 1, none⟩) zW0).trans kW0_1
  replace zW0 := Nat.lt_of_lt_of_le zW0 hbw21.size
  replace kP_0 := (hbw21.cell (p := ⟨w6.heap.size, 0, none⟩) zP).trans kP_0
  replace kP_1 := (hbw21.cell (p := ⟨w6.heap.size, 1, none⟩) zP).trans kP_1
  replace zP := Nat.lt_of_lt_of_le zP hbw21.size
  replace kG0_0 := (hbw21.cell (p := ⟨w8.heap.size, 0, none⟩) zG0).trans kG0_0
  replace kG0_1 := (hbw21.cell (p := ⟨w8.heap.size, 1, none⟩) zG0).trans kG0_1
  replace zG0 := Nat.lt_of_lt_of_le zG0 hbw21.size
  replace kV0_0 := (hbw21.cell (p := ⟨w18.heap.size, 0, none⟩) zV0).trans kV0_0
  replace kV0_1 := (hbw21.cell (p := ⟨w18.heap.size, 1, none⟩) zV0).trans kV0_1
  replace zV0 := Nat.lt_of_lt_of_le zV0 hbw21.size
  replace S1 := hide (S1.out.below hbw21)
  replace SW0 := hide (SW0.out.below hbw21)
  replace HP := hide (HP.out.below hbw21)
  replace HG0 := hide (HG0.out.below hbw21)
  replace SV0 := hide (SV0.out.below hbw21)
  replace HB := hide (bl_trans HB.out hbw21)
  clear hbw21
  go_wp2
  go_ret
  exact ⟨rfl, HB.out⟩
end Go.Proofs.Ytbnjgfaojaimlaa
