/- The walk of the exact law of Power. -/
import Derived.Test.YtkipaekgcpklcaaPowP
import Derived.Test.YtkipaekgcpklcaaLawBase
namespace Go.Proofs.Ytkipaekgcpklcaa
open Go.RowKit
set_option linter.unusedVariables false

theorem powZ_len (n1 : Bool) (xs : List Nat) (n : Int) : (lms (powZ n1 xs n)).length ≤ 40 := by
  unfold powZ
  by_cases h : powT n1 xs n = true
  · rw [if_pos h]
    unfold powT at h
    simp only [Bool.and_eq_true] at h
    exact Num.limbs_len.2 (of_decide_eq_true h.2)
  · rw [if_neg h, zero_lms]; exact Nat.zero_le _

set_option maxHeartbeats 4000000 in
set_option maxRecDepth 20000 in
theorem walk15 (n1 : Bool) (a1 : Option Addr) (c1 : Nat) (xs1 : List Nat) (n : Int) (w : World) (s1 : Seg w a1 xs1.length c1 xs1) (hi1 : -9223372036854775808 ≤ n) (hi2 : n ≤ 9223372036854775807) :
    Calls Try.prog 15 #[.agg #[.bool n1, .slice a1 xs1.length c1], .int .i64 n] w fun e w' => e = .returned (.bool true) ∧ Below w.heap.size w w' := by
  have hL : (lms (powZ n1 xs1 n)).length ≤ 40 := powZ_len n1 xs1 n
  have A1 := hide s1
  have k10 : (w.alloc (Obj.cells #[Value.bool n1, Value.slice a1 xs1.length c1] 38)).cell? ⟨w.heap.size, 0, none⟩ = some (Value.bool n1) := by go_simp
  have k11 : (w.alloc (Obj.cells #[Value.bool n1, Value.slice a1 xs1.length c1] 38)).cell? ⟨w.heap.size, 1, none⟩ = some (Value.slice a1 xs1.length c1) := by go_simp
  have z1 : w.heap.size < (w.alloc (Obj.cells #[Value.bool n1, Value.slice a1 xs1.length c1] 38)).heap.size := by simp only [World.size_alloc]; omega
  have hn1 := s1.le
  have S1 := hide (s1.below (bl_alloc (bl_refl w) (Obj.cells #[Value.bool n1, Value.slice a1 xs1.length c1] 38)))
  have HB := hide (bl_alloc (bl_refl w) (Obj.cells #[Value.bool n1, Value.slice a1 xs1.length c1] 38))
  clear s1
  go_enter Try.func15, Try.ntmps15
  go_wp2_with fail
  generalize (w.alloc (Obj.cells #[Value.bool n1, Value.slice a1 xs1.length c1] 38)) = w1 at *
  have y1 := z1
  refine (szB n1 a1 xs1.length c1 (1048576) _ hn1 (by omega) (by omega)).mono ?_
  rintro e w2 ⟨rfl, hbw2⟩
  have qw2 := hbw2.size
  replace k10 := (hbw2.cell (p := ⟨w.heap.size, 0, none⟩) z1).trans k10
  replace k11 := (hbw2.cell (p := ⟨w.heap.size, 1, none⟩) z1).trans k11
  replace z1 := Nat.lt_of_lt_of_le z1 hbw2.size
  replace S1 := hide (S1.out.below hbw2)
  replace HB := hide (bl_trans HB.out hbw2)
  clear hbw2
  by_cases hbig1 : (1048576 : Int) < (xs1.length : Int)
  · rw [if_pos hbig1]
    go_wp2
    go_ret
    exact ⟨rfl, HB.out⟩
  rw [if_neg hbig1]
  go_wp2_with fail
  refine (toB n1 a1 xs1.length c1 xs1 _ (S1.out.below (bl_refl _)) (by omega)).mono ?_
  rintro e w3 ⟨u, rfl, hg, hbw3⟩
  have qw3 := hbw3.size
  replace k10 := (hbw3.cell (p := ⟨w.heap.size, 0, none⟩) z1).trans k10
  replace k11 := (hbw3.cell (p := ⟨w.heap.size, 1, none⟩) z1).trans k11
  replace z1 := Nat.lt_of_lt_of_le z1 hbw3.size
  replace S1 := hide (S1.out.below hbw3)
  replace HB := hide (bl_trans HB.out hbw3)
  clear hbw3
  go_wp2_with fail
  refine (PowQ _ n1 xs1 n _ hg.raw hi1 hi2).mono ?_
  rintro e w4 ⟨vW, rfl, ⟨aW, cW, rfl, hoW⟩, hbw4⟩
  have qw4 := hbw4.size
  replace k10 := (hbw4.cell (p := ⟨w.heap.size, 0, none⟩) z1).trans k10
  replace k11 := (hbw4.cell (p := ⟨w.heap.size, 1, none⟩) z1).trans k11
  replace z1 := Nat.lt_of_lt_of_le z1 hbw4.size
  replace S1 := hide (S1.out.below hbw4)
  replace HB := hide (bl_trans HB.out hbw4)
  clear hbw4
  have oW : ∀ k, (Value.slice aW (lms (powZ n1 xs1 n)).length cW).ownBlock = some k → w3.heap.size ≤ k ∧ k < w4.heap.size := fun k e => hoW.1.lt k e
  have HW := hide hoW
  clear hoW
  clear hg
  go_wp2_with fail
  have kW0 : (w4.alloc (Obj.cells #[Value.bool (sgn (powZ n1 xs1 n)), Value.slice aW (lms (powZ n1 xs1 n)).length cW] 26)).cell? ⟨w4.heap.size, 0, none⟩ = some (Value.bool (sgn (powZ n1 xs1 n))) := by go_simp
  have kW1 : (w4.alloc (Obj.cells #[Value.bool (sgn (powZ n1 xs1 n)), Value.slice aW (lms (powZ n1 xs1 n)).length cW] 26)).cell? ⟨w4.heap.size, 1, none⟩ = some (Value.slice aW (lms (powZ n1 xs1 n)).length cW) := by go_simp
  have zW : w4.heap.size < (w4.alloc (Obj.cells #[Value.bool (sgn (powZ n1 xs1 n)), Value.slice aW (lms (powZ n1 xs1 n)).length cW] 26)).heap.size := by simp only [World.size_alloc]; omega
  have qw5 := zW
  have hbw5 := bl_alloc (bl_refl w4) (Obj.cells #[Value.bool (sgn (powZ n1 xs1 n)), Value.slice aW (lms (powZ n1 xs1 n)).length cW] 26)
  generalize w4.alloc (Obj.cells #[Value.bool (sgn (powZ n1 xs1 n)), Value.slice aW (lms (powZ n1 xs1 n)).length cW] 26) = w5 at *
  replace k10 := (hbw5.cell (p := ⟨w.heap.size, 0, none⟩) z1).trans k10
  replace k11 := (hbw5.cell (p := ⟨w.heap.size, 1, none⟩) z1).trans k11
  replace z1 := Nat.lt_of_lt_of_le z1 hbw5.size
  replace S1 := hide (S1.out.below hbw5)
  replace HW := hide (HW.out.below hbw5)
  replace HB := hide (bl_trans HB.out hbw5)
  clear hbw5
  refine (toB n1 a1 xs1.length c1 xs1 _ S1.out (by omega)).mono ?_
  rintro e w6 ⟨vP, rfl, ⟨aP, cP, rfl, hoP⟩, hbw6⟩
  have qw6 := hbw6.size
  replace k10 := (hbw6.cell (p := ⟨w.heap.size, 0, none⟩) z1).trans k10
  replace k11 := (hbw6.cell (p := ⟨w.heap.size, 1, none⟩) z1).trans k11
  replace z1 := Nat.lt_of_lt_of_le z1 hbw6.size
  replace kW0 := (hbw6.cell (p := ⟨w4.heap.size, 0, none⟩) zW).trans kW0
  replace kW1 := (hbw6.cell (p := ⟨w4.heap.size, 1, none⟩) zW).trans kW1
  replace zW := Nat.lt_of_lt_of_le zW hbw6.size
  replace S1 := hide (S1.out.below hbw6)
  replace HW := hide (HW.out.below hbw6)
  replace HB := hide (bl_trans HB.out hbw6)
  clear hbw6
  have oP : ∀ k, (Value.slice aP xs1.length cP).ownBlock = some k → w5.heap.size ≤ k ∧ k < w6.heap.size := fun k e => hoP.1.lt k e
  have HP := hide hoP
  clear hoP
  go_wp2_with fail
  have kP0 : (w6.alloc (Obj.cells #[Value.bool n1, Value.slice aP xs1.length cP] 26)).cell? ⟨w6.heap.size, 0, none⟩ = some (Value.bool n1) := by go_simp
  have kP1 : (w6.alloc (Obj.cells #[Value.bool n1, Value.slice aP xs1.length cP] 26)).cell? ⟨w6.heap.size, 1, none⟩ = some (Value.slice aP xs1.length cP) := by go_simp
  have zP : w6.heap.size < (w6.alloc (Obj.cells #[Value.bool n1, Value.slice aP xs1.length cP] 26)).heap.size := by simp only [World.size_alloc]; omega
  have qw7 := zP
  have hbw7 := bl_alloc (bl_refl w6) (Obj.cells #[Value.bool n1, Value.slice aP xs1.length cP] 26)
  generalize w6.alloc (Obj.cells #[Value.bool n1, Value.slice aP xs1.length cP] 26) = w7 at *
  replace k10 := (hbw7.cell (p := ⟨w.heap.size, 0, none⟩) z1).trans k10
  replace k11 := (hbw7.cell (p := ⟨w.heap.size, 1, none⟩) z1).trans k11
  replace z1 := Nat.lt_of_lt_of_le z1 hbw7.size
  replace kW0 := (hbw7.cell (p := ⟨w4.heap.size, 0, none⟩) zW).trans kW0
  replace kW1 := (hbw7.cell (p := ⟨w4.heap.size, 1, none⟩) zW).trans kW1
  replace zW := Nat.lt_of_lt_of_le zW hbw7.size
  replace S1 := hide (S1.out.below hbw7)
  replace HW := hide (HW.out.below hbw7)
  replace HP := hide (HP.out.below hbw7)
  replace HB := hide (bl_trans HB.out hbw7)
  clear hbw7
  refine (PowP _ n1 xs1 n _ ⟨aP, cP, rfl, HP.out.seg⟩ hi1 hi2).mono ?_
  rintro e w8 ⟨vG, rfl, ⟨aG, cG, rfl, hoG⟩, hbw8⟩
  have qw8 := hbw8.size
  replace k10 := (hbw8.cell (p := ⟨w.heap.size, 0, none⟩) z1).trans k10
  replace k11 := (hbw8.cell (p := ⟨w.heap.size, 1, none⟩) z1).trans k11
  replace z1 := Nat.lt_of_lt_of_le z1 hbw8.size
  replace kW0 := (hbw8.cell (p := ⟨w4.heap.size, 0, none⟩) zW).trans kW0
  replace kW1 := (hbw8.cell (p := ⟨w4.heap.size, 1, none⟩) zW).trans kW1
  replace zW := Nat.lt_of_lt_of_le zW hbw8.size
  replace kP0 := (hbw8.cell (p := ⟨w6.heap.size, 0, none⟩) zP).trans kP0
  replace kP1 := (hbw8.cell (p := ⟨w6.heap.size, 1, none⟩) zP).trans kP1
  replace zP := Nat.lt_of_lt_of_le zP hbw8.size
  replace S1 := hide (S1.out.below hbw8)
  replace HW := hide (HW.out.below hbw8)
  replace HP := hide (HP.out.below hbw8)
  replace HB := hide (bl_trans HB.out hbw8)
  clear hbw8
  have oG : ∀ k, (Value.slice aG (lms (powZ n1 xs1 n)).length cG).ownBlock = some k → w7.heap.size ≤ k ∧ k < w8.heap.size := fun k e => hoG.1.lt k e
  have HG := hide hoG
  clear hoG
  go_wp2_with fail
  have kG0 : (w8.alloc (Obj.cells #[Value.bool (sgn (powZ n1 xs1 n)), Value.slice aG (lms (powZ n1 xs1 n)).length cG] 26)).cell? ⟨w8.heap.size, 0, none⟩ = some (Value.bool (sgn (powZ n1 xs1 n))) := by go_simp
  have kG1 : (w8.alloc (Obj.cells #[Value.bool (sgn (powZ n1 xs1 n)), Value.slice aG (lms (powZ n1 xs1 n)).length cG] 26)).cell? ⟨w8.heap.size, 1, none⟩ = some (Value.slice aG (lms (powZ n1 xs1 n)).length cG) := by go_simp
  have zG : w8.heap.size < (w8.alloc (Obj.cells #[Value.bool (sgn (powZ n1 xs1 n)), Value.slice aG (lms (powZ n1 xs1 n)).length cG] 26)).heap.size := by simp only [World.size_alloc]; omega
  have qw9 := zG
  have hbw9 := bl_alloc (bl_refl w8) (Obj.cells #[Value.bool (sgn (powZ n1 xs1 n)), Value.slice aG (lms (powZ n1 xs1 n)).length cG] 26)
  generalize w8.alloc (Obj.cells #[Value.bool (sgn (powZ n1 xs1 n)), Value.slice aG (lms (powZ n1 xs1 n)).length cG] 26) = w9 at *
  replace k10 := (hbw9.cell (p := ⟨w.heap.size, 0, none⟩) z1).trans k10
  replace k11 := (hbw9.cell (p := ⟨w.heap.size, 1, none⟩) z1).trans k11
  replace z1 := Nat.lt_of_lt_of_le z1 hbw9.size
  replace kW0 := (hbw9.cell (p := ⟨w4.heap.size, 0, none⟩) zW).trans kW0
  replace kW1 := (hbw9.cell (p := ⟨w4.heap.size, 1, none⟩) zW).trans kW1
  replace zW := Nat.lt_of_lt_of_le zW hbw9.size
  replace kP0 := (hbw9.cell (p := ⟨w6.heap.size, 0, none⟩) zP).trans kP0
  replace kP1 := (hbw9.cell (p := ⟨w6.heap.size, 1, none⟩) zP).trans kP1
  replace zP := Nat.lt_of_lt_of_le zP hbw9.size
  replace S1 := hide (S1.out.below hbw9)
  replace HW := hide (HW.out.below hbw9)
  replace HP := hide (HP.out.below hbw9)
  replace HG := hide (HG.out.below hbw9)
  replace HB := hide (bl_trans HB.out hbw9)
  clear hbw9
  refine (eqB _ _ (sgn (powZ n1 xs1 n)) (lms (powZ n1 xs1 n)) _ ⟨aG, cG, rfl, HG.out.seg⟩ ⟨aW, cW, rfl, HW.out.seg⟩).mono ?_
  rintro e w10 ⟨rfl, hbw10⟩
  have qw10 := hbw10.size
  replace k10 := (hbw10.cell (p := ⟨w.heap.size, 0, none⟩) z1).trans k10
  replace k11 := (hbw10.cell (p := ⟨w.heap.size, 1, none⟩) z1).trans k11
  replace z1 := Nat.lt_of_lt_of_le z1 hbw10.size
  replace kW0 := (hbw10.cell (p := ⟨w4.heap.size, 0, none⟩) zW).trans kW0
  replace kW1 := (hbw10.cell (p := ⟨w4.heap.size, 1, none⟩) zW).trans kW1
  replace zW := Nat.lt_of_lt_of_le zW hbw10.size
  replace kP0 := (hbw10.cell (p := ⟨w6.heap.size, 0, none⟩) zP).trans kP0
  replace kP1 := (hbw10.cell (p := ⟨w6.heap.size, 1, none⟩) zP).trans kP1
  replace zP := Nat.lt_of_lt_of_le zP hbw10.size
  replace kG0 := (hbw10.cell (p := ⟨w8.heap.size, 0, none⟩) zG).trans kG0
  replace kG1 := (hbw10.cell (p := ⟨w8.heap.size, 1, none⟩) zG).trans kG1
  replace zG := Nat.lt_of_lt_of_le zG hbw10.size
  replace S1 := hide (S1.out.below hbw10)
  replace HW := hide (HW.out.below hbw10)
  replace HP := hide (HP.out.below hbw10)
  replace HG := hide (HG.out.below hbw10)
  replace HB := hide (bl_trans HB.out hbw10)
  clear hbw10
  go_wp2_with fail
  go_region_held3 (fun w' => w'.cell? ⟨w.heap.size, 0, none⟩ = some (Value.bool n1) ∧ w'.cell? ⟨w.heap.size, 1, none⟩ = some (Value.slice a1 xs1.length c1) ∧ w'.cell? ⟨w6.heap.size, 0, none⟩ = some (Value.bool n1) ∧ w'.cell? ⟨w6.heap.size, 1, none⟩ = some (Value.slice aP xs1.length cP))
    (first
      | exact ⟨k10, k11, kP0, kP1⟩
      | exact ⟨(hbw12.cell (p := ⟨w.heap.size, 0, none⟩) z1).trans k10, (hbw12.cell (p := ⟨w.heap.size, 1, none⟩) z1).trans k11, (hbw12.cell (p := ⟨w6.heap.size, 0, none⟩) zP).trans kP0, (hbw12.cell (p := ⟨w6.heap.size, 1, none⟩) zP).trans kP1⟩
      | exact ⟨(hbw11.cell (p := ⟨w.heap.size, 0, none⟩) z1).trans k10, (hbw11.cell (p := ⟨w.heap.size, 1, none⟩) z1).trans k11, (hbw11.cell (p := ⟨w6.heap.size, 0, none⟩) zP).trans kP0, (hbw11.cell (p := ⟨w6.heap.size, 1, none⟩) zP).trans kP1⟩)
    (first
      | (go_at_call_of 33 (Value.agg #[Value.bool n1, Value.slice a1 xs1.length c1]); refine (toB n1 a1 xs1.length c1 xs1 _ (S1.out.below (bl_refl w10).drew) (by omega)).mono ?_; rintro e w11 ⟨u, rfl, hg, hbw11r⟩; have hbw11 : Below w10.heap.size w10 w11 := (bl_refl w10).drew.trans hbw11r)
      | (go_at_call 35; refine (eqB _ u n1 xs1 _ ⟨aP, cP, rfl, HP.out.seg.below hbw11⟩ hg.raw).mono ?_; rintro e w12 ⟨rfl, hbw12r⟩; have hbw12 : Below w10.heap.size w10 w12 := bl_trans hbw11 hbw12r))
  have qw12 := hbw12.size
  replace k10 := (hbw12.cell (p := ⟨w.heap.size, 0, none⟩) z1).trans k10
  replace k11 := (hbw12.cell (p := ⟨w.heap.size, 1, none⟩) z1).trans k11
  replace z1 := Nat.lt_of_lt_of_le z1 hbw12.size
  replace kW0 := (hbw12.cell (p := ⟨w4.heap.size, 0, none⟩) zW).trans kW0
  replace kW1 := (hbw12.cell (p := ⟨w4.heap.size, 1, none⟩) zW).trans kW1
  replace zW := Nat.lt_of_lt_of_le zW hbw12.size
  replace kP0 := (hbw12.cell (p := ⟨w6.heap.size, 0, none⟩) zP).trans kP0
  replace kP1 := (hbw12.cell (p := ⟨w6.heap.size, 1, none⟩) zP).trans kP1
  replace zP := Nat.lt_of_lt_of_le zP hbw12.size
  replace kG0 := (hbw12.cell (p := ⟨w8.heap.size, 0, none⟩) zG).trans kG0
  replace kG1 := (hbw12.cell (p := ⟨w8.heap.size, 1, none⟩) zG).trans kG1
  replace zG := Nat.lt_of_lt_of_le zG hbw12.size
  replace S1 := hide (S1.out.below hbw12)
  replace HW := hide (HW.out.below hbw12)
  replace HP := hide (HP.out.below hbw12)
  replace HG := hide (HG.out.below hbw12)
  replace HB := hide (bl_trans HB.out hbw12)
  clear hbw11 hbw11r hbw12 hbw12r
  clear hg
  go_wp2_with fail
  refine (markB1 n1 aP xs1.length cP xs1 _ _ (by omega) HP.out).mono ?_
  rintro e w13 ⟨rfl, hm, hg⟩
  have qw13 := hg.size
  replace k10 := hg.cell k10 (fun e => by have := oP _ e.symm; dsimp only at this; omega)
  replace k11 := hg.cell k11 (fun e => by have := oP _ e.symm; dsimp only at this; omega)
  replace z1 := Nat.lt_of_lt_of_le z1 qw13
  replace kW0 := hg.cell kW0 (fun e => by have := oP _ e.symm; dsimp only at this; omega)
  replace kW1 := hg.cell kW1 (fun e => by have := oP _ e.symm; dsimp only at this; omega)
  replace zW := Nat.lt_of_lt_of_le zW qw13
  replace kP0 := hg.cell kP0 (fun e => by have := oP _ e.symm; dsimp only at this; omega)
  replace kP1 := hg.cell kP1 (fun e => by have := oP _ e.symm; dsimp only at this; omega)
  replace zP := Nat.lt_of_lt_of_le zP qw13
  replace kG0 := hg.cell kG0 (fun e => by have := oP _ e.symm; dsimp only at this; omega)
  replace kG1 := hg.cell kG1 (fun e => by have := oP _ e.symm; dsimp only at this; omega)
  replace zG := Nat.lt_of_lt_of_le zG qw13
  replace S1 := hide (S1.out.grownLow A1.out hg (fun k e => by have := oP k e; omega))
  replace HW := hide (HW.out.kept hg (apart_of oW oP (by omega)))
  replace HG := hide (HG.out.kept hg (apart_of oG oP (by omega)))
  replace HP := hide hm
  replace HB := hide (HB.out.grown hg HB.out.size (fun k e => by have := oP k e; omega))
  clear hg hm
  go_wp2_with fail
  refine (eqB _ _ (sgn (powZ n1 xs1 n)) (lms (powZ n1 xs1 n)) _ ⟨aG, cG, rfl, HG.out.seg⟩ ⟨aW, cW, rfl, HW.out.seg⟩).mono ?_
  rintro e w14 ⟨rfl, hbw14⟩
  have qw14 := hbw14.size
  replace k10 := (hbw14.cell (p := ⟨w.heap.size, 0, none⟩) z1).trans k10
  replace k11 := (hbw14.cell (p := ⟨w.heap.size, 1, none⟩) z1).trans k11
  replace z1 := Nat.lt_of_lt_of_le z1 hbw14.size
  replace kW0 := (hbw14.cell (p := ⟨w4.heap.size, 0, none⟩) zW).trans kW0
  replace kW1 := (hbw14.cell (p := ⟨w4.heap.size, 1, none⟩) zW).trans kW1
  replace zW := Nat.lt_of_lt_of_le zW hbw14.size
  replace kP0 := (hbw14.cell (p := ⟨w6.heap.size, 0, none⟩) zP).trans kP0
  replace kP1 := (hbw14.cell (p := ⟨w6.heap.size, 1, none⟩) zP).trans kP1
  replace zP := Nat.lt_of_lt_of_le zP hbw14.size
  replace kG0 := (hbw14.cell (p := ⟨w8.heap.size, 0, none⟩) zG).trans kG0
  replace kG1 := (hbw14.cell (p := ⟨w8.heap.size, 1, none⟩) zG).trans kG1
  replace zG := Nat.lt_of_lt_of_le zG hbw14.size
  replace S1 := hide (S1.out.below hbw14)
  replace HW := hide (HW.out.below hbw14)
  replace HP := hide (HP.out.below hbw14)
  replace HG := hide (HG.out.below hbw14)
  replace HB := hide (bl_trans HB.out hbw14)
  clear hbw14
  go_wp2_with fail
  refine (markB1 (sgn (powZ n1 xs1 n)) aG (lms (powZ n1 xs1 n)).length cG (lms (powZ n1 xs1 n)) _ _ (by omega) HG.out).mono ?_
  rintro e w15 ⟨rfl, hm, hg⟩
  have qw15 := hg.size
  replace k10 := hg.cell k10 (fun e => by have := oG _ e.symm; dsimp only at this; omega)
  replace k11 := hg.cell k11 (fun e => by have := oG _ e.symm; dsimp only at this; omega)
  replace z1 := Nat.lt_of_lt_of_le z1 qw15
  replace kW0 := hg.cell kW0 (fun e => by have := oG _ e.symm; dsimp only at this; omega)
  replace kW1 := hg.cell kW1 (fun e => by have := oG _ e.symm; dsimp only at this; omega)
  replace zW := Nat.lt_of_lt_of_le zW qw15
  replace kP0 := hg.cell kP0 (fun e => by have := oG _ e.symm; dsimp only at this; omega)
  replace kP1 := hg.cell kP1 (fun e => by have := oG _ e.symm; dsimp only at this; omega)
  replace zP := Nat.lt_of_lt_of_le zP qw15
  replace kG0 := hg.cell kG0 (fun e => by have := oG _ e.symm; dsimp only at this; omega)
  replace kG1 := hg.cell kG1 (fun e => by have := oG _ e.symm; dsimp only at this; omega)
  replace zG := Nat.lt_of_lt_of_le zG qw15
  replace S1 := hide (S1.out.grownLow A1.out hg (fun k e => by have := oG k e; omega))
  replace HW := hide (HW.out.kept hg (apart_of oW oG (by omega)))
  replace HP := hide (HP.out.kept hg (apart_of oP oG (by omega)))
  replace HG := hide hm
  replace HB := hide (HB.out.grown hg HB.out.size (fun k e => by have := oG k e; omega))
  clear hg hm
  go_wp2_with fail
  refine (heldB1 (sgn (powZ n1 xs1 n)) aG (lms (powZ n1 xs1 n)).length cG _ (by omega) HG.out.seg).mono ?_
  rintro e w16 ⟨rfl, hbw16⟩
  have qw16 := hbw16.size
  replace k10 := (hbw16.cell (p := ⟨w.heap.size, 0, none⟩) z1).trans k10
  replace k11 := (hbw16.cell (p := ⟨w.heap.size, 1, none⟩) z1).trans k11
  replace z1 := Nat.lt_of_lt_of_le z1 hbw16.size
  replace kW0 := (hbw16.cell (p := ⟨w4.heap.size, 0, none⟩) zW).trans kW0
  replace kW1 := (hbw16.cell (p := ⟨w4.heap.size, 1, none⟩) zW).trans kW1
  replace zW := Nat.lt_of_lt_of_le zW hbw16.size
  replace kP0 := (hbw16.cell (p := ⟨w6.heap.size, 0, none⟩) zP).trans kP0
  replace kP1 := (hbw16.cell (p := ⟨w6.heap.size, 1, none⟩) zP).trans kP1
  replace zP := Nat.lt_of_lt_of_le zP hbw16.size
  replace kG0 := (hbw16.cell (p := ⟨w8.heap.size, 0, none⟩) zG).trans kG0
  replace kG1 := (hbw16.cell (p := ⟨w8.heap.size, 1, none⟩) zG).trans kG1
  replace zG := Nat.lt_of_lt_of_le zG hbw16.size
  replace S1 := hide (S1.out.below hbw16)
  replace HW := hide (HW.out.below hbw16)
  replace HP := hide (HP.out.below hbw16)
  replace HG := hide (HG.out.below hbw16)
  replace HB := hide (bl_trans HB.out hbw16)
  clear hbw16
  go_wp2_with fail
  refine (toB n1 a1 xs1.length c1 xs1 _ (S1.out.below (bl_refl _)) (by omega)).mono ?_
  rintro e w17 ⟨u, rfl, hg, hbw17⟩
  have qw17 := hbw17.size
  replace k10 := (hbw17.cell (p := ⟨w.heap.size, 0, none⟩) z1).trans k10
  replace k11 := (hbw17.cell (p := ⟨w.heap.size, 1, none⟩) z1).trans k11
  replace z1 := Nat.lt_of_lt_of_le z1 hbw17.size
  replace kW0 := (hbw17.cell (p := ⟨w4.heap.size, 0, none⟩) zW).trans kW0
  replace kW1 := (hbw17.cell (p := ⟨w4.heap.size, 1, none⟩) zW).trans kW1
  replace zW := Nat.lt_of_lt_of_le zW hbw17.size
  replace kP0 := (hbw17.cell (p := ⟨w6.heap.size, 0, none⟩) zP).trans kP0
  replace kP1 := (hbw17.cell (p := ⟨w6.heap.size, 1, none⟩) zP).trans kP1
  replace zP := Nat.lt_of_lt_of_le zP hbw17.size
  replace kG0 := (hbw17.cell (p := ⟨w8.heap.size, 0, none⟩) zG).trans kG0
  replace kG1 := (hbw17.cell (p := ⟨w8.heap.size, 1, none⟩) zG).trans kG1
  replace zG := Nat.lt_of_lt_of_le zG hbw17.size
  replace S1 := hide (S1.out.below hbw17)
  replace HW := hide (HW.out.below hbw17)
  replace HP := hide (HP.out.below hbw17)
  replace HG := hide (HG.out.below hbw17)
  replace HB := hide (bl_trans HB.out hbw17)
  clear hbw17
  go_wp2_with fail
  refine (PowP _ n1 xs1 n _ hg.raw hi1 hi2).mono ?_
  rintro e w18 ⟨vV, rfl, ⟨aV, cV, rfl, hoV⟩, hbw18⟩
  have qw18 := hbw18.size
  replace k10 := (hbw18.cell (p := ⟨w.heap.size, 0, none⟩) z1).trans k10
  replace k11 := (hbw18.cell (p := ⟨w.heap.size, 1, none⟩) z1).trans k11
  replace z1 := Nat.lt_of_lt_of_le z1 hbw18.size
  replace kW0 := (hbw18.cell (p := ⟨w4.heap.size, 0, none⟩) zW).trans kW0
  replace kW1 := (hbw18.cell (p := ⟨w4.heap.size, 1, none⟩) zW).trans kW1
  replace zW := Nat.lt_of_lt_of_le zW hbw18.size
  replace kP0 := (hbw18.cell (p := ⟨w6.heap.size, 0, none⟩) zP).trans kP0
  replace kP1 := (hbw18.cell (p := ⟨w6.heap.size, 1, none⟩) zP).trans kP1
  replace zP := Nat.lt_of_lt_of_le zP hbw18.size
  replace kG0 := (hbw18.cell (p := ⟨w8.heap.size, 0, none⟩) zG).trans kG0
  replace kG1 := (hbw18.cell (p := ⟨w8.heap.size, 1, none⟩) zG).trans kG1
  replace zG := Nat.lt_of_lt_of_le zG hbw18.size
  replace S1 := hide (S1.out.below hbw18)
  replace HW := hide (HW.out.below hbw18)
  replace HP := hide (HP.out.below hbw18)
  replace HG := hide (HG.out.below hbw18)
  replace HB := hide (bl_trans HB.out hbw18)
  clear hbw18
  have oV : ∀ k, (Value.slice aV (lms (powZ n1 xs1 n)).length cV).ownBlock = some k → w17.heap.size ≤ k ∧ k < w18.heap.size := fun k e => hoV.1.lt k e
  have HV := hide hoV
  clear hoV
  clear hg
  go_wp2_with fail
  have kV0 : (w18.alloc (Obj.cells #[Value.bool (sgn (powZ n1 xs1 n)), Value.slice aV (lms (powZ n1 xs1 n)).length cV] 26)).cell? ⟨w18.heap.size, 0, none⟩ = some (Value.bool (sgn (powZ n1 xs1 n))) := by go_simp
  have kV1 : (w18.alloc (Obj.cells #[Value.bool (sgn (powZ n1 xs1 n)), Value.slice aV (lms (powZ n1 xs1 n)).length cV] 26)).cell? ⟨w18.heap.size, 1, none⟩ = some (Value.slice aV (lms (powZ n1 xs1 n)).length cV) := by go_simp
  have zV : w18.heap.size < (w18.alloc (Obj.cells #[Value.bool (sgn (powZ n1 xs1 n)), Value.slice aV (lms (powZ n1 xs1 n)).length cV] 26)).heap.size := by simp only [World.size_alloc]; omega
  have qw19 := zV
  have hbw19 := bl_alloc (bl_refl w18) (Obj.cells #[Value.bool (sgn (powZ n1 xs1 n)), Value.slice aV (lms (powZ n1 xs1 n)).length cV] 26)
  generalize w18.alloc (Obj.cells #[Value.bool (sgn (powZ n1 xs1 n)), Value.slice aV (lms (powZ n1 xs1 n)).length cV] 26) = w19 at *
  replace k10 := (hbw19.cell (p := ⟨w.heap.size, 0, none⟩) z1).trans k10
  replace k11 := (hbw19.cell (p := ⟨w.heap.size, 1, none⟩) z1).trans k11
  replace z1 := Nat.lt_of_lt_of_le z1 hbw19.size
  replace kW0 := (hbw19.cell (p := ⟨w4.heap.size, 0, none⟩) zW).trans kW0
  replace kW1 := (hbw19.cell (p := ⟨w4.heap.size, 1, none⟩) zW).trans kW1
  replace zW := Nat.lt_of_lt_of_le zW hbw19.size
  replace kP0 := (hbw19.cell (p := ⟨w6.heap.size, 0, none⟩) zP).trans kP0
  replace kP1 := (hbw19.cell (p := ⟨w6.heap.size, 1, none⟩) zP).trans kP1
  replace zP := Nat.lt_of_lt_of_le zP hbw19.size
  replace kG0 := (hbw19.cell (p := ⟨w8.heap.size, 0, none⟩) zG).trans kG0
  replace kG1 := (hbw19.cell (p := ⟨w8.heap.size, 1, none⟩) zG).trans kG1
  replace zG := Nat.lt_of_lt_of_le zG hbw19.size
  replace S1 := hide (S1.out.below hbw19)
  replace HW := hide (HW.out.below hbw19)
  replace HP := hide (HP.out.below hbw19)
  replace HG := hide (HG.out.below hbw19)
  replace HV := hide (HV.out.below hbw19)
  replace HB := hide (bl_trans HB.out hbw19)
  clear hbw19
  refine (eqB _ _ (sgn (powZ n1 xs1 n)) (lms (powZ n1 xs1 n)) _ ⟨aV, cV, rfl, HV.out.seg⟩ ⟨aW, cW, rfl, HW.out.seg⟩).mono ?_
  rintro e w20 ⟨rfl, hbw20⟩
  have qw20 := hbw20.size
  replace k10 := (hbw20.cell (p := ⟨w.heap.size, 0, none⟩) z1).trans k10
  replace k11 := (hbw20.cell (p := ⟨w.heap.size, 1, none⟩) z1).trans k11
  replace z1 := Nat.lt_of_lt_of_le z1 hbw20.size
  replace kW0 := (hbw20.cell (p := ⟨w4.heap.size, 0, none⟩) zW).trans kW0
  replace kW1 := (hbw20.cell (p := ⟨w4.heap.size, 1, none⟩) zW).trans kW1
  replace zW := Nat.lt_of_lt_of_le zW hbw20.size
  replace kP0 := (hbw20.cell (p := ⟨w6.heap.size, 0, none⟩) zP).trans kP0
  replace kP1 := (hbw20.cell (p := ⟨w6.heap.size, 1, none⟩) zP).trans kP1
  replace zP := Nat.lt_of_lt_of_le zP hbw20.size
  replace kG0 := (hbw20.cell (p := ⟨w8.heap.size, 0, none⟩) zG).trans kG0
  replace kG1 := (hbw20.cell (p := ⟨w8.heap.size, 1, none⟩) zG).trans kG1
  replace zG := Nat.lt_of_lt_of_le zG hbw20.size
  replace kV0 := (hbw20.cell (p := ⟨w18.heap.size, 0, none⟩) zV).trans kV0
  replace kV1 := (hbw20.cell (p := ⟨w18.heap.size, 1, none⟩) zV).trans kV1
  replace zV := Nat.lt_of_lt_of_le zV hbw20.size
  replace S1 := hide (S1.out.below hbw20)
  replace HW := hide (HW.out.below hbw20)
  replace HP := hide (HP.out.below hbw20)
  replace HG := hide (HG.out.below hbw20)
  replace HV := hide (HV.out.below hbw20)
  replace HB := hide (bl_trans HB.out hbw20)
  clear hbw20
  go_wp2_with fail
  refine (heldB1 (sgn (powZ n1 xs1 n)) aG (lms (powZ n1 xs1 n)).length cG _ (by omega) HG.out.seg).mono ?_
  rintro e w21 ⟨rfl, hbw21⟩
  have qw21 := hbw21.size
  replace k10 := (hbw21.cell (p := ⟨w.heap.size, 0, none⟩) z1).trans k10
  replace k11 := (hbw21.cell (p := ⟨w.heap.size, 1, none⟩) z1).trans k11
  replace z1 := Nat.lt_of_lt_of_le z1 hbw21.size
  replace kW0 := (hbw21.cell (p := ⟨w4.heap.size, 0, none⟩) zW).trans kW0
  replace kW1 := (hbw21.cell (p := ⟨w4.heap.size, 1, none⟩) zW).trans kW1
  replace zW := Nat.lt_of_lt_of_le zW hbw21.size
  replace kP0 := (hbw21.cell (p := ⟨w6.heap.size, 0, none⟩) zP).trans kP0
  replace kP1 := (hbw21.cell (p := ⟨w6.heap.size, 1, none⟩) zP).trans kP1
  replace zP := Nat.lt_of_lt_of_le zP hbw21.size
  replace kG0 := (hbw21.cell (p := ⟨w8.heap.size, 0, none⟩) zG).trans kG0
  replace kG1 := (hbw21.cell (p := ⟨w8.heap.size, 1, none⟩) zG).trans kG1
  replace zG := Nat.lt_of_lt_of_le zG hbw21.size
  replace kV0 := (hbw21.cell (p := ⟨w18.heap.size, 0, none⟩) zV).trans kV0
  replace kV1 := (hbw21.cell (p := ⟨w18.heap.size, 1, none⟩) zV).trans kV1
  replace zV := Nat.lt_of_lt_of_le zV hbw21.size
  replace S1 := hide (S1.out.below hbw21)
  replace HW := hide (HW.out.below hbw21)
  replace HP := hide (HP.out.below hbw21)
  replace HG := hide (HG.out.below hbw21)
  replace HV := hide (HV.out.below hbw21)
  replace HB := hide (bl_trans HB.out hbw21)
  clear hbw21
  go_wp2
  go_ret
  exact ⟨rfl, HB.out⟩
end Go.Proofs.Ytkipaekgcpklcaa
