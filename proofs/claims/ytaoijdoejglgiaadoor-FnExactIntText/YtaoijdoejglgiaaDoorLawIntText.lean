/- The walk of the exact law of IntText. -/
import Derived.Test.YtaoijdoejglgiaaDoorIntT
import Derived.Test.YtaoijdoejglgiaaDoorLawKit
namespace Go.Proofs.YtaoijdoejglgiaaDoor
open Go.RowKit
set_option linter.unusedVariables false


set_option maxHeartbeats 40000000 in
set_option maxRecDepth 20000 in
theorem walk3 (n1 : Bool) (a1 : Option Addr) (c1 : Nat) (xs1 : List Nat) (w : World) (s1 : Seg w a1 xs1.length c1 xs1) (htab : Tabs w) :
    Calls Tryd.prog 3 #[Value.agg #[Value.bool n1, Value.slice a1 xs1.length c1]] w fun e w' => e = .returned (.bool true) ∧ Below w.heap.size w w' := by
  have HT := hide htab
  clear htab
  have A1 := hide s1
  have hn1 := s1.le
  have k1_0 : (w.alloc (Obj.cells #[Value.bool n1, Value.slice a1 xs1.length c1] 24)).cell? ⟨w.heap.size, 0, none⟩ = some (Value.bool n1) := by go_simp
  have k1_1 : (w.alloc (Obj.cells #[Value.bool n1, Value.slice a1 xs1.length c1] 24)).cell? ⟨w.heap.size, 1, none⟩ = some (Value.slice a1 xs1.length c1) := by go_simp
  have z1 : w.heap.size < (w.alloc (Obj.cells #[Value.bool n1, Value.slice a1 xs1.length c1] 24)).heap.size := by simp only [World.size_alloc]; omega
  have S1 := hide (s1.below (bl_alloc (bl_refl w) (Obj.cells #[Value.bool n1, Value.slice a1 xs1.length c1] 24)))
  clear s1
  have HB := hide (bl_alloc (bl_refl w) (Obj.cells #[Value.bool n1, Value.slice a1 xs1.length c1] 24))
  have y0 : w.heap.size + 1 ≤ (w.alloc (Obj.cells #[Value.bool n1, Value.slice a1 xs1.length c1] 24)).heap.size := by simp only [World.size_alloc]; omega
  go_enter Tryd.func3, Tryd.ntmps3
  go_wp2_with fail
  generalize (w.alloc (Obj.cells #[Value.bool n1, Value.slice a1 xs1.length c1] 24)) = w1 at *
  refine (szB n1 a1 xs1.length c1 (1048576) _ hn1 (by omega) (by omega)).mono ?_
  rintro e w2 ⟨rfl, hbw2⟩
  have yw2 := hbw2.size
  replace k1_0 := (hbw2.cell (p := ⟨w.heap.size, 0, none⟩) z1).trans k1_0
  replace k1_1 := (hbw2.cell (p := ⟨w.heap.size, 1, none⟩) z1).trans k1_1
  replace z1 := Nat.lt_of_lt_of_le z1 hbw2.size
  replace S1 := hide (S1.out.below hbw2)
  replace HB := hide (bl_trans HB.out hbw2)
  clear hbw2
  by_cases hbig1 : (1048576 : Int) < (xs1.length : Int)
  · rw [if_pos hbig1]
    go_wp2
    go_ret
    exact ⟨rfl, HB.out⟩
  rw [if_neg hbig1]
  go_wp2_with fail
  refine (toB n1 a1 xs1.length c1 xs1 _ S1.out (by omega)).mono ?_
  rintro e w3 ⟨uuW, rfl, ⟨auW, cuW, rfl, houW⟩, hbw3⟩
  have yw3 := hbw3.size
  replace k1_0 := (hbw3.cell (p := ⟨w.heap.size, 0, none⟩) z1).trans k1_0
  replace k1_1 := (hbw3.cell (p := ⟨w.heap.size, 1, none⟩) z1).trans k1_1
  replace z1 := Nat.lt_of_lt_of_le z1 hbw3.size
  replace S1 := hide (S1.out.below hbw3)
  replace HB := hide (bl_trans HB.out hbw3)
  clear hbw3
  have HuW := hide houW.seg
  clear houW
  go_wp2_with fail
  refine (intTextS _ n1 xs1 _ ⟨auW, cuW, rfl, HuW.out⟩).mono ?_
  rintro e w4 ⟨rfl, hbw4⟩
  have yw4 := hbw4.size
  replace k1_0 := (hbw4.cell (p := ⟨w.heap.size, 0, none⟩) z1).trans k1_0
  replace k1_1 := (hbw4.cell (p := ⟨w.heap.size, 1, none⟩) z1).trans k1_1
  replace z1 := Nat.lt_of_lt_of_le z1 hbw4.size
  replace S1 := hide (S1.out.below hbw4)
  replace HuW := hide (HuW.out.below hbw4)
  replace HB := hide (bl_trans HB.out hbw4)
  clear hbw4
  clear HuW
  go_wp2_with fail
  refine (toB n1 a1 xs1.length c1 xs1 _ S1.out (by omega)).mono ?_
  rintro e w5 ⟨uP, rfl, ⟨aP, cP, rfl, hoP⟩, hbw5⟩
  have yw5 := hbw5.size
  replace k1_0 := (hbw5.cell (p := ⟨w.heap.size, 0, none⟩) z1).trans k1_0
  replace k1_1 := (hbw5.cell (p := ⟨w.heap.size, 1, none⟩) z1).trans k1_1
  replace z1 := Nat.lt_of_lt_of_le z1 hbw5.size
  replace S1 := hide (S1.out.below hbw5)
  replace HB := hide (bl_trans HB.out hbw5)
  clear hbw5
  have oP : ∀ k, (Value.slice aP xs1.length cP).ownBlock = some k → w4.heap.size ≤ k ∧ k < w5.heap.size := fun k e => hoP.1.lt k e
  have HP := hide hoP
  clear hoP
  go_wp2_with fail
  have kP_0 : (w5.alloc (Obj.cells #[Value.bool n1, Value.slice aP xs1.length cP] 27)).cell? ⟨w5.heap.size, 0, none⟩ = some (Value.bool n1) := by go_simp
  have kP_1 : (w5.alloc (Obj.cells #[Value.bool n1, Value.slice aP xs1.length cP] 27)).cell? ⟨w5.heap.size, 1, none⟩ = some (Value.slice aP xs1.length cP) := by go_simp
  have zP : w5.heap.size < (w5.alloc (Obj.cells #[Value.bool n1, Value.slice aP xs1.length cP] 27)).heap.size := by simp only [World.size_alloc]; omega
  have yw6 : w5.heap.size + 1 ≤ (w5.alloc (Obj.cells #[Value.bool n1, Value.slice aP xs1.length cP] 27)).heap.size := by simp only [World.size_alloc]; omega
  have hbw6 := (bl_alloc (bl_refl w5) (Obj.cells #[Value.bool n1, Value.slice aP xs1.length cP] 27))
  generalize (w5.alloc (Obj.cells #[Value.bool n1, Value.slice aP xs1.length cP] 27)) = w6 at *
  replace k1_0 := (hbw6.cell (p := ⟨w.heap.size, 0, none⟩) z1).trans k1_0
  replace k1_1 := (hbw6.cell (p := ⟨w.heap.size, 1, none⟩) z1).trans k1_1
  replace z1 := Nat.lt_of_lt_of_le z1 hbw6.size
  replace S1 := hide (S1.out.below hbw6)
  replace HP := hide (HP.out.below hbw6)
  replace HB := hide (bl_trans HB.out hbw6)
  clear hbw6
  refine (intTextI _ n1 xs1 _ ⟨aP, cP, rfl, HP.out.seg⟩ (HT.out.below HB.out)).mono ?_
  rintro e w7 ⟨rfl, hbw7⟩
  have yw7 := hbw7.size
  replace k1_0 := (hbw7.cell (p := ⟨w.heap.size, 0, none⟩) z1).trans k1_0
  replace k1_1 := (hbw7.cell (p := ⟨w.heap.size, 1, none⟩) z1).trans k1_1
  replace z1 := Nat.lt_of_lt_of_le z1 hbw7.size
  replace kP_0 := (hbw7.cell (p := ⟨w5.heap.size, 0, none⟩) zP).trans kP_0
  replace kP_1 := (hbw7.cell (p := ⟨w5.heap.size, 1, none⟩) zP).trans kP_1
  replace zP := Nat.lt_of_lt_of_le zP hbw7.size
  replace S1 := hide (S1.out.below hbw7)
  replace HP := hide (HP.out.below hbw7)
  replace HB := hide (bl_trans HB.out hbw7)
  clear hbw7
  go_wp2_with fail
  have KP : Hid (∀ w', Below w7.heap.size w7 w' → (w'.cell? ⟨w.heap.size, 0, none⟩ = some (Value.bool n1) ∧ w'.cell? ⟨w.heap.size, 1, none⟩ = some (Value.slice a1 xs1.length c1) ∧ w'.cell? ⟨w5.heap.size, 0, none⟩ = some (Value.bool n1) ∧ w'.cell? ⟨w5.heap.size, 1, none⟩ = some (Value.slice aP xs1.length cP))) := hide (fun w' hb => ⟨(hb.cell (p := ⟨w.heap.size, 0, none⟩) z1).trans k1_0, (hb.cell (p := ⟨w.heap.size, 1, none⟩) z1).trans k1_1, (hb.cell (p := ⟨w5.heap.size, 0, none⟩) zP).trans kP_0, (hb.cell (p := ⟨w5.heap.size, 1, none⟩) zP).trans kP_1⟩)
  go_region_held3 (fun w' => w'.cell? ⟨w.heap.size, 0, none⟩ = some (Value.bool n1) ∧ w'.cell? ⟨w.heap.size, 1, none⟩ = some (Value.slice a1 xs1.length c1) ∧ w'.cell? ⟨w5.heap.size, 0, none⟩ = some (Value.bool n1) ∧ w'.cell? ⟨w5.heap.size, 1, none⟩ = some (Value.slice aP xs1.length cP))
    (first | exact KP.out _ (bl_refl w7).drew | exact KP.out _ hbw9 | exact KP.out _ hbw8)
    (first
      | (go_at_call_of 7 (Value.agg #[Value.bool n1, Value.slice a1 xs1.length c1]); refine (toB n1 a1 xs1.length c1 xs1 _ (S1.out.below ((bl_refl w7).drew)) (by omega)).mono ?_; rintro e w8 ⟨u, rfl, hgu, hbw8r⟩; have hbw8 : Below w7.heap.size w7 w8 := (bl_refl w7).drew.trans hbw8r)
      | (go_at_call 9; refine (eqB _ u n1 xs1 _ ⟨aP, cP, rfl, HP.out.seg.below hbw8⟩ hgu.raw).mono ?_; rintro e w9 ⟨rfl, hbw9r⟩; have hbw9 : Below w7.heap.size w7 w9 := bl_trans hbw8 hbw9r))
  clear KP
  have yw9 := hbw9.size
  replace k1_0 := (hbw9.cell (p := ⟨w.heap.size, 0, none⟩) z1).trans k1_0
  replace k1_1 := (hbw9.cell (p := ⟨w.heap.size, 1, none⟩) z1).trans k1_1
  replace z1 := Nat.lt_of_lt_of_le z1 hbw9.size
  replace kP_0 := (hbw9.cell (p := ⟨w5.heap.size, 0, none⟩) zP).trans kP_0
  replace kP_1 := (hbw9.cell (p := ⟨w5.heap.size, 1, none⟩) zP).trans kP_1
  replace zP := Nat.lt_of_lt_of_le zP hbw9.size
  replace S1 := hide (S1.out.below hbw9)
  replace HP := hide (HP.out.below hbw9)
  replace HB := hide (bl_trans HB.out hbw9)
  clear hbw8 hbw8r hbw9 hbw9r hgu
  go_wp2_with fail
  go_wp2
  go_ret
  exact ⟨rfl, HB.out⟩
end Go.Proofs.YtaoijdoejglgiaaDoor
