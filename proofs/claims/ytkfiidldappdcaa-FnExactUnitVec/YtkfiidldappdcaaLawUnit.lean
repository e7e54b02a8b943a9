/- The walk of the exact law of UnitVec. -/
import Derived.Test.YtkfiidldappdcaaUnit
namespace Go.Proofs.Ytkfiidldappdcaa
open Go.RowKit
set_option linter.unusedVariables false

set_option maxHeartbeats 40000000 in
set_option maxRecDepth 20000 in
theorem walk11 (n i : Int) (w : World) :
    Calls Try.prog 11 #[.int .i64 n, .int .i64 i] w fun e w' => e = .returned (.bool true) ∧ Below w.heap.size w w' := by
  have hL := unL_len n i
  go_enter Try.func11, Try.ntmps11
  have HB := hide (bl_refl w)
  have y0 := Nat.le_refl w.heap.size
  go_wp2_with fail
  refine (unitS n i _).mono ?_
  rintro e w1 ⟨aW0, cW0, rfl, hoW0, hbw1⟩
  have yw1 := hbw1.size
  replace HB := hide (bl_trans HB.out hbw1)
  clear hbw1
  have SW0 := hide hoW0.seg
  have AW0 := SW0
  clear hoW0
  go_wp2_with fail
  have kW0_0 : (w1.alloc (Obj.cells #[Value.int .i64 (unD n i), Value.slice aW0 (unL n i).length cW0] 29)).cell? ⟨w1.heap.size, 0, none⟩ = some (Value.int .i64 (unD n i)) := by go_simp
  have kW0_1 : (w1.alloc (Obj.cells #[Value.int .i64 (unD n i), Value.slice aW0 (unL n i).length cW0] 29)).cell? ⟨w1.heap.size, 1, none⟩ = some (Value.slice aW0 (unL n i).length cW0) := by go_simp
  have zW0 : w1.heap.size < (w1.alloc (Obj.cells #[Value.int .i64 (unD n i), Value.slice aW0 (unL n i).length cW0] 29)).heap.size := by simp only [World.size_alloc]; omega
  have yw2 : w1.heap.size + 1 ≤ (w1.alloc (Obj.cells #[Value.int .i64 (unD n i), Value.slice aW0 (unL n i).length cW0] 29)).heap.size := by simp only [World.size_alloc]; omega
  have hbw2 := (bl_alloc (bl_refl w1) (Obj.cells #[Value.int .i64 (unD n i), Value.slice aW0 (unL n i).length cW0] 29))
  generalize (w1.alloc (Obj.cells #[Value.int .i64 (unD n i), Value.slice aW0 (unL n i).length cW0] 29)) = w2 at *
  replace SW0 := hide (SW0.out.below hbw2)
  replace HB := hide (bl_trans HB.out hbw2)
  clear hbw2
  go_wp2_with fail
  refine (unitI n i _).mono ?_
  rintro e w3 ⟨aG0, cG0, rfl, hoG0, hbw3⟩
  have yw3 := hbw3.size
  replace kW0_0 := (hbw3.cell (p := ⟨w1.heap.size, 0, none⟩) zW0).trans kW0_0
  replace kW0_1 := (hbw3.cell (p := ⟨w1.heap.size, 1, none⟩) zW0).trans kW0_1
  replace zW0 := Nat.lt_of_lt_of_le zW0 hbw3.size
  replace SW0 := hide (SW0.out.below hbw3)
  replace HB := hide (bl_trans HB.out hbw3)
  clear hbw3
  have oG0 : ∀ k, (Value.slice aG0 (unL n i).length cG0).ownBlock = some k → w2.heap.size ≤ k ∧ k < w3.heap.size := fun k e => World.ownsRow.lt hoG0 k e
  have HG0 := hide hoG0
  clear hoG0
  go_wp2_with fail
  have kG0_0 : (w3.alloc (Obj.cells #[Value.int .i64 (unD n i), Value.slice aG0 (unL n i).length cG0] 29)).cell? ⟨w3.heap.size, 0, none⟩ = some (Value.int .i64 (unD n i)) := by go_simp
  have kG0_1 : (w3.alloc (Obj.cells #[Value.int .i64 (unD n i), Value.slice aG0 (unL n i).length cG0] 29)).cell? ⟨w3.heap.size, 1, none⟩ = some (Value.slice aG0 (unL n i).length cG0) := by go_simp
  have zG0 : w3.heap.size < (w3.alloc (Obj.cells #[Value.int .i64 (unD n i), Value.slice aG0 (unL n i).length cG0] 29)).heap.size := by simp only [World.size_alloc]; omega
  have yw4 : w3.heap.size + 1 ≤ (w3.alloc (Obj.cells #[Value.int .i64 (unD n i), Value.slice aG0 (unL n i).length cG0] 29)).heap.size := by simp only [World.size_alloc]; omega
  have hbw4 := (bl_alloc (bl_refl w3) (Obj.cells #[Value.int .i64 (unD n i), Value.slice aG0 (unL n i).length cG0] 29))
  generalize (w3.alloc (Obj.cells #[Value.int .i64 (unD n i), Value.slice aG0 (unL n i).length cG0] 29)) = w4 at *
  replace kW0_0 := (hbw4.cell (p := ⟨w1.heap.size, 0, none⟩) zW0).trans kW0_0
  replace kW0_1 := (hbw4.cell (p := ⟨w1.heap.size, 1, none⟩) zW0).trans kW0_1
  replace zW0 := Nat.lt_of_lt_of_le zW0 hbw4.size
  replace SW0 := hide (SW0.out.below hbw4)
  replace HG0 := hide (HG0.out.below hbw4)
  replace HB := hide (bl_trans HB.out hbw4)
  clear hbw4
  go_wp2_with fail
  refine (eqB _ _ (unD n i) (unL n i) _ ⟨aG0, cG0, rfl, HG0.out.seg⟩ ⟨aW0, cW0, rfl, SW0.out⟩).mono ?_
  rintro e w5 ⟨rfl, hbw5⟩
  have yw5 := hbw5.size
  replace kW0_0 := (hbw5.cell (p := ⟨w1.heap.size, 0, none⟩) zW0).trans kW0_0
  replace kW0_1 := (hbw5.cell (p := ⟨w1.heap.size, 1, none⟩) zW0).trans kW0_1
  replace zW0 := Nat.lt_of_lt_of_le zW0 hbw5.size
  replace kG0_0 := (hbw5.cell (p := ⟨w3.heap.size, 0, none⟩) zG0).trans kG0_0
  replace kG0_1 := (hbw5.cell (p := ⟨w3.heap.size, 1, none⟩) zG0).trans kG0_1
  replace zG0 := Nat.lt_of_lt_of_le zG0 hbw5.size
  replace SW0 := hide (SW0.out.below hbw5)
  replace HG0 := hide (HG0.out.below hbw5)
  replace HB := hide (bl_trans HB.out hbw5)
  clear hbw5
  go_wp2_with fail
  refine (markBe (unD n i) aG0 (unL n i).length cG0 _ _ (0) (1) _ (by omega) (by omega) HG0.out).mono ?_
  rintro e w6 ⟨rfl, hm, hg⟩
  have yw6 := hg.size
  replace kW0_0 := hg.cell kW0_0 (fun e => by have := oG0 _ e.symm; dsimp only at this; omega)
  replace kW0_1 := hg.cell kW0_1 (fun e => by have := oG0 _ e.symm; dsimp only at this; omega)
  replace zW0 := Nat.lt_of_lt_of_le zW0 yw6
  replace kG0_0 := hg.cell kG0_0 (fun e => by have := oG0 _ e.symm; dsimp only at this; omega)
  replace kG0_1 := hg.cell kG0_1 (fun e => by have := oG0 _ e.symm; dsimp only at this; omega)
  replace zG0 := Nat.lt_of_lt_of_le zG0 yw6
  replace SW0 := hide (SW0.out.grownLow AW0.out hg (fun k e => by have := oG0 k e; omega))
  replace HB := hide (HB.out.grown hg HB.out.size (fun k e => by have := oG0 k e; omega))
  replace HG0 := hide hm
  clear hg hm
  go_wp2_with fail
  refine (heldBe (unD n i) aG0 (unL n i).length cG0 (0) (1) _ (by omega) (by omega) HG0.out.seg).mono ?_
  rintro e w7 ⟨rfl, hbw7⟩
  have yw7 := hbw7.size
  replace kW0_0 := (hbw7.cell (p := ⟨w1.heap.size, 0, none⟩) zW0).trans kW0_0
  replace kW0_1 := (hbw7.cell (p := ⟨w1.heap.size, 1, none⟩) zW0).trans kW0_1
  replace zW0 := Nat.lt_of_lt_of_le zW0 hbw7.size
  replace kG0_0 := (hbw7.cell (p := ⟨w3.heap.size, 0, none⟩) zG0).trans kG0_0
  replace kG0_1 := (hbw7.cell (p := ⟨w3.heap.size, 1, none⟩) zG0).trans kG0_1
  replace zG0 := Nat.lt_of_lt_of_le zG0 hbw7.size
  replace SW0 := hide (SW0.out.below hbw7)
  replace HG0 := hide (HG0.out.below hbw7)
  replace HB := hide (bl_trans HB.out hbw7)
  clear hbw7
  go_wp2_with fail
  refine (unitI n i _).mono ?_
  rintro e w8 ⟨aV0, cV0, rfl, hoV0, hbw8⟩
  have yw8 := hbw8.size
  replace kW0_0 := (hbw8.cell (p := ⟨w1.heap.size, 0, none⟩) zW0).trans kW0_0
  replace kW0_1 := (hbw8.cell (p := ⟨w1.heap.size, 1, none⟩) zW0).trans kW0_1
  replace zW0 := Nat.lt_of_lt_of_le zW0 hbw8.size
  replace kG0_0 := (hbw8.cell (p := ⟨w3.heap.size, 0, none⟩) zG0).trans kG0_0
  replace kG0_1 := (hbw8.cell (p := ⟨w3.heap.size, 1, none⟩) zG0).trans kG0_1
  replace zG0 := Nat.lt_of_lt_of_le zG0 hbw8.size
  replace SW0 := hide (SW0.out.below hbw8)
  replace HG0 := hide (HG0.out.below hbw8)
  replace HB := hide (bl_trans HB.out hbw8)
  clear hbw8
  have SV0 := hide hoV0.seg
  have AV0 := SV0
  clear hoV0
  go_wp2_with fail
  have kV0_0 : (w8.alloc (Obj.cells #[Value.int .i64 (unD n i), Value.slice aV0 (unL n i).length cV0] 29)).cell? ⟨w8.heap.size, 0, none⟩ = some (Value.int .i64 (unD n i)) := by go_simp
  have kV0_1 : (w8.alloc (Obj.cells #[Value.int .i64 (unD n i), Value.slice aV0 (unL n i).length cV0] 29)).cell? ⟨w8.heap.size, 1, none⟩ = some (Value.slice aV0 (unL n i).length cV0) := by go_simp
  have zV0 : w8.heap.size < (w8.alloc (Obj.cells #[Value.int .i64 (unD n i), Value.slice aV0 (unL n i).length cV0] 29)).heap.size := by simp only [World.size_alloc]; omega
  have yw9 : w8.heap.size + 1 ≤ (w8.alloc (Obj.cells #[Value.int .i64 (unD n i), Value.slice aV0 (unL n i).length cV0] 29)).heap.size := by simp only [World.size_alloc]; omega
  have hbw9 := (bl_alloc (bl_refl w8) (Obj.cells #[Value.int .i64 (unD n i), Value.slice aV0 (unL n i).length cV0] 29))
  generalize (w8.alloc (Obj.cells #[Value.int .i64 (unD n i), Value.slice aV0 (unL n i).length cV0] 29)) = w9 at *
  replace kW0_0 := (hbw9.cell (p := ⟨w1.heap.size, 0, none⟩) zW0).trans kW0_0
  replace kW0_1 := (hbw9.cell (p := ⟨w1.heap.size, 1, none⟩) zW0).trans kW0_1
  replace zW0 := Nat.lt_of_lt_of_le zW0 hbw9.size
  replace kG0_0 := (hbw9.cell (p := ⟨w3.heap.size, 0, none⟩) zG0).trans kG0_0
  replace kG0_1 := (hbw9.cell (p := ⟨w3.heap.size, 1, none⟩) zG0).trans kG0_1
  replace zG0 := Nat.lt_of_lt_of_le zG0 hbw9.size
  replace SW0 := hide (SW0.out.below hbw9)
  replace HG0 := hide (HG0.out.below hbw9)
  replace SV0 := hide (SV0.out.below hbw9)
  replace HB := hide (bl_trans HB.out hbw9)
  clear hbw9
  go_wp2_with fail
  refine (eqB _ _ (unD n i) (unL n i) _ ⟨aV0, cV0, rfl, SV0.out⟩ ⟨aW0, cW0, rfl, SW0.out⟩).mono ?_
  rintro e w10 ⟨rfl, hbw10⟩
  have yw10 := hbw10.size
  replace kW0_0 := (hbw10.cell (p := ⟨w1.heap.size, 0, none⟩) zW0).trans kW0_0
  replace kW0_1 := (hbw10.cell (p := ⟨w1.heap.size, 1, none⟩) zW0).trans kW0_1
  replace zW0 := Nat.lt_of_lt_of_le zW0 hbw10.size
  replace kG0_0 := (hbw10.cell (p := ⟨w3.heap.size, 0, none⟩) zG0).trans kG0_0
  replace kG0_1 := (hbw10.cell (p := ⟨w3.heap.size, 1, none⟩) zG0).trans kG0_1
  replace zG0 := Nat.lt_of_lt_of_le zG0 hbw10.size
  replace kV0_0 := (hbw10.cell (p := ⟨w8.heap.size, 0, none⟩) zV0).trans kV0_0
  replace kV0_1 := (hbw10.cell (p := ⟨w8.heap.size, 1, none⟩) zV0).trans kV0_1
  replace zV0 := Nat.lt_of_lt_of_le zV0 hbw10.size
  replace SW0 := hide (SW0.out.below hbw10)
  replace HG0 := hide (HG0.out.below hbw10)
  replace SV0 := hide (SV0.out.below hbw10)
  replace HB := hide (bl_trans HB.out hbw10)
  clear hbw10
  go_wp2_with fail
  refine (heldBe (unD n i) aG0 (unL n i).length cG0 (0) (1) _ (by omega) (by omega) HG0.out.seg).mono ?_
  rintro e w11 ⟨rfl, hbw11⟩
  have yw11 := hbw11.size
  replace kW0_0 := (hbw11.cell (p := ⟨w1.heap.size, 0, none⟩) zW0).trans kW0_0
  replace kW0_1 := (hbw11.cell (p := ⟨w1.heap.size, 1, none⟩) zW0).trans kW0_1
  replace zW0 := Nat.lt_of_lt_of_le zW0 hbw11.size
  replace kG0_0 := (hbw11.cell (p := ⟨w3.heap.size, 0, none⟩) zG0).trans kG0_0
  replace kG0_1 := (hbw11.cell (p := ⟨w3.heap.size, 1, none⟩) zG0).trans kG0_1
  replace zG0 := Nat.lt_of_lt_of_le zG0 hbw11.size
  replace kV0_0 := (hbw11.cell (p := ⟨w8.heap.size, 0, none⟩) zV0).trans kV0_0
  replace kV0_1 := (hbw11.cell (p := ⟨w8.heap.size, 1, none⟩) zV0).trans kV0_1
  replace zV0 := Nat.lt_of_lt_of_le zV0 hbw11.size
  replace SW0 := hide (SW0.out.below hbw11)
  replace HG0 := hide (HG0.out.below hbw11)
  replace SV0 := hide (SV0.out.below hbw11)
  replace HB := hide (bl_trans HB.out hbw11)
  clear hbw11
  go_wp2
  go_ret
  exact ⟨rfl, HB.out⟩
end Go.Proofs.Ytkfiidldappdcaa
