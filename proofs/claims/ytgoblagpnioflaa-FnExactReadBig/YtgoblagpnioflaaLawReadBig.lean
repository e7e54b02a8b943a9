/- The walk of the exact law of ReadBig. -/
import Derived.Test.YtgoblagpnioflaaRdT
import Derived.Test.YtgoblagpnioflaaRdB
import Derived.Test.YtgoblagpnioflaaLawKit
namespace Go.Proofs.Ytgoblagpnioflaa
open Go.RowKit
set_option linter.unusedVariables false

theorem rdZ_len (s : ByteArray) : (lms (rdZ s)).length ≤ 40 := by
  unfold rdZ
  split
  · unfold fitZ
    split
    · rename_i h; exact fits_len h
    · rw [zero_lms]; decide
  · rw [zero_lms]; decide

set_option maxHeartbeats 40000000 in
set_option maxRecDepth 20000 in
theorem walk3 (s : ByteArray) (w : World) (hs : s.size ≤ 9223372036854775807) :
    Calls Try.prog 3 #[.string s] w fun e w' => e = .returned (.bool true) ∧ Below w.heap.size w w' := by
  have HB := hide (bl_refl w)
  have hzl := rdZ_len s
  by_cases hbig : (1048576 : Int) < (s.size : Int)
  · go_enter Try.func3, Try.ntmps3
    go_wp2
    go_ret
    exact ⟨rfl, bl_refl w⟩
  go_enter Try.func3, Try.ntmps3
  go_wp2_with fail
  refine (readBigS s _ (by omega)).mono ?_
  rintro e w1 ⟨_, rfl, ⟨aW0, cW0, rfl, hoW0⟩, hbw1⟩
  have yw1 := hbw1.size
  replace HB := hide (bl_trans HB.out hbw1)
  clear hbw1
  have SW0 := hide hoW0.seg
  have AW0 := SW0
  clear hoW0
  go_wp2_with fail
  have kW0_0 : (w1.alloc (Obj.cells #[Value.bool (sgn (rdZ s)), Value.slice aW0 (lms (rdZ s)).length cW0] 24)).cell? ⟨w1.heap.size, 0, none⟩ = some (Value.bool (sgn (rdZ s))) := by go_simp
  have kW0_1 : (w1.alloc (Obj.cells #[Value.bool (sgn (rdZ s)), Value.slice aW0 (lms (rdZ s)).length cW0] 24)).cell? ⟨w1.heap.size, 1, none⟩ = some (Value.slice aW0 (lms (rdZ s)).length cW0) := by go_simp
  have zW0 : w1.heap.size < (w1.alloc (Obj.cells #[Value.bool (sgn (rdZ s)), Value.slice aW0 (lms (rdZ s)).length cW0] 24)).heap.size := by simp only [World.size_alloc]; omega
  have yw2 : w1.heap.size + 1 ≤ (w1.alloc (Obj.cells #[Value.bool (sgn (rdZ s)), Value.slice aW0 (lms (rdZ s)).length cW0] 24)).heap.size := by simp only [World.size_alloc]; omega
  have hbw2 := (bl_alloc (bl_refl w1) (Obj.cells #[Value.bool (sgn (rdZ s)), Value.slice aW0 (lms (rdZ s)).length cW0] 24))
  generalize (w1.alloc (Obj.cells #[Value.bool (sgn (rdZ s)), Value.slice aW0 (lms (rdZ s)).length cW0] 24)) = w2 at *
  replace SW0 := hide (SW0.out.below hbw2)
  replace HB := hide (bl_trans HB.out hbw2)
  clear hbw2
  refine (readBigI s _ (by omega)).mono ?_
  rintro e w3 ⟨_, rfl, ⟨aG0, cG0, rfl, hoG0⟩, hbw3⟩
  have yw3 := hbw3.size
  replace kW0_0 := (hbw3.cell (p := ⟨w1.heap.size, 0, none⟩) zW0).trans kW0_0
  replace kW0_1 := (hbw3.cell (p := ⟨w1.heap.size, 1, none⟩) zW0).trans kW0_1
  replace zW0 := Nat.lt_of_lt_of_le zW0 hbw3.size
  replace SW0 := hide (SW0.out.below hbw3)
  replace HB := hide (bl_trans HB.out hbw3)
  clear hbw3
  have oG0 : ∀ k, (Value.slice aG0 (lms (rdZ s)).length cG0).ownBlock = some k → w2.heap.size ≤ k ∧ k < w3.heap.size := fun k e => hoG0.1.lt k e
  have HG0 := hide hoG0
  clear hoG0
  go_wp2_with fail
  have kG0_0 : (w3.alloc (Obj.cells #[Value.bool (sgn (rdZ s)), Value.slice aG0 (lms (rdZ s)).length cG0] 24)).cell? ⟨w3.heap.size, 0, none⟩ = some (Value.bool (sgn (rdZ s))) := by go_simp
  have kG0_1 : (w3.alloc (Obj.cells #[Value.bool (sgn (rdZ s)), Value.slice aG0 (lms (rdZ s)).length cG0] 24)).cell? ⟨w3.heap.size, 1, none⟩ = some (Value.slice aG0 (lms (rdZ s)).length cG0) := by go_simp
  have zG0 : w3.heap.size < (w3.alloc (Obj.cells #[Value.bool (sgn (rdZ s)), Value.slice aG0 (lms (rdZ s)).length cG0] 24)).heap.size := by simp only [World.size_alloc]; omega
  have yw4 : w3.heap.size + 1 ≤ (w3.alloc (Obj.cells #[Value.bool (sgn (rdZ s)), Value.slice aG0 (lms (rdZ s)).length cG0] 24)).heap.size := by simp only [World.size_alloc]; omega
  have hbw4 := (bl_alloc (bl_refl w3) (Obj.cells #[Value.bool (sgn (rdZ s)), Value.slice aG0 (lms (rdZ s)).length cG0] 24))
  generalize (w3.alloc (Obj.cells #[Value.bool (sgn (rdZ s)), Value.slice aG0 (lms (rdZ s)).length cG0] 24)) = w4 at *
  replace kW0_0 := (hbw4.cell (p := ⟨w1.heap.size, 0, none⟩) zW0).trans kW0_0
  replace kW0_1 := (hbw4.cell (p := ⟨w1.heap.size, 1, none⟩) zW0).trans kW0_1
  replace zW0 := Nat.lt_of_lt_of_le zW0 hbw4.size
  replace SW0 := hide (SW0.out.below hbw4)
  replace HG0 := hide (HG0.out.below hbw4)
  replace HB := hide (bl_trans HB.out hbw4)
  clear hbw4
  refine (eqB _ _ (sgn (rdZ s)) (lms (rdZ s)) _ ⟨aG0, cG0, rfl, HG0.out.seg⟩ ⟨aW0, cW0, rfl, SW0.out⟩).mono ?_
  rintro e w5 ⟨rfl, hbw5⟩
  have yw5 := hbw5.size
  replace kW0_0 := (hbw5.cell (p := ⟨w1.heap.size, 0, none⟩) zW0).trans kW0_0
  replace kW0_1 := (hbw5.cell (p := ⟨w1.heap.size, 1, none⟩) zW0).trans kW0_1
  replace zW0 := Nat.lt_of_lt_of_le zW0 hbw5.size
  replace kG0_0 := (hbw5.cell (p := ⟨w3.heap.size, 0, none⟩) zG0).trans kG0_0
  replace kG0_1 := (hbw5.cell (p := ⟨w3.heap.size, 1, none⟩) zG0).trans kG0_1
  replace zG0 := Nat.lt_of_lt_of_le zG0 hbw5.size
  replace SW0 := hide (SW0.out.below hbw5)
  replace HG0 := hide (HG0.out.below hbw5)
  replace HB := hide (bl_trans HB.out hbw5)
  clear hbw5
  go_wp2_with fail
  refine (markBe (sgn (rdZ s)) aG0 (lms (rdZ s)).length cG0 _ _ (0) (1) _ (by omega) (by omega) HG0.out).mono ?_
  rintro e w6 ⟨rfl, hm, hg⟩
  have yw6 := hg.size
  replace kW0_0 := hg.cell kW0_0 (fun e => by have := oG0 _ e.symm; dsimp only at this; omega)
  replace kW0_1 := hg.cell kW0_1 (fun e => by have := oG0 _ e.symm; dsimp only at this; omega)
  replace zW0 := Nat.lt_of_lt_of_le zW0 yw6
  replace kG0_0 := hg.cell kG0_0 (fun e => by have := oG0 _ e.symm; dsimp only at this; omega)
  replace kG0_1 := hg.cell kG0_1 (fun e => by have := oG0 _ e.symm; dsimp only at this; omega)
  replace zG0 := Nat.lt_of_lt_of_le zG0 yw6
  replace SW0 := hide (SW0.out.grownLow AW0.out hg (fun k e => by have := oG0 k e; omega))
  replace HB := hide (HB.out.grown hg HB.out.size (fun k e => by have := oG0 k e; omega))
  replace HG0 := hide hm
  clear hg hm
  go_wp2_with fail
  refine (heldBe (sgn (rdZ s)) aG0 (lms (rdZ s)).length cG0 (0) (1) _ (by omega) (by omega) HG0.out.seg).mono ?_
  rintro e w7 ⟨rfl, hbw7⟩
  have yw7 := hbw7.size
  replace kW0_0 := (hbw7.cell (p := ⟨w1.heap.size, 0, none⟩) zW0).trans kW0_0
  replace kW0_1 := (hbw7.cell (p := ⟨w1.heap.size, 1, none⟩) zW0).trans kW0_1
  replace zW0 := Nat.lt_of_lt_of_le zW0 hbw7.size
  replace kG0_0 := (hbw7.cell (p := ⟨w3.heap.size, 0, none⟩) zG0).trans kG0_0
  replace kG0_1 := (hbw7.cell (p := ⟨w3.heap.size, 1, none⟩) zG0).trans kG0_1
  replace zG0 := Nat.lt_of_lt_of_le zG0 hbw7.size
  replace SW0 := hide (SW0.out.below hbw7)
  replace HG0 := hide (HG0.out.below hbw7)
  replace HB := hide (bl_trans HB.out hbw7)
  clear hbw7
  go_wp2_with fail
  refine (readBigI s _ (by omega)).mono ?_
  rintro e w8 ⟨_, rfl, ⟨aV0, cV0, rfl, hoV0⟩, hbw8⟩
  have yw8 := hbw8.size
  replace kW0_0 := (hbw8.cell (p := ⟨w1.heap.size, 0, none⟩) zW0).trans kW0_0
  replace kW0_1 := (hbw8.cell (p := ⟨w1.heap.size, 1, none⟩) zW0).trans kW0_1
  replace zW0 := Nat.lt_of_lt_of_le zW0 hbw8.size
  replace kG0_0 := (hbw8.cell (p := ⟨w3.heap.size, 0, none⟩) zG0).trans kG0_0
  replace kG0_1 := (hbw8.cell (p := ⟨w3.heap.size, 1, none⟩) zG0).trans kG0_1
  replace zG0 := Nat.lt_of_lt_of_le zG0 hbw8.size
  replace SW0 := hide (SW0.out.below hbw8)
  replace HG0 := hide (HG0.out.below hbw8)
  replace HB := hide (bl_trans HB.out hbw8)
  clear hbw8
  have SV0 := hide hoV0.seg
  have AV0 := SV0
  clear hoV0
  go_wp2_with fail
  have kV0_0 : (w8.alloc (Obj.cells #[Value.bool (sgn (rdZ s)), Value.slice aV0 (lms (rdZ s)).length cV0] 24)).cell? ⟨w8.heap.size, 0, none⟩ = some (Value.bool (sgn (rdZ s))) := by go_simp
  have kV0_1 : (w8.alloc (Obj.cells #[Value.bool (sgn (rdZ s)), Value.slice aV0 (lms (rdZ s)).length cV0] 24)).cell? ⟨w8.heap.size, 1, none⟩ = some (Value.slice aV0 (lms (rdZ s)).length cV0) := by go_simp
  have zV0 : w8.heap.size < (w8.alloc (Obj.cells #[Value.bool (sgn (rdZ s)), Value.slice aV0 (lms (rdZ s)).length cV0] 24)).heap.size := by simp only [World.size_alloc]; omega
  have yw9 : w8.heap.size + 1 ≤ (w8.alloc (Obj.cells #[Value.bool (sgn (rdZ s)), Value.slice aV0 (lms (rdZ s)).length cV0] 24)).heap.size := by simp only [World.size_alloc]; omega
  have hbw9 := (bl_alloc (bl_refl w8) (Obj.cells #[Value.bool (sgn (rdZ s)), Value.slice aV0 (lms (rdZ s)).length cV0] 24))
  generalize (w8.alloc (Obj.cells #[Value.bool (sgn (rdZ s)), Value.slice aV0 (lms (rdZ s)).length cV0] 24)) = w9 at *
  replace kW0_0 := (hbw9.cell (p := ⟨w1.heap.size, 0, none⟩) zW0).trans kW0_0
  replace kW0_1 := (hbw9.cell (p := ⟨w1.heap.size, 1, none⟩) zW0).trans kW0_1
  replace zW0 := Nat.lt_of_lt_of_le zW0 hbw9.size
  replace kG0_0 := (hbw9.cell (p := ⟨w3.heap.size, 0, none⟩) zG0).trans kG0_0
  replace kG0_1 := (hbw9.cell (p := ⟨w3.heap.size, 1, none⟩) zG0).trans kG0_1
  replace zG0 := Nat.lt_of_lt_of_le zG0 hbw9.size
  replace SW0 := hide (SW0.out.below hbw9)
  replace HG0 := hide (HG0.out.below hbw9)
  replace SV0 := hide (SV0.out.below hbw9)
  replace HB := hide (bl_trans HB.out hbw9)
  clear hbw9
  refine (eqB _ _ (sgn (rdZ s)) (lms (rdZ s)) _ ⟨aV0, cV0, rfl, SV0.out⟩ ⟨aW0, cW0, rfl, SW0.out⟩).mono ?_
  rintro e w10 ⟨rfl, hbw10⟩
  have yw10 := hbw10.size
  replace kW0_0 := (hbw10.cell (p := ⟨w1.heap.size, 0, none⟩) zW0).trans kW0_0
  replace kW0_1 := (hbw10.cell (p := ⟨w1.heap.size, 1, none⟩) zW0).trans kW0_1
  replace zW0 := Nat.lt_of_lt_of_le zW0 hbw10.size
  replace kG0_0 := (hbw10.cell (p := ⟨w3.heap.size, 0, none⟩) zG0).trans kG0_0
  replace kG0_1 := (hbw10.cell (p := ⟨w3.heap.size, 1, none⟩) zG0).trans kG0_1
  replace zG0 := Nat.lt_of_lt_of_le zG0 hbw10.size
  replace kV0_0 := (hbw10.cell (p := ⟨w8.heap.size, 0, none⟩) zV0).trans kV0_0
  replace kV0_1 := (hbw10.cell (p := ⟨w8.heap.size, 1, none⟩) zV0).trans kV0_1
  replace zV0 := Nat.lt_of_lt_of_le zV0 hbw10.size
  replace SW0 := hide (SW0.out.below hbw10)
  replace HG0 := hide (HG0.out.below hbw10)
  replace SV0 := hide (SV0.out.below hbw10)
  replace HB := hide (bl_trans HB.out hbw10)
  clear hbw10
  go_wp2_with fail
  refine (heldBe (sgn (rdZ s)) aG0 (lms (rdZ s)).length cG0 (0) (1) _ (by omega) (by omega) HG0.out.seg).mono ?_
  rintro e w11 ⟨rfl, hbw11⟩
  have yw11 := hbw11.size
  replace kW0_0 := (hbw11.cell (p := ⟨w1.heap.size, 0, none⟩) zW0).trans kW0_0
  replace kW0_1 := (hbw11.cell (p := ⟨w1.heap.size, 1, none⟩) zW0).trans kW0_1
  replace zW0 := Nat.lt_of_lt_of_le zW0 hbw11.size
  replace kG0_0 := (hbw11.cell (p := ⟨w3.heap.size, 0, none⟩) zG0).trans kG0_0
  replace kG0_1 := (hbw11.cell (p := ⟨w3.heap.size, 1, none⟩) zG0).trans kG0_1
  replace zG0 := Nat.lt_of_lt_of_le zG0 hbw11.size
  replace kV0_0 := (hbw11.cell (p := ⟨w8.heap.size, 0, none⟩) zV0).trans kV0_0
  replace kV0_1 := (hbw11.cell (p := ⟨w8.heap.size, 1, none⟩) zV0).trans kV0_1
  replace zV0 := Nat.lt_of_lt_of_le zV0 hbw11.size
  replace SW0 := hide (SW0.out.below hbw11)
  replace HG0 := hide (HG0.out.below hbw11)
  replace SV0 := hide (SV0.out.below hbw11)
  replace HB := hide (bl_trans HB.out hbw11)
  clear hbw11
  go_wp2
  go_ret
  exact ⟨rfl, HB.out⟩
end Go.Proofs.Ytgoblagpnioflaa
