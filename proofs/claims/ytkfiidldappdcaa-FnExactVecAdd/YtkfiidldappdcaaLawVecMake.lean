/- The walk of the exact law of VecMake. -/
import Derived.Test.YtkfiidldappdcaaVMakeS
namespace Go.Proofs.Ytkfiidldappdcaa
open Go.RowKit
set_option linter.unusedVariables false

theorem eqUe (a b : Option Addr) (n ca cb : Nat) (xs : List Int) (w : World) (ha : Seg w a n ca xs) (hb : Seg w b n cb xs) :
    Calls Try.prog 39 #[.slice a n ca, .slice b n cb] w fun e w' => e = .returned (.bool true) ∧ Below w.heap.size w w' :=
  (eqU a b n ca cb xs w ha hb).mono fun e w' ⟨he, m, hw⟩ => ⟨he, by rw [hw]; exact below_drewN (bl_refl w) m⟩
theorem tlL_len (n : Nat) (d : Int) (f : Nat → Int) (h : n ≤ 8) : (tlL n d f).length ≤ 8 := by
  unfold tlL; split
  · rw [lst8_len]; exact h
  · simp
theorem vmL_len (xs : List Int) (den : Int) : (vmL xs den).length ≤ 8 := by
  unfold vmL; split
  · rename_i h
    unfold mkT at h
    simp only [Bool.and_eq_true, decide_eq_true_eq] at h
    exact tlL_len _ _ _ h.1.1.1
  · simp

set_option maxHeartbeats 40000000 in
set_option maxRecDepth 20000 in
theorem walk9 (a1 : Option Addr) (c1 : Nat) (xs1 : List Int) (den : Int) (w : World) (s1 : Seg w a1 xs1.length c1 xs1) :
    Calls Try.prog 9 #[.slice a1 xs1.length c1, .int .i64 den] w fun e w' => e = .returned (.bool true) ∧ Below w.heap.size w w' := by
  have hL := vmL_len xs1 den
  have A1 := hide s1
  have hn1 := s1.le
  have S1 := hide s1
  clear s1
  have HB := hide (bl_refl w)
  have y0 := Nat.le_refl w.heap.size
  go_enter Try.func9, Try.ntmps9
  by_cases hbig : (1048576 : Int) < (xs1.length : Int)
  · go_wp2
    go_ret
    exact ⟨rfl, HB.out⟩
  go_wp2_with fail
  refine (toU a1 xs1.length c1 xs1 _ S1.out (by omega)).mono ?_
  rintro e w1 ⟨auW, cuW, rfl, houW, hbw1⟩
  have yw1 := hbw1.size
  replace S1 := hide (S1.out.below hbw1)
  replace HB := hide (bl_trans HB.out hbw1)
  clear hbw1
  have HuW := hide houW.seg
  clear houW
  go_wp2_with fail
  refine (vecMakeS auW cuW xs1 den _ (HuW.out)).mono ?_
  rintro e w2 ⟨aW0, cW0, rfl, hoW0, hbw2⟩
  have yw2 := hbw2.size
  replace S1 := hide (S1.out.below hbw2)
  replace HuW := hide (HuW.out.below hbw2)
  replace HB := hide (bl_trans HB.out hbw2)
  clear hbw2
  clear HuW
  have SW0 := hide hoW0.seg
  have AW0 := SW0
  clear hoW0
  go_wp2_with fail
  have kW0_0 : (w2.alloc (Obj.cells #[Value.int .i64 (vmD xs1 den), Value.slice aW0 (vmL xs1 den).length cW0] 29)).cell? ⟨w2.heap.size, 0, none⟩ = some (Value.int .i64 (vmD xs1 den)) := by go_simp
  have kW0_1 : (w2.alloc (Obj.cells #[Value.int .i64 (vmD xs1 den), Value.slice aW0 (vmL xs1 den).length cW0] 29)).cell? ⟨w2.heap.size, 1, none⟩ = some (Value.slice aW0 (vmL xs1 den).length cW0) := by go_simp
  have zW0 : w2.heap.size < (w2.alloc (Obj.cells #[Value.int .i64 (vmD xs1 den), Value.slice aW0 (vmL xs1 den).length cW0] 29)).heap.size := by simp only [World.size_alloc]; omega
  have yw3 : w2.heap.size + 1 ≤ (w2.alloc (Obj.cells #[Value.int .i64 (vmD xs1 den), Value.slice aW0 (vmL xs1 den).length cW0] 29)).heap.size := by simp only [World.size_alloc]; omega
  have hbw3 := (bl_alloc (bl_refl w2) (Obj.cells #[Value.int .i64 (vmD xs1 den), Value.slice aW0 (vmL xs1 den).length cW0] 29))
  generalize (w2.alloc (Obj.cells #[Value.int .i64 (vmD xs1 den), Value.slice aW0 (vmL xs1 den).length cW0] 29)) = w3 at *
  replace S1 := hide (S1.out.below hbw3)
  replace SW0 := hide (SW0.out.below hbw3)
  replace HB := hide (bl_trans HB.out hbw3)
  clear hbw3
  refine (toU a1 xs1.length c1 xs1 _ S1.out (by omega)).mono ?_
  rintro e w4 ⟨aP, cP, rfl, hoP, hbw4⟩
  have yw4 := hbw4.size
  replace kW0_0 := (hbw4.cell (p := ⟨w2.heap.size, 0, none⟩) zW0).trans kW0_0
  replace kW0_1 := (hbw4.cell (p := ⟨w2.heap.size, 1, none⟩) zW0).trans kW0_1
  replace zW0 := Nat.lt_of_lt_of_le zW0 hbw4.size
  replace S1 := hide (S1.out.below hbw4)
  replace SW0 := hide (SW0.out.below hbw4)
  replace HB := hide (bl_trans HB.out hbw4)
  clear hbw4
  have oP : ∀ k, (Value.slice aP xs1.length cP).ownBlock = some k → w3.heap.size ≤ k ∧ k < w4.heap.size := fun k e => World.ownsRow.lt hoP k e
  have HP := hide hoP
  clear hoP
  go_wp2_with fail
  refine (vecMakeI aP cP xs1 den _ (HP.out.seg)).mono ?_
  rintro e w5 ⟨aG0, cG0, rfl, hoG0, hbw5⟩
  have yw5 := hbw5.size
  replace kW0_0 := (hbw5.cell (p := ⟨w2.heap.size, 0, none⟩) zW0).trans kW0_0
  replace kW0_1 := (hbw5.cell (p := ⟨w2.heap.size, 1, none⟩) zW0).trans kW0_1
  replace zW0 := Nat.lt_of_lt_of_le zW0 hbw5.size
  replace S1 := hide (S1.out.below hbw5)
  replace SW0 := hide (SW0.out.below hbw5)
  replace HP := hide (HP.out.below hbw5)
  replace HB := hide (bl_trans HB.out hbw5)
  clear hbw5
  have oG0 : ∀ k, (Value.slice aG0 (vmL xs1 den).length cG0).ownBlock = some k → w4.heap.size ≤ k ∧ k < w5.heap.size := fun k e => World.ownsRow.lt hoG0 k e
  have HG0 := hide hoG0
  clear hoG0
  go_wp2_with fail
  have kG0_0 : (w5.alloc (Obj.cells #[Value.int .i64 (vmD xs1 den), Value.slice aG0 (vmL xs1 den).length cG0] 29)).cell? ⟨w5.heap.size, 0, none⟩ = some (Value.int .i64 (vmD xs1 den)) := by go_simp
  have kG0_1 : (w5.alloc (Obj.cells #[Value.int .i64 (vmD xs1 den), Value.slice aG0 (vmL xs1 den).length cG0] 29)).cell? ⟨w5.heap.size, 1, none⟩ = some (Value.slice aG0 (vmL xs1 den).length cG0) := by go_simp
  have zG0 : w5.heap.size < (w5.alloc (Obj.cells #[Value.int .i64 (vmD xs1 den), Value.slice aG0 (vmL xs1 den).length cG0] 29)).heap.size := by simp only [World.size_alloc]; omega
  have yw6 : w5.heap.size + 1 ≤ (w5.alloc (Obj.cells #[Value.int .i64 (vmD xs1 den), Value.slice aG0 (vmL xs1 den).length cG0] 29)).heap.size := by simp only [World.size_alloc]; omega
  have hbw6 := (bl_alloc (bl_refl w5) (Obj.cells #[Value.int .i64 (vmD xs1 den), Value.slice aG0 (vmL xs1 den).length cG0] 29))
  generalize (w5.alloc (Obj.cells #[Value.int .i64 (vmD xs1 den), Value.slice aG0 (vmL xs1 den).length cG0] 29)) = w6 at *
  replace kW0_0 := (hbw6.cell (p := ⟨w2.heap.size, 0, none⟩) zW0).trans kW0_0
  replace kW0_1 := (hbw6.cell (p := ⟨w2.heap.size, 1, none⟩) zW0).trans kW0_1
  replace zW0 := Nat.lt_of_lt_of_le zW0 hbw6.size
  replace S1 := hide (S1.out.below hbw6)
  replace SW0 := hide (SW0.out.below hbw6)
  replace HP := hide (HP.out.below hbw6)
  replace HG0 := hide (HG0.out.below hbw6)
  replace HB := hide (bl_trans HB.out hbw6)
  clear hbw6
  refine (eqB _ _ (vmD xs1 den) (vmL xs1 den) _ ⟨aG0, cG0, rfl, HG0.out.seg⟩ ⟨aW0, cW0, rfl, SW0.out⟩).mono ?_
  rintro e w7 ⟨rfl, hbw7⟩
  have yw7 := hbw7.size
  replace kW0_0 := (hbw7.cell (p := ⟨w2.heap.size, 0, none⟩) zW0).trans kW0_0
  replace kW0_1 := (hbw7.cell (p := ⟨w2.heap.size, 1, none⟩) zW0).trans kW0_1
  replace zW0 := Nat.lt_of_lt_of_le zW0 hbw7.size
  replace kG0_0 := (hbw7.cell (p := ⟨w5.heap.size, 0, none⟩) zG0).trans kG0_0
  replace kG0_1 := (hbw7.cell (p := ⟨w5.heap.size, 1, none⟩) zG0).trans kG0_1
  replace zG0 := Nat.lt_of_lt_of_le zG0 hbw7.size
  replace S1 := hide (S1.out.below hbw7)
  replace SW0 := hide (SW0.out.below hbw7)
  replace HP := hide (HP.out.below hbw7)
  replace HG0 := hide (HG0.out.below hbw7)
  replace HB := hide (bl_trans HB.out hbw7)
  clear hbw7
  go_wp2_with fail
  refine (toU a1 xs1.length c1 xs1 _ S1.out (by omega)).mono ?_
  rintro e w8 ⟨aQ, cQ, rfl, hoQ, hbw8⟩
  have yw8 := hbw8.size
  replace kW0_0 := (hbw8.cell (p := ⟨w2.heap.size, 0, none⟩) zW0).trans kW0_0
  replace kW0_1 := (hbw8.cell (p := ⟨w2.heap.size, 1, none⟩) zW0).trans kW0_1
  replace zW0 := Nat.lt_of_lt_of_le zW0 hbw8.size
  replace kG0_0 := (hbw8.cell (p := ⟨w5.heap.size, 0, none⟩) zG0).trans kG0_0
  replace kG0_1 := (hbw8.cell (p := ⟨w5.heap.size, 1, none⟩) zG0).trans kG0_1
  replace zG0 := Nat.lt_of_lt_of_le zG0 hbw8.size
  replace S1 := hide (S1.out.below hbw8)
  replace SW0 := hide (SW0.out.below hbw8)
  replace HP := hide (HP.out.below hbw8)
  replace HG0 := hide (HG0.out.below hbw8)
  replace HB := hide (bl_trans HB.out hbw8)
  clear hbw8
  have HQ := hide hoQ.seg
  clear hoQ
  go_wp2_with fail
  refine (eqUe aP aQ xs1.length cP cQ xs1 _ HP.out.seg HQ.out).mono ?_
  rintro e w9 ⟨rfl, hbw9⟩
  have yw9 := hbw9.size
  replace kW0_0 := (hbw9.cell (p := ⟨w2.heap.size, 0, none⟩) zW0).trans kW0_0
  replace kW0_1 := (hbw9.cell (p := ⟨w2.heap.size, 1, none⟩) zW0).trans kW0_1
  replace zW0 := Nat.lt_of_lt_of_le zW0 hbw9.size
  replace kG0_0 := (hbw9.cell (p := ⟨w5.heap.size, 0, none⟩) zG0).trans kG0_0
  replace kG0_1 := (hbw9.cell (p := ⟨w5.heap.size, 1, none⟩) zG0).trans kG0_1
  replace zG0 := Nat.lt_of_lt_of_le zG0 hbw9.size
  replace S1 := hide (S1.out.below hbw9)
  replace SW0 := hide (SW0.out.below hbw9)
  replace HP := hide (HP.out.below hbw9)
  replace HG0 := hide (HG0.out.below hbw9)
  replace HQ := hide (HQ.out.below hbw9)
  replace HB := hide (bl_trans HB.out hbw9)
  clear hbw9
  clear HQ
  go_wp2_with fail
  refine (markUe aP xs1.length cP _ _ 0 1 _ (by omega) (by omega) HP.out).mono ?_
  rintro e w10 ⟨rfl, hm, hg⟩
  have yw10 := hg.size
  replace kW0_0 := hg.cell kW0_0 (fun e => by have := oP _ e.symm; dsimp only at this; omega)
  replace kW0_1 := hg.cell kW0_1 (fun e => by have := oP _ e.symm; dsimp only at this; omega)
  replace zW0 := Nat.lt_of_lt_of_le zW0 yw10
  replace kG0_0 := hg.cell kG0_0 (fun e => by have := oP _ e.symm; dsimp only at this; omega)
  replace kG0_1 := hg.cell kG0_1 (fun e => by have := oP _ e.symm; dsimp only at this; omega)
  replace zG0 := Nat.lt_of_lt_of_le zG0 yw10
  replace S1 := hide (S1.out.grownLow A1.out hg (fun k e => by have := oP k e; omega))
  replace SW0 := hide (SW0.out.grownLow AW0.out hg (fun k e => by have := oP k e; omega))
  replace HG0 := hide (HG0.out.kept hg (apart_of oG0 oP (by omega)))
  replace HB := hide (HB.out.grown hg HB.out.size (fun k e => by have := oP k e; omega))
  replace HP := hide hm
  clear hg hm
  go_wp2_with fail
  refine (eqB _ _ (vmD xs1 den) (vmL xs1 den) _ ⟨aG0, cG0, rfl, HG0.out.seg⟩ ⟨aW0, cW0, rfl, SW0.out⟩).mono ?_
  rintro e w11 ⟨rfl, hbw11⟩
  have yw11 := hbw11.size
  replace kW0_0 := (hbw11.cell (p := ⟨w2.heap.size, 0, none⟩) zW0).trans kW0_0
  replace kW0_1 := (hbw11.cell (p := ⟨w2.heap.size, 1, none⟩) zW0).trans kW0_1
  replace zW0 := Nat.lt_of_lt_of_le zW0 hbw11.size
  replace kG0_0 := (hbw11.cell (p := ⟨w5.heap.size, 0, none⟩) zG0).trans kG0_0
  replace kG0_1 := (hbw11.cell (p := ⟨w5.heap.size, 1, none⟩) zG0).trans kG0_1
  replace zG0 := Nat.lt_of_lt_of_le zG0 hbw11.size
  replace S1 := hide (S1.out.below hbw11)
  replace SW0 := hide (SW0.out.below hbw11)
  replace HP := hide (HP.out.below hbw11)
  replace HG0 := hide (HG0.out.below hbw11)
  replace HB := hide (bl_trans HB.out hbw11)
  clear hbw11
  go_wp2_with fail
  refine (markBe (vmD xs1 den) aG0 (vmL xs1 den).length cG0 _ _ (0) (1) _ (by omega) (by omega) HG0.out).mono ?_
  rintro e w12 ⟨rfl, hm, hg⟩
  have yw12 := hg.size
  replace kW0_0 := hg.cell kW0_0 (fun e => by have := oG0 _ e.symm; dsimp only at this; omega)
  replace kW0_1 := hg.cell kW0_1 (fun e => by have := oG0 _ e.symm; dsimp only at this; omega)
  replace zW0 := Nat.lt_of_lt_of_le zW0 yw12
  replace kG0_0 := hg.cell kG0_0 (fun e => by have := oG0 _ e.symm; dsimp only at this; omega)
  replace kG0_1 := hg.cell kG0_1 (fun e => by have := oG0 _ e.symm; dsimp only at this; omega)
  replace zG0 := Nat.lt_of_lt_of_le zG0 yw12
  replace S1 := hide (S1.out.grownLow A1.out hg (fun k e => by have := oG0 k e; omega))
  replace SW0 := hide (SW0.out.grownLow AW0.out hg (fun k e => by have := oG0 k e; omega))
  replace HP := hide (HP.out.kept hg (apart_of oP oG0 (by omega)))
  replace HB := hide (HB.out.grown hg HB.out.size (fun k e => by have := oG0 k e; omega))
  replace HG0 := hide hm
  clear hg hm
  go_wp2_with fail
  refine (heldBe (vmD xs1 den) aG0 (vmL xs1 den).length cG0 (0) (1) _ (by omega) (by omega) HG0.out.seg).mono ?_
  rintro e w13 ⟨rfl, hbw13⟩
  have yw13 := hbw13.size
  replace kW0_0 := (hbw13.cell (p := ⟨w2.heap.size, 0, none⟩) zW0).trans kW0_0
  replace kW0_1 := (hbw13.cell (p := ⟨w2.heap.size, 1, none⟩) zW0).trans kW0_1
  replace zW0 := Nat.lt_of_lt_of_le zW0 hbw13.size
  replace kG0_0 := (hbw13.cell (p := ⟨w5.heap.size, 0, none⟩) zG0).trans kG0_0
  replace kG0_1 := (hbw13.cell (p := ⟨w5.heap.size, 1, none⟩) zG0).trans kG0_1
  replace zG0 := Nat.lt_of_lt_of_le zG0 hbw13.size
  replace S1 := hide (S1.out.below hbw13)
  replace SW0 := hide (SW0.out.below hbw13)
  replace HP := hide (HP.out.below hbw13)
  replace HG0 := hide (HG0.out.below hbw13)
  replace HB := hide (bl_trans HB.out hbw13)
  clear hbw13
  go_wp2_with fail
  refine (toU a1 xs1.length c1 xs1 _ S1.out (by omega)).mono ?_
  rintro e w14 ⟨auV, cuV, rfl, houV, hbw14⟩
  have yw14 := hbw14.size
  replace kW0_0 := (hbw14.cell (p := ⟨w2.heap.size, 0, none⟩) zW0).trans kW0_0
  replace kW0_1 := (hbw14.cell (p := ⟨w2.heap.size, 1, none⟩) zW0).trans kW0_1
  replace zW0 := Nat.lt_of_lt_of_le zW0 hbw14.size
  replace kG0_0 := (hbw14.cell (p := ⟨w5.heap.size, 0, none⟩) zG0).trans kG0_0
  replace kG0_1 := (hbw14.cell (p := ⟨w5.heap.size, 1, none⟩) zG0).trans kG0_1
  replace zG0 := Nat.lt_of_lt_of_le zG0 hbw14.size
  replace S1 := hide (S1.out.below hbw14)
  replace SW0 := hide (SW0.out.below hbw14)
  replace HP := hide (HP.out.below hbw14)
  replace HG0 := hide (HG0.out.below hbw14)
  replace HB := hide (bl_trans HB.out hbw14)
  clear hbw14
  have HuV := hide houV.seg
  clear houV
  go_wp2_with fail
  refine (vecMakeI auV cuV xs1 den _ (HuV.out)).mono ?_
  rintro e w15 ⟨aV0, cV0, rfl, hoV0, hbw15⟩
  have yw15 := hbw15.size
  replace kW0_0 := (hbw15.cell (p := ⟨w2.heap.size, 0, none⟩) zW0).trans kW0_0
  replace kW0_1 := (hbw15.cell (p := ⟨w2.heap.size, 1, none⟩) zW0).trans kW0_1
  replace zW0 := Nat.lt_of_lt_of_le zW0 hbw15.size
  replace kG0_0 := (hbw15.cell (p := ⟨w5.heap.size, 0, none⟩) zG0).trans kG0_0
  replace kG0_1 := (hbw15.cell (p := ⟨w5.heap.size, 1, none⟩) zG0).trans kG0_1
  replace zG0 := Nat.lt_of_lt_of_le zG0 hbw15.size
  replace S1 := hide (S1.out.below hbw15)
  replace SW0 := hide (SW0.out.below hbw15)
  replace HP := hide (HP.out.below hbw15)
  replace HG0 := hide (HG0.out.below hbw15)
  replace HuV := hide (HuV.out.below hbw15)
  replace HB := hide (bl_trans HB.out hbw15)
  clear hbw15
  clear HuV
  have SV0 := hide hoV0.seg
  have AV0 := SV0
  clear hoV0
  go_wp2_with fail
  have kV0_0 : (w15.alloc (Obj.cells #[Value.int .i64 (vmD xs1 den), Value.slice aV0 (vmL xs1 den).length cV0] 29)).cell? ⟨w15.heap.size, 0, none⟩ = some (Value.int .i64 (vmD xs1 den)) := by go_simp
  have kV0_1 : (w15.alloc (Obj.cells #[Value.int .i64 (vmD xs1 den), Value.slice aV0 (vmL xs1 den).length cV0] 29)).cell? ⟨w15.heap.size, 1, none⟩ = some (Value.slice aV0 (vmL xs1 den).length cV0) := by go_simp
  have zV0 : w15.heap.size < (w15.alloc (Obj.cells #[Value.int .i64 (vmD xs1 den), Value.slice aV0 (vmL xs1 den).length cV0] 29)).heap.size := by simp only [World.size_alloc]; omega
  have yw16 : w15.heap.size + 1 ≤ (w15.alloc (Obj.cells #[Value.int .i64 (vmD xs1 den), Value.slice aV0 (vmL xs1 den).length cV0] 29)).heap.size := by simp only [World.size_alloc]; omega
  have hbw16 := (bl_alloc (bl_refl w15) (Obj.cells #[Value.int .i64 (vmD xs1 den), Value.slice aV0 (vmL xs1 den).length cV0] 29))
  generalize (w15.alloc (Obj.cells #[Value.int .i64 (vmD xs1 den), Value.slice aV0 (vmL xs1 den).length cV0] 29)) = w16 at *
  replace kW0_0 := (hbw16.cell (p := ⟨w2.heap.size, 0, none⟩) zW0).trans kW0_0
  replace kW0_1 := (hbw16.cell (p := ⟨w2.heap.size, 1, none⟩) zW0).trans kW0_1
  replace zW0 := Nat.lt_of_lt_of_le zW0 hbw16.size
  replace kG0_0 := (hbw16.cell (p := ⟨w5.heap.size, 0, none⟩) zG0).trans kG0_0
  replace kG0_1 := (hbw16.cell (p := ⟨w5.heap.size, 1, none⟩) zG0).trans kG0_1
  replace zG0 := Nat.lt_of_lt_of_le zG0 hbw16.size
  replace S1 := hide (S1.out.below hbw16)
  replace SW0 := hide (SW0.out.below hbw16)
  replace HP := hide (HP.out.below hbw16)
  replace HG0 := hide (HG0.out.below hbw16)
  replace SV0 := hide (SV0.out.below hbw16)
  replace HB := hide (bl_trans HB.out hbw16)
  clear hbw16
  refine (eqB _ _ (vmD xs1 den) (vmL xs1 den) _ ⟨aV0, cV0, rfl, SV0.out⟩ ⟨aW0, cW0, rfl, SW0.out⟩).mono ?_
  rintro e w17 ⟨rfl, hbw17⟩
  have yw17 := hbw17.size
  replace kW0_0 := (hbw17.cell (p := ⟨w2.heap.size, 0, none⟩) zW0).trans kW0_0
  replace kW0_1 := (hbw17.cell (p := ⟨w2.heap.size, 1, none⟩) zW0).trans kW0_1
  replace zW0 := Nat.lt_of_lt_of_le zW0 hbw17.size
  replace kG0_0 := (hbw17.cell (p := ⟨w5.heap.size, 0, none⟩) zG0).trans kG0_0
  replace kG0_1 := (hbw17.cell (p := ⟨w5.heap.size, 1, none⟩) zG0).trans kG0_1
  replace zG0 := Nat.lt_of_lt_of_le zG0 hbw17.size
  replace kV0_0 := (hbw17.cell (p := ⟨w15.heap.size, 0, none⟩) zV0).trans kV0_0
  replace kV0_1 := (hbw17.cell (p := ⟨w15.heap.size, 1, none⟩) zV0).trans kV0_1
  replace zV0 := Nat.lt_of_lt_of_le zV0 hbw17.size
  replace S1 := hide (S1.out.below hbw17)
  replace SW0 := hide (SW0.out.below hbw17)
  replace HP := hide (HP.out.below hbw17)
  replace HG0 := hide (HG0.out.below hbw17)
  replace SV0 := hide (SV0.out.below hbw17)
  replace HB := hide (bl_trans HB.out hbw17)
  clear hbw17
  go_wp2_with fail
  refine (heldBe (vmD xs1 den) aG0 (vmL xs1 den).length cG0 (0) (1) _ (by omega) (by omega) HG0.out.seg).mono ?_
  rintro e w18 ⟨rfl, hbw18⟩
  have yw18 := hbw18.size
  replace kW0_0 := (hbw18.cell (p := ⟨w2.heap.size, 0, none⟩) zW0).trans kW0_0
  replace kW0_1 := (hbw18.cell (p := ⟨w2.heap.size, 1, none⟩) zW0).trans kW0_1
  replace zW0 := Nat.lt_of_lt_of_le zW0 hbw18.size
  replace kG0_0 := (hbw18.cell (p := ⟨w5.heap.size, 0, none⟩) zG0).trans kG0_0
  replace kG0_1 := (hbw18.cell (p := ⟨w5.heap.size, 1, none⟩) zG0).trans kG0_1
  replace zG0 := Nat.lt_of_lt_of_le zG0 hbw18.size
  replace kV0_0 := (hbw18.cell (p := ⟨w15.heap.size, 0, none⟩) zV0).trans kV0_0
  replace kV0_1 := (hbw18.cell (p := ⟨w15.heap.size, 1, none⟩) zV0).trans kV0_1
  replace zV0 := Nat.lt_of_lt_of_le zV0 hbw18.size
  replace S1 := hide (S1.out.below hbw18)
  replace SW0 := hide (SW0.out.below hbw18)
  replace HP := hide (HP.out.below hbw18)
  replace HG0 := hide (HG0.out.below hbw18)
  replace SV0 := hide (SV0.out.below hbw18)
  replace HB := hide (bl_trans HB.out hbw18)
  clear hbw18
  go_wp2
  go_ret
  exact ⟨rfl, HB.out⟩
end Go.Proofs.Ytkfiidldappdcaa
