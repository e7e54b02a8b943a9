/- The walk of the exact law of VecCmp. -/
import Derived.Test.YtkfiidldappdcaaVecCmpS
import Derived.Test.YtkfiidldappdcaaLawKit
namespace Go.Proofs.Ytkfiidldappdcaa
open Go.RowKit
set_option linter.unusedVariables false


set_option maxHeartbeats 40000000 in
set_option maxRecDepth 20000 in
theorem walk14 (n1 : Int) (a1 : Option Addr) (c1 : Nat) (xs1 : List Int) (n2 : Int) (a2 : Option Addr) (c2 : Nat) (xs2 : List Int) (w : World) (s1 : Seg w a1 xs1.length c1 xs1) (s2 : Seg w a2 xs2.length c2 xs2) :
    Calls Try.prog 14 #[Value.agg #[Value.int .i64 n1, Value.slice a1 xs1.length c1], Value.agg #[Value.int .i64 n2, Value.slice a2 xs2.length c2]] w fun e w' => e = .returned (.bool true) ∧ Below w.heap.size w w' := by
  have A1 := hide s1
  have hn1 := s1.le
  have A2 := hide s2
  have hn2 := s2.le
  have k1_0 : ((w.alloc (Obj.cells #[Value.int .i64 n1, Value.slice a1 xs1.length c1] 40)).alloc (Obj.cells #[Value.int .i64 n2, Value.slice a2 xs2.length c2] 40)).cell? ⟨w.heap.size, 0, none⟩ = some (Value.int .i64 n1) := by go_simp
  have k1_1 : ((w.alloc (Obj.cells #[Value.int .i64 n1, Value.slice a1 xs1.length c1] 40)).alloc (Obj.cells #[Value.int .i64 n2, Value.slice a2 xs2.length c2] 40)).cell? ⟨w.heap.size, 1, none⟩ = some (Value.slice a1 xs1.length c1) := by go_simp
  have z1 : w.heap.size < ((w.alloc (Obj.cells #[Value.int .i64 n1, Value.slice a1 xs1.length c1] 40)).alloc (Obj.cells #[Value.int .i64 n2, Value.slice a2 xs2.length c2] 40)).heap.size := by simp only [World.size_alloc]; omega
  have k2_0 : ((w.alloc (Obj.cells #[Value.int .i64 n1, Value.slice a1 xs1.length c1] 40)).alloc (Obj.cells #[Value.int .i64 n2, Value.slice a2 xs2.length c2] 40)).cell? ⟨w.heap.size + 1, 0, none⟩ = some (Value.int .i64 n2) := by go_simp
  have k2_1 : ((w.alloc (Obj.cells #[Value.int .i64 n1, Value.slice a1 xs1.length c1] 40)).alloc (Obj.cells #[Value.int .i64 n2, Value.slice a2 xs2.length c2] 40)).cell? ⟨w.heap.size + 1, 1, none⟩ = some (Value.slice a2 xs2.length c2) := by go_simp
  have z2 : w.heap.size + 1 < ((w.alloc (Obj.cells #[Value.int .i64 n1, Value.slice a1 xs1.length c1] 40)).alloc (Obj.cells #[Value.int .i64 n2, Value.slice a2 xs2.length c2] 40)).heap.size := by simp only [World.size_alloc]; omega
  have S1 := hide (s1.below (bl_alloc (bl_alloc (bl_refl w) (Obj.cells #[Value.int .i64 n1, Value.slice a1 xs1.length c1] 40)) (Obj.cells #[Value.int .i64 n2, Value.slice a2 xs2.length c2] 40)))
  clear s1
  have S2 := hide (s2.below (bl_alloc (bl_alloc (bl_refl w) (Obj.cells #[Value.int .i64 n1, Value.slice a1 xs1.length c1] 40)) (Obj.cells #[Value.int .i64 n2, Value.slice a2 xs2.length c2] 40)))
  clear s2
  have HB := hide (bl_alloc (bl_alloc (bl_refl w) (Obj.cells #[Value.int .i64 n1, Value.slice a1 xs1.length c1] 40)) (Obj.cells #[Value.int .i64 n2, Value.slice a2 xs2.length c2] 40))
  have y0 : w.heap.size + 2 ≤ ((w.alloc (Obj.cells #[Value.int .i64 n1, Value.slice a1 xs1.length c1] 40)).alloc (Obj.cells #[Value.int .i64 n2, Value.slice a2 xs2.length c2] 40)).heap.size := by simp only [World.size_alloc]; omega
  go_enter Try.func14, Try.ntmps14
  go_wp2_with fail
  generalize ((w.alloc (Obj.cells #[Value.int .i64 n1, Value.slice a1 xs1.length c1] 40)).alloc (Obj.cells #[Value.int .i64 n2, Value.slice a2 xs2.length c2] 40)) = w1 at *
  refine (szB n1 a1 xs1.length c1 (1048576) _ hn1 (by omega) (by omega)).mono ?_
  rintro e w2 ⟨rfl, hbw2⟩
  have yw2 := hbw2.size
  replace k1_0 := (hbw2.cell (p := ⟨w.heap.size, 0, none⟩) z1).trans k1_0
  replace k1_1 := (hbw2.cell (p := ⟨w.heap.size, 1, none⟩) z1).trans k1_1
  replace z1 := Nat.lt_of_lt_of_le z1 hbw2.size
  replace k2_0 := (hbw2.cell (p := ⟨w.heap.size + 1, 0, none⟩) z2).trans k2_0
  replace k2_1 := (hbw2.cell (p := ⟨w.heap.size + 1, 1, none⟩) z2).trans k2_1
  replace z2 := Nat.lt_of_lt_of_le z2 hbw2.size
  replace S1 := hide (S1.out.below hbw2)
  replace S2 := hide (S2.out.below hbw2)
  replace HB := hide (bl_trans HB.out hbw2)
  clear hbw2
  by_cases hbig1 : (1048576 : Int) < (xs1.length : Int)
  · rw [if_pos hbig1]
    go_wp2
    go_ret
    exact ⟨rfl, HB.out⟩
  rw [if_neg hbig1]
  go_wp2_with fail
  refine (szB n2 a2 xs2.length c2 (1048576 - (xs1.length : Int)) _ hn2 (by omega) (by omega)).mono ?_
  rintro e w3 ⟨rfl, hbw3⟩
  have yw3 := hbw3.size
  replace k1_0 := (hbw3.cell (p := ⟨w.heap.size, 0, none⟩) z1).trans k1_0
  replace k1_1 := (hbw3.cell (p := ⟨w.heap.size, 1, none⟩) z1).trans k1_1
  replace z1 := Nat.lt_of_lt_of_le z1 hbw3.size
  replace k2_0 := (hbw3.cell (p := ⟨w.heap.size + 1, 0, none⟩) z2).trans k2_0
  replace k2_1 := (hbw3.cell (p := ⟨w.heap.size + 1, 1, none⟩) z2).trans k2_1
  replace z2 := Nat.lt_of_lt_of_le z2 hbw3.size
  replace S1 := hide (S1.out.below hbw3)
  replace S2 := hide (S2.out.below hbw3)
  replace HB := hide (bl_trans HB.out hbw3)
  clear hbw3
  by_cases hbig2 : (1048576 - (xs1.length : Int) : Int) < (xs2.length : Int)
  · rw [if_pos hbig2]
    go_wp2
    go_ret
    exact ⟨rfl, HB.out⟩
  rw [if_neg hbig2]
  go_wp2_with fail
  have KP : Hid (∀ w', Below w3.heap.size w3 w' → (w'.cell? ⟨w.heap.size, 0, none⟩ = some (Value.int .i64 n1) ∧ w'.cell? ⟨w.heap.size, 1, none⟩ = some (Value.slice a1 xs1.length c1) ∧ w'.cell? ⟨w.heap.size + 1, 0, none⟩ = some (Value.int .i64 n2) ∧ w'.cell? ⟨w.heap.size + 1, 1, none⟩ = some (Value.slice a2 xs2.length c2))) := hide (fun w' hb => ⟨(hb.cell (p := ⟨w.heap.size, 0, none⟩) z1).trans k1_0, (hb.cell (p := ⟨w.heap.size, 1, none⟩) z1).trans k1_1, (hb.cell (p := ⟨w.heap.size + 1, 0, none⟩) z2).trans k2_0, (hb.cell (p := ⟨w.heap.size + 1, 1, none⟩) z2).trans k2_1⟩)
  go_region_held3 (fun w' => w'.cell? ⟨w.heap.size, 0, none⟩ = some (Value.int .i64 n1) ∧ w'.cell? ⟨w.heap.size, 1, none⟩ = some (Value.slice a1 xs1.length c1) ∧ w'.cell? ⟨w.heap.size + 1, 0, none⟩ = some (Value.int .i64 n2) ∧ w'.cell? ⟨w.heap.size + 1, 1, none⟩ = some (Value.slice a2 xs2.length c2))
    (first | exact KP.out _ (bl_refl w3).drew | exact KP.out _ hbw6 | exact KP.out _ hbw5 | exact KP.out _ hbw4)
    (first
      | (go_at_call_of 33 (Value.agg #[Value.int .i64 n1, Value.slice a1 xs1.length c1]); refine (toB n1 a1 xs1.length c1 xs1 _ (S1.out.below ((bl_refl w3).drew)) (by omega)).mono ?_; rintro e w4 ⟨uX, rfl, ⟨aX, cX, rfl, hoX⟩, hbw4r⟩; have hbw4 : Below w3.heap.size w3 w4 := (bl_refl w3).drew.trans hbw4r)
      | (go_at_call_of 33 (Value.agg #[Value.int .i64 n2, Value.slice a2 xs2.length c2]); refine (toB n2 a2 xs2.length c2 xs2 _ (S2.out.below hbw4) (by omega)).mono ?_; rintro e w5 ⟨uY, rfl, ⟨aY, cY, rfl, hoY⟩, hbw5r⟩; have hbw5 : Below w3.heap.size w3 w5 := bl_trans hbw4 hbw5r)
      | (go_at_call 30; refine (vecCmpS n1 aX cX xs1 n2 aY cY xs2 _ (hoX.seg.below hbw5r) (hoY.seg)).mono ?_; rintro e w6 ⟨rfl, hbw6r⟩; have hbw6 : Below w3.heap.size w3 w6 := bl_trans hbw5 hbw6r))
  clear KP
  have yw6 := hbw6.size
  replace k1_0 := (hbw6.cell (p := ⟨w.heap.size, 0, none⟩) z1).trans k1_0
  replace k1_1 := (hbw6.cell (p := ⟨w.heap.size, 1, none⟩) z1).trans k1_1
  replace z1 := Nat.lt_of_lt_of_le z1 hbw6.size
  replace k2_0 := (hbw6.cell (p := ⟨w.heap.size + 1, 0, none⟩) z2).trans k2_0
  replace k2_1 := (hbw6.cell (p := ⟨w.heap.size + 1, 1, none⟩) z2).trans k2_1
  replace z2 := Nat.lt_of_lt_of_le z2 hbw6.size
  replace S1 := hide (S1.out.below hbw6)
  replace S2 := hide (S2.out.below hbw6)
  replace HB := hide (bl_trans HB.out hbw6)
  clear hbw4 hbw4r hbw5 hbw5r hbw6 hbw6r hoX hoY
  go_wp2_with fail
  refine (toB n1 a1 xs1.length c1 xs1 _ S1.out (by omega)).mono ?_
  rintro e w7 ⟨uP, rfl, ⟨aP, cP, rfl, hoP⟩, hbw7⟩
  have yw7 := hbw7.size
  replace k1_0 := (hbw7.cell (p := ⟨w.heap.size, 0, none⟩) z1).trans k1_0
  replace k1_1 := (hbw7.cell (p := ⟨w.heap.size, 1, none⟩) z1).trans k1_1
  replace z1 := Nat.lt_of_lt_of_le z1 hbw7.size
  replace k2_0 := (hbw7.cell (p := ⟨w.heap.size + 1, 0, none⟩) z2).trans k2_0
  replace k2_1 := (hbw7.cell (p := ⟨w.heap.size + 1, 1, none⟩) z2).trans k2_1
  replace z2 := Nat.lt_of_lt_of_le z2 hbw7.size
  replace S1 := hide (S1.out.below hbw7)
  replace S2 := hide (S2.out.below hbw7)
  replace HB := hide (bl_trans HB.out hbw7)
  clear hbw7
  have oP : ∀ k, (Value.slice aP xs1.length cP).ownBlock = some k → w6.heap.size ≤ k ∧ k < w7.heap.size := fun k e => World.ownsRow.lt hoP k e
  have HP := hide hoP
  clear hoP
  go_wp2_with fail
  have kP_0 : (w7.alloc (Obj.cells #[Value.int .i64 n1, Value.slice aP xs1.length cP] 29)).cell? ⟨w7.heap.size, 0, none⟩ = some (Value.int .i64 n1) := by go_simp
  have kP_1 : (w7.alloc (Obj.cells #[Value.int .i64 n1, Value.slice aP xs1.length cP] 29)).cell? ⟨w7.heap.size, 1, none⟩ = some (Value.slice aP xs1.length cP) := by go_simp
  have zP : w7.heap.size < (w7.alloc (Obj.cells #[Value.int .i64 n1, Value.slice aP xs1.length cP] 29)).heap.size := by simp only [World.size_alloc]; omega
  have yw8 : w7.heap.size + 1 ≤ (w7.alloc (Obj.cells #[Value.int .i64 n1, Value.slice aP xs1.length cP] 29)).heap.size := by simp only [World.size_alloc]; omega
  have hbw8 := (bl_alloc (bl_refl w7) (Obj.cells #[Value.int .i64 n1, Value.slice aP xs1.length cP] 29))
  generalize (w7.alloc (Obj.cells #[Value.int .i64 n1, Value.slice aP xs1.length cP] 29)) = w8 at *
  replace k1_0 := (hbw8.cell (p := ⟨w.heap.size, 0, none⟩) z1).trans k1_0
  replace k1_1 := (hbw8.cell (p := ⟨w.heap.size, 1, none⟩) z1).trans k1_1
  replace z1 := Nat.lt_of_lt_of_le z1 hbw8.size
  replace k2_0 := (hbw8.cell (p := ⟨w.heap.size + 1, 0, none⟩) z2).trans k2_0
  replace k2_1 := (hbw8.cell (p := ⟨w.heap.size + 1, 1, none⟩) z2).trans k2_1
  replace z2 := Nat.lt_of_lt_of_le z2 hbw8.size
  replace S1 := hide (S1.out.below hbw8)
  replace S2 := hide (S2.out.below hbw8)
  replace HP := hide (HP.out.below hbw8)
  replace HB := hide (bl_trans HB.out hbw8)
  clear hbw8
  refine (toB n2 a2 xs2.length c2 xs2 _ S2.out (by omega)).mono ?_
  rintro e w9 ⟨uQ, rfl, ⟨aQ, cQ, rfl, hoQ⟩, hbw9⟩
  have yw9 := hbw9.size
  replace k1_0 := (hbw9.cell (p := ⟨w.heap.size, 0, none⟩) z1).trans k1_0
  replace k1_1 := (hbw9.cell (p := ⟨w.heap.size, 1, none⟩) z1).trans k1_1
  replace z1 := Nat.lt_of_lt_of_le z1 hbw9.size
  replace k2_0 := (hbw9.cell (p := ⟨w.heap.size + 1, 0, none⟩) z2).trans k2_0
  replace k2_1 := (hbw9.cell (p := ⟨w.heap.size + 1, 1, none⟩) z2).trans k2_1
  replace z2 := Nat.lt_of_lt_of_le z2 hbw9.size
  replace kP_0 := (hbw9.cell (p := ⟨w7.heap.size, 0, none⟩) zP).trans kP_0
  replace kP_1 := (hbw9.cell (p := ⟨w7.heap.size, 1, none⟩) zP).trans kP_1
  replace zP := Nat.lt_of_lt_of_le zP hbw9.size
  replace S1 := hide (S1.out.below hbw9)
  replace S2 := hide (S2.out.below hbw9)
  replace HP := hide (HP.out.below hbw9)
  replace HB := hide (bl_trans HB.out hbw9)
  clear hbw9
  have oQ : ∀ k, (Value.slice aQ xs2.length cQ).ownBlock = some k → w8.heap.size ≤ k ∧ k < w9.heap.size := fun k e => World.ownsRow.lt hoQ k e
  have HQ := hide hoQ
  clear hoQ
  go_wp2_with fail
  have kQ_0 : (w9.alloc (Obj.cells #[Value.int .i64 n2, Value.slice aQ xs2.length cQ] 29)).cell? ⟨w9.heap.size, 0, none⟩ = some (Value.int .i64 n2) := by go_simp
  have kQ_1 : (w9.alloc (Obj.cells #[Value.int .i64 n2, Value.slice aQ xs2.length cQ] 29)).cell? ⟨w9.heap.size, 1, none⟩ = some (Value.slice aQ xs2.length cQ) := by go_simp
  have zQ : w9.heap.size < (w9.alloc (Obj.cells #[Value.int .i64 n2, Value.slice aQ xs2.length cQ] 29)).heap.size := by simp only [World.size_alloc]; omega
  have yw10 : w9.heap.size + 1 ≤ (w9.alloc (Obj.cells #[Value.int .i64 n2, Value.slice aQ xs2.length cQ] 29)).heap.size := by simp only [World.size_alloc]; omega
  have hbw10 := (bl_alloc (bl_refl w9) (Obj.cells #[Value.int .i64 n2, Value.slice aQ xs2.length cQ] 29))
  generalize (w9.alloc (Obj.cells #[Value.int .i64 n2, Value.slice aQ xs2.length cQ] 29)) = w10 at *
  replace k1_0 := (hbw10.cell (p := ⟨w.heap.size, 0, none⟩) z1).trans k1_0
  replace k1_1 := (hbw10.cell (p := ⟨w.heap.size, 1, none⟩) z1).trans k1_1
  replace z1 := Nat.lt_of_lt_of_le z1 hbw10.size
  replace k2_0 := (hbw10.cell (p := ⟨w.heap.size + 1, 0, none⟩) z2).trans k2_0
  replace k2_1 := (hbw10.cell (p := ⟨w.heap.size + 1, 1, none⟩) z2).trans k2_1
  replace z2 := Nat.lt_of_lt_of_le z2 hbw10.size
  replace kP_0 := (hbw10.cell (p := ⟨w7.heap.size, 0, none⟩) zP).trans kP_0
  replace kP_1 := (hbw10.cell (p := ⟨w7.heap.size, 1, none⟩) zP).trans kP_1
  replace zP := Nat.lt_of_lt_of_le zP hbw10.size
  replace S1 := hide (S1.out.below hbw10)
  replace S2 := hide (S2.out.below hbw10)
  replace HP := hide (HP.out.below hbw10)
  replace HQ := hide (HQ.out.below hbw10)
  replace HB := hide (bl_trans HB.out hbw10)
  clear hbw10
  refine (vecCmpI n1 aP cP xs1 n2 aQ cQ xs2 _ (HP.out.seg) (HQ.out.seg)).mono ?_
  rintro e w11 ⟨rfl, hbw11⟩
  have yw11 := hbw11.size
  replace k1_0 := (hbw11.cell (p := ⟨w.heap.size, 0, none⟩) z1).trans k1_0
  replace k1_1 := (hbw11.cell (p := ⟨w.heap.size, 1, none⟩) z1).trans k1_1
  replace z1 := Nat.lt_of_lt_of_le z1 hbw11.size
  replace k2_0 := (hbw11.cell (p := ⟨w.heap.size + 1, 0, none⟩) z2).trans k2_0
  replace k2_1 := (hbw11.cell (p := ⟨w.heap.size + 1, 1, none⟩) z2).trans k2_1
  replace z2 := Nat.lt_of_lt_of_le z2 hbw11.size
  replace kP_0 := (hbw11.cell (p := ⟨w7.heap.size, 0, none⟩) zP).trans kP_0
  replace kP_1 := (hbw11.cell (p := ⟨w7.heap.size, 1, none⟩) zP).trans kP_1
  replace zP := Nat.lt_of_lt_of_le zP hbw11.size
  replace kQ_0 := (hbw11.cell (p := ⟨w9.heap.size, 0, none⟩) zQ).trans kQ_0
  replace kQ_1 := (hbw11.cell (p := ⟨w9.heap.size, 1, none⟩) zQ).trans kQ_1
  replace zQ := Nat.lt_of_lt_of_le zQ hbw11.size
  replace S1 := hide (S1.out.below hbw11)
  replace S2 := hide (S2.out.below hbw11)
  replace HP := hide (HP.out.below hbw11)
  replace HQ := hide (HQ.out.below hbw11)
  replace HB := hide (bl_trans HB.out hbw11)
  clear hbw11
  go_wp2_with fail
  have KP : Hid (∀ w', Below w11.heap.size w11 w' → (w'.cell? ⟨w.heap.size, 0, none⟩ = some (Value.int .i64 n1) ∧ w'.cell? ⟨w.heap.size, 1, none⟩ = some (Value.slice a1 xs1.length c1) ∧ w'.cell? ⟨w7.heap.size, 0, none⟩ = some (Value.int .i64 n1) ∧ w'.cell? ⟨w7.heap.size, 1, none⟩ = some (Value.slice aP xs1.length cP))) := hide (fun w' hb => ⟨(hb.cell (p := ⟨w.heap.size, 0, none⟩) z1).trans k1_0, (hb.cell (p := ⟨w.heap.size, 1, none⟩) z1).trans k1_1, (hb.cell (p := ⟨w7.heap.size, 0, none⟩) zP).trans kP_0, (hb.cell (p := ⟨w7.heap.size, 1, none⟩) zP).trans kP_1⟩)
  go_region_held3 (fun w' => w'.cell? ⟨w.heap.size, 0, none⟩ = some (Value.int .i64 n1) ∧ w'.cell? ⟨w.heap.size, 1, none⟩ = some (Value.slice a1 xs1.length c1) ∧ w'.cell? ⟨w7.heap.size, 0, none⟩ = some (Value.int .i64 n1) ∧ w'.cell? ⟨w7.heap.size, 1, none⟩ = some (Value.slice aP xs1.length cP))
    (first | exact KP.out _ (bl_refl w11).drew | exact KP.out _ hbw13 | exact KP.out _ hbw12)
    (first
      | (go_at_call_of 33 (Value.agg #[Value.int .i64 n1, Value.slice a1 xs1.length c1]); refine (toB n1 a1 xs1.length c1 xs1 _ (S1.out.below ((bl_refl w11).drew)) (by omega)).mono ?_; rintro e w12 ⟨u, rfl, hgu, hbw12r⟩; have hbw12 : Below w11.heap.size w11 w12 := (bl_refl w11).drew.trans hbw12r)
      | (go_at_call 35; refine (eqB _ u n1 xs1 _ ⟨aP, cP, rfl, HP.out.seg.below hbw12⟩ hgu.raw).mono ?_; rintro e w13 ⟨rfl, hbw13r⟩; have hbw13 : Below w11.heap.size w11 w13 := bl_trans hbw12 hbw13r))
  clear KP
  have yw13 := hbw13.size
  replace k1_0 := (hbw13.cell (p := ⟨w.heap.size, 0, none⟩) z1).trans k1_0
  replace k1_1 := (hbw13.cell (p := ⟨w.heap.size, 1, none⟩) z1).trans k1_1
  replace z1 := Nat.lt_of_lt_of_le z1 hbw13.size
  replace k2_0 := (hbw13.cell (p := ⟨w.heap.size + 1, 0, none⟩) z2).trans k2_0
  replace k2_1 := (hbw13.cell (p := ⟨w.heap.size + 1, 1, none⟩) z2).trans k2_1
  replace z2 := Nat.lt_of_lt_of_le z2 hbw13.size
  replace kP_0 := (hbw13.cell (p := ⟨w7.heap.size, 0, none⟩) zP).trans kP_0
  replace kP_1 := (hbw13.cell (p := ⟨w7.heap.size, 1, none⟩) zP).trans kP_1
  replace zP := Nat.lt_of_lt_of_le zP hbw13.size
  replace kQ_0 := (hbw13.cell (p := ⟨w9.heap.size, 0, none⟩) zQ).trans kQ_0
  replace kQ_1 := (hbw13.cell (p := ⟨w9.heap.size, 1, none⟩) zQ).trans kQ_1
  replace zQ := Nat.lt_of_lt_of_le zQ hbw13.size
  replace S1 := hide (S1.out.below hbw13)
  replace S2 := hide (S2.out.below hbw13)
  replace HP := hide (HP.out.below hbw13)
  replace HQ := hide (HQ.out.below hbw13)
  replace HB := hide (bl_trans HB.out hbw13)
  clear hbw12 hbw12r hbw13 hbw13r hgu
  go_wp2_with fail
  have KP : Hid (∀ w', Below w13.heap.size w13 w' → (w'.cell? ⟨w.heap.size + 1, 0, none⟩ = some (Value.int .i64 n2) ∧ w'.cell? ⟨w.heap.size + 1, 1, none⟩ = some (Value.slice a2 xs2.length c2) ∧ w'.cell? ⟨w9.heap.size, 0, none⟩ = some (Value.int .i64 n2) ∧ w'.cell? ⟨w9.heap.size, 1, none⟩ = some (Value.slice aQ xs2.length cQ))) := hide (fun w' hb => ⟨(hb.cell (p := ⟨w.heap.size + 1, 0, none⟩) z2).trans k2_0, (hb.cell (p := ⟨w.heap.size + 1, 1, none⟩) z2).trans k2_1, (hb.cell (p := ⟨w9.heap.size, 0, none⟩) zQ).trans kQ_0, (hb.cell (p := ⟨w9.heap.size, 1, none⟩) zQ).trans kQ_1⟩)
  go_region_held3 (fun w' => w'.cell? ⟨w.heap.size + 1, 0, none⟩ = some (Value.int .i64 n2) ∧ w'.cell? ⟨w.heap.size + 1, 1, none⟩ = some (Value.slice a2 xs2.length c2) ∧ w'.cell? ⟨w9.heap.size, 0, none⟩ = some (Value.int .i64 n2) ∧ w'.cell? ⟨w9.heap.size, 1, none⟩ = some (Value.slice aQ xs2.length cQ))
    (first | exact KP.out _ (bl_refl w13).drew | exact KP.out _ hbw15 | exact KP.out _ hbw14)
    (first
      | (go_at_call_of 33 (Value.agg #[Value.int .i64 n2, Value.slice a2 xs2.length c2]); refine (toB n2 a2 xs2.length c2 xs2 _ (S2.out.below ((bl_refl w13).drew)) (by omega)).mono ?_; rintro e w14 ⟨u, rfl, hgu, hbw14r⟩; have hbw14 : Below w13.heap.size w13 w14 := (bl_refl w13).drew.trans hbw14r)
      | (go_at_call 35; refine (eqB _ u n2 xs2 _ ⟨aQ, cQ, rfl, HQ.out.seg.below hbw14⟩ hgu.raw).mono ?_; rintro e w15 ⟨rfl, hbw15r⟩; have hbw15 : Below w13.heap.size w13 w15 := bl_trans hbw14 hbw15r))
  clear KP
  have yw15 := hbw15.size
  replace k1_0 := (hbw15.cell (p := ⟨w.heap.size, 0, none⟩) z1).trans k1_0
  replace k1_1 := (hbw15.cell (p := ⟨w.heap.size, 1, none⟩) z1).trans k1_1
  replace z1 := Nat.lt_of_lt_of_le z1 hbw15.size
  replace k2_0 := (hbw15.cell (p := ⟨w.heap.size + 1, 0, none⟩) z2).trans k2_0
  replace k2_1 := (hbw15.cell (p := ⟨w.heap.size + 1, 1, none⟩) z2).trans k2_1
  replace z2 := Nat.lt_of_lt_of_le z2 hbw15.size
  replace kP_0 := (hbw15.cell (p := ⟨w7.heap.size, 0, none⟩) zP).trans kP_0
  replace kP_1 := (hbw15.cell (p := ⟨w7.heap.size, 1, none⟩) zP).trans kP_1
  replace zP := Nat.lt_of_lt_of_le zP hbw15.size
  replace kQ_0 := (hbw15.cell (p := ⟨w9.heap.size, 0, none⟩) zQ).trans kQ_0
  replace kQ_1 := (hbw15.cell (p := ⟨w9.heap.size, 1, none⟩) zQ).trans kQ_1
  replace zQ := Nat.lt_of_lt_of_le zQ hbw15.size
  replace S1 := hide (S1.out.below hbw15)
  replace S2 := hide (S2.out.below hbw15)
  replace HP := hide (HP.out.below hbw15)
  replace HQ := hide (HQ.out.below hbw15)
  replace HB := hide (bl_trans HB.out hbw15)
  clear hbw14 hbw14r hbw15 hbw15r hgu
  go_wp2_with fail
  go_wp2
  go_ret
  exact ⟨rfl, HB.out⟩
end Go.Proofs.Ytkfiidldappdcaa
