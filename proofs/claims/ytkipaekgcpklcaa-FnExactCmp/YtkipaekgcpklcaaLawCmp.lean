/- The walk of the exact law of Cmp. -/
import Derived.Test.YtkipaekgcpklcaaCmpF
import Derived.Test.YtkipaekgcpklcaaLawOk
namespace Go.Proofs.Ytkipaekgcpklcaa
open Go.RowKit
set_option linter.unusedVariables false

set_option maxHeartbeats 4000000 in
set_option maxRecDepth 20000 in
theorem walk8 (n1 : Bool) (a1 : Option Addr) (c1 : Nat) (xs1 : List Nat) (n2 : Bool) (a2 : Option Addr) (c2 : Nat) (xs2 : List Nat) (w : World) (s1 : Seg w a1 xs1.length c1 xs1) (s2 : Seg w a2 xs2.length c2 xs2) :
    Calls Try.prog 8 #[.agg #[.bool n1, .slice a1 xs1.length c1], .agg #[.bool n2, .slice a2 xs2.length c2]] w fun e w' => e = .returned (.bool true) ∧ Below w.heap.size w w' := by
  have k10 : ((w.alloc (Obj.cells #[Value.bool n1, Value.slice a1 xs1.length c1] 38)).alloc (Obj.cells #[Value.bool n2, Value.slice a2 xs2.length c2] 38)).cell? ⟨w.heap.size, 0, none⟩ = some (Value.bool n1) := by go_simp
  have k11 : ((w.alloc (Obj.cells #[Value.bool n1, Value.slice a1 xs1.length c1] 38)).alloc (Obj.cells #[Value.bool n2, Value.slice a2 xs2.length c2] 38)).cell? ⟨w.heap.size, 1, none⟩ = some (Value.slice a1 xs1.length c1) := by go_simp
  have z1 : w.heap.size < ((w.alloc (Obj.cells #[Value.bool n1, Value.slice a1 xs1.length c1] 38)).alloc (Obj.cells #[Value.bool n2, Value.slice a2 xs2.length c2] 38)).heap.size := by simp only [World.size_alloc]; omega
  have k20 : ((w.alloc (Obj.cells #[Value.bool n1, Value.slice a1 xs1.length c1] 38)).alloc (Obj.cells #[Value.bool n2, Value.slice a2 xs2.length c2] 38)).cell? ⟨w.heap.size + 1, 0, none⟩ = some (Value.bool n2) := by go_simp
  have k21 : ((w.alloc (Obj.cells #[Value.bool n1, Value.slice a1 xs1.length c1] 38)).alloc (Obj.cells #[Value.bool n2, Value.slice a2 xs2.length c2] 38)).cell? ⟨w.heap.size + 1, 1, none⟩ = some (Value.slice a2 xs2.length c2) := by go_simp
  have z2 : w.heap.size + 1 < ((w.alloc (Obj.cells #[Value.bool n1, Value.slice a1 xs1.length c1] 38)).alloc (Obj.cells #[Value.bool n2, Value.slice a2 xs2.length c2] 38)).heap.size := by simp only [World.size_alloc]; omega
  have hn1 := s1.le
  have S1 := hide (s1.below (bl_alloc (bl_alloc (bl_refl w) (Obj.cells #[Value.bool n1, Value.slice a1 xs1.length c1] 38)) (Obj.cells #[Value.bool n2, Value.slice a2 xs2.length c2] 38)))
  have hn2 := s2.le
  have S2 := hide (s2.below (bl_alloc (bl_alloc (bl_refl w) (Obj.cells #[Value.bool n1, Value.slice a1 xs1.length c1] 38)) (Obj.cells #[Value.bool n2, Value.slice a2 xs2.length c2] 38)))
  have HB := hide (bl_alloc (bl_alloc (bl_refl w) (Obj.cells #[Value.bool n1, Value.slice a1 xs1.length c1] 38)) (Obj.cells #[Value.bool n2, Value.slice a2 xs2.length c2] 38))
  clear s1
  clear s2
  go_enter Try.func8, Try.ntmps8
  go_wp2_with fail
  generalize ((w.alloc (Obj.cells #[Value.bool n1, Value.slice a1 xs1.length c1] 38)).alloc (Obj.cells #[Value.bool n2, Value.slice a2 xs2.length c2] 38)) = w1 at *
  refine (szB n1 a1 xs1.length c1 (1048576) _ hn1 (by omega) (by omega)).mono ?_
  rintro e w2 ⟨rfl, hbw2⟩
  have qw2 := hbw2.size
  replace k10 := (hbw2.cell (p := ⟨w.heap.size, 0, none⟩) z1).trans k10
  replace k11 := (hbw2.cell (p := ⟨w.heap.size, 1, none⟩) z1).trans k11
  replace z1 := Nat.lt_of_lt_of_le z1 hbw2.size
  replace k20 := (hbw2.cell (p := ⟨w.heap.size + 1, 0, none⟩) z2).trans k20
  replace k21 := (hbw2.cell (p := ⟨w.heap.size + 1, 1, none⟩) z2).trans k21
  replace z2 := Nat.lt_of_lt_of_le z2 hbw2.size
  replace S1 := hide (S1.out.below hbw2)
  replace S2 := hide (S2.out.below hbw2)
  replace HB := hide (bl_trans HB.out hbw2)
  clear hbw2
  by_cases hbig1 : (1048576 : Int) < (xs1.length : Int)
  · rw [if_pos hbig1]
    go_wp2
    go_ret
    exact ⟨rfl, HB.out⟩
  rw [if_neg hbig1]
  go_wp2_with fail
  refine (szB n2 a2 xs2.length c2 (1048576 - (xs1.length : Int)) _ hn2 (by omega) (by omega)).mono ?_
  rintro e w3 ⟨rfl, hbw3⟩
  have qw3 := hbw3.size
  replace k10 := (hbw3.cell (p := ⟨w.heap.size, 0, none⟩) z1).trans k10
  replace k11 := (hbw3.cell (p := ⟨w.heap.size, 1, none⟩) z1).trans k11
  replace z1 := Nat.lt_of_lt_of_le z1 hbw3.size
  replace k20 := (hbw3.cell (p := ⟨w.heap.size + 1, 0, none⟩) z2).trans k20
  replace k21 := (hbw3.cell (p := ⟨w.heap.size + 1, 1, none⟩) z2).trans k21
  replace z2 := Nat.lt_of_lt_of_le z2 hbw3.size
  replace S1 := hide (S1.out.below hbw3)
  replace S2 := hide (S2.out.below hbw3)
  replace HB := hide (bl_trans HB.out hbw3)
  clear hbw3
  by_cases hbig2 : (1048576 - (xs1.length : Int) : Int) < (xs2.length : Int)
  · rw [if_pos hbig2]
    go_wp2
    go_ret
    exact ⟨rfl, HB.out⟩
  rw [if_neg hbig2]
  go_wp2_with fail
  go_region_held3 (fun w' => w'.cell? ⟨w.heap.size, 0, none⟩ = some (Value.bool n1) ∧ w'.cell? ⟨w.heap.size, 1, none⟩ = some (Value.slice a1 xs1.length c1) ∧ w'.cell? ⟨w.heap.size + 1, 0, none⟩ = some (Value.bool n2) ∧ w'.cell? ⟨w.heap.size + 1, 1, none⟩ = some (Value.slice a2 xs2.length c2))
    (first
      | exact ⟨k10, k11, k20, k21⟩
      | exact ⟨(hbw6.cell (p := ⟨w.heap.size, 0, none⟩) z1).trans k10, (hbw6.cell (p := ⟨w.heap.size, 1, none⟩) z1).trans k11, (hbw6.cell (p := ⟨w.heap.size + 1, 0, none⟩) z2).trans k20, (hbw6.cell (p := ⟨w.heap.size + 1, 1, none⟩) z2).trans k21⟩
      | exact ⟨(hbw5.cell (p := ⟨w.heap.size, 0, none⟩) z1).trans k10, (hbw5.cell (p := ⟨w.heap.size, 1, none⟩) z1).trans k11, (hbw5.cell (p := ⟨w.heap.size + 1, 0, none⟩) z2).trans k20, (hbw5.cell (p := ⟨w.heap.size + 1, 1, none⟩) z2).trans k21⟩
      | exact ⟨(hbw4.cell (p := ⟨w.heap.size, 0, none⟩) z1).trans k10, (hbw4.cell (p := ⟨w.heap.size, 1, none⟩) z1).trans k11, (hbw4.cell (p := ⟨w.heap.size + 1, 0, none⟩) z2).trans k20, (hbw4.cell (p := ⟨w.heap.size + 1, 1, none⟩) z2).trans k21⟩)
    (first
      | (go_at_call_of 33 (Value.agg #[Value.bool n1, Value.slice a1 xs1.length c1]); refine (toB n1 a1 xs1.length c1 xs1 _ (S1.out.below (bl_refl w3).drew) (by omega)).mono ?_; rintro e w4 ⟨u1, rfl, hg1, hbw4r⟩; have hbw4 : Below w3.heap.size w3 w4 := (bl_refl w3).drew.trans hbw4r)
      | (go_at_call_of 33 (Value.agg #[Value.bool n2, Value.slice a2 xs2.length c2]); refine (toB n2 a2 xs2.length c2 xs2 _ (S2.out.below hbw4) (by omega)).mono ?_; rintro e w5 ⟨u2, rfl, hg2, hbw5r⟩; have hbw5 : Below w3.heap.size w3 w5 := bl_trans hbw4 hbw5r; have hg1' := hg1.raw.below hbw5r)
      | (go_at_call 41; refine (CmpS _ _ n1 n2 xs1 xs2 _ hg1' hg2.raw).mono ?_; rintro e w6 ⟨rfl, hbw6r⟩; have hbw6 : Below w3.heap.size w3 w6 := bl_trans hbw5 hbw6r))
  have qw6 := hbw6.size
  replace k10 := (hbw6.cell (p := ⟨w.heap.size, 0, none⟩) z1).trans k10
  replace k11 := (hbw6.cell (p := ⟨w.heap.size, 1, none⟩) z1).trans k11
  replace z1 := Nat.lt_of_lt_of_le z1 hbw6.size
  replace k20 := (hbw6.cell (p := ⟨w.heap.size + 1, 0, none⟩) z2).trans k20
  replace k21 := (hbw6.cell (p := ⟨w.heap.size + 1, 1, none⟩) z2).trans k21
  replace z2 := Nat.lt_of_lt_of_le z2 hbw6.size
  replace S1 := hide (S1.out.below hbw6)
  replace S2 := hide (S2.out.below hbw6)
  replace HB := hide (bl_trans HB.out hbw6)
  clear hbw4 hbw4r hbw5 hbw5r hbw6 hbw6r
  clear hg1 hg1' hg2
  go_wp2_with fail
  refine (toB n1 a1 xs1.length c1 xs1 _ S1.out (by omega)).mono ?_
  rintro e w7 ⟨uP, rfl, ⟨aP, cP, rfl, hoP⟩, hbw7⟩
  have qw7 := hbw7.size
  replace k10 := (hbw7.cell (p := ⟨w.heap.size, 0, none⟩) z1).trans k10
  replace k11 := (hbw7.cell (p := ⟨w.heap.size, 1, none⟩) z1).trans k11
  replace z1 := Nat.lt_of_lt_of_le z1 hbw7.size
  replace k20 := (hbw7.cell (p := ⟨w.heap.size + 1, 0, none⟩) z2).trans k20
  replace k21 := (hbw7.cell (p := ⟨w.heap.size + 1, 1, none⟩) z2).trans k21
  replace z2 := Nat.lt_of_lt_of_le z2 hbw7.size
  replace S1 := hide (S1.out.below hbw7)
  replace S2 := hide (S2.out.below hbw7)
  replace HB := hide (bl_trans HB.out hbw7)
  clear hbw7
  have XP := hide hoP.seg
  clear hoP
  go_wp2_with fail
  have kP0 : (w7.alloc (Obj.cells #[Value.bool n1, Value.slice aP xs1.length cP] 26)).cell? ⟨w7.heap.size, 0, none⟩ = some (Value.bool n1) := by go_simp
  have kP1 : (w7.alloc (Obj.cells #[Value.bool n1, Value.slice aP xs1.length cP] 26)).cell? ⟨w7.heap.size, 1, none⟩ = some (Value.slice aP xs1.length cP) := by go_simp
  have zP : w7.heap.size < (w7.alloc (Obj.cells #[Value.bool n1, Value.slice aP xs1.length cP] 26)).heap.size := by simp only [World.size_alloc]; omega
  have qw8 := zP
  have hbw8 := bl_alloc (bl_refl w7) (Obj.cells #[Value.bool n1, Value.slice aP xs1.length cP] 26)
  generalize w7.alloc (Obj.cells #[Value.bool n1, Value.slice aP xs1.length cP] 26) = w8 at *
  replace k10 := (hbw8.cell (p := ⟨w.heap.size, 0, none⟩) z1).trans k10
  replace k11 := (hbw8.cell (p := ⟨w.heap.size, 1, none⟩) z1).trans k11
  replace z1 := Nat.lt_of_lt_of_le z1 hbw8.size
  replace k20 := (hbw8.cell (p := ⟨w.heap.size + 1, 0, none⟩) z2).trans k20
  replace k21 := (hbw8.cell (p := ⟨w.heap.size + 1, 1, none⟩) z2).trans k21
  replace z2 := Nat.lt_of_lt_of_le z2 hbw8.size
  replace S1 := hide (S1.out.below hbw8)
  replace S2 := hide (S2.out.below hbw8)
  replace XP := hide (XP.out.below hbw8)
  replace HB := hide (bl_trans HB.out hbw8)
  clear hbw8
  refine (toB n2 a2 xs2.length c2 xs2 _ S2.out (by omega)).mono ?_
  rintro e w9 ⟨uQ, rfl, ⟨aQ, cQ, rfl, hoQ⟩, hbw9⟩
  have qw9 := hbw9.size
  replace k10 := (hbw9.cell (p := ⟨w.heap.size, 0, none⟩) z1).trans k10
  replace k11 := (hbw9.cell (p := ⟨w.heap.size, 1, none⟩) z1).trans k11
  replace z1 := Nat.lt_of_lt_of_le z1 hbw9.size
  replace k20 := (hbw9.cell (p := ⟨w.heap.size + 1, 0, none⟩) z2).trans k20
  replace k21 := (hbw9.cell (p := ⟨w.heap.size + 1, 1, none⟩) z2).trans k21
  replace z2 := Nat.lt_of_lt_of_le z2 hbw9.size
  replace kP0 := (hbw9.cell (p := ⟨w7.heap.size, 0, none⟩) zP).trans kP0
  replace kP1 := (hbw9.cell (p := ⟨w7.heap.size, 1, none⟩) zP).trans kP1
  replace zP := Nat.lt_of_lt_of_le zP hbw9.size
  replace S1 := hide (S1.out.below hbw9)
  replace S2 := hide (S2.out.below hbw9)
  replace XP := hide (XP.out.below hbw9)
  replace HB := hide (bl_trans HB.out hbw9)
  clear hbw9
  have XQ := hide hoQ.seg
  clear hoQ
  go_wp2_with fail
  have kQ0 : (w9.alloc (Obj.cells #[Value.bool n2, Value.slice aQ xs2.length cQ] 26)).cell? ⟨w9.heap.size, 0, none⟩ = some (Value.bool n2) := by go_simp
  have kQ1 : (w9.alloc (Obj.cells #[Value.bool n2, Value.slice aQ xs2.length cQ] 26)).cell? ⟨w9.heap.size, 1, none⟩ = some (Value.slice aQ xs2.length cQ) := by go_simp
  have zQ : w9.heap.size < (w9.alloc (Obj.cells #[Value.bool n2, Value.slice aQ xs2.length cQ] 26)).heap.size := by simp only [World.size_alloc]; omega
  have qw10 := zQ
  have hbw10 := bl_alloc (bl_refl w9) (Obj.cells #[Value.bool n2, Value.slice aQ xs2.length cQ] 26)
  generalize w9.alloc (Obj.cells #[Value.bool n2, Value.slice aQ xs2.length cQ] 26) = w10 at *
  replace k10 := (hbw10.cell (p := ⟨w.heap.size, 0, none⟩) z1).trans k10
  replace k11 := (hbw10.cell (p := ⟨w.heap.size, 1, none⟩) z1).trans k11
  replace z1 := Nat.lt_of_lt_of_le z1 hbw10.size
  replace k20 := (hbw10.cell (p := ⟨w.heap.size + 1, 0, none⟩) z2).trans k20
  replace k21 := (hbw10.cell (p := ⟨w.heap.size + 1, 1, none⟩) z2).trans k21
  replace z2 := Nat.lt_of_lt_of_le z2 hbw10.size
  replace kP0 := (hbw10.cell (p := ⟨w7.heap.size, 0, none⟩) zP).trans kP0
  replace kP1 := (hbw10.cell (p := ⟨w7.heap.size, 1, none⟩) zP).trans kP1
  replace zP := Nat.lt_of_lt_of_le zP hbw10.size
  replace S1 := hide (S1.out.below hbw10)
  replace S2 := hide (S2.out.below hbw10)
  replace XP := hide (XP.out.below hbw10)
  replace XQ := hide (XQ.out.below hbw10)
  replace HB := hide (bl_trans HB.out hbw10)
  clear hbw10
  refine (CmpI _ _ n1 n2 xs1 xs2 _ ⟨aP, cP, rfl, XP.out⟩ ⟨aQ, cQ, rfl, XQ.out⟩).mono ?_
  rintro e w11 ⟨rfl, hbw11⟩
  have qw11 := hbw11.size
  replace k10 := (hbw11.cell (p := ⟨w.heap.size, 0, none⟩) z1).trans k10
  replace k11 := (hbw11.cell (p := ⟨w.heap.size, 1, none⟩) z1).trans k11
  replace z1 := Nat.lt_of_lt_of_le z1 hbw11.size
  replace k20 := (hbw11.cell (p := ⟨w.heap.size + 1, 0, none⟩) z2).trans k20
  replace k21 := (hbw11.cell (p := ⟨w.heap.size + 1, 1, none⟩) z2).trans k21
  replace z2 := Nat.lt_of_lt_of_le z2 hbw11.size
  replace kP0 := (hbw11.cell (p := ⟨w7.heap.size, 0, none⟩) zP).trans kP0
  replace kP1 := (hbw11.cell (p := ⟨w7.heap.size, 1, none⟩) zP).trans kP1
  replace zP := Nat.lt_of_lt_of_le zP hbw11.size
  replace kQ0 := (hbw11.cell (p := ⟨w9.heap.size, 0, none⟩) zQ).trans kQ0
  replace kQ1 := (hbw11.cell (p := ⟨w9.heap.size, 1, none⟩) zQ).trans kQ1
  replace zQ := Nat.lt_of_lt_of_le zQ hbw11.size
  replace S1 := hide (S1.out.below hbw11)
  replace S2 := hide (S2.out.below hbw11)
  replace XP := hide (XP.out.below hbw11)
  replace XQ := hide (XQ.out.below hbw11)
  replace HB := hide (bl_trans HB.out hbw11)
  clear hbw11
  generalize cmpR n1 xs1 n2 xs2 = r at *
  go_wp2_with fail
  go_region_held3 (fun w' => w'.cell? ⟨w.heap.size, 0, none⟩ = some (Value.bool n1) ∧ w'.cell? ⟨w.heap.size, 1, none⟩ = some (Value.slice a1 xs1.length c1) ∧ w'.cell? ⟨w7.heap.size, 0, none⟩ = some (Value.bool n1) ∧ w'.cell? ⟨w7.heap.size, 1, none⟩ = some (Value.slice aP xs1.length cP))
    (first
      | exact ⟨k10, k11, kP0, kP1⟩
      | exact ⟨(hbw13.cell (p := ⟨w.heap.size, 0, none⟩) z1).trans k10, (hbw13.cell (p := ⟨w.heap.size, 1, none⟩) z1).trans k11, (hbw13.cell (p := ⟨w7.heap.size, 0, none⟩) zP).trans kP0, (hbw13.cell (p := ⟨w7.heap.size, 1, none⟩) zP).trans kP1⟩
      | exact ⟨(hbw12.cell (p := ⟨w.heap.size, 0, none⟩) z1).trans k10, (hbw12.cell (p := ⟨w.heap.size, 1, none⟩) z1).trans k11, (hbw12.cell (p := ⟨w7.heap.size, 0, none⟩) zP).trans kP0, (hbw12.cell (p := ⟨w7.heap.size, 1, none⟩) zP).trans kP1⟩)
    (first
      | (go_at_call_of 33 (Value.agg #[Value.bool n1, Value.slice a1 xs1.length c1]); refine (toB n1 a1 xs1.length c1 xs1 _ (S1.out.below (bl_refl w11).drew) (by omega)).mono ?_; rintro e w12 ⟨u, rfl, hg, hbw12r⟩; have hbw12 : Below w11.heap.size w11 w12 := (bl_refl w11).drew.trans hbw12r)
      | (go_at_call 35; refine (eqB _ u n1 xs1 _ ⟨aP, cP, rfl, XP.out.below hbw12⟩ hg.raw).mono ?_; rintro e w13 ⟨rfl, hbw13r⟩; have hbw13 : Below w11.heap.size w11 w13 := bl_trans hbw12 hbw13r))
  have qw13 := hbw13.size
  replace k10 := (hbw13.cell (p := ⟨w.heap.size, 0, none⟩) z1).trans k10
  replace k11 := (hbw13.cell (p := ⟨w.heap.size, 1, none⟩) z1).trans k11
  replace z1 := Nat.lt_of_lt_of_le z1 hbw13.size
  replace k20 := (hbw13.cell (p := ⟨w.heap.size + 1, 0, none⟩) z2).trans k20
  replace k21 := (hbw13.cell (p := ⟨w.heap.size + 1, 1, none⟩) z2).trans k21
  replace z2 := Nat.lt_of_lt_of_le z2 hbw13.size
  replace kP0 := (hbw13.cell (p := ⟨w7.heap.size, 0, none⟩) zP).trans kP0
  replace kP1 := (hbw13.cell (p := ⟨w7.heap.size, 1, none⟩) zP).trans kP1
  replace zP := Nat.lt_of_lt_of_le zP hbw13.size
  replace kQ0 := (hbw13.cell (p := ⟨w9.heap.size, 0, none⟩) zQ).trans kQ0
  replace kQ1 := (hbw13.cell (p := ⟨w9.heap.size, 1, none⟩) zQ).trans kQ1
  replace zQ := Nat.lt_of_lt_of_le zQ hbw13.size
  replace S1 := hide (S1.out.below hbw13)
  replace S2 := hide (S2.out.below hbw13)
  replace XP := hide (XP.out.below hbw13)
  replace XQ := hide (XQ.out.below hbw13)
  replace HB := hide (bl_trans HB.out hbw13)
  clear hbw12 hbw12r hbw13 hbw13r
  clear hg
  go_wp2_with fail
  go_region_held3 (fun w' => w'.cell? ⟨w.heap.size + 1, 0, none⟩ = some (Value.bool n2) ∧ w'.cell? ⟨w.heap.size + 1, 1, none⟩ = some (Value.slice a2 xs2.length c2) ∧ w'.cell? ⟨w9.heap.size, 0, none⟩ = some (Value.bool n2) ∧ w'.cell? ⟨w9.heap.size, 1, none⟩ = some (Value.slice aQ xs2.length cQ))
    (first
      | exact ⟨k20, k21, kQ0, kQ1⟩
      | exact ⟨(hbw15.cell (p := ⟨w.heap.size + 1, 0, none⟩) z2).trans k20, (hbw15.cell (p := ⟨w.heap.size + 1, 1, none⟩) z2).trans k21, (hbw15.cell (p := ⟨w9.heap.size, 0, none⟩) zQ).trans kQ0, (hbw15.cell (p := ⟨w9.heap.size, 1, none⟩) zQ).trans kQ1⟩
      | exact ⟨(hbw14.cell (p := ⟨w.heap.size + 1, 0, none⟩) z2).trans k20, (hbw14.cell (p := ⟨w.heap.size + 1, 1, none⟩) z2).trans k21, (hbw14.cell (p := ⟨w9.heap.size, 0, none⟩) zQ).trans kQ0, (hbw14.cell (p := ⟨w9.heap.size, 1, none⟩) zQ).trans kQ1⟩)
    (first
      | (go_at_call_of 33 (Value.agg #[Value.bool n2, Value.slice a2 xs2.length c2]); refine (toB n2 a2 xs2.length c2 xs2 _ (S2.out.below (bl_refl w13).drew) (by omega)).mono ?_; rintro e w14 ⟨u, rfl, hg, hbw14r⟩; have hbw14 : Below w13.heap.size w13 w14 := (bl_refl w13).drew.trans hbw14r)
      | (go_at_call 35; refine (eqB _ u n2 xs2 _ ⟨aQ, cQ, rfl, XQ.out.below hbw14⟩ hg.raw).mono ?_; rintro e w15 ⟨rfl, hbw15r⟩; have hbw15 : Below w13.heap.size w13 w15 := bl_trans hbw14 hbw15r))
  have qw15 := hbw15.size
  replace k10 := (hbw15.cell (p := ⟨w.heap.size, 0, none⟩) z1).trans k10
  replace k11 := (hbw15.cell (p := ⟨w.heap.size, 1, none⟩) z1).trans k11
  replace z1 := Nat.lt_of_lt_of_le z1 hbw15.size
  replace k20 := (hbw15.cell (p := ⟨w.heap.size + 1, 0, none⟩) z2).trans k20
  replace k21 := (hbw15.cell (p := ⟨w.heap.size + 1, 1, none⟩) z2).trans k21
  replace z2 := Nat.lt_of_lt_of_le z2 hbw15.size
  replace kP0 := (hbw15.cell (p := ⟨w7.heap.size, 0, none⟩) zP).trans kP0
  replace kP1 := (hbw15.cell (p := ⟨w7.heap.size, 1, none⟩) zP).trans kP1
  replace zP := Nat.lt_of_lt_of_le zP hbw15.size
  replace kQ0 := (hbw15.cell (p := ⟨w9.heap.size, 0, none⟩) zQ).trans kQ0
  replace kQ1 := (hbw15.cell (p := ⟨w9.heap.size, 1, none⟩) zQ).trans kQ1
  replace zQ := Nat.lt_of_lt_of_le zQ hbw15.size
  replace S1 := hide (S1.out.below hbw15)
  replace S2 := hide (S2.out.below hbw15)
  replace XP := hide (XP.out.below hbw15)
  replace XQ := hide (XQ.out.below hbw15)
  replace HB := hide (bl_trans HB.out hbw15)
  clear hbw14 hbw14r hbw15 hbw15r
  clear hg
  go_wp2
  go_ret
  exact ⟨rfl, HB.out⟩
end Go.Proofs.Ytkipaekgcpklcaa
