/- The walk of the exact law of BitLen. -/
import Derived.Test.YtkipaekgcpklcaaBitLen
import Derived.Test.YtkipaekgcpklcaaLawOk
namespace Go.Proofs.Ytkipaekgcpklcaa
open Go.RowKit
set_option linter.unusedVariables false

set_option maxHeartbeats 4000000 in
set_option maxRecDepth 20000 in
theorem walk17 (n1 : Bool) (a1 : Option Addr) (c1 : Nat) (xs1 : List Nat) (w : World) (s1 : Seg w a1 xs1.length c1 xs1) :
    Calls Try.prog 17 #[.agg #[.bool n1, .slice a1 xs1.length c1]] w fun e w' => e = .returned (.bool true) ∧ Below w.heap.size w w' := by
  have k10 : (w.alloc (Obj.cells #[Value.bool n1, Value.slice a1 xs1.length c1] 38)).cell? ⟨w.heap.size, 0, none⟩ = some (Value.bool n1) := by go_simp
  have k11 : (w.alloc (Obj.cells #[Value.bool n1, Value.slice a1 xs1.length c1] 38)).cell? ⟨w.heap.size, 1, none⟩ = some (Value.slice a1 xs1.length c1) := by go_simp
  have z1 : w.heap.size < (w.alloc (Obj.cells #[Value.bool n1, Value.slice a1 xs1.length c1] 38)).heap.size := by simp only [World.size_alloc]; omega
  have hn1 := s1.le
  have S1 := hide (s1.below (bl_alloc (bl_refl w) (Obj.cells #[Value.bool n1, Value.slice a1 xs1.length c1] 38)))
  have HB := hide (bl_alloc (bl_refl w) (Obj.cells #[Value.bool n1, Value.slice a1 xs1.length c1] 38))
  clear s1
  go_enter Try.func17, Try.ntmps17
  go_wp2_with fail
  generalize (w.alloc (Obj.cells #[Value.bool n1, Value.slice a1 xs1.length c1] 38)) = w1 at *
  refine (szB n1 a1 xs1.length c1 (1048576) _ hn1 (by omega) (by omega)).mono ?_
  rintro e w2 ⟨rfl, hbw2⟩
  have qw2 := hbw2.size
  replace k10 := (hbw2.cell (p := ⟨w.heap.size, 0, none⟩) z1).trans k10
  replace k11 := (hbw2.cell (p := ⟨w.heap.size, 1, none⟩) z1).trans k11
  replace z1 := Nat.lt_of_lt_of_le z1 hbw2.size
  replace S1 := hide (S1.out.below hbw2)
  replace HB := hide (bl_trans HB.out hbw2)
  clear hbw2
  by_cases hbig1 : (1048576 : Int) < (xs1.length : Int)
  · rw [if_pos hbig1]
    go_wp2
    go_ret
    exact ⟨rfl, HB.out⟩
  rw [if_neg hbig1]
  go_wp2_with fail
  refine (toB n1 a1 xs1.length c1 xs1 _ (S1.out.below (bl_refl _)) (by omega)).mono ?_
  rintro e w3 ⟨u1, rfl, hg1, hbw3⟩
  have qw3 := hbw3.size
  replace k10 := (hbw3.cell (p := ⟨w.heap.size, 0, none⟩) z1).trans k10
  replace k11 := (hbw3.cell (p := ⟨w.heap.size, 1, none⟩) z1).trans k11
  replace z1 := Nat.lt_of_lt_of_le z1 hbw3.size
  replace S1 := hide (S1.out.below hbw3)
  replace HB := hide (bl_trans HB.out hbw3)
  clear hbw3
  go_wp2_with fail
  refine (bitLenS _ n1 xs1 _ hg1.raw).mono ?_
  rintro e w4 ⟨rfl, hbw4⟩
  have qw4 := hbw4.size
  replace k10 := (hbw4.cell (p := ⟨w.heap.size, 0, none⟩) z1).trans k10
  replace k11 := (hbw4.cell (p := ⟨w.heap.size, 1, none⟩) z1).trans k11
  replace z1 := Nat.lt_of_lt_of_le z1 hbw4.size
  replace S1 := hide (S1.out.below hbw4)
  replace HB := hide (bl_trans HB.out hbw4)
  clear hbw4
  clear hg1
  go_wp2_with fail
  refine (toB n1 a1 xs1.length c1 xs1 _ S1.out (by omega)).mono ?_
  rintro e w5 ⟨uP, rfl, ⟨aP, cP, rfl, hoP⟩, hbw5⟩
  have qw5 := hbw5.size
  replace k10 := (hbw5.cell (p := ⟨w.heap.size, 0, none⟩) z1).trans k10
  replace k11 := (hbw5.cell (p := ⟨w.heap.size, 1, none⟩) z1).trans k11
  replace z1 := Nat.lt_of_lt_of_le z1 hbw5.size
  replace S1 := hide (S1.out.below hbw5)
  replace HB := hide (bl_trans HB.out hbw5)
  clear hbw5
  have XP := hide hoP.seg
  clear hoP
  go_wp2_with fail
  have kP0 : (w5.alloc (Obj.cells #[Value.bool n1, Value.slice aP xs1.length cP] 26)).cell? ⟨w5.heap.size, 0, none⟩ = some (Value.bool n1) := by go_simp
  have kP1 : (w5.alloc (Obj.cells #[Value.bool n1, Value.slice aP xs1.length cP] 26)).cell? ⟨w5.heap.size, 1, none⟩ = some (Value.slice aP xs1.length cP) := by go_simp
  have zP : w5.heap.size < (w5.alloc (Obj.cells #[Value.bool n1, Value.slice aP xs1.length cP] 26)).heap.size := by simp only [World.size_alloc]; omega
  have qw6 := zP
  have hbw6 := bl_alloc (bl_refl w5) (Obj.cells #[Value.bool n1, Value.slice aP xs1.length cP] 26)
  generalize w5.alloc (Obj.cells #[Value.bool n1, Value.slice aP xs1.length cP] 26) = w6 at *
  replace k10 := (hbw6.cell (p := ⟨w.heap.size, 0, none⟩) z1).trans k10
  replace k11 := (hbw6.cell (p := ⟨w.heap.size, 1, none⟩) z1).trans k11
  replace z1 := Nat.lt_of_lt_of_le z1 hbw6.size
  replace S1 := hide (S1.out.below hbw6)
  replace XP := hide (XP.out.below hbw6)
  replace HB := hide (bl_trans HB.out hbw6)
  clear hbw6
  refine (bitLenI _ n1 xs1 _ ⟨aP, cP, rfl, XP.out⟩).mono ?_
  rintro e w7 ⟨rfl, hbw7⟩
  have qw7 := hbw7.size
  replace k10 := (hbw7.cell (p := ⟨w.heap.size, 0, none⟩) z1).trans k10
  replace k11 := (hbw7.cell (p := ⟨w.heap.size, 1, none⟩) z1).trans k11
  replace z1 := Nat.lt_of_lt_of_le z1 hbw7.size
  replace kP0 := (hbw7.cell (p := ⟨w5.heap.size, 0, none⟩) zP).trans kP0
  replace kP1 := (hbw7.cell (p := ⟨w5.heap.size, 1, none⟩) zP).trans kP1
  replace zP := Nat.lt_of_lt_of_le zP hbw7.size
  replace S1 := hide (S1.out.below hbw7)
  replace XP := hide (XP.out.below hbw7)
  replace HB := hide (bl_trans HB.out hbw7)
  clear hbw7
  generalize bitR n1 xs1 = r at *
  go_wp2_with fail
  go_region_held3 (fun w' => w'.cell? ⟨w.heap.size, 0, none⟩ = some (Value.bool n1) ∧ w'.cell? ⟨w.heap.size, 1, none⟩ = some (Value.slice a1 xs1.length c1) ∧ w'.cell? ⟨w5.heap.size, 0, none⟩ = some (Value.bool n1) ∧ w'.cell? ⟨w5.heap.size, 1, none⟩ = some (Value.slice aP xs1.length cP))
    (first
      | exact ⟨k10, k11, kP0, kP1⟩
      | exact ⟨(hbw9.cell (p := ⟨w.heap.size, 0, none⟩) z1).trans k10, (hbw9.cell (p := ⟨w.heap.size, 1, none⟩) z1).trans k11, (hbw9.cell (p := ⟨w5.heap.size, 0, none⟩) zP).trans kP0, (hbw9.cell (p := ⟨w5.heap.size, 1, none⟩) zP).trans kP1⟩
      | exact ⟨(hbw8.cell (p := ⟨w.heap.size, 0, none⟩) z1).trans k10, (hbw8.cell (p := ⟨w.heap.size, 1, none⟩) z1).trans k11, (hbw8.cell (p := ⟨w5.heap.size, 0, none⟩) zP).trans kP0, (hbw8.cell (p := ⟨w5.heap.size, 1, none⟩) zP).trans kP1⟩)
    (first
      | (go_at_call_of 33 (Value.agg #[Value.bool n1, Value.slice a1 xs1.length c1]); refine (toB n1 a1 xs1.length c1 xs1 _ (S1.out.below (bl_refl w7).drew) (by omega)).mono ?_; rintro e w8 ⟨u, rfl, hg, hbw8r⟩; have hbw8 : Below w7.heap.size w7 w8 := (bl_refl w7).drew.trans hbw8r)
      | (go_at_call 35; refine (eqB _ u n1 xs1 _ ⟨aP, cP, rfl, XP.out.below hbw8⟩ hg.raw).mono ?_; rintro e w9 ⟨rfl, hbw9r⟩; have hbw9 : Below w7.heap.size w7 w9 := bl_trans hbw8 hbw9r))
  have qw9 := hbw9.size
  replace k10 := (hbw9.cell (p := ⟨w.heap.size, 0, none⟩) z1).trans k10
  replace k11 := (hbw9.cell (p := ⟨w.heap.size, 1, none⟩) z1).trans k11
  replace z1 := Nat.lt_of_lt_of_le z1 hbw9.size
  replace kP0 := (hbw9.cell (p := ⟨w5.heap.size, 0, none⟩) zP).trans kP0
  replace kP1 := (hbw9.cell (p := ⟨w5.heap.size, 1, none⟩) zP).trans kP1
  replace zP := Nat.lt_of_lt_of_le zP hbw9.size
  replace S1 := hide (S1.out.below hbw9)
  replace XP := hide (XP.out.below hbw9)
  replace HB := hide (bl_trans HB.out hbw9)
  clear hbw8 hbw8r hbw9 hbw9r
  clear hg
  go_wp2
  go_ret
  exact ⟨rfl, HB.out⟩
end Go.Proofs.Ytkipaekgcpklcaa
