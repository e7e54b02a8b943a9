/- The walk of the exact law of Mul. -/
import Derived.Test.YtkipaekgcpklcaaMul
import Derived.Test.YtkipaekgcpklcaaLawBase
namespace Go.Proofs.Ytkipaekgcpklcaa
open Go.RowKit
set_option linter.unusedVariables false

set_option maxHeartbeats 4000000 in
set_option maxRecDepth 20000 in
theorem walk11 (n1 : Bool) (a1 : Option Addr) (c1 : Nat) (xs1 : List Nat) (n2 : Bool) (a2 : Option Addr) (c2 : Nat) (xs2 : List Nat) (w : World) (s1 : Seg w a1 xs1.length c1 xs1) (s2 : Seg w a2 xs2.length c2 xs2) :
    Calls Try.prog 11 #[.agg #[.bool n1, .slice a1 xs1.length c1], .agg #[.bool n2, .slice a2 xs2.length c2]] w fun e w' => e = .returned (.bool true) ∧ Below w.heap.size w w' := by
  have hL : (lms (opZ mulZ n1 xs1 n2 xs2)).length ≤ 40 := opZ_len mulZ n1 xs1 n2 xs2
  have A1 := hide s1
  have A2 := hide s2
  have k10 : ((w.alloc (Obj.cells #[Value.bool n1, Value.slice a1 xs1.length c1] 38)).alloc (Obj.cells #[Value.bool n2, Value.slice a2 xs2.length c2] 38)).cell? ⟨w.heap.size, 0, none⟩ = some (Value.bool n1) := by go_simp
  have k11 : ((w.alloc (Obj.cells #[Value.bool n1, Value.slice a1 xs1.length c1] 38)).alloc (Obj.cells #[Value.bool n2, Value.slice a2 xs2.length c2] 38)).cell? ⟨w.heap.size, 1, none⟩ = some (Value.slice a1 xs1.length c1) := by go_simp
  have z1 : w.heap.size < ((w.alloc (Obj.cells #[Value.bool n1, Value.slice a1 xs1.length c1] 38)).alloc (Obj.cells #[Value.bool n2, Value.slice a2 xs2.length c2] 38)).heap.size := by simp only [World.size_alloc]; omega
  have k20 : ((w.alloc (Obj.cells #[Value.bool n1, Value.slice a1 xs1.length c1] 38)).alloc (Obj.cells #[Value.bool n2, Value.slice a2 xs2.length c2] 38)).cell? ⟨w.heap.size + 1, 0, none⟩ = some (Value.bool n2) := by go_simp
  have k21 : ((w.alloc (Obj.cells #[Value.bool n1, Value.slice a1 xs1.length c1] 38)).alloc (Obj.cells #[Value.bool n2, Value.slice a2 xs2.length c2] 38)).cell? ⟨w.heap.size + 1, 1, none⟩ = some (Value.slice a2 xs2.length c2) := by go_simp
  have z2 : w.heap.size + 1 < ((w.alloc (Obj.cells #[Value.bool n1, Value.slice a1 xs1.length c1] 38)).alloc (Obj.cells #[Value.bool n2, Value.slice a2 xs2.length c2] 38)).heap.size := by simp only [World.size_alloc]; omega
  have hn1 := s1.le
  have S1 := hide (s1.below (bl_alloc (bl_alloc (bl_refl w) (Obj.cells #[Value.bool n1, Value.slice a1 xs1.length c1] 38)) (Obj.cells #[Value.bool n2, Value.slice a2 xs2.length c2] 38)))
  have hn2 := s2.le
  have S2 := hide (s2.below (bl_alloc (bl_alloc (bl_refl w) (Obj.cells #[Value.bool n1, Value.slice a1 xs1.length c1] 38)) (Obj.cells #[Value.bool n2, Value.slice a2 xs2.length c2] 38)))
  have HB := hide (bl_alloc (bl_alloc (bl_refl w) (Obj.cells #[Value.bool n1, Value.slice a1 xs1.length c1] 38)) (Obj.cells #[Value.bool n2, Value.slice a2 xs2.length c2] 38))
  clear s1
  clear s2
  go_enter Try.func11, Try.ntmps11
  go_wp2_with fail
  generalize ((w.alloc (Obj.cells #[Value.bool n1, Value.slice a1 xs1.length c1] 38)).alloc (Obj.cells #[Value.bool n2, Value.slice a2 xs2.length c2] 38)) = w1 at *
  have y1 := z1
  have y2 := z2
  refine (szB n1 a1 xs1.length c1 (1048576) _ hn1 (by omega) (by omega)).mono ?_
  rintro e w2 ⟨rfl, hbw2⟩
  have qw2 := hbw2.size
  replace k10 := (hbw2.cell (p := ⟨w.heap.size, 0, none⟩) z1).trans k10
  replace k11 := (hbw2.cell (p := ⟨w.heap.size, 1, none⟩) z1).trans k11
  replace z1 := Nat.lt_of_lt_of_le z1 hbw2.size
  replace k20 := (hbw2.cell (p := ⟨w.heap.size + 1, 0, none⟩) z2).trans k20
  replace k21 := (hbw2.cell (p := ⟨w.heap.size + 1, 1, none⟩) z2).trans k21
  replace z2 := Nat.lt_of_lt_of_le z2 hbw2.size
  replace S1 := hide (S1.out.below hbw2)
  replace S2 := hide (S2.out.below hbw2)
  replace HB := hide (bl_trans HB.out hbw2)
  clear hbw2
  by_cases hbig1 : (1048576 : Int) < (xs1.length : Int)
  · rw [if_pos hbig1]
    go_wp2
    go_ret
    exact ⟨rfl, HB.out⟩
  rw [if_neg hbig1]
  go_wp2_with fail
  refine (szB n2 a2 xs2.length c2 (1048576 - (xs1.length : Int)) _ hn2 (by omega) (by omega)).mono ?_
  rintro e w3 ⟨rfl, hbw3⟩
  have qw3 := hbw3.size
  replace k10 := (hbw3.cell (p := ⟨w.heap.size, 0, none⟩) z1).trans k10
  replace k11 := (hbw3.cell (p := ⟨w.heap.size, 1, none⟩) z1).trans k11
  replace z1 := Nat.lt_of_lt_of_le z1 hbw3.size
  replace k20 := (hbw3.cell (p := ⟨w.heap.size + 1, 0, none⟩) z2).trans k20
  replace k21 := (hbw3.cell (p := ⟨w.heap.size + 1, 1, none⟩) z2).trans k21
  replace z2 := Nat.lt_of_lt_of_le z2 hbw3.size
  replace S1 := hide (S1.out.below hbw3)
  replace S2 := hide (S2.out.below hbw3)
  replace HB := hide (bl_trans HB.out hbw3)
  clear hbw3
  by_cases hbig2 : (1048576 - (xs1.length : Int) : Int) < (xs2.length : Int)
  · rw [if_pos hbig2]
    go_wp2
    go_ret
    exact ⟨rfl, HB.out⟩
  rw [if_neg hbig2]
  go_upto_region 8 with fail
  go_cut [6, 7] (fun sA sB wc => ∃ (N : Nat) (aX : Option Addr) (cX : Nat), sA = .pointer (some ⟨N, 0, none⟩) ∧ sB = .bool (opT mulZ n1 xs1 n2 xs2) ∧ Hid (Res w3 N aX cX (opZ mulZ n1 xs1 n2 xs2) wc))
  case first =>
    go_region_held3 (fun w' => w'.cell? ⟨w.heap.size, 0, none⟩ = some (Value.bool n1) ∧ w'.cell? ⟨w.heap.size, 1, none⟩ = some (Value.slice a1 xs1.length c1) ∧ w'.cell? ⟨w.heap.size + 1, 0, none⟩ = some (Value.bool n2) ∧ w'.cell? ⟨w.heap.size + 1, 1, none⟩ = some (Value.slice a2 xs2.length c2) ∧ Hid (Below w3.heap.size w3 w'))
      (first
        | exact keep4 k10 k11 k20 k21 z1 z2 ((bl_refl w3).drew)
        | exact keep4 k10 k11 k20 k21 z1 z2 (bC)
        | exact keep4 k10 k11 k20 k21 z1 z2 (bB)
        | exact keep4 k10 k11 k20 k21 z1 z2 (bA)
        | exact keep4 k10 k11 k20 k21 z1 z2 (bl_alloc bC _)
        | exact keep4 k10 k11 k20 k21 z1 z2 (bl_alloc bB _)
        | exact keep4 k10 k11 k20 k21 z1 z2 (bl_alloc bA _)
        | exact keep4 k10 k11 k20 k21 z1 z2 (bl_alloc (bl_refl w3).drew _)
        | exact keep4 k10 k11 k20 k21 z1 z2 (Below.setCell (Below.setCell bC (by first | omega | (dsimp only; omega) | (dsimp only; rw [World.size_drew]; omega) | (rw [World.size_drew]; omega)) _) (by first | omega | (dsimp only; omega) | (dsimp only; rw [World.size_drew]; omega) | (rw [World.size_drew]; omega)) _))
      (first
        | (go_at_call_of 33 (Value.agg #[Value.bool n1, Value.slice a1 xs1.length c1]); refine (toB n1 a1 xs1.length c1 xs1 _ (S1.out.below (Hid.out (And.right (And.right (And.right (And.right (by assumption))))))) (by omega)).mono ?_; rintro e wA ⟨uA, rfl, hgA, hbA⟩; have bA : Below w3.heap.size w3 wA := bl_trans (Hid.out (And.right (And.right (And.right (And.right (by assumption)))))) hbA; have qA := bA.size; try (have kn0 : wA.cell? ⟨w3.heap.size, 0, none⟩ = some (.bool false) := (Below.cell hbA (p := ⟨w3.heap.size, 0, none⟩) (by first | omega | (dsimp only; omega) | (dsimp only; rw [World.size_alloc]; omega) | (dsimp only; rw [World.size_alloc, World.size_drew]; omega) | (dsimp only; rw [World.size_drew, World.size_alloc]; omega) | (rw [World.size_drew, World.size_alloc]; omega) | (rw [World.size_alloc]; omega) | (rw [World.size_alloc, World.size_drew]; omega))).trans (by go_simp); have kn1 : wA.cell? ⟨w3.heap.size, 1, none⟩ = some (.slice none 0 0) := (Below.cell hbA (p := ⟨w3.heap.size, 1, none⟩) (by first | omega | (dsimp only; omega) | (dsimp only; rw [World.size_alloc]; omega) | (dsimp only; rw [World.size_alloc, World.size_drew]; omega) | (dsimp only; rw [World.size_drew, World.size_alloc]; omega) | (rw [World.size_drew, World.size_alloc]; omega) | (rw [World.size_alloc]; omega) | (rw [World.size_alloc, World.size_drew]; omega))).trans (by go_simp); have gn0 : wA.frozen? ⟨w3.heap.size, 0, none⟩ = false := (Below.frozen hbA (p := ⟨w3.heap.size, 0, none⟩) (by first | omega | (dsimp only; omega) | (dsimp only; rw [World.size_alloc]; omega) | (dsimp only; rw [World.size_alloc, World.size_drew]; omega) | (dsimp only; rw [World.size_drew, World.size_alloc]; omega) | (rw [World.size_drew, World.size_alloc]; omega) | (rw [World.size_alloc]; omega) | (rw [World.size_alloc, World.size_drew]; omega))).trans (by go_simp); have gn1 : wA.frozen? ⟨w3.heap.size, 1, none⟩ = false := (Below.frozen hbA (p := ⟨w3.heap.size, 1, none⟩) (by first | omega | (dsimp only; omega) | (dsimp only; rw [World.size_alloc]; omega) | (dsimp only; rw [World.size_alloc, World.size_drew]; omega) | (dsimp only; rw [World.size_drew, World.size_alloc]; omega) | (rw [World.size_drew, World.size_alloc]; omega) | (rw [World.size_alloc]; omega) | (rw [World.size_alloc, World.size_drew]; omega))).trans (by go_simp); have zn : w3.heap.size < wA.heap.size := World.block_lt_of_cell? wA ⟨w3.heap.size, 0, none⟩ kn0))
        | (go_at_call_of 33 (Value.agg #[Value.bool n2, Value.slice a2 xs2.length c2]); refine (toB n2 a2 xs2.length c2 xs2 _ (S2.out.below (Hid.out (And.right (And.right (And.right (And.right (by assumption))))))) (by omega)).mono ?_; rintro e wB ⟨uB, rfl, hgB, hbB⟩; have qB : wA.heap.size ≤ wB.heap.size := Nat.le_trans (by first | exact Nat.le_refl _ | (rw [World.size_alloc]; exact Nat.le_succ _)) hbB.size; have bB : Below w3.heap.size w3 wB := bl_trans (Hid.out (And.right (And.right (And.right (And.right (by assumption)))))) hbB; first | (have kn0 := (Below.cell hbB (p := ⟨w3.heap.size, 0, none⟩) (by first | omega | (dsimp only; omega) | (dsimp only; rw [World.size_alloc]; omega) | (dsimp only; rw [World.size_alloc, World.size_drew]; omega) | (dsimp only; rw [World.size_drew, World.size_alloc]; omega) | (rw [World.size_drew, World.size_alloc]; omega) | (rw [World.size_alloc]; omega) | (rw [World.size_alloc, World.size_drew]; omega))).trans kn0; have kn1 := (Below.cell hbB (p := ⟨w3.heap.size, 1, none⟩) (by first | omega | (dsimp only; omega) | (dsimp only; rw [World.size_alloc]; omega) | (dsimp only; rw [World.size_alloc, World.size_drew]; omega) | (dsimp only; rw [World.size_drew, World.size_alloc]; omega) | (rw [World.size_drew, World.size_alloc]; omega) | (rw [World.size_alloc]; omega) | (rw [World.size_alloc, World.size_drew]; omega))).trans kn1; have gn0 := (Below.frozen hbB (p := ⟨w3.heap.size, 0, none⟩) (by first | omega | (dsimp only; omega) | (dsimp only; rw [World.size_alloc]; omega) | (dsimp only; rw [World.size_alloc, World.size_drew]; omega) | (dsimp only; rw [World.size_drew, World.size_alloc]; omega) | (rw [World.size_drew, World.size_alloc]; omega) | (rw [World.size_alloc]; omega) | (rw [World.size_alloc, World.size_drew]; omega))).trans gn0; have gn1 := (Below.frozen hbB (p := ⟨w3.heap.size, 1, none⟩) (by first | omega | (dsimp only; omega) | (dsimp only; rw [World.size_alloc]; omega) | (dsimp only; rw [World.size_alloc, World.size_drew]; omega) | (dsimp only; rw [World.size_drew, World.size_alloc]; omega) | (rw [World.size_drew, World.size_alloc]; omega) | (rw [World.size_alloc]; omega) | (rw [World.size_alloc, World.size_drew]; omega))).trans gn1) | (have kn0 : wB.cell? ⟨wA.heap.size, 0, none⟩ = some (.bool false) := (Below.cell hbB (p := ⟨wA.heap.size, 0, none⟩) (by first | omega | (dsimp only; omega) | (dsimp only; rw [World.size_alloc]; omega) | (dsimp only; rw [World.size_alloc, World.size_drew]; omega) | (dsimp only; rw [World.size_drew, World.size_alloc]; omega) | (rw [World.size_drew, World.size_alloc]; omega) | (rw [World.size_alloc]; omega) | (rw [World.size_alloc, World.size_drew]; omega))).trans (by go_simp); have kn1 : wB.cell? ⟨wA.heap.size, 1, none⟩ = some (.slice none 0 0) := (Below.cell hbB (p := ⟨wA.heap.size, 1, none⟩) (by first | omega | (dsimp only; omega) | (dsimp only; rw [World.size_alloc]; omega) | (dsimp only; rw [World.size_alloc, World.size_drew]; omega) | (dsimp only; rw [World.size_drew, World.size_alloc]; omega) | (rw [World.size_drew, World.size_alloc]; omega) | (rw [World.size_alloc]; omega) | (rw [World.size_alloc, World.size_drew]; omega))).trans (by go_simp); have gn0 : wB.frozen? ⟨wA.heap.size, 0, none⟩ = false := (Below.frozen hbB (p := ⟨wA.heap.size, 0, none⟩) (by first | omega | (dsimp only; omega) | (dsimp only; rw [World.size_alloc]; omega) | (dsimp only; rw [World.size_alloc, World.size_drew]; omega) | (dsimp only; rw [World.size_drew, World.size_alloc]; omega) | (rw [World.size_drew, World.size_alloc]; omega) | (rw [World.size_alloc]; omega) | (rw [World.size_alloc, World.size_drew]; omega))).trans (by go_simp); have gn1 : wB.frozen? ⟨wA.heap.size, 1, none⟩ = false := (Below.frozen hbB (p := ⟨wA.heap.size, 1, none⟩) (by first | omega | (dsimp only; omega) | (dsimp only; rw [World.size_alloc]; omega) | (dsimp only; rw [World.size_alloc, World.size_drew]; omega) | (dsimp only; rw [World.size_drew, World.size_alloc]; omega) | (rw [World.size_drew, World.size_alloc]; omega) | (rw [World.size_alloc]; omega) | (rw [World.size_alloc, World.size_drew]; omega))).trans (by go_simp); have zn : wA.heap.size < wB.heap.size := World.block_lt_of_cell? wB ⟨wA.heap.size, 0, none⟩ kn0) | skip)
        | (go_at_call 46; refine (MulQ uA uB n1 n2 xs1 xs2 _ ?_ ?_).mono ?_; (first | exact hgA.raw.below hbB | exact (hgA.raw.below (bl_alloc (bl_refl _) _)).below hbB | exact (hgA.raw.below hbB).below (bl_alloc (bl_refl _) _)); (first | exact hgB.raw | exact hgB.raw.below (bl_alloc (bl_refl _) _)); rintro e wC ⟨vC, rfl, hnC, hbC⟩; obtain ⟨aC, cC, rfl, hoC⟩ := hnC; have qC : wB.heap.size ≤ wC.heap.size := Nat.le_trans (by first | exact Nat.le_refl _ | (rw [World.size_alloc]; exact Nat.le_succ _)) hbC.size; have bC : Below w3.heap.size w3 wC := bl_trans (Hid.out (And.right (And.right (And.right (And.right (by assumption)))))) hbC; first | (have kn0 := (Below.cell hbC (p := ⟨w3.heap.size, 0, none⟩) (by first | omega | (dsimp only; omega) | (dsimp only; rw [World.size_alloc]; omega) | (dsimp only; rw [World.size_alloc, World.size_drew]; omega) | (dsimp only; rw [World.size_drew, World.size_alloc]; omega) | (rw [World.size_drew, World.size_alloc]; omega) | (rw [World.size_alloc]; omega) | (rw [World.size_alloc, World.size_drew]; omega))).trans kn0; have kn1 := (Below.cell hbC (p := ⟨w3.heap.size, 1, none⟩) (by first | omega | (dsimp only; omega) | (dsimp only; rw [World.size_alloc]; omega) | (dsimp only; rw [World.size_alloc, World.size_drew]; omega) | (dsimp only; rw [World.size_drew, World.size_alloc]; omega) | (rw [World.size_drew, World.size_alloc]; omega) | (rw [World.size_alloc]; omega) | (rw [World.size_alloc, World.size_drew]; omega))).trans kn1; have gn0 := (Below.frozen hbC (p := ⟨w3.heap.size, 0, none⟩) (by first | omega | (dsimp only; omega) | (dsimp only; rw [World.size_alloc]; omega) | (dsimp only; rw [World.size_alloc, World.size_drew]; omega) | (dsimp only; rw [World.size_drew, World.size_alloc]; omega) | (rw [World.size_drew, World.size_alloc]; omega) | (rw [World.size_alloc]; omega) | (rw [World.size_alloc, World.size_drew]; omega))).trans gn0; have gn1 := (Below.frozen hbC (p := ⟨w3.heap.size, 1, none⟩) (by first | omega | (dsimp only; omega) | (dsimp only; rw [World.size_alloc]; omega) | (dsimp only; rw [World.size_alloc, World.size_drew]; omega) | (dsimp only; rw [World.size_drew, World.size_alloc]; omega) | (rw [World.size_drew, World.size_alloc]; omega) | (rw [World.size_alloc]; omega) | (rw [World.size_alloc, World.size_drew]; omega))).trans gn1) | (have kn0 := (Below.cell hbC (p := ⟨wA.heap.size, 0, none⟩) (by first | omega | (dsimp only; omega) | (dsimp only; rw [World.size_alloc]; omega) | (dsimp only; rw [World.size_alloc, World.size_drew]; omega) | (dsimp only; rw [World.size_drew, World.size_alloc]; omega) | (rw [World.size_drew, World.size_alloc]; omega) | (rw [World.size_alloc]; omega) | (rw [World.size_alloc, World.size_drew]; omega))).trans kn0; have kn1 := (Below.cell hbC (p := ⟨wA.heap.size, 1, none⟩) (by first | omega | (dsimp only; omega) | (dsimp only; rw [World.size_alloc]; omega) | (dsimp only; rw [World.size_alloc, World.size_drew]; omega) | (dsimp only; rw [World.size_drew, World.size_alloc]; omega) | (rw [World.size_drew, World.size_alloc]; omega) | (rw [World.size_alloc]; omega) | (rw [World.size_alloc, World.size_drew]; omega))).trans kn1; have gn0 := (Below.frozen hbC (p := ⟨wA.heap.size, 0, none⟩) (by first | omega | (dsimp only; omega) | (dsimp only; rw [World.size_alloc]; omega) | (dsimp only; rw [World.size_alloc, World.size_drew]; omega) | (dsimp only; rw [World.size_drew, World.size_alloc]; omega) | (rw [World.size_drew, World.size_alloc]; omega) | (rw [World.size_alloc]; omega) | (rw [World.size_alloc, World.size_drew]; omega))).trans gn0; have gn1 := (Below.frozen hbC (p := ⟨wA.heap.size, 1, none⟩) (by first | omega | (dsimp only; omega) | (dsimp only; rw [World.size_alloc]; omega) | (dsimp only; rw [World.size_alloc, World.size_drew]; omega) | (dsimp only; rw [World.size_drew, World.size_alloc]; omega) | (rw [World.size_drew, World.size_alloc]; omega) | (rw [World.size_alloc]; omega) | (rw [World.size_alloc, World.size_drew]; omega))).trans gn1) | (have kn0 : wC.cell? ⟨wB.heap.size, 0, none⟩ = some (.bool false) := (Below.cell hbC (p := ⟨wB.heap.size, 0, none⟩) (by first | omega | (dsimp only; omega) | (dsimp only; rw [World.size_alloc]; omega) | (dsimp only; rw [World.size_alloc, World.size_drew]; omega) | (dsimp only; rw [World.size_drew, World.size_alloc]; omega) | (rw [World.size_drew, World.size_alloc]; omega) | (rw [World.size_alloc]; omega) | (rw [World.size_alloc, World.size_drew]; omega))).trans (by go_simp); have kn1 : wC.cell? ⟨wB.heap.size, 1, none⟩ = some (.slice none 0 0) := (Below.cell hbC (p := ⟨wB.heap.size, 1, none⟩) (by first | omega | (dsimp only; omega) | (dsimp only; rw [World.size_alloc]; omega) | (dsimp only; rw [World.size_alloc, World.size_drew]; omega) | (dsimp only; rw [World.size_drew, World.size_alloc]; omega) | (rw [World.size_drew, World.size_alloc]; omega) | (rw [World.size_alloc]; omega) | (rw [World.size_alloc, World.size_drew]; omega))).trans (by go_simp); have gn0 : wC.frozen? ⟨wB.heap.size, 0, none⟩ = false := (Below.frozen hbC (p := ⟨wB.heap.size, 0, none⟩) (by first | omega | (dsimp only; omega) | (dsimp only; rw [World.size_alloc]; omega) | (dsimp only; rw [World.size_alloc, World.size_drew]; omega) | (dsimp only; rw [World.size_drew, World.size_alloc]; omega) | (rw [World.size_drew, World.size_alloc]; omega) | (rw [World.size_alloc]; omega) | (rw [World.size_alloc, World.size_drew]; omega))).trans (by go_simp); have gn1 : wC.frozen? ⟨wB.heap.size, 1, none⟩ = false := (Below.frozen hbC (p := ⟨wB.heap.size, 1, none⟩) (by first | omega | (dsimp only; omega) | (dsimp only; rw [World.size_alloc]; omega) | (dsimp only; rw [World.size_alloc, World.size_drew]; omega) | (dsimp only; rw [World.size_drew, World.size_alloc]; omega) | (rw [World.size_drew, World.size_alloc]; omega) | (rw [World.size_alloc]; omega) | (rw [World.size_alloc, World.size_drew]; omega))).trans (by go_simp); have zn : wB.heap.size < wC.heap.size := World.block_lt_of_cell? wC ⟨wB.heap.size, 0, none⟩ kn0) | skip))
    all_goals (clear hgA hgB)
    all_goals (go_wp2_with fail; go_meet)
    all_goals first
      | exact ⟨_, aC, cC, rfl, rfl, hide (res_behind hoC bC (by first | omega | (dsimp only; omega) | (dsimp only; rw [World.size_alloc]; omega) | (dsimp only; rw [World.size_alloc, World.size_drew]; omega) | (dsimp only; rw [World.size_drew, World.size_alloc]; omega) | (rw [World.size_drew, World.size_alloc]; omega) | (rw [World.size_alloc]; omega) | (rw [World.size_alloc, World.size_drew]; omega)))⟩
      | exact ⟨_, aC, cC, rfl, rfl, hide (res_ahead rfl hoC (by first | omega | (dsimp only; omega) | (dsimp only; rw [World.size_alloc]; omega) | (dsimp only; rw [World.size_alloc, World.size_drew]; omega) | (dsimp only; rw [World.size_drew, World.size_alloc]; omega) | (rw [World.size_drew, World.size_alloc]; omega) | (rw [World.size_alloc]; omega) | (rw [World.size_alloc, World.size_drew]; omega)) (by first | omega | (dsimp only; omega) | (dsimp only; rw [World.size_alloc]; omega) | (dsimp only; rw [World.size_alloc, World.size_drew]; omega) | (dsimp only; rw [World.size_drew, World.size_alloc]; omega) | (rw [World.size_drew, World.size_alloc]; omega) | (rw [World.size_alloc]; omega) | (rw [World.size_alloc, World.size_drew]; omega)) bC (by first | omega | (dsimp only; omega) | (dsimp only; rw [World.size_alloc]; omega) | (dsimp only; rw [World.size_alloc, World.size_drew]; omega) | (dsimp only; rw [World.size_drew, World.size_alloc]; omega) | (rw [World.size_drew, World.size_alloc]; omega) | (rw [World.size_alloc]; omega) | (rw [World.size_alloc, World.size_drew]; omega)) ⟨_, kn0⟩ ⟨_, kn1⟩ (by first | omega | (dsimp only; omega) | (dsimp only; rw [World.size_alloc]; omega) | (dsimp only; rw [World.size_alloc, World.size_drew]; omega) | (dsimp only; rw [World.size_drew, World.size_alloc]; omega) | (rw [World.size_drew, World.size_alloc]; omega) | (rw [World.size_alloc]; omega) | (rw [World.size_alloc, World.size_drew]; omega)))⟩
  case rest =>
  obtain ⟨NW, aW, cW, rfl, rfl, hres⟩ := hcut
  obtain ⟨r1, r2, r3, r4, r5, r6⟩ := hres.out
  clear hres
  rename World => w4
  have qW := r6.size
  replace k10 := (r6.cell (p := ⟨w.heap.size, 0, none⟩) z1).trans k10
  replace k11 := (r6.cell (p := ⟨w.heap.size, 1, none⟩) z1).trans k11
  replace z1 := Nat.lt_of_lt_of_le z1 r6.size
  replace k20 := (r6.cell (p := ⟨w.heap.size + 1, 0, none⟩) z2).trans k20
  replace k21 := (r6.cell (p := ⟨w.heap.size + 1, 1, none⟩) z2).trans k21
  replace z2 := Nat.lt_of_lt_of_le z2 r6.size
  replace S1 := hide (S1.out.below r6)
  replace S2 := hide (S2.out.below r6)
  replace HB := hide (bl_trans HB.out r6)
  have kW0 := r3
  have kW1 := r4
  have zW := r2
  have yW := r2
  have oW : ∀ k, (Value.slice aW (lms (opZ mulZ n1 xs1 n2 xs2)).length cW).ownBlock = some k → w3.heap.size ≤ k ∧ k < w4.heap.size := fun k e => r5.1.lt k e
  have HW := hide r5
  have nW := r1
  clear r3 r4 r5 r6 r2 r1
  go_wp2_with fail
  refine (toB n1 a1 xs1.length c1 xs1 _ S1.out (by omega)).mono ?_
  rintro e w5 ⟨uP, rfl, ⟨aP, cP, rfl, hoP⟩, hbw5⟩
  have qw5 := hbw5.size
  replace k10 := (hbw5.cell (p := ⟨w.heap.size, 0, none⟩) z1).trans k10
  replace k11 := (hbw5.cell (p := ⟨w.heap.size, 1, none⟩) z1).trans k11
  replace z1 := Nat.lt_of_lt_of_le z1 hbw5.size
  replace k20 := (hbw5.cell (p := ⟨w.heap.size + 1, 0, none⟩) z2).trans k20
  replace k21 := (hbw5.cell (p := ⟨w.heap.size + 1, 1, none⟩) z2).trans k21
  replace z2 := Nat.lt_of_lt_of_le z2 hbw5.size
  replace kW0 := (hbw5.cell (p := ⟨NW, 0, none⟩) zW).trans kW0
  replace kW1 := (hbw5.cell (p := ⟨NW, 1, none⟩) zW).trans kW1
  replace zW := Nat.lt_of_lt_of_le zW hbw5.size
  replace S1 := hide (S1.out.below hbw5)
  replace S2 := hide (S2.out.below hbw5)
  replace HW := hide (HW.out.below hbw5)
  replace HB := hide (bl_trans HB.out hbw5)
  clear hbw5
  have oP : ∀ k, (Value.slice aP xs1.length cP).ownBlock = some k → w4.heap.size ≤ k ∧ k < w5.heap.size := fun k e => hoP.1.lt k e
  have HP := hide hoP
  clear hoP
  go_wp2_with fail
  have kP0 : (w5.alloc (Obj.cells #[Value.bool n1, Value.slice aP xs1.length cP] 26)).cell? ⟨w5.heap.size, 0, none⟩ = some (Value.bool n1) := by go_simp
  have kP1 : (w5.alloc (Obj.cells #[Value.bool n1, Value.slice aP xs1.length cP] 26)).cell? ⟨w5.heap.size, 1, none⟩ = some (Value.slice aP xs1.length cP) := by go_simp
  have zP : w5.heap.size < (w5.alloc (Obj.cells #[Value.bool n1, Value.slice aP xs1.length cP] 26)).heap.size := by simp only [World.size_alloc]; omega
  have qw6 := zP
  have hbw6 := bl_alloc (bl_refl w5) (Obj.cells #[Value.bool n1, Value.slice aP xs1.length cP] 26)
  generalize w5.alloc (Obj.cells #[Value.bool n1, Value.slice aP xs1.length cP] 26) = w6 at *
  replace k10 := (hbw6.cell (p := ⟨w.heap.size, 0, none⟩) z1).trans k10
  replace k11 := (hbw6.cell (p := ⟨w.heap.size, 1, none⟩) z1).trans k11
  replace z1 := Nat.lt_of_lt_of_le z1 hbw6.size
  replace k20 := (hbw6.cell (p := ⟨w.heap.size + 1, 0, none⟩) z2).trans k20
  replace k21 := (hbw6.cell (p := ⟨w.heap.size + 1, 1, none⟩) z2).trans k21
  replace z2 := Nat.lt_of_lt_of_le z2 hbw6.size
  replace kW0 := (hbw6.cell (p := ⟨NW, 0, none⟩) zW).trans kW0
  replace kW1 := (hbw6.cell (p := ⟨NW, 1, none⟩) zW).trans kW1
  replace zW := Nat.lt_of_lt_of_le zW hbw6.size
  replace S1 := hide (S1.out.below hbw6)
  replace S2 := hide (S2.out.below hbw6)
  replace HW := hide (HW.out.below hbw6)
  replace HP := hide (HP.out.below hbw6)
  replace HB := hide (bl_trans HB.out hbw6)
  clear hbw6
  refine (toB n2 a2 xs2.length c2 xs2 _ S2.out (by omega)).mono ?_
  rintro e w7 ⟨uQ, rfl, ⟨aQ, cQ, rfl, hoQ⟩, hbw7⟩
  have qw7 := hbw7.size
  replace k10 := (hbw7.cell (p := ⟨w.heap.size, 0, none⟩) z1).trans k10
  replace k11 := (hbw7.cell (p := ⟨w.heap.size, 1, none⟩) z1).trans k11
  replace z1 := Nat.lt_of_lt_of_le z1 hbw7.size
  replace k20 := (hbw7.cell (p := ⟨w.heap.size + 1, 0, none⟩) z2).trans k20
  replace k21 := (hbw7.cell (p := ⟨w.heap.size + 1, 1, none⟩) z2).trans k21
  replace z2 := Nat.lt_of_lt_of_le z2 hbw7.size
  replace kW0 := (hbw7.cell (p := ⟨NW, 0, none⟩) zW).trans kW0
  replace kW1 := (hbw7.cell (p := ⟨NW, 1, none⟩) zW).trans kW1
  replace zW := Nat.lt_of_lt_of_le zW hbw7.size
  replace kP0 := (hbw7.cell (p := ⟨w5.heap.size, 0, none⟩) zP).trans kP0
  replace kP1 := (hbw7.cell (p := ⟨w5.heap.size, 1, none⟩) zP).trans kP1
  replace zP := Nat.lt_of_lt_of_le zP hbw7.size
  replace S1 := hide (S1.out.below hbw7)
  replace S2 := hide (S2.out.below hbw7)
  replace HW := hide (HW.out.below hbw7)
  replace HP := hide (HP.out.below hbw7)
  replace HB := hide (bl_trans HB.out hbw7)
  clear hbw7
  have oQ : ∀ k, (Value.slice aQ xs2.length cQ).ownBlock = some k → w6.heap.size ≤ k ∧ k < w7.heap.size := fun k e => hoQ.1.lt k e
  have HQ := hide hoQ
  clear hoQ
  go_wp2_with fail
  have kQ0 : (w7.alloc (Obj.cells #[Value.bool n2, Value.slice aQ xs2.length cQ] 26)).cell? ⟨w7.heap.size, 0, none⟩ = some (Value.bool n2) := by go_simp
  have kQ1 : (w7.alloc (Obj.cells #[Value.bool n2, Value.slice aQ xs2.length cQ] 26)).cell? ⟨w7.heap.size, 1, none⟩ = some (Value.slice aQ xs2.length cQ) := by go_simp
  have zQ : w7.heap.size < (w7.alloc (Obj.cells #[Value.bool n2, Value.slice aQ xs2.length cQ] 26)).heap.size := by simp only [World.size_alloc]; omega
  have qw8 := zQ
  have hbw8 := bl_alloc (bl_refl w7) (Obj.cells #[Value.bool n2, Value.slice aQ xs2.length cQ] 26)
  generalize w7.alloc (Obj.cells #[Value.bool n2, Value.slice aQ xs2.length cQ] 26) = w8 at *
  replace k10 := (hbw8.cell (p := ⟨w.heap.size, 0, none⟩) z1).trans k10
  replace k11 := (hbw8.cell (p := ⟨w.heap.size, 1, none⟩) z1).trans k11
  replace z1 := Nat.lt_of_lt_of_le z1 hbw8.size
  replace k20 := (hbw8.cell (p := ⟨w.heap.size + 1, 0, none⟩) z2).trans k20
  replace k21 := (hbw8.cell (p := ⟨w.heap.size + 1, 1, none⟩) z2).trans k21
  replace z2 := Nat.lt_of_lt_of_le z2 hbw8.size
  replace kW0 := (hbw8.cell (p := ⟨NW, 0, none⟩) zW).trans kW0
  replace kW1 := (hbw8.cell (p := ⟨NW, 1, none⟩) zW).trans kW1
  replace zW := Nat.lt_of_lt_of_le zW hbw8.size
  replace kP0 := (hbw8.cell (p := ⟨w5.heap.size, 0, none⟩) zP).trans kP0
  replace kP1 := (hbw8.cell (p := ⟨w5.heap.size, 1, none⟩) zP).trans kP1
  replace zP := Nat.lt_of_lt_of_le zP hbw8.size
  replace S1 := hide (S1.out.below hbw8)
  replace S2 := hide (S2.out.below hbw8)
  replace HW := hide (HW.out.below hbw8)
  replace HP := hide (HP.out.below hbw8)
  replace HQ := hide (HQ.out.below hbw8)
  replace HB := hide (bl_trans HB.out hbw8)
  clear hbw8
  refine (MulP _ _ n1 n2 xs1 xs2 _ ⟨aP, cP, rfl, HP.out.seg⟩ ⟨aQ, cQ, rfl, HQ.out.seg⟩).mono ?_
  rintro e w9 ⟨vG, rfl, ⟨aG, cG, rfl, hoG⟩, hbw9⟩
  have qw9 := hbw9.size
  replace k10 := (hbw9.cell (p := ⟨w.heap.size, 0, none⟩) z1).trans k10
  replace k11 := (hbw9.cell (p := ⟨w.heap.size, 1, none⟩) z1).trans k11
  replace z1 := Nat.lt_of_lt_of_le z1 hbw9.size
  replace k20 := (hbw9.cell (p := ⟨w.heap.size + 1, 0, none⟩) z2).trans k20
  replace k21 := (hbw9.cell (p := ⟨w.heap.size + 1, 1, none⟩) z2).trans k21
  replace z2 := Nat.lt_of_lt_of_le z2 hbw9.size
  replace kW0 := (hbw9.cell (p := ⟨NW, 0, none⟩) zW).trans kW0
  replace kW1 := (hbw9.cell (p := ⟨NW, 1, none⟩) zW).trans kW1
  replace zW := Nat.lt_of_lt_of_le zW hbw9.size
  replace kP0 := (hbw9.cell (p := ⟨w5.heap.size, 0, none⟩) zP).trans kP0
  replace kP1 := (hbw9.cell (p := ⟨w5.heap.size, 1, none⟩) zP).trans kP1
  replace zP := Nat.lt_of_lt_of_le zP hbw9.size
  replace kQ0 := (hbw9.cell (p := ⟨w7.heap.size, 0, none⟩) zQ).trans kQ0
  replace kQ1 := (hbw9.cell (p := ⟨w7.heap.size, 1, none⟩) zQ).trans kQ1
  replace zQ := Nat.lt_of_lt_of_le zQ hbw9.size
  replace S1 := hide (S1.out.below hbw9)
  replace S2 := hide (S2.out.below hbw9)
  replace HW := hide (HW.out.below hbw9)
  replace HP := hide (HP.out.below hbw9)
  replace HQ := hide (HQ.out.below hbw9)
  replace HB := hide (bl_trans HB.out hbw9)
  clear hbw9
  have oG : ∀ k, (Value.slice aG (lms (opZ mulZ n1 xs1 n2 xs2)).length cG).ownBlock = some k → w8.heap.size ≤ k ∧ k < w9.heap.size := fun k e => hoG.1.lt k e
  have HG := hide hoG
  clear hoG
  go_wp2_with fail
  have kG0 : (w9.alloc (Obj.cells #[Value.bool (sgn (opZ mulZ n1 xs1 n2 xs2)), Value.slice aG (lms (opZ mulZ n1 xs1 n2 xs2)).length cG] 26)).cell? ⟨w9.heap.size, 0, none⟩ = some (Value.bool (sgn (opZ mulZ n1 xs1 n2 xs2))) := by go_simp
  have kG1 : (w9.alloc (Obj.cells #[Value.bool (sgn (opZ mulZ n1 xs1 n2 xs2)), Value.slice aG (lms (opZ mulZ n1 xs1 n2 xs2)).length cG] 26)).cell? ⟨w9.heap.size, 1, none⟩ = some (Value.slice aG (lms (opZ mulZ n1 xs1 n2 xs2)).length cG) := by go_simp
  have zG : w9.heap.size < (w9.alloc (Obj.cells #[Value.bool (sgn (opZ mulZ n1 xs1 n2 xs2)), Value.slice aG (lms (opZ mulZ n1 xs1 n2 xs2)).length cG] 26)).heap.size := by simp only [World.size_alloc]; omega
  have qw10 := zG
  have hbw10 := bl_alloc (bl_refl w9) (Obj.cells #[Value.bool (sgn (opZ mulZ n1 xs1 n2 xs2)), Value.slice aG (lms (opZ mulZ n1 xs1 n2 xs2)).length cG] 26)
  generalize w9.alloc (Obj.cells #[Value.bool (sgn (opZ mulZ n1 xs1 n2 xs2)), Value.slice aG (lms (opZ mulZ n1 xs1 n2 xs2)).length cG] 26) = w10 at *
  replace k10 := (hbw10.cell (p := ⟨w.heap.size, 0, none⟩) z1).trans k10
  replace k11 := (hbw10.cell (p := ⟨w.heap.size, 1, none⟩) z1).trans k11
  replace z1 := Nat.lt_of_lt_of_le z1 hbw10.size
  replace k20 := (hbw10.cell (p := ⟨w.heap.size + 1, 0, none⟩) z2).trans k20
  replace k21 := (hbw10.cell (p := ⟨w.heap.size + 1, 1, none⟩) z2).trans k21
  replace z2 := Nat.lt_of_lt_of_le z2 hbw10.size
  replace kW0 := (hbw10.cell (p := ⟨NW, 0, none⟩) zW).trans kW0
  replace kW1 := (hbw10.cell (p := ⟨NW, 1, none⟩) zW).trans kW1
  replace zW := Nat.lt_of_lt_of_le zW hbw10.size
  replace kP0 := (hbw10.cell (p := ⟨w5.heap.size, 0, none⟩) zP).trans kP0
  replace kP1 := (hbw10.cell (p := ⟨w5.heap.size, 1, none⟩) zP).trans kP1
  replace zP := Nat.lt_of_lt_of_le zP hbw10.size
  replace kQ0 := (hbw10.cell (p := ⟨w7.heap.size, 0, none⟩) zQ).trans kQ0
  replace kQ1 := (hbw10.cell (p := ⟨w7.heap.size, 1, none⟩) zQ).trans kQ1
  replace zQ := Nat.lt_of_lt_of_le zQ hbw10.size
  replace S1 := hide (S1.out.below hbw10)
  replace S2 := hide (S2.out.below hbw10)
  replace HW := hide (HW.out.below hbw10)
  replace HP := hide (HP.out.below hbw10)
  replace HQ := hide (HQ.out.below hbw10)
  replace HG := hide (HG.out.below hbw10)
  replace HB := hide (bl_trans HB.out hbw10)
  clear hbw10
  refine (eqB _ _ (sgn (opZ mulZ n1 xs1 n2 xs2)) (lms (opZ mulZ n1 xs1 n2 xs2)) _ ⟨aG, cG, rfl, HG.out.seg⟩ ⟨aW, cW, rfl, HW.out.seg⟩).mono ?_
  rintro e w11 ⟨rfl, hbw11⟩
  have qw11 := hbw11.size
  replace k10 := (hbw11.cell (p := ⟨w.heap.size, 0, none⟩) z1).trans k10
  replace k11 := (hbw11.cell (p := ⟨w.heap.size, 1, none⟩) z1).trans k11
  replace z1 := Nat.lt_of_lt_of_le z1 hbw11.size
  replace k20 := (hbw11.cell (p := ⟨w.heap.size + 1, 0, none⟩) z2).trans k20
  replace k21 := (hbw11.cell (p := ⟨w.heap.size + 1, 1, none⟩) z2).trans k21
  replace z2 := Nat.lt_of_lt_of_le z2 hbw11.size
  replace kW0 := (hbw11.cell (p := ⟨NW, 0, none⟩) zW).trans kW0
  replace kW1 := (hbw11.cell (p := ⟨NW, 1, none⟩) zW).trans kW1
  replace zW := Nat.lt_of_lt_of_le zW hbw11.size
  replace kP0 := (hbw11.cell (p := ⟨w5.heap.size, 0, none⟩) zP).trans kP0
  replace kP1 := (hbw11.cell (p := ⟨w5.heap.size, 1, none⟩) zP).trans kP1
  replace zP := Nat.lt_of_lt_of_le zP hbw11.size
  replace kQ0 := (hbw11.cell (p := ⟨w7.heap.size, 0, none⟩) zQ).trans kQ0
  replace kQ1 := (hbw11.cell (p := ⟨w7.heap.size, 1, none⟩) zQ).trans kQ1
  replace zQ := Nat.lt_of_lt_of_le zQ hbw11.size
  replace kG0 := (hbw11.cell (p := ⟨w9.heap.size, 0, none⟩) zG).trans kG0
  replace kG1 := (hbw11.cell (p := ⟨w9.heap.size, 1, none⟩) zG).trans kG1
  replace zG := Nat.lt_of_lt_of_le zG hbw11.size
  replace S1 := hide (S1.out.below hbw11)
  replace S2 := hide (S2.out.below hbw11)
  replace HW := hide (HW.out.below hbw11)
  replace HP := hide (HP.out.below hbw11)
  replace HQ := hide (HQ.out.below hbw11)
  replace HG := hide (HG.out.below hbw11)
  replace HB := hide (bl_trans HB.out hbw11)
  clear hbw11
  go_wp2_with fail
  go_region_held3 (fun w' => w'.cell? ⟨w.heap.size, 0, none⟩ = some (Value.bool n1) ∧ w'.cell? ⟨w.heap.size, 1, none⟩ = some (Value.slice a1 xs1.length c1) ∧ w'.cell? ⟨w5.heap.size, 0, none⟩ = some (Value.bool n1) ∧ w'.cell? ⟨w5.heap.size, 1, none⟩ = some (Value.slice aP xs1.length cP))
    (first
      | exact ⟨k10, k11, kP0, kP1⟩
      | exact ⟨(hbw13.cell (p := ⟨w.heap.size, 0, none⟩) z1).trans k10, (hbw13.cell (p := ⟨w.heap.size, 1, none⟩) z1).trans k11, (hbw13.cell (p := ⟨w5.heap.size, 0, none⟩) zP).trans kP0, (hbw13.cell (p := ⟨w5.heap.size, 1, none⟩) zP).trans kP1⟩
      | exact ⟨(hbw12.cell (p := ⟨w.heap.size, 0, none⟩) z1).trans k10, (hbw12.cell (p := ⟨w.heap.size, 1, none⟩) z1).trans k11, (hbw12.cell (p := ⟨w5.heap.size, 0, none⟩) zP).trans kP0, (hbw12.cell (p := ⟨w5.heap.size, 1, none⟩) zP).trans kP1⟩)
    (first
      | (go_at_call_of 33 (Value.agg #[Value.bool n1, Value.slice a1 xs1.length c1]); refine (toB n1 a1 xs1.length c1 xs1 _ (S1.out.below (bl_refl w11).drew) (by omega)).mono ?_; rintro e w12 ⟨u, rfl, hg, hbw12r⟩; have hbw12 : Below w11.heap.size w11 w12 := (bl_refl w11).drew.trans hbw12r)
      | (go_at_call 35; refine (eqB _ u n1 xs1 _ ⟨aP, cP, rfl, HP.out.seg.below hbw12⟩ hg.raw).mono ?_; rintro e w13 ⟨rfl, hbw13r⟩; have hbw13 : Below w11.heap.size w11 w13 := bl_trans hbw12 hbw13r))
  have qw13 := hbw13.size
  replace k10 := (hbw13.cell (p := ⟨w.heap.size, 0, none⟩) z1).trans k10
  replace k11 := (hbw13.cell (p := ⟨w.heap.size, 1, none⟩) z1).trans k11
  replace z1 := Nat.lt_of_lt_of_le z1 hbw13.size
  replace k20 := (hbw13.cell (p := ⟨w.heap.size + 1, 0, none⟩) z2).trans k20
  replace k21 := (hbw13.cell (p := ⟨w.heap.size + 1, 1, none⟩) z2).trans k21
  replace z2 := Nat.lt_of_lt_of_le z2 hbw13.size
  replace kW0 := (hbw13.cell (p := ⟨NW, 0, none⟩) zW).trans kW0
  replace kW1 := (hbw13.cell (p := ⟨NW, 1, none⟩) zW).trans kW1
  replace zW := Nat.lt_of_lt_of_le zW hbw13.size
  replace kP0 := (hbw13.cell (p := ⟨w5.heap.size, 0, none⟩) zP).trans kP0
  replace kP1 := (hbw13.cell (p := ⟨w5.heap.size, 1, none⟩) zP).trans kP1
  replace zP := Nat.lt_of_lt_of_le zP hbw13.size
  replace kQ0 := (hbw13.cell (p := ⟨w7.heap.size, 0, none⟩) zQ).trans kQ0
  replace kQ1 := (hbw13.cell (p := ⟨w7.heap.size, 1, none⟩) zQ).trans kQ1
  replace zQ := Nat.lt_of_lt_of_le zQ hbw13.size
  replace kG0 := (hbw13.cell (p := ⟨w9.heap.size, 0, none⟩) zG).trans kG0
  replace kG1 := (hbw13.cell (p := ⟨w9.heap.size, 1, none⟩) zG).trans kG1
  replace zG := Nat.lt_of_lt_of_le zG hbw13.size
  replace S1 := hide (S1.out.below hbw13)
  replace S2 := hide (S2.out.below hbw13)
  replace HW := hide (HW.out.below hbw13)
  replace HP := hide (HP.out.below hbw13)
  replace HQ := hide (HQ.out.below hbw13)
  replace HG := hide (HG.out.below hbw13)
  replace HB := hide (bl_trans HB.out hbw13)
  clear hbw12 hbw12r hbw13 hbw13r
  clear hg
  go_wp2_with fail
  go_region_held3 (fun w' => w'.cell? ⟨w.heap.size + 1, 0, none⟩ = some (Value.bool n2) ∧ w'.cell? ⟨w.heap.size + 1, 1, none⟩ = some (Value.slice a2 xs2.length c2) ∧ w'.cell? ⟨w7.heap.size, 0, none⟩ = some (Value.bool n2) ∧ w'.cell? ⟨w7.heap.size, 1, none⟩ = some (Value.slice aQ xs2.length cQ))
    (first
      | exact ⟨k20, k21, kQ0, kQ1⟩
      | exact ⟨(hbw15.cell (p := ⟨w.heap.size + 1, 0, none⟩) z2).trans k20, (hbw15.cell (p := ⟨w.heap.size + 1, 1, none⟩) z2).trans k21, (hbw15.cell (p := ⟨w7.heap.size, 0, none⟩) zQ).trans kQ0, (hbw15.cell (p := ⟨w7.heap.size, 1, none⟩) zQ).trans kQ1⟩
      | exact ⟨(hbw14.cell (p := ⟨w.heap.size + 1, 0, none⟩) z2).trans k20, (hbw14.cell (p := ⟨w.heap.size + 1, 1, none⟩) z2).trans k21, (hbw14.cell (p := ⟨w7.heap.size, 0, none⟩) zQ).trans kQ0, (hbw14.cell (p := ⟨w7.heap.size, 1, none⟩) zQ).trans kQ1⟩)
    (first
      | (go_at_call_of 33 (Value.agg #[Value.bool n2, Value.slice a2 xs2.length c2]); refine (toB n2 a2 xs2.length c2 xs2 _ (S2.out.below (bl_refl w13).drew) (by omega)).mono ?_; rintro e w14 ⟨u, rfl, hg, hbw14r⟩; have hbw14 : Below w13.heap.size w13 w14 := (bl_refl w13).drew.trans hbw14r)
      | (go_at_call 35; refine (eqB _ u n2 xs2 _ ⟨aQ, cQ, rfl, HQ.out.seg.below hbw14⟩ hg.raw).mono ?_; rintro e w15 ⟨rfl, hbw15r⟩; have hbw15 : Below w13.heap.size w13 w15 := bl_trans hbw14 hbw15r))
  have qw15 := hbw15.size
  replace k10 := (hbw15.cell (p := ⟨w.heap.size, 0, none⟩) z1).trans k10
  replace k11 := (hbw15.cell (p := ⟨w.heap.size, 1, none⟩) z1).trans k11
  replace z1 := Nat.lt_of_lt_of_le z1 hbw15.size
  replace k20 := (hbw15.cell (p := ⟨w.heap.size + 1, 0, none⟩) z2).trans k20
  replace k21 := (hbw15.cell (p := ⟨w.heap.size + 1, 1, none⟩) z2).trans k21
  replace z2 := Nat.lt_of_lt_of_le z2 hbw15.size
  replace kW0 := (hbw15.cell (p := ⟨NW, 0, none⟩) zW).trans kW0
  replace kW1 := (hbw15.cell (p := ⟨NW, 1, none⟩) zW).trans kW1
  replace zW := Nat.lt_of_lt_of_le zW hbw15.size
  replace kP0 := (hbw15.cell (p := ⟨w5.heap.size, 0, none⟩) zP).trans kP0
  replace kP1 := (hbw15.cell (p := ⟨w5.heap.size, 1, none⟩) zP).trans kP1
  replace zP := Nat.lt_of_lt_of_le zP hbw15.size
  replace kQ0 := (hbw15.cell (p := ⟨w7.heap.size, 0, none⟩) zQ).trans kQ0
  replace kQ1 := (hbw15.cell (p := ⟨w7.heap.size, 1, none⟩) zQ).trans kQ1
  replace zQ := Nat.lt_of_lt_of_le zQ hbw15.size
  replace kG0 := (hbw15.cell (p := ⟨w9.heap.size, 0, none⟩) zG).trans kG0
  replace kG1 := (hbw15.cell (p := ⟨w9.heap.size, 1, none⟩) zG).trans kG1
  replace zG := Nat.lt_of_lt_of_le zG hbw15.size
  replace S1 := hide (S1.out.below hbw15)
  replace S2 := hide (S2.out.below hbw15)
  replace HW := hide (HW.out.below hbw15)
  replace HP := hide (HP.out.below hbw15)
  replace HQ := hide (HQ.out.below hbw15)
  replace HG := hide (HG.out.below hbw15)
  replace HB := hide (bl_trans HB.out hbw15)
  clear hbw14 hbw14r hbw15 hbw15r
  clear hg
  go_wp2_with fail
  refine (markB1 n1 aP xs1.length cP xs1 _ _ (by omega) HP.out).mono ?_
  rintro e w16 ⟨rfl, hm, hg⟩
  have qw16 := hg.size
  replace k10 := hg.cell k10 (fun e => by have := oP _ e.symm; dsimp only at this; omega)
  replace k11 := hg.cell k11 (fun e => by have := oP _ e.symm; dsimp only at this; omega)
  replace z1 := Nat.lt_of_lt_of_le z1 qw16
  replace k20 := hg.cell k20 (fun e => by have := oP _ e.symm; dsimp only at this; omega)
  replace k21 := hg.cell k21 (fun e => by have := oP _ e.symm; dsimp only at this; omega)
  replace z2 := Nat.lt_of_lt_of_le z2 qw16
  replace kW0 := hg.cell kW0 (fun e => by have := oP _ e.symm; dsimp only at this; omega)
  replace kW1 := hg.cell kW1 (fun e => by have := oP _ e.symm; dsimp only at this; omega)
  replace zW := Nat.lt_of_lt_of_le zW qw16
  replace kP0 := hg.cell kP0 (fun e => by have := oP _ e.symm; dsimp only at this; omega)
  replace kP1 := hg.cell kP1 (fun e => by have := oP _ e.symm; dsimp only at this; omega)
  replace zP := Nat.lt_of_lt_of_le zP qw16
  replace kQ0 := hg.cell kQ0 (fun e => by have := oP _ e.symm; dsimp only at this; omega)
  replace kQ1 := hg.cell kQ1 (fun e => by have := oP _ e.symm; dsimp only at this; omega)
  replace zQ := Nat.lt_of_lt_of_le zQ qw16
  replace kG0 := hg.cell kG0 (fun e => by have := oP _ e.symm; dsimp only at this; omega)
  replace kG1 := hg.cell kG1 (fun e => by have := oP _ e.symm; dsimp only at this; omega)
  replace zG := Nat.lt_of_lt_of_le zG qw16
  replace S1 := hide (S1.out.grownLow A1.out hg (fun k e => by have := oP k e; omega))
  replace S2 := hide (S2.out.grownLow A2.out hg (fun k e => by have := oP k e; omega))
  replace HW := hide (HW.out.kept hg (apart_of oW oP (by omega)))
  replace HQ := hide (HQ.out.kept hg (apart_of oQ oP (by omega)))
  replace HG := hide (HG.out.kept hg (apart_of oG oP (by omega)))
  replace HP := hide hm
  replace HB := hide (HB.out.grown hg HB.out.size (fun k e => by have := oP k e; omega))
  clear hg hm
  go_wp2_with fail
  refine (markBk n2 aQ xs2.length cQ xs2 _ xs1.length _ (by omega) HQ.out).mono ?_
  rintro e w17 ⟨rfl, hm, hg⟩
  have qw17 := hg.size
  replace k10 := hg.cell k10 (fun e => by have := oQ _ e.symm; dsimp only at this; omega)
  replace k11 := hg.cell k11 (fun e => by have := oQ _ e.symm; dsimp only at this; omega)
  replace z1 := Nat.lt_of_lt_of_le z1 qw17
  replace k20 := hg.cell k20 (fun e => by have := oQ _ e.symm; dsimp only at this; omega)
  replace k21 := hg.cell k21 (fun e => by have := oQ _ e.symm; dsimp only at this; omega)
  replace z2 := Nat.lt_of_lt_of_le z2 qw17
  replace kW0 := hg.cell kW0 (fun e => by have := oQ _ e.symm; dsimp only at this; omega)
  replace kW1 := hg.cell kW1 (fun e => by have := oQ _ e.symm; dsimp only at this; omega)
  replace zW := Nat.lt_of_lt_of_le zW qw17
  replace kP0 := hg.cell kP0 (fun e => by have := oQ _ e.symm; dsimp only at this; omega)
  replace kP1 := hg.cell kP1 (fun e => by have := oQ _ e.symm; dsimp only at this; omega)
  replace zP := Nat.lt_of_lt_of_le zP qw17
  replace kQ0 := hg.cell kQ0 (fun e => by have := oQ _ e.symm; dsimp only at this; omega)
  replace kQ1 := hg.cell kQ1 (fun e => by have := oQ _ e.symm; dsimp only at this; omega)
  replace zQ := Nat.lt_of_lt_of_le zQ qw17
  replace kG0 := hg.cell kG0 (fun e => by have := oQ _ e.symm; dsimp only at this; omega)
  replace kG1 := hg.cell kG1 (fun e => by have := oQ _ e.symm; dsimp only at this; omega)
  replace zG := Nat.lt_of_lt_of_le zG qw17
  replace S1 := hide (S1.out.grownLow A1.out hg (fun k e => by have := oQ k e; omega))
  replace S2 := hide (S2.out.grownLow A2.out hg (fun k e => by have := oQ k e; omega))
  replace HW := hide (HW.out.kept hg (apart_of oW oQ (by omega)))
  replace HP := hide (HP.out.kept hg (apart_of oP oQ (by omega)))
  replace HG := hide (HG.out.kept hg (apart_of oG oQ (by omega)))
  replace HQ := hide hm
  replace HB := hide (HB.out.grown hg HB.out.size (fun k e => by have := oQ k e; omega))
  clear hg hm
  go_wp2_with fail
  refine (eqB _ _ (sgn (opZ mulZ n1 xs1 n2 xs2)) (lms (opZ mulZ n1 xs1 n2 xs2)) _ ⟨aG, cG, rfl, HG.out.seg⟩ ⟨aW, cW, rfl, HW.out.seg⟩).mono ?_
  rintro e w18 ⟨rfl, hbw18⟩
  have qw18 := hbw18.size
  replace k10 := (hbw18.cell (p := ⟨w.heap.size, 0, none⟩) z1).trans k10
  replace k11 := (hbw18.cell (p := ⟨w.heap.size, 1, none⟩) z1).trans k11
  replace z1 := Nat.lt_of_lt_of_le z1 hbw18.size
  replace k20 := (hbw18.cell (p := ⟨w.heap.size + 1, 0, none⟩) z2).trans k20
  replace k21 := (hbw18.cell (p := ⟨w.heap.size + 1, 1, none⟩) z2).trans k21
  replace z2 := Nat.lt_of_lt_of_le z2 hbw18.size
  replace kW0 := (hbw18.cell (p := ⟨NW, 0, none⟩) zW).trans kW0
  replace kW1 := (hbw18.cell (p := ⟨NW, 1, none⟩) zW).trans kW1
  replace zW := Nat.lt_of_lt_of_le zW hbw18.size
  replace kP0 := (hbw18.cell (p := ⟨w5.heap.size, 0, none⟩) zP).trans kP0
  replace kP1 := (hbw18.cell (p := ⟨w5.heap.size, 1, none⟩) zP).trans kP1
  replace zP := Nat.lt_of_lt_of_le zP hbw18.size
  replace kQ0 := (hbw18.cell (p := ⟨w7.heap.size, 0, none⟩) zQ).trans kQ0
  replace kQ1 := (hbw18.cell (p := ⟨w7.heap.size, 1, none⟩) zQ).trans kQ1
  replace zQ := Nat.lt_of_lt_of_le zQ hbw18.size
  replace kG0 := (hbw18.cell (p := ⟨w9.heap.size, 0, none⟩) zG).trans kG0
  replace kG1 := (hbw18.cell (p := ⟨w9.heap.size, 1, none⟩) zG).trans kG1
  replace zG := Nat.lt_of_lt_of_le zG hbw18.size
  replace S1 := hide (S1.out.below hbw18)
  replace S2 := hide (S2.out.below hbw18)
  replace HW := hide (HW.out.below hbw18)
  replace HP := hide (HP.out.below hbw18)
  replace HQ := hide (HQ.out.below hbw18)
  replace HG := hide (HG.out.below hbw18)
  replace HB := hide (bl_trans HB.out hbw18)
  clear hbw18
  go_wp2_with fail
  refine (markB1 (sgn (opZ mulZ n1 xs1 n2 xs2)) aG (lms (opZ mulZ n1 xs1 n2 xs2)).length cG (lms (opZ mulZ n1 xs1 n2 xs2)) _ _ (by omega) HG.out).mono ?_
  rintro e w19 ⟨rfl, hm, hg⟩
  have qw19 := hg.size
  replace k10 := hg.cell k10 (fun e => by have := oG _ e.symm; dsimp only at this; omega)
  replace k11 := hg.cell k11 (fun e => by have := oG _ e.symm; dsimp only at this; omega)
  replace z1 := Nat.lt_of_lt_of_le z1 qw19
  replace k20 := hg.cell k20 (fun e => by have := oG _ e.symm; dsimp only at this; omega)
  replace k21 := hg.cell k21 (fun e => by have := oG _ e.symm; dsimp only at this; omega)
  replace z2 := Nat.lt_of_lt_of_le z2 qw19
  replace kW0 := hg.cell kW0 (fun e => by have := oG _ e.symm; dsimp only at this; omega)
  replace kW1 := hg.cell kW1 (fun e => by have := oG _ e.symm; dsimp only at this; omega)
  replace zW := Nat.lt_of_lt_of_le zW qw19
  replace kP0 := hg.cell kP0 (fun e => by have := oG _ e.symm; dsimp only at this; omega)
  replace kP1 := hg.cell kP1 (fun e => by have := oG _ e.symm; dsimp only at this; omega)
  replace zP := Nat.lt_of_lt_of_le zP qw19
  replace kQ0 := hg.cell kQ0 (fun e => by have := oG _ e.symm; dsimp only at this; omega)
  replace kQ1 := hg.cell kQ1 (fun e => by have := oG _ e.symm; dsimp only at this; omega)
  replace zQ := Nat.lt_of_lt_of_le zQ qw19
  replace kG0 := hg.cell kG0 (fun e => by have := oG _ e.symm; dsimp only at this; omega)
  replace kG1 := hg.cell kG1 (fun e => by have := oG _ e.symm; dsimp only at this; omega)
  replace zG := Nat.lt_of_lt_of_le zG qw19
  replace S1 := hide (S1.out.grownLow A1.out hg (fun k e => by have := oG k e; omega))
  replace S2 := hide (S2.out.grownLow A2.out hg (fun k e => by have := oG k e; omega))
  replace HW := hide (HW.out.kept hg (apart_of oW oG (by omega)))
  replace HP := hide (HP.out.kept hg (apart_of oP oG (by omega)))
  replace HQ := hide (HQ.out.kept hg (apart_of oQ oG (by omega)))
  replace HG := hide hm
  replace HB := hide (HB.out.grown hg HB.out.size (fun k e => by have := oG k e; omega))
  clear hg hm
  go_wp2_with fail
  refine (heldB1 (sgn (opZ mulZ n1 xs1 n2 xs2)) aG (lms (opZ mulZ n1 xs1 n2 xs2)).length cG _ (by omega) HG.out.seg).mono ?_
  rintro e w20 ⟨rfl, hbw20⟩
  have qw20 := hbw20.size
  replace k10 := (hbw20.cell (p := ⟨w.heap.size, 0, none⟩) z1).trans k10
  replace k11 := (hbw20.cell (p := ⟨w.heap.size, 1, none⟩) z1).trans k11
  replace z1 := Nat.lt_of_lt_of_le z1 hbw20.size
  replace k20 := (hbw20.cell (p := ⟨w.heap.size + 1, 0, none⟩) z2).trans k20
  replace k21 := (hbw20.cell (p := ⟨w.heap.size + 1, 1, none⟩) z2).trans k21
  replace z2 := Nat.lt_of_lt_of_le z2 hbw20.size
  replace kW0 := (hbw20.cell (p := ⟨NW, 0, none⟩) zW).trans kW0
  replace kW1 := (hbw20.cell (p := ⟨NW, 1, none⟩) zW).trans kW1
  replace zW := Nat.lt_of_lt_of_le zW hbw20.size
  replace kP0 := (hbw20.cell (p := ⟨w5.heap.size, 0, none⟩) zP).trans kP0
  replace kP1 := (hbw20.cell (p := ⟨w5.heap.size, 1, none⟩) zP).trans kP1
  replace zP := Nat.lt_of_lt_of_le zP hbw20.size
  replace kQ0 := (hbw20.cell (p := ⟨w7.heap.size, 0, none⟩) zQ).trans kQ0
  replace kQ1 := (hbw20.cell (p := ⟨w7.heap.size, 1, none⟩) zQ).trans kQ1
  replace zQ := Nat.lt_of_lt_of_le zQ hbw20.size
  replace kG0 := (hbw20.cell (p := ⟨w9.heap.size, 0, none⟩) zG).trans kG0
  replace kG1 := (hbw20.cell (p := ⟨w9.heap.size, 1, none⟩) zG).trans kG1
  replace zG := Nat.lt_of_lt_of_le zG hbw20.size
  replace S1 := hide (S1.out.below hbw20)
  replace S2 := hide (S2.out.below hbw20)
  replace HW := hide (HW.out.below hbw20)
  replace HP := hide (HP.out.below hbw20)
  replace HQ := hide (HQ.out.below hbw20)
  replace HG := hide (HG.out.below hbw20)
  replace HB := hide (bl_trans HB.out hbw20)
  clear hbw20
  go_upto_region 31 with fail
  go_cut [15, 16] (fun sA sB wc => ∃ (N : Nat) (aX : Option Addr) (cX : Nat), sA = .pointer (some ⟨N, 0, none⟩) ∧ sB = .bool (opT mulZ n1 xs1 n2 xs2) ∧ Hid (Res w20 N aX cX (opZ mulZ n1 xs1 n2 xs2) wc))
  case first =>
    go_region_held3 (fun w' => w'.cell? ⟨w.heap.size, 0, none⟩ = some (Value.bool n1) ∧ w'.cell? ⟨w.heap.size, 1, none⟩ = some (Value.slice a1 xs1.length c1) ∧ w'.cell? ⟨w.heap.size + 1, 0, none⟩ = some (Value.bool n2) ∧ w'.cell? ⟨w.heap.size + 1, 1, none⟩ = some (Value.slice a2 xs2.length c2) ∧ Hid (Below w20.heap.size w20 w'))
      (first
        | exact keep4 k10 k11 k20 k21 z1 z2 ((bl_refl w20).drew)
        | exact keep4 k10 k11 k20 k21 z1 z2 (bC)
        | exact keep4 k10 k11 k20 k21 z1 z2 (bB)
        | exact keep4 k10 k11 k20 k21 z1 z2 (bA)
        | exact keep4 k10 k11 k20 k21 z1 z2 (bl_alloc bC _)
        | exact keep4 k10 k11 k20 k21 z1 z2 (bl_alloc bB _)
        | exact keep4 k10 k11 k20 k21 z1 z2 (bl_alloc bA _)
        | exact keep4 k10 k11 k20 k21 z1 z2 (bl_alloc (bl_refl w20).drew _)
        | exact keep4 k10 k11 k20 k21 z1 z2 (Below.setCell (Below.setCell bC (by first | omega | (dsimp only; omega) | (dsimp only; rw [World.size_drew]; omega) | (rw [World.size_drew]; omega)) _) (by first | omega | (dsimp only; omega) | (dsimp only; rw [World.size_drew]; omega) | (rw [World.size_drew]; omega)) _))
      (first
        | (go_at_call_of 33 (Value.agg #[Value.bool n1, Value.slice a1 xs1.length c1]); refine (toB n1 a1 xs1.length c1 xs1 _ (S1.out.below (Hid.out (And.right (And.right (And.right (And.right (by assumption))))))) (by omega)).mono ?_; rintro e wA ⟨uA, rfl, hgA, hbA⟩; have bA : Below w20.heap.size w20 wA := bl_trans (Hid.out (And.right (And.right (And.right (And.right (by assumption)))))) hbA; have qA := bA.size; try (have kn0 : wA.cell? ⟨w20.heap.size, 0, none⟩ = some (.bool false) := (Below.cell hbA (p := ⟨w20.heap.size, 0, none⟩) (by first | omega | (dsimp only; omega) | (dsimp only; rw [World.size_alloc]; omega) | (dsimp only; rw [World.size_alloc, World.size_drew]; omega) | (dsimp only; rw [World.size_drew, World.size_alloc]; omega) | (rw [World.size_drew, World.size_alloc]; omega) | (rw [World.size_alloc]; omega) | (rw [World.size_alloc, World.size_drew]; omega))).trans (by go_simp); have kn1 : wA.cell? ⟨w20.heap.size, 1, none⟩ = some (.slice none 0 0) := (Below.cell hbA (p := ⟨w20.heap.size, 1, none⟩) (by first | omega | (dsimp only; omega) | (dsimp only; rw [World.size_alloc]; omega) | (dsimp only; rw [World.size_alloc, World.size_drew]; omega) | (dsimp only; rw [World.size_drew, World.size_alloc]; omega) | (rw [World.size_drew, World.size_alloc]; omega) | (rw [World.size_alloc]; omega) | (rw [World.size_alloc, World.size_drew]; omega))).trans (by go_simp); have gn0 : wA.frozen? ⟨w20.heap.size, 0, none⟩ = false := (Below.frozen hbA (p := ⟨w20.heap.size, 0, none⟩) (by first | omega | (dsimp only; omega) | (dsimp only; rw [World.size_alloc]; omega) | (dsimp only; rw [World.size_alloc, World.size_drew]; omega) | (dsimp only; rw [World.size_drew, World.size_alloc]; omega) | (rw [World.size_drew, World.size_alloc]; omega) | (rw [World.size_alloc]; omega) | (rw [World.size_alloc, World.size_drew]; omega))).trans (by go_simp); have gn1 : wA.frozen? ⟨w20.heap.size, 1, none⟩ = false := (Below.frozen hbA (p := ⟨w20.heap.size, 1, none⟩) (by first | omega | (dsimp only; omega) | (dsimp only; rw [World.size_alloc]; omega) | (dsimp only; rw [World.size_alloc, World.size_drew]; omega) | (dsimp only; rw [World.size_drew, World.size_alloc]; omega) | (rw [World.size_drew, World.size_alloc]; omega) | (rw [World.size_alloc]; omega) | (rw [World.size_alloc, World.size_drew]; omega))).trans (by go_simp); have zn : w20.heap.size < wA.heap.size := World.block_lt_of_cell? wA ⟨w20.heap.size, 0, none⟩ kn0))
        | (go_at_call_of 33 (Value.agg #[Value.bool n2, Value.slice a2 xs2.length c2]); refine (toB n2 a2 xs2.length c2 xs2 _ (S2.out.below (Hid.out (And.right (And.right (And.right (And.right (by assumption))))))) (by omega)).mono ?_; rintro e wB ⟨uB, rfl, hgB, hbB⟩; have qB : wA.heap.size ≤ wB.heap.size := Nat.le_trans (by first | exact Nat.le_refl _ | (rw [World.size_alloc]; exact Nat.le_succ _)) hbB.size; have bB : Below w20.heap.size w20 wB := bl_trans (Hid.out (And.right (And.right (And.right (And.right (by assumption)))))) hbB; first | (have kn0 := (Below.cell hbB (p := ⟨w20.heap.size, 0, none⟩) (by first | omega | (dsimp only; omega) | (dsimp only; rw [World.size_alloc]; omega) | (dsimp only; rw [World.size_alloc, World.size_drew]; omega) | (dsimp only; rw [World.size_drew, World.size_alloc]; omega) | (rw [World.size_drew, World.size_alloc]; omega) | (rw [World.size_alloc]; omega) | (rw [World.size_alloc, World.size_drew]; omega))).trans kn0; have kn1 := (Below.cell hbB (p := ⟨w20.heap.size, 1, none⟩) (by first | omega | (dsimp only; omega) | (dsimp only; rw [World.size_alloc]; omega) | (dsimp only; rw [World.size_alloc, World.size_drew]; omega) | (dsimp only; rw [World.size_drew, World.size_alloc]; omega) | (rw [World.size_drew, World.size_alloc]; omega) | (rw [World.size_alloc]; omega) | (rw [World.size_alloc, World.size_drew]; omega))).trans kn1; have gn0 := (Below.frozen hbB (p := ⟨w20.heap.size, 0, none⟩) (by first | omega | (dsimp only; omega) | (dsimp only; rw [World.size_alloc]; omega) | (dsimp only; rw [World.size_alloc, World.size_drew]; omega) | (dsimp only; rw [World.size_drew, World.size_alloc]; omega) | (rw [World.size_drew, World.size_alloc]; omega) | (rw [World.size_alloc]; omega) | (rw [World.size_alloc, World.size_drew]; omega))).trans gn0; have gn1 := (Below.frozen hbB (p := ⟨w20.heap.size, 1, none⟩) (by first | omega | (dsimp only; omega) | (dsimp only; rw [World.size_alloc]; omega) | (dsimp only; rw [World.size_alloc, World.size_drew]; omega) | (dsimp only; rw [World.size_drew, World.size_alloc]; omega) | (rw [World.size_drew, World.size_alloc]; omega) | (rw [World.size_alloc]; omega) | (rw [World.size_alloc, World.size_drew]; omega))).trans gn1) | (have kn0 : wB.cell? ⟨wA.heap.size, 0, none⟩ = some (.bool false) := (Below.cell hbB (p := ⟨wA.heap.size, 0, none⟩) (by first | omega | (dsimp only; omega) | (dsimp only; rw [World.size_alloc]; omega) | (dsimp only; rw [World.size_alloc, World.size_drew]; omega) | (dsimp only; rw [World.size_drew, World.size_alloc]; omega) | (rw [World.size_drew, World.size_alloc]; omega) | (rw [World.size_alloc]; omega) | (rw [World.size_alloc, World.size_drew]; omega))).trans (by go_simp); have kn1 : wB.cell? ⟨wA.heap.size, 1, none⟩ = some (.slice none 0 0) := (Below.cell hbB (p := ⟨wA.heap.size, 1, none⟩) (by first | omega | (dsimp only; omega) | (dsimp only; rw [World.size_alloc]; omega) | (dsimp only; rw [World.size_alloc, World.size_drew]; omega) | (dsimp only; rw [World.size_drew, World.size_alloc]; omega) | (rw [World.size_drew, World.size_alloc]; omega) | (rw [World.size_alloc]; omega) | (rw [World.size_alloc, World.size_drew]; omega))).trans (by go_simp); have gn0 : wB.frozen? ⟨wA.heap.size, 0, none⟩ = false := (Below.frozen hbB (p := ⟨wA.heap.size, 0, none⟩) (by first | omega | (dsimp only; omega) | (dsimp only; rw [World.size_alloc]; omega) | (dsimp only; rw [World.size_alloc, World.size_drew]; omega) | (dsimp only; rw [World.size_drew, World.size_alloc]; omega) | (rw [World.size_drew, World.size_alloc]; omega) | (rw [World.size_alloc]; omega) | (rw [World.size_alloc, World.size_drew]; omega))).trans (by go_simp); have gn1 : wB.frozen? ⟨wA.heap.size, 1, none⟩ = false := (Below.frozen hbB (p := ⟨wA.heap.size, 1, none⟩) (by first | omega | (dsimp only; omega) | (dsimp only; rw [World.size_alloc]; omega) | (dsimp only; rw [World.size_alloc, World.size_drew]; omega) | (dsimp only; rw [World.size_drew, World.size_alloc]; omega) | (rw [World.size_drew, World.size_alloc]; omega) | (rw [World.size_alloc]; omega) | (rw [World.size_alloc, World.size_drew]; omega))).trans (by go_simp); have zn : wA.heap.size < wB.heap.size := World.block_lt_of_cell? wB ⟨wA.heap.size, 0, none⟩ kn0) | skip)
        | (go_at_call 24; refine (MulP uA uB n1 n2 xs1 xs2 _ ?_ ?_).mono ?_; (first | exact hgA.raw.below hbB | exact (hgA.raw.below (bl_alloc (bl_refl _) _)).below hbB | exact (hgA.raw.below hbB).below (bl_alloc (bl_refl _) _)); (first | exact hgB.raw | exact hgB.raw.below (bl_alloc (bl_refl _) _)); rintro e wC ⟨vC, rfl, hnC, hbC⟩; obtain ⟨aC, cC, rfl, hoC⟩ := hnC; have qC : wB.heap.size ≤ wC.heap.size := Nat.le_trans (by first | exact Nat.le_refl _ | (rw [World.size_alloc]; exact Nat.le_succ _)) hbC.size; have bC : Below w20.heap.size w20 wC := bl_trans (Hid.out (And.right (And.right (And.right (And.right (by assumption)))))) hbC; first | (have kn0 := (Below.cell hbC (p := ⟨w20.heap.size, 0, none⟩) (by first | omega | (dsimp only; omega) | (dsimp only; rw [World.size_alloc]; omega) | (dsimp only; rw [World.size_alloc, World.size_drew]; omega) | (dsimp only; rw [World.size_drew, World.size_alloc]; omega) | (rw [World.size_drew, World.size_alloc]; omega) | (rw [World.size_alloc]; omega) | (rw [World.size_alloc, World.size_drew]; omega))).trans kn0; have kn1 := (Below.cell hbC (p := ⟨w20.heap.size, 1, none⟩) (by first | omega | (dsimp only; omega) | (dsimp only; rw [World.size_alloc]; omega) | (dsimp only; rw [World.size_alloc, World.size_drew]; omega) | (dsimp only; rw [World.size_drew, World.size_alloc]; omega) | (rw [World.size_drew, World.size_alloc]; omega) | (rw [World.size_alloc]; omega) | (rw [World.size_alloc, World.size_drew]; omega))).trans kn1; have gn0 := (Below.frozen hbC (p := ⟨w20.heap.size, 0, none⟩) (by first | omega | (dsimp only; omega) | (dsimp only; rw [World.size_alloc]; omega) | (dsimp only; rw [World.size_alloc, World.size_drew]; omega) | (dsimp only; rw [World.size_drew, World.size_alloc]; omega) | (rw [World.size_drew, World.size_alloc]; omega) | (rw [World.size_alloc]; omega) | (rw [World.size_alloc, World.size_drew]; omega))).trans gn0; have gn1 := (Below.frozen hbC (p := ⟨w20.heap.size, 1, none⟩) (by first | omega | (dsimp only; omega) | (dsimp only; rw [World.size_alloc]; omega) | (dsimp only; rw [World.size_alloc, World.size_drew]; omega) | (dsimp only; rw [World.size_drew, World.size_alloc]; omega) | (rw [World.size_drew, World.size_alloc]; omega) | (rw [World.size_alloc]; omega) | (rw [World.size_alloc, World.size_drew]; omega))).trans gn1) | (have kn0 := (Below.cell hbC (p := ⟨wA.heap.size, 0, none⟩) (by first | omega | (dsimp only; omega) | (dsimp only; rw [World.size_alloc]; omega) | (dsimp only; rw [World.size_alloc, World.size_drew]; omega) | (dsimp only; rw [World.size_drew, World.size_alloc]; omega) | (rw [World.size_drew, World.size_alloc]; omega) | (rw [World.size_alloc]; omega) | (rw [World.size_alloc, World.size_drew]; omega))).trans kn0; have kn1 := (Below.cell hbC (p := ⟨wA.heap.size, 1, none⟩) (by first | omega | (dsimp only; omega) | (dsimp only; rw [World.size_alloc]; omega) | (dsimp only; rw [World.size_alloc, World.size_drew]; omega) | (dsimp only; rw [World.size_drew, World.size_alloc]; omega) | (rw [World.size_drew, World.size_alloc]; omega) | (rw [World.size_alloc]; omega) | (rw [World.size_alloc, World.size_drew]; omega))).trans kn1; have gn0 := (Below.frozen hbC (p := ⟨wA.heap.size, 0, none⟩) (by first | omega | (dsimp only; omega) | (dsimp only; rw [World.size_alloc]; omega) | (dsimp only; rw [World.size_alloc, World.size_drew]; omega) | (dsimp only; rw [World.size_drew, World.size_alloc]; omega) | (rw [World.size_drew, World.size_alloc]; omega) | (rw [World.size_alloc]; omega) | (rw [World.size_alloc, World.size_drew]; omega))).trans gn0; have gn1 := (Below.frozen hbC (p := ⟨wA.heap.size, 1, none⟩) (by first | omega | (dsimp only; omega) | (dsimp only; rw [World.size_alloc]; omega) | (dsimp only; rw [World.size_alloc, World.size_drew]; omega) | (dsimp only; rw [World.size_drew, World.size_alloc]; omega) | (rw [World.size_drew, World.size_alloc]; omega) | (rw [World.size_alloc]; omega) | (rw [World.size_alloc, World.size_drew]; omega))).trans gn1) | (have kn0 : wC.cell? ⟨wB.heap.size, 0, none⟩ = some (.bool false) := (Below.cell hbC (p := ⟨wB.heap.size, 0, none⟩) (by first | omega | (dsimp only; omega) | (dsimp only; rw [World.size_alloc]; omega) | (dsimp only; rw [World.size_alloc, World.size_drew]; omega) | (dsimp only; rw [World.size_drew, World.size_alloc]; omega) | (rw [World.size_drew, World.size_alloc]; omega) | (rw [World.size_alloc]; omega) | (rw [World.size_alloc, World.size_drew]; omega))).trans (by go_simp); have kn1 : wC.cell? ⟨wB.heap.size, 1, none⟩ = some (.slice none 0 0) := (Below.cell hbC (p := ⟨wB.heap.size, 1, none⟩) (by first | omega | (dsimp only; omega) | (dsimp only; rw [World.size_alloc]; omega) | (dsimp only; rw [World.size_alloc, World.size_drew]; omega) | (dsimp only; rw [World.size_drew, World.size_alloc]; omega) | (rw [World.size_drew, World.size_alloc]; omega) | (rw [World.size_alloc]; omega) | (rw [World.size_alloc, World.size_drew]; omega))).trans (by go_simp); have gn0 : wC.frozen? ⟨wB.heap.size, 0, none⟩ = false := (Below.frozen hbC (p := ⟨wB.heap.size, 0, none⟩) (by first | omega | (dsimp only; omega) | (dsimp only; rw [World.size_alloc]; omega) | (dsimp only; rw [World.size_alloc, World.size_drew]; omega) | (dsimp only; rw [World.size_drew, World.size_alloc]; omega) | (rw [World.size_drew, World.size_alloc]; omega) | (rw [World.size_alloc]; omega) | (rw [World.size_alloc, World.size_drew]; omega))).trans (by go_simp); have gn1 : wC.frozen? ⟨wB.heap.size, 1, none⟩ = false := (Below.frozen hbC (p := ⟨wB.heap.size, 1, none⟩) (by first | omega | (dsimp only; omega) | (dsimp only; rw [World.size_alloc]; omega) | (dsimp only; rw [World.size_alloc, World.size_drew]; omega) | (dsimp only; rw [World.size_drew, World.size_alloc]; omega) | (rw [World.size_drew, World.size_alloc]; omega) | (rw [World.size_alloc]; omega) | (rw [World.size_alloc, World.size_drew]; omega))).trans (by go_simp); have zn : wB.heap.size < wC.heap.size := World.block_lt_of_cell? wC ⟨wB.heap.size, 0, none⟩ kn0) | skip))
    all_goals (clear hgA hgB)
    all_goals (go_wp2_with fail; go_meet)
    all_goals first
      | exact ⟨_, aC, cC, rfl, rfl, hide (res_behind hoC bC (by first | omega | (dsimp only; omega) | (dsimp only; rw [World.size_alloc]; omega) | (dsimp only; rw [World.size_alloc, World.size_drew]; omega) | (dsimp only; rw [World.size_drew, World.size_alloc]; omega) | (rw [World.size_drew, World.size_alloc]; omega) | (rw [World.size_alloc]; omega) | (rw [World.size_alloc, World.size_drew]; omega)))⟩
      | exact ⟨_, aC, cC, rfl, rfl, hide (res_ahead rfl hoC (by first | omega | (dsimp only; omega) | (dsimp only; rw [World.size_alloc]; omega) | (dsimp only; rw [World.size_alloc, World.size_drew]; omega) | (dsimp only; rw [World.size_drew, World.size_alloc]; omega) | (rw [World.size_drew, World.size_alloc]; omega) | (rw [World.size_alloc]; omega) | (rw [World.size_alloc, World.size_drew]; omega)) (by first | omega | (dsimp only; omega) | (dsimp only; rw [World.size_alloc]; omega) | (dsimp only; rw [World.size_alloc, World.size_drew]; omega) | (dsimp only; rw [World.size_drew, World.size_alloc]; omega) | (rw [World.size_drew, World.size_alloc]; omega) | (rw [World.size_alloc]; omega) | (rw [World.size_alloc, World.size_drew]; omega)) bC (by first | omega | (dsimp only; omega) | (dsimp only; rw [World.size_alloc]; omega) | (dsimp only; rw [World.size_alloc, World.size_drew]; omega) | (dsimp only; rw [World.size_drew, World.size_alloc]; omega) | (rw [World.size_drew, World.size_alloc]; omega) | (rw [World.size_alloc]; omega) | (rw [World.size_alloc, World.size_drew]; omega)) ⟨_, kn0⟩ ⟨_, kn1⟩ (by first | omega | (dsimp only; omega) | (dsimp only; rw [World.size_alloc]; omega) | (dsimp only; rw [World.size_alloc, World.size_drew]; omega) | (dsimp only; rw [World.size_drew, World.size_alloc]; omega) | (rw [World.size_drew, World.size_alloc]; omega) | (rw [World.size_alloc]; omega) | (rw [World.size_alloc, World.size_drew]; omega)))⟩
  case rest =>
  obtain ⟨NV, aV, cV, rfl, rfl, hres⟩ := hcut
  obtain ⟨r1, r2, r3, r4, r5, r6⟩ := hres.out
  clear hres
  rename World => w21
  have qV := r6.size
  replace k10 := (r6.cell (p := ⟨w.heap.size, 0, none⟩) z1).trans k10
  replace k11 := (r6.cell (p := ⟨w.heap.size, 1, none⟩) z1).trans k11
  replace z1 := Nat.lt_of_lt_of_le z1 r6.size
  replace k20 := (r6.cell (p := ⟨w.heap.size + 1, 0, none⟩) z2).trans k20
  replace k21 := (r6.cell (p := ⟨w.heap.size + 1, 1, none⟩) z2).trans k21
  replace z2 := Nat.lt_of_lt_of_le z2 r6.size
  replace kW0 := (r6.cell (p := ⟨NW, 0, none⟩) zW).trans kW0
  replace kW1 := (r6.cell (p := ⟨NW, 1, none⟩) zW).trans kW1
  replace zW := Nat.lt_of_lt_of_le zW r6.size
  replace kP0 := (r6.cell (p := ⟨w5.heap.size, 0, none⟩) zP).trans kP0
  replace kP1 := (r6.cell (p := ⟨w5.heap.size, 1, none⟩) zP).trans kP1
  replace zP := Nat.lt_of_lt_of_le zP r6.size
  replace kQ0 := (r6.cell (p := ⟨w7.heap.size, 0, none⟩) zQ).trans kQ0
  replace kQ1 := (r6.cell (p := ⟨w7.heap.size, 1, none⟩) zQ).trans kQ1
  replace zQ := Nat.lt_of_lt_of_le zQ r6.size
  replace kG0 := (r6.cell (p := ⟨w9.heap.size, 0, none⟩) zG).trans kG0
  replace kG1 := (r6.cell (p := ⟨w9.heap.size, 1, none⟩) zG).trans kG1
  replace zG := Nat.lt_of_lt_of_le zG r6.size
  replace S1 := hide (S1.out.below r6)
  replace S2 := hide (S2.out.below r6)
  replace HW := hide (HW.out.below r6)
  replace HP := hide (HP.out.below r6)
  replace HQ := hide (HQ.out.below r6)
  replace HG := hide (HG.out.below r6)
  replace HB := hide (bl_trans HB.out r6)
  have kV0 := r3
  have kV1 := r4
  have zV := r2
  have yV := r2
  have oV : ∀ k, (Value.slice aV (lms (opZ mulZ n1 xs1 n2 xs2)).length cV).ownBlock = some k → w20.heap.size ≤ k ∧ k < w21.heap.size := fun k e => r5.1.lt k e
  have HV := hide r5
  have nV := r1
  clear r3 r4 r5 r6 r2 r1
  go_wp2_with fail
  refine (eqB _ _ (sgn (opZ mulZ n1 xs1 n2 xs2)) (lms (opZ mulZ n1 xs1 n2 xs2)) _ ⟨aV, cV, rfl, HV.out.seg⟩ ⟨aW, cW, rfl, HW.out.seg⟩).mono ?_
  rintro e w22 ⟨rfl, hbw22⟩
  have qw22 := hbw22.size
  replace k10 := (hbw22.cell (p := ⟨w.heap.size, 0, none⟩) z1).trans k10
  replace k11 := (hbw22.cell (p := ⟨w.heap.size, 1, none⟩) z1).trans k11
  replace z1 := Nat.lt_of_lt_of_le z1 hbw22.size
  replace k20 := (hbw22.cell (p := ⟨w.heap.size + 1, 0, none⟩) z2).trans k20
  replace k21 := (hbw22.cell (p := ⟨w.heap.size + 1, 1, none⟩) z2).trans k21
  replace z2 := Nat.lt_of_lt_of_le z2 hbw22.size
  replace kW0 := (hbw22.cell (p := ⟨NW, 0, none⟩) zW).trans kW0
  replace kW1 := (hbw22.cell (p := ⟨NW, 1, none⟩) zW).trans kW1
  replace zW := Nat.lt_of_lt_of_le zW hbw22.size
  replace kP0 := (hbw22.cell (p := ⟨w5.heap.size, 0, none⟩) zP).trans kP0
  replace kP1 := (hbw22.cell (p := ⟨w5.heap.size, 1, none⟩) zP).trans kP1
  replace zP := Nat.lt_of_lt_of_le zP hbw22.size
  replace kQ0 := (hbw22.cell (p := ⟨w7.heap.size, 0, none⟩) zQ).trans kQ0
  replace kQ1 := (hbw22.cell (p := ⟨w7.heap.size, 1, none⟩) zQ).trans kQ1
  replace zQ := Nat.lt_of_lt_of_le zQ hbw22.size
  replace kG0 := (hbw22.cell (p := ⟨w9.heap.size, 0, none⟩) zG).trans kG0
  replace kG1 := (hbw22.cell (p := ⟨w9.heap.size, 1, none⟩) zG).trans kG1
  replace zG := Nat.lt_of_lt_of_le zG hbw22.size
  replace kV0 := (hbw22.cell (p := ⟨NV, 0, none⟩) zV).trans kV0
  replace kV1 := (hbw22.cell (p := ⟨NV, 1, none⟩) zV).trans kV1
  replace zV := Nat.lt_of_lt_of_le zV hbw22.size
  replace S1 := hide (S1.out.below hbw22)
  replace S2 := hide (S2.out.below hbw22)
  replace HW := hide (HW.out.below hbw22)
  replace HP := hide (HP.out.below hbw22)
  replace HQ := hide (HQ.out.below hbw22)
  replace HG := hide (HG.out.below hbw22)
  replace HV := hide (HV.out.below hbw22)
  replace HB := hide (bl_trans HB.out hbw22)
  clear hbw22
  go_wp2_with fail
  refine (heldB1 (sgn (opZ mulZ n1 xs1 n2 xs2)) aG (lms (opZ mulZ n1 xs1 n2 xs2)).length cG _ (by omega) HG.out.seg).mono ?_
  rintro e w23 ⟨rfl, hbw23⟩
  have qw23 := hbw23.size
  replace k10 := (hbw23.cell (p := ⟨w.heap.size, 0, none⟩) z1).trans k10
  replace k11 := (hbw23.cell (p := ⟨w.heap.size, 1, none⟩) z1).trans k11
  replace z1 := Nat.lt_of_lt_of_le z1 hbw23.size
  replace k20 := (hbw23.cell (p := ⟨w.heap.size + 1, 0, none⟩) z2).trans k20
  replace k21 := (hbw23.cell (p := ⟨w.heap.size + 1, 1, none⟩) z2).trans k21
  replace z2 := Nat.lt_of_lt_of_le z2 hbw23.size
  replace kW0 := (hbw23.cell (p := ⟨NW, 0, none⟩) zW).trans kW0
  replace kW1 := (hbw23.cell (p := ⟨NW, 1, none⟩) zW).trans kW1
  replace zW := Nat.lt_of_lt_of_le zW hbw23.size
  replace kP0 := (hbw23.cell (p := ⟨w5.heap.size, 0, none⟩) zP).trans kP0
  replace kP1 := (hbw23.cell (p := ⟨w5.heap.size, 1, none⟩) zP).trans kP1
  replace zP := Nat.lt_of_lt_of_le zP hbw23.size
  replace kQ0 := (hbw23.cell (p := ⟨w7.heap.size, 0, none⟩) zQ).trans kQ0
  replace kQ1 := (hbw23.cell (p := ⟨w7.heap.size, 1, none⟩) zQ).trans kQ1
  replace zQ := Nat.lt_of_lt_of_le zQ hbw23.size
  replace kG0 := (hbw23.cell (p := ⟨w9.heap.size, 0, none⟩) zG).trans kG0
  replace kG1 := (hbw23.cell (p := ⟨w9.heap.size, 1, none⟩) zG).trans kG1
  replace zG := Nat.lt_of_lt_of_le zG hbw23.size
  replace kV0 := (hbw23.cell (p := ⟨NV, 0, none⟩) zV).trans kV0
  replace kV1 := (hbw23.cell (p := ⟨NV, 1, none⟩) zV).trans kV1
  replace zV := Nat.lt_of_lt_of_le zV hbw23.size
  replace S1 := hide (S1.out.below hbw23)
  replace S2 := hide (S2.out.below hbw23)
  replace HW := hide (HW.out.below hbw23)
  replace HP := hide (HP.out.below hbw23)
  replace HQ := hide (HQ.out.below hbw23)
  replace HG := hide (HG.out.below hbw23)
  replace HV := hide (HV.out.below hbw23)
  replace HB := hide (bl_trans HB.out hbw23)
  clear hbw23
  go_wp2
  go_ret
  exact ⟨rfl, HB.out⟩
end Go.Proofs.Ytkipaekgcpklcaa
