/- The walk of the exact law of FromInt. -/
import Derived.Test.YtkipaekgcpklcaaFrom
namespace Go.Proofs.Ytkipaekgcpklcaa
open Go.RowKit
set_option linter.unusedVariables false

set_option maxHeartbeats 4000000 in
set_option maxRecDepth 20000 in
theorem walk6 (n : Int) (w : World) (h1 : -9223372036854775808 ≤ n) (h2 : n ≤ 9223372036854775807) :
    Calls Try.prog 6 #[.int .i64 n] w fun e w' => e = .returned (.bool true) ∧ Below w.heap.size w w' := by
  have hL : (lms n).length ≤ 2 := Num.limbs_len.2 (by omega)
  go_enter Try.func6, Try.ntmps6
  go_wp2_with fail
  refine (fromS n _ h1 h2).mono ?_
  rintro e w1 ⟨v1, rfl, ⟨a1, c1, rfl, ho1⟩, hbw1⟩
  have qw1 := hbw1.size
  have HB := hide hbw1
  clear hbw1
  have o1 : ∀ k, (Value.slice a1 (lms n).length c1).ownBlock = some k → w.heap.size ≤ k ∧ k < w1.heap.size := fun k e => ho1.1.lt k e
  have H1 := hide ho1
  clear ho1
  go_wp2_with fail
  have kA0 : (w1.alloc (Obj.cells #[Value.bool (sgn n), Value.slice a1 (lms n).length c1] 26)).cell? ⟨w1.heap.size, 0, none⟩ = some (Value.bool (sgn n)) := by go_simp
  have kA1 : (w1.alloc (Obj.cells #[Value.bool (sgn n), Value.slice a1 (lms n).length c1] 26)).cell? ⟨w1.heap.size, 1, none⟩ = some (Value.slice a1 (lms n).length c1) := by go_simp
  have zA : w1.heap.size < (w1.alloc (Obj.cells #[Value.bool (sgn n), Value.slice a1 (lms n).length c1] 26)).heap.size := by simp only [World.size_alloc]; omega
  have qw2 := zA
  have hbw2 := bl_alloc (bl_refl w1) (Obj.cells #[Value.bool (sgn n), Value.slice a1 (lms n).length c1] 26)
  generalize w1.alloc (Obj.cells #[Value.bool (sgn n), Value.slice a1 (lms n).length c1] 26) = w2 at *
  replace H1 := hide (H1.out.below hbw2)
  replace HB := hide (bl_trans HB.out hbw2)
  clear hbw2
  refine (fromI n _ h1 h2).mono ?_
  rintro e w3 ⟨v3, rfl, ⟨a3, c3, rfl, ho3⟩, hbw3⟩
  have qw3 := hbw3.size
  replace kA0 := (hbw3.cell (p := ⟨w1.heap.size, 0, none⟩) zA).trans kA0
  replace kA1 := (hbw3.cell (p := ⟨w1.heap.size, 1, none⟩) zA).trans kA1
  replace zA := Nat.lt_of_lt_of_le zA hbw3.size
  replace H1 := hide (H1.out.below hbw3)
  replace HB := hide (bl_trans HB.out hbw3)
  clear hbw3
  have o3 : ∀ k, (Value.slice a3 (lms n).length c3).ownBlock = some k → w2.heap.size ≤ k ∧ k < w3.heap.size := fun k e => ho3.1.lt k e
  have H3 := hide ho3
  clear ho3
  go_wp2_with fail
  have kB0 : (w3.alloc (Obj.cells #[Value.bool (sgn n), Value.slice a3 (lms n).length c3] 26)).cell? ⟨w3.heap.size, 0, none⟩ = some (Value.bool (sgn n)) := by go_simp
  have kB1 : (w3.alloc (Obj.cells #[Value.bool (sgn n), Value.slice a3 (lms n).length c3] 26)).cell? ⟨w3.heap.size, 1, none⟩ = some (Value.slice a3 (lms n).length c3) := by go_simp
  have zB : w3.heap.size < (w3.alloc (Obj.cells #[Value.bool (sgn n), Value.slice a3 (lms n).length c3] 26)).heap.size := by simp only [World.size_alloc]; omega
  have qw4 := zB
  have hbw4 := bl_alloc (bl_refl w3) (Obj.cells #[Value.bool (sgn n), Value.slice a3 (lms n).length c3] 26)
  generalize w3.alloc (Obj.cells #[Value.bool (sgn n), Value.slice a3 (lms n).length c3] 26) = w4 at *
  replace kA0 := (hbw4.cell (p := ⟨w1.heap.size, 0, none⟩) zA).trans kA0
  replace kA1 := (hbw4.cell (p := ⟨w1.heap.size, 1, none⟩) zA).trans kA1
  replace zA := Nat.lt_of_lt_of_le zA hbw4.size
  replace H1 := hide (H1.out.below hbw4)
  replace H3 := hide (H3.out.below hbw4)
  replace HB := hide (bl_trans HB.out hbw4)
  clear hbw4
  refine (eqB _ _ (sgn n) (lms n) _ ⟨a3, c3, rfl, H3.out.seg⟩ ⟨a1, c1, rfl, H1.out.seg⟩).mono ?_
  rintro e w5 ⟨rfl, hbw5⟩
  have qw5 := hbw5.size
  replace kA0 := (hbw5.cell (p := ⟨w1.heap.size, 0, none⟩) zA).trans kA0
  replace kA1 := (hbw5.cell (p := ⟨w1.heap.size, 1, none⟩) zA).trans kA1
  replace zA := Nat.lt_of_lt_of_le zA hbw5.size
  replace kB0 := (hbw5.cell (p := ⟨w3.heap.size, 0, none⟩) zB).trans kB0
  replace kB1 := (hbw5.cell (p := ⟨w3.heap.size, 1, none⟩) zB).trans kB1
  replace zB := Nat.lt_of_lt_of_le zB hbw5.size
  replace H1 := hide (H1.out.below hbw5)
  replace H3 := hide (H3.out.below hbw5)
  replace HB := hide (bl_trans HB.out hbw5)
  clear hbw5
  go_wp2_with fail
  refine (markB1 (sgn n) a3 (lms n).length c3 (lms n) _ _ (by omega) H3.out).mono ?_
  rintro e w6 ⟨rfl, hm, hg⟩
  have qw6 := hg.size
  replace kA0 := hg.cell kA0 (fun e => by have := o3 _ e.symm; dsimp only at this; omega)
  replace kA1 := hg.cell kA1 (fun e => by have := o3 _ e.symm; dsimp only at this; omega)
  replace zA := Nat.lt_of_lt_of_le zA qw6
  replace kB0 := hg.cell kB0 (fun e => by have := o3 _ e.symm; dsimp only at this; omega)
  replace kB1 := hg.cell kB1 (fun e => by have := o3 _ e.symm; dsimp only at this; omega)
  replace zB := Nat.lt_of_lt_of_le zB qw6
  replace H1 := hide (H1.out.kept hg (apart_of o1 o3 (by omega)))
  replace H3 := hide hm
  replace HB := hide (HB.out.grown hg HB.out.size (fun k e => by have := o3 k e; omega))
  clear hg hm
  go_wp2_with fail
  refine (heldB1 (sgn n) a3 (lms n).length c3 _ (by omega) H3.out.seg).mono ?_
  rintro e w7 ⟨rfl, hbw7⟩
  have qw7 := hbw7.size
  replace kA0 := (hbw7.cell (p := ⟨w1.heap.size, 0, none⟩) zA).trans kA0
  replace kA1 := (hbw7.cell (p := ⟨w1.heap.size, 1, none⟩) zA).trans kA1
  replace zA := Nat.lt_of_lt_of_le zA hbw7.size
  replace kB0 := (hbw7.cell (p := ⟨w3.heap.size, 0, none⟩) zB).trans kB0
  replace kB1 := (hbw7.cell (p := ⟨w3.heap.size, 1, none⟩) zB).trans kB1
  replace zB := Nat.lt_of_lt_of_le zB hbw7.size
  replace H1 := hide (H1.out.below hbw7)
  replace H3 := hide (H3.out.below hbw7)
  replace HB := hide (bl_trans HB.out hbw7)
  clear hbw7
  go_wp2_with fail
  refine (fromI n _ h1 h2).mono ?_
  rintro e w8 ⟨v8, rfl, ⟨a8, c8, rfl, ho8⟩, hbw8⟩
  have qw8 := hbw8.size
  replace kA0 := (hbw8.cell (p := ⟨w1.heap.size, 0, none⟩) zA).trans kA0
  replace kA1 := (hbw8.cell (p := ⟨w1.heap.size, 1, none⟩) zA).trans kA1
  replace zA := Nat.lt_of_lt_of_le zA hbw8.size
  replace kB0 := (hbw8.cell (p := ⟨w3.heap.size, 0, none⟩) zB).trans kB0
  replace kB1 := (hbw8.cell (p := ⟨w3.heap.size, 1, none⟩) zB).trans kB1
  replace zB := Nat.lt_of_lt_of_le zB hbw8.size
  replace H1 := hide (H1.out.below hbw8)
  replace H3 := hide (H3.out.below hbw8)
  replace HB := hide (bl_trans HB.out hbw8)
  clear hbw8
  have o8 : ∀ k, (Value.slice a8 (lms n).length c8).ownBlock = some k → w7.heap.size ≤ k ∧ k < w8.heap.size := fun k e => ho8.1.lt k e
  have H8 := hide ho8
  clear ho8
  go_wp2_with fail
  have kC0 : (w8.alloc (Obj.cells #[Value.bool (sgn n), Value.slice a8 (lms n).length c8] 26)).cell? ⟨w8.heap.size, 0, none⟩ = some (Value.bool (sgn n)) := by go_simp
  have kC1 : (w8.alloc (Obj.cells #[Value.bool (sgn n), Value.slice a8 (lms n).length c8] 26)).cell? ⟨w8.heap.size, 1, none⟩ = some (Value.slice a8 (lms n).length c8) := by go_simp
  have zC : w8.heap.size < (w8.alloc (Obj.cells #[Value.bool (sgn n), Value.slice a8 (lms n).length c8] 26)).heap.size := by simp only [World.size_alloc]; omega
  have qw9 := zC
  have hbw9 := bl_alloc (bl_refl w8) (Obj.cells #[Value.bool (sgn n), Value.slice a8 (lms n).length c8] 26)
  generalize w8.alloc (Obj.cells #[Value.bool (sgn n), Value.slice a8 (lms n).length c8] 26) = w9 at *
  replace kA0 := (hbw9.cell (p := ⟨w1.heap.size, 0, none⟩) zA).trans kA0
  replace kA1 := (hbw9.cell (p := ⟨w1.heap.size, 1, none⟩) zA).trans kA1
  replace zA := Nat.lt_of_lt_of_le zA hbw9.size
  replace kB0 := (hbw9.cell (p := ⟨w3.heap.size, 0, none⟩) zB).trans kB0
  replace kB1 := (hbw9.cell (p := ⟨w3.heap.size, 1, none⟩) zB).trans kB1
  replace zB := Nat.lt_of_lt_of_le zB hbw9.size
  replace H1 := hide (H1.out.below hbw9)
  replace H3 := hide (H3.out.below hbw9)
  replace H8 := hide (H8.out.below hbw9)
  replace HB := hide (bl_trans HB.out hbw9)
  clear hbw9
  refine (eqB _ _ (sgn n) (lms n) _ ⟨a8, c8, rfl, H8.out.seg⟩ ⟨a1, c1, rfl, H1.out.seg⟩).mono ?_
  rintro e w10 ⟨rfl, hbw10⟩
  have qw10 := hbw10.size
  replace kA0 := (hbw10.cell (p := ⟨w1.heap.size, 0, none⟩) zA).trans kA0
  replace kA1 := (hbw10.cell (p := ⟨w1.heap.size, 1, none⟩) zA).trans kA1
  replace zA := Nat.lt_of_lt_of_le zA hbw10.size
  replace kB0 := (hbw10.cell (p := ⟨w3.heap.size, 0, none⟩) zB).trans kB0
  replace kB1 := (hbw10.cell (p := ⟨w3.heap.size, 1, none⟩) zB).trans kB1
  replace zB := Nat.lt_of_lt_of_le zB hbw10.size
  replace kC0 := (hbw10.cell (p := ⟨w8.heap.size, 0, none⟩) zC).trans kC0
  replace kC1 := (hbw10.cell (p := ⟨w8.heap.size, 1, none⟩) zC).trans kC1
  replace zC := Nat.lt_of_lt_of_le zC hbw10.size
  replace H1 := hide (H1.out.below hbw10)
  replace H3 := hide (H3.out.below hbw10)
  replace H8 := hide (H8.out.below hbw10)
  replace HB := hide (bl_trans HB.out hbw10)
  clear hbw10
  go_wp2_with fail
  refine (heldB1 (sgn n) a3 (lms n).length c3 _ (by omega) H3.out.seg).mono ?_
  rintro e w11 ⟨rfl, hbw11⟩
  have qw11 := hbw11.size
  replace kA0 := (hbw11.cell (p := ⟨w1.heap.size, 0, none⟩) zA).trans kA0
  replace kA1 := (hbw11.cell (p := ⟨w1.heap.size, 1, none⟩) zA).trans kA1
  replace zA := Nat.lt_of_lt_of_le zA hbw11.size
  replace kB0 := (hbw11.cell (p := ⟨w3.heap.size, 0, none⟩) zB).trans kB0
  replace kB1 := (hbw11.cell (p := ⟨w3.heap.size, 1, none⟩) zB).trans kB1
  replace zB := Nat.lt_of_lt_of_le zB hbw11.size
  replace kC0 := (hbw11.cell (p := ⟨w8.heap.size, 0, none⟩) zC).trans kC0
  replace kC1 := (hbw11.cell (p := ⟨w8.heap.size, 1, none⟩) zC).trans kC1
  replace zC := Nat.lt_of_lt_of_le zC hbw11.size
  replace H1 := hide (H1.out.below hbw11)
  replace H3 := hide (H3.out.below hbw11)
  replace H8 := hide (H8.out.below hbw11)
  replace HB := hide (bl_trans HB.out hbw11)
  clear hbw11
  go_wp2
  go_ret
  exact ⟨rfl, HB.out⟩
end Go.Proofs.Ytkipaekgcpklcaa
