/- The walk of powersOf. -/
import Derived.Test.YtkfiidldappdcaaPlOf
namespace Go.Proofs.Ytkfiidldappdcaa
open Go.RowKit
set_option linter.unusedVariables false

set_option maxHeartbeats 400000 in
theorem powersOf_no (den : Int) (a : Option Addr) (n cap : Nat) (w : World) (h : 8 < n) (hn : n ≤ 9223372036854775807) :
    Calls Try.prog 63 #[.agg #[.int .i64 den, .slice a n cap]] w fun e w' => e = .returned (.tuple #[Value.agg #[Value.int .i64 0, Value.int .i64 0, Value.int .i64 0, Value.int .i64 0, Value.int .i64 0, Value.int .i64 0, Value.int .i64 0, Value.int .i64 0, Value.int .i64 0, Value.int .i64 den], .bool false]) ∧ Below w.heap.size w w' := by
  have kv0 : ((w.alloc (Obj.cells #[Value.int .i64 den, Value.slice a n cap] 29)).alloc (Obj.cells #[Value.int .i64 0, Value.int .i64 0, Value.int .i64 0, Value.int .i64 0, Value.int .i64 0, Value.int .i64 0, Value.int .i64 0, Value.int .i64 0, Value.int .i64 0, Value.int .i64 0] 67)).cell? ⟨w.heap.size, 0, none⟩ = some (Value.int .i64 den) := by go_simp
  have kv1 : ((w.alloc (Obj.cells #[Value.int .i64 den, Value.slice a n cap] 29)).alloc (Obj.cells #[Value.int .i64 0, Value.int .i64 0, Value.int .i64 0, Value.int .i64 0, Value.int .i64 0, Value.int .i64 0, Value.int .i64 0, Value.int .i64 0, Value.int .i64 0, Value.int .i64 0] 67)).cell? ⟨w.heap.size, 1, none⟩ = some (Value.slice a n cap) := by go_simp
  have zv : w.heap.size < ((w.alloc (Obj.cells #[Value.int .i64 den, Value.slice a n cap] 29)).alloc (Obj.cells #[Value.int .i64 0, Value.int .i64 0, Value.int .i64 0, Value.int .i64 0, Value.int .i64 0, Value.int .i64 0, Value.int .i64 0, Value.int .i64 0, Value.int .i64 0, Value.int .i64 0] 67)).heap.size := by simp only [World.size_alloc]; omega
  have kr0 : ((w.alloc (Obj.cells #[Value.int .i64 den, Value.slice a n cap] 29)).alloc (Obj.cells #[Value.int .i64 0, Value.int .i64 0, Value.int .i64 0, Value.int .i64 0, Value.int .i64 0, Value.int .i64 0, Value.int .i64 0, Value.int .i64 0, Value.int .i64 0, Value.int .i64 0] 67)).cell? ⟨w.heap.size + 1, 0, none⟩ = some (Value.int .i64 0) := by go_simp
  have fr0 : ((w.alloc (Obj.cells #[Value.int .i64 den, Value.slice a n cap] 29)).alloc (Obj.cells #[Value.int .i64 0, Value.int .i64 0, Value.int .i64 0, Value.int .i64 0, Value.int .i64 0, Value.int .i64 0, Value.int .i64 0, Value.int .i64 0, Value.int .i64 0, Value.int .i64 0] 67)).frozen? ⟨w.heap.size + 1, 0, none⟩ = false := by go_simp
  have kr1 : ((w.alloc (Obj.cells #[Value.int .i64 den, Value.slice a n cap] 29)).alloc (Obj.cells #[Value.int .i64 0, Value.int .i64 0, Value.int .i64 0, Value.int .i64 0, Value.int .i64 0, Value.int .i64 0, Value.int .i64 0, Value.int .i64 0, Value.int .i64 0, Value.int .i64 0] 67)).cell? ⟨w.heap.size + 1, 1, none⟩ = some (Value.int .i64 0) := by go_simp
  have fr1 : ((w.alloc (Obj.cells #[Value.int .i64 den, Value.slice a n cap] 29)).alloc (Obj.cells #[Value.int .i64 0, Value.int .i64 0, Value.int .i64 0, Value.int .i64 0, Value.int .i64 0, Value.int .i64 0, Value.int .i64 0, Value.int .i64 0, Value.int .i64 0, Value.int .i64 0] 67)).frozen? ⟨w.heap.size + 1, 1, none⟩ = false := by go_simp
  have kr2 : ((w.alloc (Obj.cells #[Value.int .i64 den, Value.slice a n cap] 29)).alloc (Obj.cells #[Value.int .i64 0, Value.int .i64 0, Value.int .i64 0, Value.int .i64 0, Value.int .i64 0, Value.int .i64 0, Value.int .i64 0, Value.int .i64 0, Value.int .i64 0, Value.int .i64 0] 67)).cell? ⟨w.heap.size + 1, 2, none⟩ = some (Value.int .i64 0) := by go_simp
  have fr2 : ((w.alloc (Obj.cells #[Value.int .i64 den, Value.slice a n cap] 29)).alloc (Obj.cells #[Value.int .i64 0, Value.int .i64 0, Value.int .i64 0, Value.int .i64 0, Value.int .i64 0, Value.int .i64 0, Value.int .i64 0, Value.int .i64 0, Value.int .i64 0, Value.int .i64 0] 67)).frozen? ⟨w.heap.size + 1, 2, none⟩ = false := by go_simp
  have kr3 : ((w.alloc (Obj.cells #[Value.int .i64 den, Value.slice a n cap] 29)).alloc (Obj.cells #[Value.int .i64 0, Value.int .i64 0, Value.int .i64 0, Value.int .i64 0, Value.int .i64 0, Value.int .i64 0, Value.int .i64 0, Value.int .i64 0, Value.int .i64 0, Value.int .i64 0] 67)).cell? ⟨w.heap.size + 1, 3, none⟩ = some (Value.int .i64 0) := by go_simp
  have fr3 : ((w.alloc (Obj.cells #[Value.int .i64 den, Value.slice a n cap] 29)).alloc (Obj.cells #[Value.int .i64 0, Value.int .i64 0, Value.int .i64 0, Value.int .i64 0, Value.int .i64 0, Value.int .i64 0, Value.int .i64 0, Value.int .i64 0, Value.int .i64 0, Value.int .i64 0] 67)).frozen? ⟨w.heap.size + 1, 3, none⟩ = false := by go_simp
  have kr4 : ((w.alloc (Obj.cells #[Value.int .i64 den, Value.slice a n cap] 29)).alloc (Obj.cells #[Value.int .i64 0, Value.int .i64 0, Value.int .i64 0, Value.int .i64 0, Value.int .i64 0, Value.int .i64 0, Value.int .i64 0, Value.int .i64 0, Value.int .i64 0, Value.int .i64 0] 67)).cell? ⟨w.heap.size + 1, 4, none⟩ = some (Value.int .i64 0) := by go_simp
  have fr4 : ((w.alloc (Obj.cells #[Value.int .i64 den, Value.slice a n cap] 29)).alloc (Obj.cells #[Value.int .i64 0, Value.int .i64 0, Value.int .i64 0, Value.int .i64 0, Value.int .i64 0, Value.int .i64 0, Value.int .i64 0, Value.int .i64 0, Value.int .i64 0, Value.int .i64 0] 67)).frozen? ⟨w.heap.size + 1, 4, none⟩ = false := by go_simp
  have kr5 : ((w.alloc (Obj.cells #[Value.int .i64 den, Value.slice a n cap] 29)).alloc (Obj.cells #[Value.int .i64 0, Value.int .i64 0, Value.int .i64 0, Value.int .i64 0, Value.int .i64 0, Value.int .i64 0, Value.int .i64 0, Value.int .i64 0, Value.int .i64 0, Value.int .i64 0] 67)).cell? ⟨w.heap.size + 1, 5, none⟩ = some (Value.int .i64 0) := by go_simp
  have fr5 : ((w.alloc (Obj.cells #[Value.int .i64 den, Value.slice a n cap] 29)).alloc (Obj.cells #[Value.int .i64 0, Value.int .i64 0, Value.int .i64 0, Value.int .i64 0, Value.int .i64 0, Value.int .i64 0, Value.int .i64 0, Value.int .i64 0, Value.int .i64 0, Value.int .i64 0] 67)).frozen? ⟨w.heap.size + 1, 5, none⟩ = false := by go_simp
  have kr6 : ((w.alloc (Obj.cells #[Value.int .i64 den, Value.slice a n cap] 29)).alloc (Obj.cells #[Value.int .i64 0, Value.int .i64 0, Value.int .i64 0, Value.int .i64 0, Value.int .i64 0, Value.int .i64 0, Value.int .i64 0, Value.int .i64 0, Value.int .i64 0, Value.int .i64 0] 67)).cell? ⟨w.heap.size + 1, 6, none⟩ = some (Value.int .i64 0) := by go_simp
  have fr6 : ((w.alloc (Obj.cells #[Value.int .i64 den, Value.slice a n cap] 29)).alloc (Obj.cells #[Value.int .i64 0, Value.int .i64 0, Value.int .i64 0, Value.int .i64 0, Value.int .i64 0, Value.int .i64 0, Value.int .i64 0, Value.int .i64 0, Value.int .i64 0, Value.int .i64 0] 67)).frozen? ⟨w.heap.size + 1, 6, none⟩ = false := by go_simp
  have kr7 : ((w.alloc (Obj.cells #[Value.int .i64 den, Value.slice a n cap] 29)).alloc (Obj.cells #[Value.int .i64 0, Value.int .i64 0, Value.int .i64 0, Value.int .i64 0, Value.int .i64 0, Value.int .i64 0, Value.int .i64 0, Value.int .i64 0, Value.int .i64 0, Value.int .i64 0] 67)).cell? ⟨w.heap.size + 1, 7, none⟩ = some (Value.int .i64 0) := by go_simp
  have fr7 : ((w.alloc (Obj.cells #[Value.int .i64 den, Value.slice a n cap] 29)).alloc (Obj.cells #[Value.int .i64 0, Value.int .i64 0, Value.int .i64 0, Value.int .i64 0, Value.int .i64 0, Value.int .i64 0, Value.int .i64 0, Value.int .i64 0, Value.int .i64 0, Value.int .i64 0] 67)).frozen? ⟨w.heap.size + 1, 7, none⟩ = false := by go_simp
  have kr8 : ((w.alloc (Obj.cells #[Value.int .i64 den, Value.slice a n cap] 29)).alloc (Obj.cells #[Value.int .i64 0, Value.int .i64 0, Value.int .i64 0, Value.int .i64 0, Value.int .i64 0, Value.int .i64 0, Value.int .i64 0, Value.int .i64 0, Value.int .i64 0, Value.int .i64 0] 67)).cell? ⟨w.heap.size + 1, 8, none⟩ = some (Value.int .i64 0) := by go_simp
  have fr8 : ((w.alloc (Obj.cells #[Value.int .i64 den, Value.slice a n cap] 29)).alloc (Obj.cells #[Value.int .i64 0, Value.int .i64 0, Value.int .i64 0, Value.int .i64 0, Value.int .i64 0, Value.int .i64 0, Value.int .i64 0, Value.int .i64 0, Value.int .i64 0, Value.int .i64 0] 67)).frozen? ⟨w.heap.size + 1, 8, none⟩ = false := by go_simp
  have kr9 : ((w.alloc (Obj.cells #[Value.int .i64 den, Value.slice a n cap] 29)).alloc (Obj.cells #[Value.int .i64 0, Value.int .i64 0, Value.int .i64 0, Value.int .i64 0, Value.int .i64 0, Value.int .i64 0, Value.int .i64 0, Value.int .i64 0, Value.int .i64 0, Value.int .i64 0] 67)).cell? ⟨w.heap.size + 1, 9, none⟩ = some (Value.int .i64 0) := by go_simp
  have fr9 : ((w.alloc (Obj.cells #[Value.int .i64 den, Value.slice a n cap] 29)).alloc (Obj.cells #[Value.int .i64 0, Value.int .i64 0, Value.int .i64 0, Value.int .i64 0, Value.int .i64 0, Value.int .i64 0, Value.int .i64 0, Value.int .i64 0, Value.int .i64 0, Value.int .i64 0] 67)).frozen? ⟨w.heap.size + 1, 9, none⟩ = false := by go_simp
  have zr : w.heap.size + 1 < ((w.alloc (Obj.cells #[Value.int .i64 den, Value.slice a n cap] 29)).alloc (Obj.cells #[Value.int .i64 0, Value.int .i64 0, Value.int .i64 0, Value.int .i64 0, Value.int .i64 0, Value.int .i64 0, Value.int .i64 0, Value.int .i64 0, Value.int .i64 0, Value.int .i64 0] 67)).heap.size := by simp only [World.size_alloc]; omega
  have HB := hide (bl_alloc (bl_alloc (bl_refl w) (Obj.cells #[Value.int .i64 den, Value.slice a n cap] 29)) (Obj.cells #[Value.int .i64 0, Value.int .i64 0, Value.int .i64 0, Value.int .i64 0, Value.int .i64 0, Value.int .i64 0, Value.int .i64 0, Value.int .i64 0, Value.int .i64 0, Value.int .i64 0] 67))
  go_enter Try.func63, Try.ntmps63
  go_wp2_with fail
  generalize ((w.alloc (Obj.cells #[Value.int .i64 den, Value.slice a n cap] 29)).alloc (Obj.cells #[Value.int .i64 0, Value.int .i64 0, Value.int .i64 0, Value.int .i64 0, Value.int .i64 0, Value.int .i64 0, Value.int .i64 0, Value.int .i64 0, Value.int .i64 0, Value.int .i64 0] 67)) = w1 at *
  refine (placesOf_no a n cap _ h hn).mono ?_
  rintro e w2 ⟨rfl, hb⟩
  replace kv0 := (hb.cell (p := ⟨w.heap.size, 0, none⟩) zv).trans kv0
  replace kv1 := (hb.cell (p := ⟨w.heap.size, 1, none⟩) zv).trans kv1
  replace zv := Nat.lt_of_lt_of_le zv hb.size
  replace kr0 := (hb.cell (p := ⟨w.heap.size + 1, 0, none⟩) zr).trans kr0
  replace fr0 := (hb.frozen (p := ⟨w.heap.size + 1, 0, none⟩) zr).trans fr0
  replace kr1 := (hb.cell (p := ⟨w.heap.size + 1, 1, none⟩) zr).trans kr1
  replace fr1 := (hb.frozen (p := ⟨w.heap.size + 1, 1, none⟩) zr).trans fr1
  replace kr2 := (hb.cell (p := ⟨w.heap.size + 1, 2, none⟩) zr).trans kr2
  replace fr2 := (hb.frozen (p := ⟨w.heap.size + 1, 2, none⟩) zr).trans fr2
  replace kr3 := (hb.cell (p := ⟨w.heap.size + 1, 3, none⟩) zr).trans kr3
  replace fr3 := (hb.frozen (p := ⟨w.heap.size + 1, 3, none⟩) zr).trans fr3
  replace kr4 := (hb.cell (p := ⟨w.heap.size + 1, 4, none⟩) zr).trans kr4
  replace fr4 := (hb.frozen (p := ⟨w.heap.size + 1, 4, none⟩) zr).trans fr4
  replace kr5 := (hb.cell (p := ⟨w.heap.size + 1, 5, none⟩) zr).trans kr5
  replace fr5 := (hb.frozen (p := ⟨w.heap.size + 1, 5, none⟩) zr).trans fr5
  replace kr6 := (hb.cell (p := ⟨w.heap.size + 1, 6, none⟩) zr).trans kr6
  replace fr6 := (hb.frozen (p := ⟨w.heap.size + 1, 6, none⟩) zr).trans fr6
  replace kr7 := (hb.cell (p := ⟨w.heap.size + 1, 7, none⟩) zr).trans kr7
  replace fr7 := (hb.frozen (p := ⟨w.heap.size + 1, 7, none⟩) zr).trans fr7
  replace kr8 := (hb.cell (p := ⟨w.heap.size + 1, 8, none⟩) zr).trans kr8
  replace fr8 := (hb.frozen (p := ⟨w.heap.size + 1, 8, none⟩) zr).trans fr8
  replace kr9 := (hb.cell (p := ⟨w.heap.size + 1, 9, none⟩) zr).trans kr9
  replace fr9 := (hb.frozen (p := ⟨w.heap.size + 1, 9, none⟩) zr).trans fr9
  replace zr := Nat.lt_of_lt_of_le zr hb.size
  replace HB := hide (bl_trans HB.out hb)
  clear hb
  go_wp2_with fail
  have hb := bl_alloc (bl_alloc (bl_refl w2) (Obj.cells #[Value.int .i64 0, Value.int .i64 0, Value.int .i64 0, Value.int .i64 0, Value.int .i64 0, Value.int .i64 0, Value.int .i64 0, Value.int .i64 0, Value.int .i64 0] 65)) (Obj.cells #[Value.int .i64 0, Value.int .i64 0, Value.int .i64 0, Value.int .i64 0, Value.int .i64 0, Value.int .i64 0, Value.int .i64 0, Value.int .i64 0, Value.int .i64 0, Value.int .i64 den] 67)
  replace kv0 := (hb.cell (p := ⟨w.heap.size, 0, none⟩) zv).trans kv0
  replace kv1 := (hb.cell (p := ⟨w.heap.size, 1, none⟩) zv).trans kv1
  replace zv := Nat.lt_of_lt_of_le zv hb.size
  replace kr0 := (hb.cell (p := ⟨w.heap.size + 1, 0, none⟩) zr).trans kr0
  replace fr0 := (hb.frozen (p := ⟨w.heap.size + 1, 0, none⟩) zr).trans fr0
  replace kr1 := (hb.cell (p := ⟨w.heap.size + 1, 1, none⟩) zr).trans kr1
  replace fr1 := (hb.frozen (p := ⟨w.heap.size + 1, 1, none⟩) zr).trans fr1
  replace kr2 := (hb.cell (p := ⟨w.heap.size + 1, 2, none⟩) zr).trans kr2
  replace fr2 := (hb.frozen (p := ⟨w.heap.size + 1, 2, none⟩) zr).trans fr2
  replace kr3 := (hb.cell (p := ⟨w.heap.size + 1, 3, none⟩) zr).trans kr3
  replace fr3 := (hb.frozen (p := ⟨w.heap.size + 1, 3, none⟩) zr).trans fr3
  replace kr4 := (hb.cell (p := ⟨w.heap.size + 1, 4, none⟩) zr).trans kr4
  replace fr4 := (hb.frozen (p := ⟨w.heap.size + 1, 4, none⟩) zr).trans fr4
  replace kr5 := (hb.cell (p := ⟨w.heap.size + 1, 5, none⟩) zr).trans kr5
  replace fr5 := (hb.frozen (p := ⟨w.heap.size + 1, 5, none⟩) zr).trans fr5
  replace kr6 := (hb.cell (p := ⟨w.heap.size + 1, 6, none⟩) zr).trans kr6
  replace fr6 := (hb.frozen (p := ⟨w.heap.size + 1, 6, none⟩) zr).trans fr6
  replace kr7 := (hb.cell (p := ⟨w.heap.size + 1, 7, none⟩) zr).trans kr7
  replace fr7 := (hb.frozen (p := ⟨w.heap.size + 1, 7, none⟩) zr).trans fr7
  replace kr8 := (hb.cell (p := ⟨w.heap.size + 1, 8, none⟩) zr).trans kr8
  replace fr8 := (hb.frozen (p := ⟨w.heap.size + 1, 8, none⟩) zr).trans fr8
  replace kr9 := (hb.cell (p := ⟨w.heap.size + 1, 9, none⟩) zr).trans kr9
  replace fr9 := (hb.frozen (p := ⟨w.heap.size + 1, 9, none⟩) zr).trans fr9
  replace zr := Nat.lt_of_lt_of_le zr hb.size
  replace HB := hide (bl_trans HB.out hb)
  have kx0 : ((w2.alloc (Obj.cells #[Value.int .i64 0, Value.int .i64 0, Value.int .i64 0, Value.int .i64 0, Value.int .i64 0, Value.int .i64 0, Value.int .i64 0, Value.int .i64 0, Value.int .i64 0] 65)).alloc (Obj.cells #[Value.int .i64 0, Value.int .i64 0, Value.int .i64 0, Value.int .i64 0, Value.int .i64 0, Value.int .i64 0, Value.int .i64 0, Value.int .i64 0, Value.int .i64 0, Value.int .i64 den] 67)).cell? ⟨w2.heap.size + 1, 0, none⟩ = some (Value.int .i64 0) := by go_simp
  have kx1 : ((w2.alloc (Obj.cells #[Value.int .i64 0, Value.int .i64 0, Value.int .i64 0, Value.int .i64 0, Value.int .i64 0, Value.int .i64 0, Value.int .i64 0, Value.int .i64 0, Value.int .i64 0] 65)).alloc (Obj.cells #[Value.int .i64 0, Value.int .i64 0, Value.int .i64 0, Value.int .i64 0, Value.int .i64 0, Value.int .i64 0, Value.int .i64 0, Value.int .i64 0, Value.int .i64 0, Value.int .i64 den] 67)).cell? ⟨w2.heap.size + 1, 1, none⟩ = some (Value.int .i64 0) := by go_simp
  have kx2 : ((w2.alloc (Obj.cells #[Value.int .i64 0, Value.int .i64 0, Value.int .i64 0, Value.int .i64 0, Value.int .i64 0, Value.int .i64 0, Value.int .i64 0, Value.int .i64 0, Value.int .i64 0] 65)).alloc (Obj.cells #[Value.int .i64 0, Value.int .i64 0, Value.int .i64 0, Value.int .i64 0, Value.int .i64 0, Value.int .i64 0, Value.int .i64 0, Value.int .i64 0, Value.int .i64 0, Value.int .i64 den] 67)).cell? ⟨w2.heap.size + 1, 2, none⟩ = some (Value.int .i64 0) := by go_simp
  have kx3 : ((w2.alloc (Obj.cells #[Value.int .i64 0, Value.int .i64 0, Value.int .i64 0, Value.int .i64 0, Value.int .i64 0, Value.int .i64 0, Value.int .i64 0, Value.int .i64 0, Value.int .i64 0] 65)).alloc (Obj.cells #[Value.int .i64 0, Value.int .i64 0, Value.int .i64 0, Value.int .i64 0, Value.int .i64 0, Value.int .i64 0, Value.int .i64 0, Value.int .i64 0, Value.int .i64 0, Value.int .i64 den] 67)).cell? ⟨w2.heap.size + 1, 3, none⟩ = some (Value.int .i64 0) := by go_simp
  have kx4 : ((w2.alloc (Obj.cells #[Value.int .i64 0, Value.int .i64 0, Value.int .i64 0, Value.int .i64 0, Value.int .i64 0, Value.int .i64 0, Value.int .i64 0, Value.int .i64 0, Value.int .i64 0] 65)).alloc (Obj.cells #[Value.int .i64 0, Value.int .i64 0, Value.int .i64 0, Value.int .i64 0, Value.int .i64 0, Value.int .i64 0, Value.int .i64 0, Value.int .i64 0, Value.int .i64 0, Value.int .i64 den] 67)).cell? ⟨w2.heap.size + 1, 4, none⟩ = some (Value.int .i64 0) := by go_simp
  have kx5 : ((w2.alloc (Obj.cells #[Value.int .i64 0, Value.int .i64 0, Value.int .i64 0, Value.int .i64 0, Value.int .i64 0, Value.int .i64 0, Value.int .i64 0, Value.int .i64 0, Value.int .i64 0] 65)).alloc (Obj.cells #[Value.int .i64 0, Value.int .i64 0, Value.int .i64 0, Value.int .i64 0, Value.int .i64 0, Value.int .i64 0, Value.int .i64 0, Value.int .i64 0, Value.int .i64 0, Value.int .i64 den] 67)).cell? ⟨w2.heap.size + 1, 5, none⟩ = some (Value.int .i64 0) := by go_simp
  have kx6 : ((w2.alloc (Obj.cells #[Value.int .i64 0, Value.int .i64 0, Value.int .i64 0, Value.int .i64 0, Value.int .i64 0, Value.int .i64 0, Value.int .i64 0, Value.int .i64 0, Value.int .i64 0] 65)).alloc (Obj.cells #[Value.int .i64 0, Value.int .i64 0, Value.int .i64 0, Value.int .i64 0, Value.int .i64 0, Value.int .i64 0, Value.int .i64 0, Value.int .i64 0, Value.int .i64 0, Value.int .i64 den] 67)).cell? ⟨w2.heap.size + 1, 6, none⟩ = some (Value.int .i64 0) := by go_simp
  have kx7 : ((w2.alloc (Obj.cells #[Value.int .i64 0, Value.int .i64 0, Value.int .i64 0, Value.int .i64 0, Value.int .i64 0, Value.int .i64 0, Value.int .i64 0, Value.int .i64 0, Value.int .i64 0] 65)).alloc (Obj.cells #[Value.int .i64 0, Value.int .i64 0, Value.int .i64 0, Value.int .i64 0, Value.int .i64 0, Value.int .i64 0, Value.int .i64 0, Value.int .i64 0, Value.int .i64 0, Value.int .i64 den] 67)).cell? ⟨w2.heap.size + 1, 7, none⟩ = some (Value.int .i64 0) := by go_simp
  have kx8 : ((w2.alloc (Obj.cells #[Value.int .i64 0, Value.int .i64 0, Value.int .i64 0, Value.int .i64 0, Value.int .i64 0, Value.int .i64 0, Value.int .i64 0, Value.int .i64 0, Value.int .i64 0] 65)).alloc (Obj.cells #[Value.int .i64 0, Value.int .i64 0, Value.int .i64 0, Value.int .i64 0, Value.int .i64 0, Value.int .i64 0, Value.int .i64 0, Value.int .i64 0, Value.int .i64 0, Value.int .i64 den] 67)).cell? ⟨w2.heap.size + 1, 8, none⟩ = some (Value.int .i64 0) := by go_simp
  have kx9 : ((w2.alloc (Obj.cells #[Value.int .i64 0, Value.int .i64 0, Value.int .i64 0, Value.int .i64 0, Value.int .i64 0, Value.int .i64 0, Value.int .i64 0, Value.int .i64 0, Value.int .i64 0] 65)).alloc (Obj.cells #[Value.int .i64 0, Value.int .i64 0, Value.int .i64 0, Value.int .i64 0, Value.int .i64 0, Value.int .i64 0, Value.int .i64 0, Value.int .i64 0, Value.int .i64 0, Value.int .i64 den] 67)).cell? ⟨w2.heap.size + 1, 9, none⟩ = some (Value.int .i64 den) := by go_simp
  have zx : w2.heap.size + 1 < ((w2.alloc (Obj.cells #[Value.int .i64 0, Value.int .i64 0, Value.int .i64 0, Value.int .i64 0, Value.int .i64 0, Value.int .i64 0, Value.int .i64 0, Value.int .i64 0, Value.int .i64 0] 65)).alloc (Obj.cells #[Value.int .i64 0, Value.int .i64 0, Value.int .i64 0, Value.int .i64 0, Value.int .i64 0, Value.int .i64 0, Value.int .i64 0, Value.int .i64 0, Value.int .i64 0, Value.int .i64 den] 67)).heap.size := by simp only [World.size_alloc]; omega
  generalize ((w2.alloc (Obj.cells #[Value.int .i64 0, Value.int .i64 0, Value.int .i64 0, Value.int .i64 0, Value.int .i64 0, Value.int .i64 0, Value.int .i64 0, Value.int .i64 0, Value.int .i64 0] 65)).alloc (Obj.cells #[Value.int .i64 0, Value.int .i64 0, Value.int .i64 0, Value.int .i64 0, Value.int .i64 0, Value.int .i64 0, Value.int .i64 0, Value.int .i64 0, Value.int .i64 0, Value.int .i64 den] 67)) = w3 at *
  clear hb
  go_region
  go_wp2
  refine bodyPost_ret (v := .tuple #[Value.agg #[Value.int .i64 0, Value.int .i64 0, Value.int .i64 0, Value.int .i64 0, Value.int .i64 0, Value.int .i64 0, Value.int .i64 0, Value.int .i64 0, Value.int .i64 0, Value.int .i64 den], .bool false]) (by simp [results, Try.results63, go_sem, *]) rfl ⟨rfl, ?_⟩
  exact (((((((((((HB.out.setCell (p := ⟨w.heap.size + 1, 0, none⟩) (Nat.le_succ _) _).setCell (p := ⟨w.heap.size + 1, 1, none⟩) (Nat.le_succ _) _).setCell (p := ⟨w.heap.size + 1, 2, none⟩) (Nat.le_succ _) _).setCell (p := ⟨w.heap.size + 1, 3, none⟩) (Nat.le_succ _) _).setCell (p := ⟨w.heap.size + 1, 4, none⟩) (Nat.le_succ _) _).setCell (p := ⟨w.heap.size + 1, 5, none⟩) (Nat.le_succ _) _).setCell (p := ⟨w.heap.size + 1, 6, none⟩) (Nat.le_succ _) _).setCell (p := ⟨w.heap.size + 1, 7, none⟩) (Nat.le_succ _) _).setCell (p := ⟨w.heap.size + 1, 8, none⟩) (Nat.le_succ _) _).setCell (p := ⟨w.heap.size + 1, 9, none⟩) (Nat.le_succ _) _)).drew

set_option maxHeartbeats 400000 in
theorem powersOf_yes (den : Int) (a : Option Addr) (cap : Nat) (xs : List Int) (w : World) (h : xs.length ≤ 8) (hs : Seg w a xs.length cap xs) :
    Calls Try.prog 63 #[.agg #[.int .i64 den, .slice a xs.length cap]] w fun e w' => e = .returned (.tuple #[Value.agg #[Value.int .i64 (xs.length : Int), Value.int .i64 (at8 xs 0), Value.int .i64 (at8 xs 1), Value.int .i64 (at8 xs 2), Value.int .i64 (at8 xs 3), Value.int .i64 (at8 xs 4), Value.int .i64 (at8 xs 5), Value.int .i64 (at8 xs 6), Value.int .i64 (at8 xs 7), Value.int .i64 den], .bool (rgtB (at8 xs) den)]) ∧ Below w.heap.size w w' := by
  have kv0 : ((w.alloc (Obj.cells #[Value.int .i64 den, Value.slice a xs.length cap] 29)).alloc (Obj.cells #[Value.int .i64 0, Value.int .i64 0, Value.int .i64 0, Value.int .i64 0, Value.int .i64 0, Value.int .i64 0, Value.int .i64 0, Value.int .i64 0, Value.int .i64 0, Value.int .i64 0] 67)).cell? ⟨w.heap.size, 0, none⟩ = some (Value.int .i64 den) := by go_simp
  have kv1 : ((w.alloc (Obj.cells #[Value.int .i64 den, Value.slice a xs.length cap] 29)).alloc (Obj.cells #[Value.int .i64 0, Value.int .i64 0, Value.int .i64 0, Value.int .i64 0, Value.int .i64 0, Value.int .i64 0, Value.int .i64 0, Value.int .i64 0, Value.int .i64 0, Value.int .i64 0] 67)).cell? ⟨w.heap.size, 1, none⟩ = some (Value.slice a xs.length cap) := by go_simp
  have zv : w.heap.size < ((w.alloc (Obj.cells #[Value.int .i64 den, Value.slice a xs.length cap] 29)).alloc (Obj.cells #[Value.int .i64 0, Value.int .i64 0, Value.int .i64 0, Value.int .i64 0, Value.int .i64 0, Value.int .i64 0, Value.int .i64 0, Value.int .i64 0, Value.int .i64 0, Value.int .i64 0] 67)).heap.size := by simp only [World.size_alloc]; omega
  have kr0 : ((w.alloc (Obj.cells #[Value.int .i64 den, Value.slice a xs.length cap] 29)).alloc (Obj.cells #[Value.int .i64 0, Value.int .i64 0, Value.int .i64 0, Value.int .i64 0, Value.int .i64 0, Value.int .i64 0, Value.int .i64 0, Value.int .i64 0, Value.int .i64 0, Value.int .i64 0] 67)).cell? ⟨w.heap.size + 1, 0, none⟩ = some (Value.int .i64 0) := by go_simp
  have fr0 : ((w.alloc (Obj.cells #[Value.int .i64 den, Value.slice a xs.length cap] 29)).alloc (Obj.cells #[Value.int .i64 0, Value.int .i64 0, Value.int .i64 0, Value.int .i64 0, Value.int .i64 0, Value.int .i64 0, Value.int .i64 0, Value.int .i64 0, Value.int .i64 0, Value.int .i64 0] 67)).frozen? ⟨w.heap.size + 1, 0, none⟩ = false := by go_simp
  have kr1 : ((w.alloc (Obj.cells #[Value.int .i64 den, Value.slice a xs.length cap] 29)).alloc (Obj.cells #[Value.int .i64 0, Value.int .i64 0, Value.int .i64 0, Value.int .i64 0, Value.int .i64 0, Value.int .i64 0, Value.int .i64 0, Value.int .i64 0, Value.int .i64 0, Value.int .i64 0] 67)).cell? ⟨w.heap.size + 1, 1, none⟩ = some (Value.int .i64 0) := by go_simp
  have fr1 : ((w.alloc (Obj.cells #[Value.int .i64 den, Value.slice a xs.length cap] 29)).alloc (Obj.cells #[Value.int .i64 0, Value.int .i64 0, Value.int .i64 0, Value.int .i64 0, Value.int .i64 0, Value.int .i64 0, Value.int .i64 0, Value.int .i64 0, Value.int .i64 0, Value.int .i64 0] 67)).frozen? ⟨w.heap.size + 1, 1, none⟩ = false := by go_simp
  have kr2 : ((w.alloc (Obj.cells #[Value.int .i64 den, Value.slice a xs.length cap] 29)).alloc (Obj.cells #[Value.int .i64 0, Value.int .i64 0, Value.int .i64 0, Value.int .i64 0, Value.int .i64 0, Value.int .i64 0, Value.int .i64 0, Value.int .i64 0, Value.int .i64 0, Value.int .i64 0] 67)).cell? ⟨w.heap.size + 1, 2, none⟩ = some (Value.int .i64 0) := by go_simp
  have fr2 : ((w.alloc (Obj.cells #[Value.int .i64 den, Value.slice a xs.length cap] 29)).alloc (Obj.cells #[Value.int .i64 0, Value.int .i64 0, Value.int .i64 0, Value.int .i64 0, Value.int .i64 0, Value.int .i64 0, Value.int .i64 0, Value.int .i64 0, Value.int .i64 0, Value.int .i64 0] 67)).frozen? ⟨w.heap.size + 1, 2, none⟩ = false := by go_simp
  have kr3 : ((w.alloc (Obj.cells #[Value.int .i64 den, Value.slice a xs.length cap] 29)).alloc (Obj.cells #[Value.int .i64 0, Value.int .i64 0, Value.int .i64 0, Value.int .i64 0, Value.int .i64 0, Value.int .i64 0, Value.int .i64 0, Value.int .i64 0, Value.int .i64 0, Value.int .i64 0] 67)).cell? ⟨w.heap.size + 1, 3, none⟩ = some (Value.int .i64 0) := by go_simp
  have fr3 : ((w.alloc (Obj.cells #[Value.int .i64 den, Value.slice a xs.length cap] 29)).alloc (Obj.cells #[Value.int .i64 0, Value.int .i64 0, Value.int .i64 0, Value.int .i64 0, Value.int .i64 0, Value.int .i64 0, Value.int .i64 0, Value.int .i64 0, Value.int .i64 0, Value.int .i64 0] 67)).frozen? ⟨w.heap.size + 1, 3, none⟩ = false := by go_simp
  have kr4 : ((w.alloc (Obj.cells #[Value.int .i64 den, Value.slice a xs.length cap] 29)).alloc (Obj.cells #[Value.int .i64 0, Value.int .i64 0, Value.int .i64 0, Value.int .i64 0, Value.int .i64 0, Value.int .i64 0, Value.int .i64 0, Value.int .i64 0, Value.int .i64 0, Value.int .i64 0] 67)).cell? ⟨w.heap.size + 1, 4, none⟩ = some (Value.int .i64 0) := by go_simp
  have fr4 : ((w.alloc (Obj.cells #[Value.int .i64 den, Value.slice a xs.length cap] 29)).alloc (Obj.cells #[Value.int .i64 0, Value.int .i64 0, Value.int .i64 0, Value.int .i64 0, Value.int .i64 0, Value.int .i64 0, Value.int .i64 0, Value.int .i64 0, Value.int .i64 0, Value.int .i64 0] 67)).frozen? ⟨w.heap.size + 1, 4, none⟩ = false := by go_simp
  have kr5 : ((w.alloc (Obj.cells #[Value.int .i64 den, Value.slice a xs.length cap] 29)).alloc (Obj.cells #[Value.int .i64 0, Value.int .i64 0, Value.int .i64 0, Value.int .i64 0, Value.int .i64 0, Value.int .i64 0, Value.int .i64 0, Value.int .i64 0, Value.int .i64 0, Value.int .i64 0] 67)).cell? ⟨w.heap.size + 1, 5, none⟩ = some (Value.int .i64 0) := by go_simp
  have fr5 : ((w.alloc (Obj.cells #[Value.int .i64 den, Value.slice a xs.length cap] 29)).alloc (Obj.cells #[Value.int .i64 0, Value.int .i64 0, Value.int .i64 0, Value.int .i64 0, Value.int .i64 0, Value.int .i64 0, Value.int .i64 0, Value.int .i64 0, Value.int .i64 0, Value.int .i64 0] 67)).frozen? ⟨w.heap.size + 1, 5, none⟩ = false := by go_simp
  have kr6 : ((w.alloc (Obj.cells #[Value.int .i64 den, Value.slice a xs.length cap] 29)).alloc (Obj.cells #[Value.int .i64 0, Value.int .i64 0, Value.int .i64 0, Value.int .i64 0, Value.int .i64 0, Value.int .i64 0, Value.int .i64 0, Value.int .i64 0, Value.int .i64 0, Value.int .i64 0] 67)).cell? ⟨w.heap.size + 1, 6, none⟩ = some (Value.int .i64 0) := by go_simp
  have fr6 : ((w.alloc (Obj.cells #[Value.int .i64 den, Value.slice a xs.length cap] 29)).alloc (Obj.cells #[Value.int .i64 0, Value.int .i64 0, Value.int .i64 0, Value.int .i64 0, Value.int .i64 0, Value.int .i64 0, Value.int .i64 0, Value.int .i64 0, Value.int .i64 0, Value.int .i64 0] 67)).frozen? ⟨w.heap.size + 1, 6, none⟩ = false := by go_simp
  have kr7 : ((w.alloc (Obj.cells #[Value.int .i64 den, Value.slice a xs.length cap] 29)).alloc (Obj.cells #[Value.int .i64 0, Value.int .i64 0, Value.int .i64 0, Value.int .i64 0, Value.int .i64 0, Value.int .i64 0, Value.int .i64 0, Value.int .i64 0, Value.int .i64 0, Value.int .i64 0] 67)).cell? ⟨w.heap.size + 1, 7, none⟩ = some (Value.int .i64 0) := by go_simp
  have fr7 : ((w.alloc (Obj.cells #[Value.int .i64 den, Value.slice a xs.length cap] 29)).alloc (Obj.cells #[Value.int .i64 0, Value.int .i64 0, Value.int .i64 0, Value.int .i64 0, Value.int .i64 0, Value.int .i64 0, Value.int .i64 0, Value.int .i64 0, Value.int .i64 0, Value.int .i64 0] 67)).frozen? ⟨w.heap.size + 1, 7, none⟩ = false := by go_simp
  have kr8 : ((w.alloc (Obj.cells #[Value.int .i64 den, Value.slice a xs.length cap] 29)).alloc (Obj.cells #[Value.int .i64 0, Value.int .i64 0, Value.int .i64 0, Value.int .i64 0, Value.int .i64 0, Value.int .i64 0, Value.int .i64 0, Value.int .i64 0, Value.int .i64 0, Value.int .i64 0] 67)).cell? ⟨w.heap.size + 1, 8, none⟩ = some (Value.int .i64 0) := by go_simp
  have fr8 : ((w.alloc (Obj.cells #[Value.int .i64 den, Value.slice a xs.length cap] 29)).alloc (Obj.cells #[Value.int .i64 0, Value.int .i64 0, Value.int .i64 0, Value.int .i64 0, Value.int .i64 0, Value.int .i64 0, Value.int .i64 0, Value.int .i64 0, Value.int .i64 0, Value.int .i64 0] 67)).frozen? ⟨w.heap.size + 1, 8, none⟩ = false := by go_simp
  have kr9 : ((w.alloc (Obj.cells #[Value.int .i64 den, Value.slice a xs.length cap] 29)).alloc (Obj.cells #[Value.int .i64 0, Value.int .i64 0, Value.int .i64 0, Value.int .i64 0, Value.int .i64 0, Value.int .i64 0, Value.int .i64 0, Value.int .i64 0, Value.int .i64 0, Value.int .i64 0] 67)).cell? ⟨w.heap.size + 1, 9, none⟩ = some (Value.int .i64 0) := by go_simp
  have fr9 : ((w.alloc (Obj.cells #[Value.int .i64 den, Value.slice a xs.length cap] 29)).alloc (Obj.cells #[Value.int .i64 0, Value.int .i64 0, Value.int .i64 0, Value.int .i64 0, Value.int .i64 0, Value.int .i64 0, Value.int .i64 0, Value.int .i64 0, Value.int .i64 0, Value.int .i64 0] 67)).frozen? ⟨w.heap.size + 1, 9, none⟩ = false := by go_simp
  have zr : w.heap.size + 1 < ((w.alloc (Obj.cells #[Value.int .i64 den, Value.slice a xs.length cap] 29)).alloc (Obj.cells #[Value.int .i64 0, Value.int .i64 0, Value.int .i64 0, Value.int .i64 0, Value.int .i64 0, Value.int .i64 0, Value.int .i64 0, Value.int .i64 0, Value.int .i64 0, Value.int .i64 0] 67)).heap.size := by simp only [World.size_alloc]; omega
  have HB := hide (bl_alloc (bl_alloc (bl_refl w) (Obj.cells #[Value.int .i64 den, Value.slice a xs.length cap] 29)) (Obj.cells #[Value.int .i64 0, Value.int .i64 0, Value.int .i64 0, Value.int .i64 0, Value.int .i64 0, Value.int .i64 0, Value.int .i64 0, Value.int .i64 0, Value.int .i64 0, Value.int .i64 0] 67))
  have HS := hide (hs.below HB.out)
  clear hs
  go_enter Try.func63, Try.ntmps63
  go_wp2_with fail
  generalize ((w.alloc (Obj.cells #[Value.int .i64 den, Value.slice a xs.length cap] 29)).alloc (Obj.cells #[Value.int .i64 0, Value.int .i64 0, Value.int .i64 0, Value.int .i64 0, Value.int .i64 0, Value.int .i64 0, Value.int .i64 0, Value.int .i64 0, Value.int .i64 0, Value.int .i64 0] 67)) = w1 at *
  refine (placesOf_yes a cap xs _ h HS.out).mono ?_
  rintro e w2 ⟨rfl, hb⟩
  replace kv0 := (hb.cell (p := ⟨w.heap.size, 0, none⟩) zv).trans kv0
  replace kv1 := (hb.cell (p := ⟨w.heap.size, 1, none⟩) zv).trans kv1
  replace zv := Nat.lt_of_lt_of_le zv hb.size
  replace kr0 := (hb.cell (p := ⟨w.heap.size + 1, 0, none⟩) zr).trans kr0
  replace fr0 := (hb.frozen (p := ⟨w.heap.size + 1, 0, none⟩) zr).trans fr0
  replace kr1 := (hb.cell (p := ⟨w.heap.size + 1, 1, none⟩) zr).trans kr1
  replace fr1 := (hb.frozen (p := ⟨w.heap.size + 1, 1, none⟩) zr).trans fr1
  replace kr2 := (hb.cell (p := ⟨w.heap.size + 1, 2, none⟩) zr).trans kr2
  replace fr2 := (hb.frozen (p := ⟨w.heap.size + 1, 2, none⟩) zr).trans fr2
  replace kr3 := (hb.cell (p := ⟨w.heap.size + 1, 3, none⟩) zr).trans kr3
  replace fr3 := (hb.frozen (p := ⟨w.heap.size + 1, 3, none⟩) zr).trans fr3
  replace kr4 := (hb.cell (p := ⟨w.heap.size + 1, 4, none⟩) zr).trans kr4
  replace fr4 := (hb.frozen (p := ⟨w.heap.size + 1, 4, none⟩) zr).trans fr4
  replace kr5 := (hb.cell (p := ⟨w.heap.size + 1, 5, none⟩) zr).trans kr5
  replace fr5 := (hb.frozen (p := ⟨w.heap.size + 1, 5, none⟩) zr).trans fr5
  replace kr6 := (hb.cell (p := ⟨w.heap.size + 1, 6, none⟩) zr).trans kr6
  replace fr6 := (hb.frozen (p := ⟨w.heap.size + 1, 6, none⟩) zr).trans fr6
  replace kr7 := (hb.cell (p := ⟨w.heap.size + 1, 7, none⟩) zr).trans kr7
  replace fr7 := (hb.frozen (p := ⟨w.heap.size + 1, 7, none⟩) zr).trans fr7
  replace kr8 := (hb.cell (p := ⟨w.heap.size + 1, 8, none⟩) zr).trans kr8
  replace fr8 := (hb.frozen (p := ⟨w.heap.size + 1, 8, none⟩) zr).trans fr8
  replace kr9 := (hb.cell (p := ⟨w.heap.size + 1, 9, none⟩) zr).trans kr9
  replace fr9 := (hb.frozen (p := ⟨w.heap.size + 1, 9, none⟩) zr).trans fr9
  replace zr := Nat.lt_of_lt_of_le zr hb.size
  replace HB := hide (bl_trans HB.out hb)
  clear hb
  clear HS
  go_wp2_with fail
  have hb := bl_alloc (bl_alloc (bl_refl w2) (Obj.cells #[Value.int .i64 (xs.length : Int), Value.int .i64 (at8 xs 0), Value.int .i64 (at8 xs 1), Value.int .i64 (at8 xs 2), Value.int .i64 (at8 xs 3), Value.int .i64 (at8 xs 4), Value.int .i64 (at8 xs 5), Value.int .i64 (at8 xs 6), Value.int .i64 (at8 xs 7)] 65)) (Obj.cells #[Value.int .i64 (xs.length : Int), Value.int .i64 (at8 xs 0), Value.int .i64 (at8 xs 1), Value.int .i64 (at8 xs 2), Value.int .i64 (at8 xs 3), Value.int .i64 (at8 xs 4), Value.int .i64 (at8 xs 5), Value.int .i64 (at8 xs 6), Value.int .i64 (at8 xs 7), Value.int .i64 den] 67)
  replace kv0 := (hb.cell (p := ⟨w.heap.size, 0, none⟩) zv).trans kv0
  replace kv1 := (hb.cell (p := ⟨w.heap.size, 1, none⟩) zv).trans kv1
  replace zv := Nat.lt_of_lt_of_le zv hb.size
  replace kr0 := (hb.cell (p := ⟨w.heap.size + 1, 0, none⟩) zr).trans kr0
  replace fr0 := (hb.frozen (p := ⟨w.heap.size + 1, 0, none⟩) zr).trans fr0
  replace kr1 := (hb.cell (p := ⟨w.heap.size + 1, 1, none⟩) zr).trans kr1
  replace fr1 := (hb.frozen (p := ⟨w.heap.size + 1, 1, none⟩) zr).trans fr1
  replace kr2 := (hb.cell (p := ⟨w.heap.size + 1, 2, none⟩) zr).trans kr2
  replace fr2 := (hb.frozen (p := ⟨w.heap.size + 1, 2, none⟩) zr).trans fr2
  replace kr3 := (hb.cell (p := ⟨w.heap.size + 1, 3, none⟩) zr).trans kr3
  replace fr3 := (hb.frozen (p := ⟨w.heap.size + 1, 3, none⟩) zr).trans fr3
  replace kr4 := (hb.cell (p := ⟨w.heap.size + 1, 4, none⟩) zr).trans kr4
  replace fr4 := (hb.frozen (p := ⟨w.heap.size + 1, 4, none⟩) zr).trans fr4
  replace kr5 := (hb.cell (p := ⟨w.heap.size + 1, 5, none⟩) zr).trans kr5
  replace fr5 := (hb.frozen (p := ⟨w.heap.size + 1, 5, none⟩) zr).trans fr5
  replace kr6 := (hb.cell (p := ⟨w.heap.size + 1, 6, none⟩) zr).trans kr6
  replace fr6 := (hb.frozen (p := ⟨w.heap.size + 1, 6, none⟩) zr).trans fr6
  replace kr7 := (hb.cell (p := ⟨w.heap.size + 1, 7, none⟩) zr).trans kr7
  replace fr7 := (hb.frozen (p := ⟨w.heap.size + 1, 7, none⟩) zr).trans fr7
  replace kr8 := (hb.cell (p := ⟨w.heap.size + 1, 8, none⟩) zr).trans kr8
  replace fr8 := (hb.frozen (p := ⟨w.heap.size + 1, 8, none⟩) zr).trans fr8
  replace kr9 := (hb.cell (p := ⟨w.heap.size + 1, 9, none⟩) zr).trans kr9
  replace fr9 := (hb.frozen (p := ⟨w.heap.size + 1, 9, none⟩) zr).trans fr9
  replace zr := Nat.lt_of_lt_of_le zr hb.size
  replace HB := hide (bl_trans HB.out hb)
  have kx0 : ((w2.alloc (Obj.cells #[Value.int .i64 (xs.length : Int), Value.int .i64 (at8 xs 0), Value.int .i64 (at8 xs 1), Value.int .i64 (at8 xs 2), Value.int .i64 (at8 xs 3), Value.int .i64 (at8 xs 4), Value.int .i64 (at8 xs 5), Value.int .i64 (at8 xs 6), Value.int .i64 (at8 xs 7)] 65)).alloc (Obj.cells #[Value.int .i64 (xs.length : Int), Value.int .i64 (at8 xs 0), Value.int .i64 (at8 xs 1), Value.int .i64 (at8 xs 2), Value.int .i64 (at8 xs 3), Value.int .i64 (at8 xs 4), Value.int .i64 (at8 xs 5), Value.int .i64 (at8 xs 6), Value.int .i64 (at8 xs 7), Value.int .i64 den] 67)).cell? ⟨w2.heap.size + 1, 0, none⟩ = some (Value.int .i64 (xs.length : Int)) := by go_simp
  have kx1 : ((w2.alloc (Obj.cells #[Value.int .i64 (xs.length : Int), Value.int .i64 (at8 xs 0), Value.int .i64 (at8 xs 1), Value.int .i64 (at8 xs 2), Value.int .i64 (at8 xs 3), Value.int .i64 (at8 xs 4), Value.int .i64 (at8 xs 5), Value.int .i64 (at8 xs 6), Value.int .i64 (at8 xs 7)] 65)).alloc (Obj.cells #[Value.int .i64 (xs.length : Int), Value.int .i64 (at8 xs 0), Value.int .i64 (at8 xs 1), Value.int .i64 (at8 xs 2), Value.int .i64 (at8 xs 3), Value.int .i64 (at8 xs 4), Value.int .i64 (at8 xs 5), Value.int .i64 (at8 xs 6), Value.int .i64 (at8 xs 7), Value.int .i64 den] 67)).cell? ⟨w2.heap.size + 1, 1, none⟩ = some (Value.int .i64 (at8 xs 0)) := by go_simp
  have kx2 : ((w2.alloc (Obj.cells #[Value.int .i64 (xs.length : Int), Value.int .i64 (at8 xs 0), Value.int .i64 (at8 xs 1), Value.int .i64 (at8 xs 2), Value.int .i64 (at8 xs 3), Value.int .i64 (at8 xs 4), Value.int .i64 (at8 xs 5), Value.int .i64 (at8 xs 6), Value.int .i64 (at8 xs 7)] 65)).alloc (Obj.cells #[Value.int .i64 (xs.length : Int), Value.int .i64 (at8 xs 0), Value.int .i64 (at8 xs 1), Value.int .i64 (at8 xs 2), Value.int .i64 (at8 xs 3), Value.int .i64 (at8 xs 4), Value.int .i64 (at8 xs 5), Value.int .i64 (at8 xs 6), Value.int .i64 (at8 xs 7), Value.int .i64 den] 67)).cell? ⟨w2.heap.size + 1, 2, none⟩ = some (Value.int .i64 (at8 xs 1)) := by go_simp
  have kx3 : ((w2.alloc (Obj.cells #[Value.int .i64 (xs.length : Int), Value.int .i64 (at8 xs 0), Value.int .i64 (at8 xs 1), Value.int .i64 (at8 xs 2), Value.int .i64 (at8 xs 3), Value.int .i64 (at8 xs 4), Value.int .i64 (at8 xs 5), Value.int .i64 (at8 xs 6), Value.int .i64 (at8 xs 7)] 65)).alloc (Obj.cells #[Value.int .i64 (xs.length : Int), Value.int .i64 (at8 xs 0), Value.int .i64 (at8 xs 1), Value.int .i64 (at8 xs 2), Value.int .i64 (at8 xs 3), Value.int .i64 (at8 xs 4), Value.int .i64 (at8 xs 5), Value.int .i64 (at8 xs 6), Value.int .i64 (at8 xs 7), Value.int .i64 den] 67)).cell? ⟨w2.heap.size + 1, 3, none⟩ = some (Value.int .i64 (at8 xs 2)) := by go_simp
  have kx4 : ((w2.alloc (Obj.cells #[Value.int .i64 (xs.length : Int), Value.int .i64 (at8 xs 0), Value.int .i64 (at8 xs 1), Value.int .i64 (at8 xs 2), Value.int .i64 (at8 xs 3), Value.int .i64 (at8 xs 4), Value.int .i64 (at8 xs 5), Value.int .i64 (at8 xs 6), Value.int .i64 (at8 xs 7)] 65)).alloc (Obj.cells #[Value.int .i64 (xs.length : Int), Value.int .i64 (at8 xs 0), Value.int .i64 (at8 xs 1), Value.int .i64 (at8 xs 2), Value.int .i64 (at8 xs 3), Value.int .i64 (at8 xs 4), Value.int .i64 (at8 xs 5), Value.int .i64 (at8 xs 6), Value.int .i64 (at8 xs 7), Value.int .i64 den] 67)).cell? ⟨w2.heap.size + 1, 4, none⟩ = some (Value.int .i64 (at8 xs 3)) := by go_simp
  have kx5 : ((w2.alloc (Obj.cells #[Value.int .i64 (xs.length : Int), Value.int .i64 (at8 xs 0), Value.int .i64 (at8 xs 1), Value.int .i64 (at8 xs 2), Value.int .i64 (at8 xs 3), Value.int .i64 (at8 xs 4), Value.int .i64 (at8 xs 5), Value.int .i64 (at8 xs 6), Value.int .i64 (at8 xs 7)] 65)).alloc (Obj.cells #[Value.int .i64 (xs.length : Int), Value.int .i64 (at8 xs 0), Value.int .i64 (at8 xs 1), Value.int .i64 (at8 xs 2), Value.int .i64 (at8 xs 3), Value.int .i64 (at8 xs 4), Value.int .i64 (at8 xs 5), Value.int .i64 (at8 xs 6), Value.int .i64 (at8 xs 7), Value.int .i64 den] 67)).cell? ⟨w2.heap.size + 1, 5, none⟩ = some (Value.int .i64 (at8 xs 4)) := by go_simp
  have kx6 : ((w2.alloc (Obj.cells #[Value.int .i64 (xs.length : Int), Value.int .i64 (at8 xs 0), Value.int .i64 (at8 xs 1), Value.int .i64 (at8 xs 2), Value.int .i64 (at8 xs 3), Value.int .i64 (at8 xs 4), Value.int .i64 (at8 xs 5), Value.int .i64 (at8 xs 6), Value.int .i64 (at8 xs 7)] 65)).alloc (Obj.cells #[Value.int .i64 (xs.length : Int), Value.int .i64 (at8 xs 0), Value.int .i64 (at8 xs 1), Value.int .i64 (at8 xs 2), Value.int .i64 (at8 xs 3), Value.int .i64 (at8 xs 4), Value.int .i64 (at8 xs 5), Value.int .i64 (at8 xs 6), Value.int .i64 (at8 xs 7), Value.int .i64 den] 67)).cell? ⟨w2.heap.size + 1, 6, none⟩ = some (Value.int .i64 (at8 xs 5)) := by go_simp
  have kx7 : ((w2.alloc (Obj.cells #[Value.int .i64 (xs.length : Int), Value.int .i64 (at8 xs 0), Value.int .i64 (at8 xs 1), Value.int .i64 (at8 xs 2), Value.int .i64 (at8 xs 3), Value.int .i64 (at8 xs 4), Value.int .i64 (at8 xs 5), Value.int .i64 (at8 xs 6), Value.int .i64 (at8 xs 7)] 65)).alloc (Obj.cells #[Value.int .i64 (xs.length : Int), Value.int .i64 (at8 xs 0), Value.int .i64 (at8 xs 1), Value.int .i64 (at8 xs 2), Value.int .i64 (at8 xs 3), Value.int .i64 (at8 xs 4), Value.int .i64 (at8 xs 5), Value.int .i64 (at8 xs 6), Value.int .i64 (at8 xs 7), Value.int .i64 den] 67)).cell? ⟨w2.heap.size + 1, 7, none⟩ = some (Value.int .i64 (at8 xs 6)) := by go_simp
  have kx8 : ((w2.alloc (Obj.cells #[Value.int .i64 (xs.length : Int), Value.int .i64 (at8 xs 0), Value.int .i64 (at8 xs 1), Value.int .i64 (at8 xs 2), Value.int .i64 (at8 xs 3), Value.int .i64 (at8 xs 4), Value.int .i64 (at8 xs 5), Value.int .i64 (at8 xs 6), Value.int .i64 (at8 xs 7)] 65)).alloc (Obj.cells #[Value.int .i64 (xs.length : Int), Value.int .i64 (at8 xs 0), Value.int .i64 (at8 xs 1), Value.int .i64 (at8 xs 2), Value.int .i64 (at8 xs 3), Value.int .i64 (at8 xs 4), Value.int .i64 (at8 xs 5), Value.int .i64 (at8 xs 6), Value.int .i64 (at8 xs 7), Value.int .i64 den] 67)).cell? ⟨w2.heap.size + 1, 8, none⟩ = some (Value.int .i64 (at8 xs 7)) := by go_simp
  have kx9 : ((w2.alloc (Obj.cells #[Value.int .i64 (xs.length : Int), Value.int .i64 (at8 xs 0), Value.int .i64 (at8 xs 1), Value.int .i64 (at8 xs 2), Value.int .i64 (at8 xs 3), Value.int .i64 (at8 xs 4), Value.int .i64 (at8 xs 5), Value.int .i64 (at8 xs 6), Value.int .i64 (at8 xs 7)] 65)).alloc (Obj.cells #[Value.int .i64 (xs.length : Int), Value.int .i64 (at8 xs 0), Value.int .i64 (at8 xs 1), Value.int .i64 (at8 xs 2), Value.int .i64 (at8 xs 3), Value.int .i64 (at8 xs 4), Value.int .i64 (at8 xs 5), Value.int .i64 (at8 xs 6), Value.int .i64 (at8 xs 7), Value.int .i64 den] 67)).cell? ⟨w2.heap.size + 1, 9, none⟩ = some (Value.int .i64 den) := by go_simp
  have zx : w2.heap.size + 1 < ((w2.alloc (Obj.cells #[Value.int .i64 (xs.length : Int), Value.int .i64 (at8 xs 0), Value.int .i64 (at8 xs 1), Value.int .i64 (at8 xs 2), Value.int .i64 (at8 xs 3), Value.int .i64 (at8 xs 4), Value.int .i64 (at8 xs 5), Value.int .i64 (at8 xs 6), Value.int .i64 (at8 xs 7)] 65)).alloc (Obj.cells #[Value.int .i64 (xs.length : Int), Value.int .i64 (at8 xs 0), Value.int .i64 (at8 xs 1), Value.int .i64 (at8 xs 2), Value.int .i64 (at8 xs 3), Value.int .i64 (at8 xs 4), Value.int .i64 (at8 xs 5), Value.int .i64 (at8 xs 6), Value.int .i64 (at8 xs 7), Value.int .i64 den] 67)).heap.size := by simp only [World.size_alloc]; omega
  generalize ((w2.alloc (Obj.cells #[Value.int .i64 (xs.length : Int), Value.int .i64 (at8 xs 0), Value.int .i64 (at8 xs 1), Value.int .i64 (at8 xs 2), Value.int .i64 (at8 xs 3), Value.int .i64 (at8 xs 4), Value.int .i64 (at8 xs 5), Value.int .i64 (at8 xs 6), Value.int .i64 (at8 xs 7)] 65)).alloc (Obj.cells #[Value.int .i64 (xs.length : Int), Value.int .i64 (at8 xs 0), Value.int .i64 (at8 xs 1), Value.int .i64 (at8 xs 2), Value.int .i64 (at8 xs 3), Value.int .i64 (at8 xs 4), Value.int .i64 (at8 xs 5), Value.int .i64 (at8 xs 6), Value.int .i64 (at8 xs 7), Value.int .i64 den] 67)) = w3 at *
  clear hb
  have KP : Hid (∀ w', Below w3.heap.size w3 w' → (w'.cell? ⟨w.heap.size + 1, 0, none⟩ = some (Value.int .i64 0) ∧ w'.cell? ⟨w.heap.size + 1, 1, none⟩ = some (Value.int .i64 0) ∧ w'.cell? ⟨w.heap.size + 1, 2, none⟩ = some (Value.int .i64 0) ∧ w'.cell? ⟨w.heap.size + 1, 3, none⟩ = some (Value.int .i64 0) ∧ w'.cell? ⟨w.heap.size + 1, 4, none⟩ = some (Value.int .i64 0) ∧ w'.cell? ⟨w.heap.size + 1, 5, none⟩ = some (Value.int .i64 0) ∧ w'.cell? ⟨w.heap.size + 1, 6, none⟩ = some (Value.int .i64 0) ∧ w'.cell? ⟨w.heap.size + 1, 7, none⟩ = some (Value.int .i64 0) ∧ w'.cell? ⟨w.heap.size + 1, 8, none⟩ = some (Value.int .i64 0) ∧ w'.cell? ⟨w.heap.size + 1, 9, none⟩ = some (Value.int .i64 0) ∧ w'.frozen? ⟨w.heap.size + 1, 0, none⟩ = false ∧ w'.frozen? ⟨w.heap.size + 1, 1, none⟩ = false ∧ w'.frozen? ⟨w.heap.size + 1, 2, none⟩ = false ∧ w'.frozen? ⟨w.heap.size + 1, 3, none⟩ = false ∧ w'.frozen? ⟨w.heap.size + 1, 4, none⟩ = false ∧ w'.frozen? ⟨w.heap.size + 1, 5, none⟩ = false ∧ w'.frozen? ⟨w.heap.size + 1, 6, none⟩ = false ∧ w'.frozen? ⟨w.heap.size + 1, 7, none⟩ = false ∧ w'.frozen? ⟨w.heap.size + 1, 8, none⟩ = false ∧ w'.frozen? ⟨w.heap.size + 1, 9, none⟩ = false ∧ w'.cell? ⟨w2.heap.size + 1, 0, none⟩ = some (Value.int .i64 (xs.length : Int)) ∧ w'.cell? ⟨w2.heap.size + 1, 1, none⟩ = some (Value.int .i64 (at8 xs 0)) ∧ w'.cell? ⟨w2.heap.size + 1, 2, none⟩ = some (Value.int .i64 (at8 xs 1)) ∧ w'.cell? ⟨w2.heap.size + 1, 3, none⟩ = some (Value.int .i64 (at8 xs 2)) ∧ w'.cell? ⟨w2.heap.size + 1, 4, none⟩ = some (Value.int .i64 (at8 xs 3)) ∧ w'.cell? ⟨w2.heap.size + 1, 5, none⟩ = some (Value.int .i64 (at8 xs 4)) ∧ w'.cell? ⟨w2.heap.size + 1, 6, none⟩ = some (Value.int .i64 (at8 xs 5)) ∧ w'.cell? ⟨w2.heap.size + 1, 7, none⟩ = some (Value.int .i64 (at8 xs 6)) ∧ w'.cell? ⟨w2.heap.size + 1, 8, none⟩ = some (Value.int .i64 (at8 xs 7)) ∧ w'.cell? ⟨w2.heap.size + 1, 9, none⟩ = some (Value.int .i64 den) ∧ Hid (Below w.heap.size w w'))) := hide (fun w' hb => ⟨(hb.cell (p := ⟨w.heap.size + 1, 0, none⟩) zr).trans kr0, (hb.cell (p := ⟨w.heap.size + 1, 1, none⟩) zr).trans kr1, (hb.cell (p := ⟨w.heap.size + 1, 2, none⟩) zr).trans kr2, (hb.cell (p := ⟨w.heap.size + 1, 3, none⟩) zr).trans kr3, (hb.cell (p := ⟨w.heap.size + 1, 4, none⟩) zr).trans kr4, (hb.cell (p := ⟨w.heap.size + 1, 5, none⟩) zr).trans kr5, (hb.cell (p := ⟨w.heap.size + 1, 6, none⟩) zr).trans kr6, (hb.cell (p := ⟨w.heap.size + 1, 7, none⟩) zr).trans kr7, (hb.cell (p := ⟨w.heap.size + 1, 8, none⟩) zr).trans kr8, (hb.cell (p := ⟨w.heap.size + 1, 9, none⟩) zr).trans kr9, (hb.frozen (p := ⟨w.heap.size + 1, 0, none⟩) zr).trans fr0, (hb.frozen (p := ⟨w.heap.size + 1, 1, none⟩) zr).trans fr1, (hb.frozen (p := ⟨w.heap.size + 1, 2, none⟩) zr).trans fr2, (hb.frozen (p := ⟨w.heap.size + 1, 3, none⟩) zr).trans fr3, (hb.frozen (p := ⟨w.heap.size + 1, 4, none⟩) zr).trans fr4, (hb.frozen (p := ⟨w.heap.size + 1, 5, none⟩) zr).trans fr5, (hb.frozen (p := ⟨w.heap.size + 1, 6, none⟩) zr).trans fr6, (hb.frozen (p := ⟨w.heap.size + 1, 7, none⟩) zr).trans fr7, (hb.frozen (p := ⟨w.heap.size + 1, 8, none⟩) zr).trans fr8, (hb.frozen (p := ⟨w.heap.size + 1, 9, none⟩) zr).trans fr9, (hb.cell (p := ⟨w2.heap.size + 1, 0, none⟩) zx).trans kx0, (hb.cell (p := ⟨w2.heap.size + 1, 1, none⟩) zx).trans kx1, (hb.cell (p := ⟨w2.heap.size + 1, 2, none⟩) zx).trans kx2, (hb.cell (p := ⟨w2.heap.size + 1, 3, none⟩) zx).trans kx3, (hb.cell (p := ⟨w2.heap.size + 1, 4, none⟩) zx).trans kx4, (hb.cell (p := ⟨w2.heap.size + 1, 5, none⟩) zx).trans kx5, (hb.cell (p := ⟨w2.heap.size + 1, 6, none⟩) zx).trans kx6, (hb.cell (p := ⟨w2.heap.size + 1, 7, none⟩) zx).trans kx7, (hb.cell (p := ⟨w2.heap.size + 1, 8, none⟩) zx).trans kx8, (hb.cell (p := ⟨w2.heap.size + 1, 9, none⟩) zx).trans kx9, hide (bl_trans HB.out hb)⟩)
  go_region_with (go_at_call 73; refine (right8 _ _ _ _).mono ?_; rintro e w4 ⟨rfl, hb4⟩; obtain ⟨qr0, qr1, qr2, qr3, qr4, qr5, qr6, qr7, qr8, qr9, qf0, qf1, qf2, qf3, qf4, qf5, qf6, qf7, qf8, qf9, qx0, qx1, qx2, qx3, qx4, qx5, qx6, qx7, qx8, qx9, HQ⟩ := KP.out w4 (bl_trans (bl_refl w3).drew hb4); clear hb4)
  all_goals
    go_wp2
    refine bodyPost_ret (v := .tuple #[Value.agg #[Value.int .i64 (xs.length : Int), Value.int .i64 (at8 xs 0), Value.int .i64 (at8 xs 1), Value.int .i64 (at8 xs 2), Value.int .i64 (at8 xs 3), Value.int .i64 (at8 xs 4), Value.int .i64 (at8 xs 5), Value.int .i64 (at8 xs 6), Value.int .i64 (at8 xs 7), Value.int .i64 den], .bool (rgtB (at8 xs) den)]) (by simp [results, Try.results63, go_sem, *]) rfl ⟨rfl, ?_⟩
    exact ((((((((((HQ.out.setCell (p := ⟨w.heap.size + 1, 0, none⟩) (Nat.le_succ _) _).setCell (p := ⟨w.heap.size + 1, 1, none⟩) (Nat.le_succ _) _).setCell (p := ⟨w.heap.size + 1, 2, none⟩) (Nat.le_succ _) _).setCell (p := ⟨w.heap.size + 1, 3, none⟩) (Nat.le_succ _) _).setCell (p := ⟨w.heap.size + 1, 4, none⟩) (Nat.le_succ _) _).setCell (p := ⟨w.heap.size + 1, 5, none⟩) (Nat.le_succ _) _).setCell (p := ⟨w.heap.size + 1, 6, none⟩) (Nat.le_succ _) _).setCell (p := ⟨w.heap.size + 1, 7, none⟩) (Nat.le_succ _) _).setCell (p := ⟨w.heap.size + 1, 8, none⟩) (Nat.le_succ _) _).setCell (p := ⟨w.heap.size + 1, 9, none⟩) (Nat.le_succ _) _)

/-- powers are right -/
def vokB (den : Int) (xs : List Int) : Bool := decide (xs.length ≤ 8) && rgtB (at8 xs) den
/-- the places that powersOf tells -/
def pwN (xs : List Int) : Int := if xs.length ≤ 8 then xs.length else 0
def pwF (xs : List Int) (j : Nat) : Int := if xs.length ≤ 8 then at8 xs j else 0
theorem powersOf (den : Int) (a : Option Addr) (cap : Nat) (xs : List Int) (w : World) (hs : Seg w a xs.length cap xs) :
    Calls Try.prog 63 #[.agg #[.int .i64 den, .slice a xs.length cap]] w fun e w' => e = .returned (.tuple #[Value.agg #[Value.int .i64 (pwN xs), Value.int .i64 (pwF xs 0), Value.int .i64 (pwF xs 1), Value.int .i64 (pwF xs 2), Value.int .i64 (pwF xs 3), Value.int .i64 (pwF xs 4), Value.int .i64 (pwF xs 5), Value.int .i64 (pwF xs 6), Value.int .i64 (pwF xs 7), Value.int .i64 den], .bool (vokB den xs)]) ∧ Below w.heap.size w w' := by
  by_cases h : xs.length ≤ 8
  · have e0 : pwN xs = xs.length := if_pos h
    have e1 : ∀ j, pwF xs j = at8 xs j := fun j => if_pos h
    have e2 : vokB den xs = rgtB (at8 xs) den := by unfold vokB; rw [decide_eq_true h]; rfl
    simp only [e0, e1, e2]
    exact powersOf_yes den a cap xs w h hs
  · have e0 : pwN xs = 0 := if_neg h
    have e1 : ∀ j, pwF xs j = 0 := fun j => if_neg h
    have e2 : vokB den xs = false := by unfold vokB; rw [decide_eq_false h]; rfl
    simp only [e0, e1, e2]
    exact powersOf_no den a xs.length cap w (by omega) hs.le

set_option maxHeartbeats 400000 in
theorem vecOkI (den : Int) (a : Option Addr) (cap : Nat) (xs : List Int) (w : World) (hs : Seg w a xs.length cap xs) :
    Calls Try.prog 34 #[.agg #[.int .i64 den, .slice a xs.length cap]] w fun e w' => e = .returned (.bool (vokB den xs)) ∧ Below w.heap.size w w' := by
  have HB := hide (bl_alloc (bl_refl w) (Obj.cells #[Value.int .i64 den, Value.slice a xs.length cap] 29))
  have HS := hide (hs.below HB.out)
  clear hs
  go_enter Try.func34, Try.ntmps34
  go_wp2_with fail
  refine (powersOf den a cap xs _ HS.out).mono ?_
  rintro e w2 ⟨rfl, hb⟩
  have HB2 := hide (bl_trans HB.out hb)
  clear hb HB HS
  go_wp2
  go_ret
  exact ⟨rfl, bl_alloc HB2.out _⟩
end Go.Proofs.Ytkfiidldappdcaa
