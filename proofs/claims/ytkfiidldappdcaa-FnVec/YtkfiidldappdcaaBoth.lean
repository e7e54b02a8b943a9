/- The walk of bothPowers. -/
import Derived.Test.YtkfiidldappdcaaPwOf
import Derived.Deep.RegionHeld3
import Derived.BigRegion
import Derived.Deep.DeepCutAuto
namespace Go.Proofs.Ytkfiidldappdcaa
open Go.RowKit
set_option linter.unusedVariables false

/-- two blocks are as they were -/
def Kp (A B : Nat) (w w' : World) : Prop := ∀ o, w'.cell? ⟨A, o, none⟩ = w.cell? ⟨A, o, none⟩ ∧ w'.cell? ⟨B, o, none⟩ = w.cell? ⟨B, o, none⟩
theorem Kp.refl (A B : Nat) (w : World) : Kp A B w w := fun _ => ⟨rfl, rfl⟩
theorem Kp.set {A B : Nat} {w w' : World} (h : Kp A B w w') {p : Addr} (h1 : ¬ p.block = A) (h2 : ¬ p.block = B) (v : Value) : Kp A B w (w'.setCell p v) := fun o =>
  ⟨(World.cell?_of_block (Below.heap_setCell w' p v A (fun e => h1 e.symm))).trans (h o).1, (World.cell?_of_block (Below.heap_setCell w' p v B (fun e => h2 e.symm))).trans (h o).2⟩
theorem Kp.drew {A B : Nat} {w w' : World} (h : Kp A B w w') : Kp A B w w'.drew := h
set_option maxHeartbeats 4000000 in
theorem bothP (d1 : Int) (a : Option Addr) (c1 : Nat) (xs : List Int) (d2 : Int) (b : Option Addr) (c2 : Nat) (ys : List Int) (w : World) (h1 : Seg w a xs.length c1 xs) (h2 : Seg w b ys.length c2 ys) :
    Calls Try.prog 57 #[.agg #[Value.int .i64 d1, Value.slice a xs.length c1], .agg #[Value.int .i64 d2, Value.slice b ys.length c2]] w fun e w' => e = .returned (.tuple #[Value.agg #[Value.int .i64 (pwN xs), Value.int .i64 (pwF xs 0), Value.int .i64 (pwF xs 1), Value.int .i64 (pwF xs 2), Value.int .i64 (pwF xs 3), Value.int .i64 (pwF xs 4), Value.int .i64 (pwF xs 5), Value.int .i64 (pwF xs 6), Value.int .i64 (pwF xs 7), Value.int .i64 d1], Value.agg #[Value.int .i64 (pwN ys), Value.int .i64 (pwF ys 0), Value.int .i64 (pwF ys 1), Value.int .i64 (pwF ys 2), Value.int .i64 (pwF ys 3), Value.int .i64 (pwF ys 4), Value.int .i64 (pwF ys 5), Value.int .i64 (pwF ys 6), Value.int .i64 (pwF ys 7), Value.int .i64 d2], .bool (vokB d1 xs && vokB d2 ys && (pwN xs == pwN ys))]) ∧ Below w.heap.size w w' := by
  have ka0 : ((((w.alloc (Obj.cells #[Value.int .i64 d1, Value.slice a xs.length c1] 29)).alloc (Obj.cells #[Value.int .i64 d2, Value.slice b ys.length c2] 29)).alloc (Obj.cells #[Value.int .i64 0, Value.int .i64 0, Value.int .i64 0, Value.int .i64 0, Value.int .i64 0, Value.int .i64 0, Value.int .i64 0, Value.int .i64 0, Value.int .i64 0, Value.int .i64 0] 67)).alloc (Obj.cells #[Value.int .i64 0, Value.int .i64 0, Value.int .i64 0, Value.int .i64 0, Value.int .i64 0, Value.int .i64 0, Value.int .i64 0, Value.int .i64 0, Value.int .i64 0, Value.int .i64 0] 67)).cell? ⟨w.heap.size, 0, none⟩ = some (Value.int .i64 d1) := by go_simp
  have ka1 : ((((w.alloc (Obj.cells #[Value.int .i64 d1, Value.slice a xs.length c1] 29)).alloc (Obj.cells #[Value.int .i64 d2, Value.slice b ys.length c2] 29)).alloc (Obj.cells #[Value.int .i64 0, Value.int .i64 0, Value.int .i64 0, Value.int .i64 0, Value.int .i64 0, Value.int .i64 0, Value.int .i64 0, Value.int .i64 0, Value.int .i64 0, Value.int .i64 0] 67)).alloc (Obj.cells #[Value.int .i64 0, Value.int .i64 0, Value.int .i64 0, Value.int .i64 0, Value.int .i64 0, Value.int .i64 0, Value.int .i64 0, Value.int .i64 0, Value.int .i64 0, Value.int .i64 0] 67)).cell? ⟨w.heap.size, 1, none⟩ = some (Value.slice a xs.length c1) := by go_simp
  have za : w.heap.size < ((((w.alloc (Obj.cells #[Value.int .i64 d1, Value.slice a xs.length c1] 29)).alloc (Obj.cells #[Value.int .i64 d2, Value.slice b ys.length c2] 29)).alloc (Obj.cells #[Value.int .i64 0, Value.int .i64 0, Value.int .i64 0, Value.int .i64 0, Value.int .i64 0, Value.int .i64 0, Value.int .i64 0, Value.int .i64 0, Value.int .i64 0, Value.int .i64 0] 67)).alloc (Obj.cells #[Value.int .i64 0, Value.int .i64 0, Value.int .i64 0, Value.int .i64 0, Value.int .i64 0, Value.int .i64 0, Value.int .i64 0, Value.int .i64 0, Value.int .i64 0, Value.int .i64 0] 67)).heap.size := by simp only [World.size_alloc]; omega
  have kb0 : ((((w.alloc (Obj.cells #[Value.int .i64 d1, Value.slice a xs.length c1] 29)).alloc (Obj.cells #[Value.int .i64 d2, Value.slice b ys.length c2] 29)).alloc (Obj.cells #[Value.int .i64 0, Value.int .i64 0, Value.int .i64 0, Value.int .i64 0, Value.int .i64 0, Value.int .i64 0, Value.int .i64 0, Value.int .i64 0, Value.int .i64 0, Value.int .i64 0] 67)).alloc (Obj.cells #[Value.int .i64 0, Value.int .i64 0, Value.int .i64 0, Value.int .i64 0, Value.int .i64 0, Value.int .i64 0, Value.int .i64 0, Value.int .i64 0, Value.int .i64 0, Value.int .i64 0] 67)).cell? ⟨w.heap.size + 1, 0, none⟩ = some (Value.int .i64 d2) := by go_simp
  have kb1 : ((((w.alloc (Obj.cells #[Value.int .i64 d1, Value.slice a xs.length c1] 29)).alloc (Obj.cells #[Value.int .i64 d2, Value.slice b ys.length c2] 29)).alloc (Obj.cells #[Value.int .i64 0, Value.int .i64 0, Value.int .i64 0, Value.int .i64 0, Value.int .i64 0, Value.int .i64 0, Value.int .i64 0, Value.int .i64 0, Value.int .i64 0, Value.int .i64 0] 67)).alloc (Obj.cells #[Value.int .i64 0, Value.int .i64 0, Value.int .i64 0, Value.int .i64 0, Value.int .i64 0, Value.int .i64 0, Value.int .i64 0, Value.int .i64 0, Value.int .i64 0, Value.int .i64 0] 67)).cell? ⟨w.heap.size + 1, 1, none⟩ = some (Value.slice b ys.length c2) := by go_simp
  have zb : w.heap.size + 1 < ((((w.alloc (Obj.cells #[Value.int .i64 d1, Value.slice a xs.length c1] 29)).alloc (Obj.cells #[Value.int .i64 d2, Value.slice b ys.length c2] 29)).alloc (Obj.cells #[Value.int .i64 0, Value.int .i64 0, Value.int .i64 0, Value.int .i64 0, Value.int .i64 0, Value.int .i64 0, Value.int .i64 0, Value.int .i64 0, Value.int .i64 0, Value.int .i64 0] 67)).alloc (Obj.cells #[Value.int .i64 0, Value.int .i64 0, Value.int .i64 0, Value.int .i64 0, Value.int .i64 0, Value.int .i64 0, Value.int .i64 0, Value.int .i64 0, Value.int .i64 0, Value.int .i64 0] 67)).heap.size := by simp only [World.size_alloc]; omega
  have kr0 : ((((w.alloc (Obj.cells #[Value.int .i64 d1, Value.slice a xs.length c1] 29)).alloc (Obj.cells #[Value.int .i64 d2, Value.slice b ys.length c2] 29)).alloc (Obj.cells #[Value.int .i64 0, Value.int .i64 0, Value.int .i64 0, Value.int .i64 0, Value.int .i64 0, Value.int .i64 0, Value.int .i64 0, Value.int .i64 0, Value.int .i64 0, Value.int .i64 0] 67)).alloc (Obj.cells #[Value.int .i64 0, Value.int .i64 0, Value.int .i64 0, Value.int .i64 0, Value.int .i64 0, Value.int .i64 0, Value.int .i64 0, Value.int .i64 0, Value.int .i64 0, Value.int .i64 0] 67)).cell? ⟨w.heap.size + 1 + 1, 0, none⟩ = some (Value.int .i64 0) := by go_simp
  have fr0 : ((((w.alloc (Obj.cells #[Value.int .i64 d1, Value.slice a xs.length c1] 29)).alloc (Obj.cells #[Value.int .i64 d2, Value.slice b ys.length c2] 29)).alloc (Obj.cells #[Value.int .i64 0, Value.int .i64 0, Value.int .i64 0, Value.int .i64 0, Value.int .i64 0, Value.int .i64 0, Value.int .i64 0, Value.int .i64 0, Value.int .i64 0, Value.int .i64 0] 67)).alloc (Obj.cells #[Value.int .i64 0, Value.int .i64 0, Value.int .i64 0, Value.int .i64 0, Value.int .i64 0, Value.int .i64 0, Value.int .i64 0, Value.int .i64 0, Value.int .i64 0, Value.int .i64 0] 67)).frozen? ⟨w.heap.size + 1 + 1, 0, none⟩ = false := by go_simp
  have kr1 : ((((w.alloc (Obj.cells #[Value.int .i64 d1, Value.slice a xs.length c1] 29)).alloc (Obj.cells #[Value.int .i64 d2, Value.slice b ys.length c2] 29)).alloc (Obj.cells #[Value.int .i64 0, Value.int .i64 0, Value.int .i64 0, Value.int .i64 0, Value.int .i64 0, Value.int .i64 0, Value.int .i64 0, Value.int .i64 0, Value.int .i64 0, Value.int .i64 0] 67)).alloc (Obj.cells #[Value.int .i64 0, Value.int .i64 0, Value.int .i64 0, Value.int .i64 0, Value.int .i64 0, Value.int .i64 0, Value.int .i64 0, Value.int .i64 0, Value.int .i64 0, Value.int .i64 0] 67)).cell? ⟨w.heap.size + 1 + 1, 1, none⟩ = some (Value.int .i64 0) := by go_simp
  have fr1 : ((((w.alloc (Obj.cells #[Value.int .i64 d1, Value.slice a xs.length c1] 29)).alloc (Obj.cells #[Value.int .i64 d2, Value.slice b ys.length c2] 29)).alloc (Obj.cells #[Value.int .i64 0, Value.int .i64 0, Value.int .i64 0, Value.int .i64 0, Value.int .i64 0, Value.int .i64 0, Value.int .i64 0, Value.int .i64 0, Value.int .i64 0, Value.int .i64 0] 67)).alloc (Obj.cells #[Value.int .i64 0, Value.int .i64 0, Value.int .i64 0, Value.int .i64 0, Value.int .i64 0, Value.int .i64 0, Value.int .i64 0, Value.int .i64 0, Value.int .i64 0, Value.int .i64 0] 67)).frozen? ⟨w.heap.size + 1 + 1, 1, none⟩ = false := by go_simp
  have kr2 : ((((w.alloc (Obj.cells #[Value.int .i64 d1, Value.slice a xs.length c1] 29)).alloc (Obj.cells #[Value.int .i64 d2, Value.slice b ys.length c2] 29)).alloc (Obj.cells #[Value.int .i64 0, Value.int .i64 0, Value.int .i64 0, Value.int .i64 0, Value.int .i64 0, Value.int .i64 0, Value.int .i64 0, Value.int .i64 0, Value.int .i64 0, Value.int .i64 0] 67)).alloc (Obj.cells #[Value.int .i64 0, Value.int .i64 0, Value.int .i64 0, Value.int .i64 0, Value.int .i64 0, Value.int .i64 0, Value.int .i64 0, Value.int .i64 0, Value.int .i64 0, Value.int .i64 0] 67)).cell? ⟨w.heap.size + 1 + 1, 2, none⟩ = some (Value.int .i64 0) := by go_simp
  have fr2 : ((((w.alloc (Obj.cells #[Value.int .i64 d1, Value.slice a xs.length c1] 29)).alloc (Obj.cells #[Value.int .i64 d2, Value.slice b ys.length c2] 29)).alloc (Obj.cells #[Value.int .i64 0, Value.int .i64 0, Value.int .i64 0, Value.int .i64 0, Value.int .i64 0, Value.int .i64 0, Value.int .i64 0, Value.int .i64 0, Value.int .i64 0, Value.int .i64 0] 67)).alloc (Obj.cells #[Value.int .i64 0, Value.int .i64 0, Value.int .i64 0, Value.int .i64 0, Value.int .i64 0, Value.int .i64 0, Value.int .i64 0, Value.int .i64 0, Value.int .i64 0, Value.int .i64 0] 67)).frozen? ⟨w.heap.size + 1 + 1, 2, none⟩ = false := by go_simp
  have kr3 : ((((w.alloc (Obj.cells #[Value.int .i64 d1, Value.slice a xs.length c1] 29)).alloc (Obj.cells #[Value.int .i64 d2, Value.slice b ys.length c2] 29)).alloc (Obj.cells #[Value.int .i64 0, Value.int .i64 0, Value.int .i64 0, Value.int .i64 0, Value.int .i64 0, Value.int .i64 0, Value.int .i64 0, Value.int .i64 0, Value.int .i64 0, Value.int .i64 0] 67)).alloc (Obj.cells #[Value.int .i64 0, Value.int .i64 0, Value.int .i64 0, Value.int .i64 0, Value.int .i64 0, Value.int .i64 0, Value.int .i64 0, Value.int .i64 0, Value.int .i64 0, Value.int .i64 0] 67)).cell? ⟨w.heap.size + 1 + 1, 3, none⟩ = some (Value.int .i64 0) := by go_simp
  have fr3 : ((((w.alloc (Obj.cells #[Value.int .i64 d1, Value.slice a xs.length c1] 29)).alloc (Obj.cells #[Value.int .i64 d2, Value.slice b ys.length c2] 29)).alloc (Obj.cells #[Value.int .i64 0, Value.int .i64 0, Value.int .i64 0, Value.int .i64 0, Value.int .i64 0, Value.int .i64 0, Value.int .i64 0, Value.int .i64 0, Value.int .i64 0, Value.int .i64 0] 67)).alloc (Obj.cells #[Value.int .i64 0, Value.int .i64 0, Value.int .i64 0, Value.int .i64 0, Value.int .i64 0, Value.int .i64 0, Value.int .i64 0, Value.int .i64 0, Value.int .i64 0, Value.int .i64 0] 67)).frozen? ⟨w.heap.size + 1 + 1, 3, none⟩ = false := by go_simp
  have kr4 : ((((w.alloc (Obj.cells #[Value.int .i64 d1, Value.slice a xs.length c1] 29)).alloc (Obj.cells #[Value.int .i64 d2, Value.slice b ys.length c2] 29)).alloc (Obj.cells #[Value.int .i64 0, Value.int .i64 0, Value.int .i64 0, Value.int .i64 0, Value.int .i64 0, Value.int .i64 0, Value.int .i64 0, Value.int .i64 0, Value.int .i64 0, Value.int .i64 0] 67)).alloc (Obj.cells #[Value.int .i64 0, Value.int .i64 0, Value.int .i64 0, Value.int .i64 0, Value.int .i64 0, Value.int .i64 0, Value.int .i64 0, Value.int .i64 0, Value.int .i64 0, Value.int .i64 0] 67)).cell? ⟨w.heap.size + 1 + 1, 4, none⟩ = some (Value.int .i64 0) := by go_simp
  have fr4 : ((((w.alloc (Obj.cells #[Value.int .i64 d1, Value.slice a xs.length c1] 29)).alloc (Obj.cells #[Value.int .i64 d2, Value.slice b ys.length c2] 29)).alloc (Obj.cells #[Value.int .i64 0, Value.int .i64 0, Value.int .i64 0, Value.int .i64 0, Value.int .i64 0, Value.int .i64 0, Value.int .i64 0, Value.int .i64 0, Value.int .i64 0, Value.int .i64 0] 67)).alloc (Obj.cells #[Value.int .i64 0, Value.int .i64 0, Value.int .i64 0, Value.int .i64 0, Value.int .i64 0, Value.int .i64 0, Value.int .i64 0, Value.int .i64 0, Value.int .i64 0, Value.int .i64 0] 67)).frozen? ⟨w.heap.size + 1 + 1, 4, none⟩ = false := by go_simp
  have kr5 : ((((w.alloc (Obj.cells #[Value.int .i64 d1, Value.slice a xs.length c1] 29)).alloc (Obj.cells #[Value.int .i64 d2, Value.slice b ys.length c2] 29)).alloc (Obj.cells #[Value.int .i64 0, Value.int .i64 0, Value.int .i64 0, Value.int .i64 0, Value.int .i64 0, Value.int .i64 0, Value.int .i64 0, Value.int .i64 0, Value.int .i64 0, Value.int .i64 0] 67)).alloc (Obj.cells #[Value.int .i64 0, Value.int .i64 0, Value.int .i64 0, Value.int .i64 0, Value.int .i64 0, Value.int .i64 0, Value.int .i64 0, Value.int .i64 0, Value.int .i64 0, Value.int .i64 0] 67)).cell? ⟨w.heap.size + 1 + 1, 5, none⟩ = some (Value.int .i64 0) := by go_simp
  have fr5 : ((((w.alloc (Obj.cells #[Value.int .i64 d1, Value.slice a xs.length c1] 29)).alloc (Obj.cells #[Value.int .i64 d2, Value.slice b ys.length c2] 29)).alloc (Obj.cells #[Value.int .i64 0, Value.int .i64 0, Value.int .i64 0, Value.int .i64 0, Value.int .i64 0, Value.int .i64 0, Value.int .i64 0, Value.int .i64 0, Value.int .i64 0, Value.int .i64 0] 67)).alloc (Obj.cells #[Value.int .i64 0, Value.int .i64 0, Value.int .i64 0, Value.int .i64 0, Value.int .i64 0, Value.int .i64 0, Value.int .i64 0, Value.int .i64 0, Value.int .i64 0, Value.int .i64 0] 67)).frozen? ⟨w.heap.size + 1 + 1, 5, none⟩ = false := by go_simp
  have kr6 : ((((w.alloc (Obj.cells #[Value.int .i64 d1, Value.slice a xs.length c1] 29)).alloc (Obj.cells #[Value.int .i64 d2, Value.slice b ys.length c2] 29)).alloc (Obj.cells #[Value.int .i64 0, Value.int .i64 0, Value.int .i64 0, Value.int .i64 0, Value.int .i64 0, Value.int .i64 0, Value.int .i64 0, Value.int .i64 0, Value.int .i64 0, Value.int .i64 0] 67)).alloc (Obj.cells #[Value.int .i64 0, Value.int .i64 0, Value.int .i64 0, Value.int .i64 0, Value.int .i64 0, Value.int .i64 0, Value.int .i64 0, Value.int .i64 0, Value.int .i64 0, Value.int .i64 0] 67)).cell? ⟨w.heap.size + 1 + 1, 6, none⟩ = some (Value.int .i64 0) := by go_simp
  have fr6 : ((((w.alloc (Obj.cells #[Value.int .i64 d1, Value.slice a xs.length c1] 29)).alloc (Obj.cells #[Value.int .i64 d2, Value.slice b ys.length c2] 29)).alloc (Obj.cells #[Value.int .i64 0, Value.int .i64 0, Value.int .i64 0, Value.int .i64 0, Value.int .i64 0, Value.int .i64 0, Value.int .i64 0, Value.int .i64 0, Value.int .i64 0, Value.int .i64 0] 67)).alloc (Obj.cells #[Value.int .i64 0, Value.int .i64 0, Value.int .i64 0, Value.int .i64 0, Value.int .i64 0, Value.int .i64 0, Value.int .i64 0, Value.int .i64 0, Value.int .i64 0, Value.int .i64 0] 67)).frozen? ⟨w.heap.size + 1 + 1, 6, none⟩ = false := by go_simp
  have kr7 : ((((w.alloc (Obj.cells #[Value.int .i64 d1, Value.slice a xs.length c1] 29)).alloc (Obj.cells #[Value.int .i64 d2, Value.slice b ys.length c2] 29)).alloc (Obj.cells #[Value.int .i64 0, Value.int .i64 0, Value.int .i64 0, Value.int .i64 0, Value.int .i64 0, Value.int .i64 0, Value.int .i64 0, Value.int .i64 0, Value.int .i64 0, Value.int .i64 0] 67)).alloc (Obj.cells #[Value.int .i64 0, Value.int .i64 0, Value.int .i64 0, Value.int .i64 0, Value.int .i64 0, Value.int .i64 0, Value.int .i64 0, Value.int .i64 0, Value.int .i64 0, Value.int .i64 0] 67)).cell? ⟨w.heap.size + 1 + 1, 7, none⟩ = some (Value.int .i64 0) := by go_simp
  have fr7 : ((((w.alloc (Obj.cells #[Value.int .i64 d1, Value.slice a xs.length c1] 29)).alloc (Obj.cells #[Value.int .i64 d2, Value.slice b ys.length c2] 29)).alloc (Obj.cells #[Value.int .i64 0, Value.int .i64 0, Value.int .i64 0, Value.int .i64 0, Value.int .i64 0, Value.int .i64 0, Value.int .i64 0, Value.int .i64 0, Value.int .i64 0, Value.int .i64 0] 67)).alloc (Obj.cells #[Value.int .i64 0, Value.int .i64 0, Value.int .i64 0, Value.int .i64 0, Value.int .i64 0, Value.int .i64 0, Value.int .i64 0, Value.int .i64 0, Value.int .i64 0, Value.int .i64 0] 67)).frozen? ⟨w.heap.size + 1 + 1, 7, none⟩ = false := by go_simp
  have kr8 : ((((w.alloc (Obj.cells #[Value.int .i64 d1, Value.slice a xs.length c1] 29)).alloc (Obj.cells #[Value.int .i64 d2, Value.slice b ys.length c2] 29)).alloc (Obj.cells #[Value.int .i64 0, Value.int .i64 0, Value.int .i64 0, Value.int .i64 0, Value.int .i64 0, Value.int .i64 0, Value.int .i64 0, Value.int .i64 0, Value.int .i64 0, Value.int .i64 0] 67)).alloc (Obj.cells #[Value.int .i64 0, Value.int .i64 0, Value.int .i64 0, Value.int .i64 0, Value.int .i64 0, Value.int .i64 0, Value.int .i64 0, Value.int .i64 0, Value.int .i64 0, Value.int .i64 0] 67)).cell? ⟨w.heap.size + 1 + 1, 8, none⟩ = some (Value.int .i64 0) := by go_simp
  have fr8 : ((((w.alloc (Obj.cells #[Value.int .i64 d1, Value.slice a xs.length c1] 29)).alloc (Obj.cells #[Value.int .i64 d2, Value.slice b ys.length c2] 29)).alloc (Obj.cells #[Value.int .i64 0, Value.int .i64 0, Value.int .i64 0, Value.int .i64 0, Value.int .i64 0, Value.int .i64 0, Value.int .i64 0, Value.int .i64 0, Value.int .i64 0, Value.int .i64 0] 67)).alloc (Obj.cells #[Value.int .i64 0, Value.int .i64 0, Value.int .i64 0, Value.int .i64 0, Value.int .i64 0, Value.int .i64 0, Value.int .i64 0, Value.int .i64 0, Value.int .i64 0, Value.int .i64 0] 67)).frozen? ⟨w.heap.size + 1 + 1, 8, none⟩ = false := by go_simp
  have kr9 : ((((w.alloc (Obj.cells #[Value.int .i64 d1, Value.slice a xs.length c1] 29)).alloc (Obj.cells #[Value.int .i64 d2, Value.slice b ys.length c2] 29)).alloc (Obj.cells #[Value.int .i64 0, Value.int .i64 0, Value.int .i64 0, Value.int .i64 0, Value.int .i64 0, Value.int .i64 0, Value.int .i64 0, Value.int .i64 0, Value.int .i64 0, Value.int .i64 0] 67)).alloc (Obj.cells #[Value.int .i64 0, Value.int .i64 0, Value.int .i64 0, Value.int .i64 0, Value.int .i64 0, Value.int .i64 0, Value.int .i64 0, Value.int .i64 0, Value.int .i64 0, Value.int .i64 0] 67)).cell? ⟨w.heap.size + 1 + 1, 9, none⟩ = some (Value.int .i64 0) := by go_simp
  have fr9 : ((((w.alloc (Obj.cells #[Value.int .i64 d1, Value.slice a xs.length c1] 29)).alloc (Obj.cells #[Value.int .i64 d2, Value.slice b ys.length c2] 29)).alloc (Obj.cells #[Value.int .i64 0, Value.int .i64 0, Value.int .i64 0, Value.int .i64 0, Value.int .i64 0, Value.int .i64 0, Value.int .i64 0, Value.int .i64 0, Value.int .i64 0, Value.int .i64 0] 67)).alloc (Obj.cells #[Value.int .i64 0, Value.int .i64 0, Value.int .i64 0, Value.int .i64 0, Value.int .i64 0, Value.int .i64 0, Value.int .i64 0, Value.int .i64 0, Value.int .i64 0, Value.int .i64 0] 67)).frozen? ⟨w.heap.size + 1 + 1, 9, none⟩ = false := by go_simp
  have zr : w.heap.size + 1 + 1 < ((((w.alloc (Obj.cells #[Value.int .i64 d1, Value.slice a xs.length c1] 29)).alloc (Obj.cells #[Value.int .i64 d2, Value.slice b ys.length c2] 29)).alloc (Obj.cells #[Value.int .i64 0, Value.int .i64 0, Value.int .i64 0, Value.int .i64 0, Value.int .i64 0, Value.int .i64 0, Value.int .i64 0, Value.int .i64 0, Value.int .i64 0, Value.int .i64 0] 67)).alloc (Obj.cells #[Value.int .i64 0, Value.int .i64 0, Value.int .i64 0, Value.int .i64 0, Value.int .i64 0, Value.int .i64 0, Value.int .i64 0, Value.int .i64 0, Value.int .i64 0, Value.int .i64 0] 67)).heap.size := by simp only [World.size_alloc]; omega
  have ks0 : ((((w.alloc (Obj.cells #[Value.int .i64 d1, Value.slice a xs.length c1] 29)).alloc (Obj.cells #[Value.int .i64 d2, Value.slice b ys.length c2] 29)).alloc (Obj.cells #[Value.int .i64 0, Value.int .i64 0, Value.int .i64 0, Value.int .i64 0, Value.int .i64 0, Value.int .i64 0, Value.int .i64 0, Value.int .i64 0, Value.int .i64 0, Value.int .i64 0] 67)).alloc (Obj.cells #[Value.int .i64 0, Value.int .i64 0, Value.int .i64 0, Value.int .i64 0, Value.int .i64 0, Value.int .i64 0, Value.int .i64 0, Value.int .i64 0, Value.int .i64 0, Value.int .i64 0] 67)).cell? ⟨w.heap.size + 1 + 1 + 1, 0, none⟩ = some (Value.int .i64 0) := by go_simp
  have fs0 : ((((w.alloc (Obj.cells #[Value.int .i64 d1, Value.slice a xs.length c1] 29)).alloc (Obj.cells #[Value.int .i64 d2, Value.slice b ys.length c2] 29)).alloc (Obj.cells #[Value.int .i64 0, Value.int .i64 0, Value.int .i64 0, Value.int .i64 0, Value.int .i64 0, Value.int .i64 0, Value.int .i64 0, Value.int .i64 0, Value.int .i64 0, Value.int .i64 0] 67)).alloc (Obj.cells #[Value.int .i64 0, Value.int .i64 0, Value.int .i64 0, Value.int .i64 0, Value.int .i64 0, Value.int .i64 0, Value.int .i64 0, Value.int .i64 0, Value.int .i64 0, Value.int .i64 0] 67)).frozen? ⟨w.heap.size + 1 + 1 + 1, 0, none⟩ = false := by go_simp
  have ks1 : ((((w.alloc (Obj.cells #[Value.int .i64 d1, Value.slice a xs.length c1] 29)).alloc (Obj.cells #[Value.int .i64 d2, Value.slice b ys.length c2] 29)).alloc (Obj.cells #[Value.int .i64 0, Value.int .i64 0, Value.int .i64 0, Value.int .i64 0, Value.int .i64 0, Value.int .i64 0, Value.int .i64 0, Value.int .i64 0, Value.int .i64 0, Value.int .i64 0] 67)).alloc (Obj.cells #[Value.int .i64 0, Value.int .i64 0, Value.int .i64 0, Value.int .i64 0, Value.int .i64 0, Value.int .i64 0, Value.int .i64 0, Value.int .i64 0, Value.int .i64 0, Value.int .i64 0] 67)).cell? ⟨w.heap.size + 1 + 1 + 1, 1, none⟩ = some (Value.int .i64 0) := by go_simp
  have fs1 : ((((w.alloc (Obj.cells #[Value.int .i64 d1, Value.slice a xs.length c1] 29)).alloc (Obj.cells #[Value.int .i64 d2, Value.slice b ys.length c2] 29)).alloc (Obj.cells #[Value.int .i64 0, Value.int .i64 0, Value.int .i64 0, Value.int .i64 0, Value.int .i64 0, Value.int .i64 0, Value.int .i64 0, Value.int .i64 0, Value.int .i64 0, Value.int .i64 0] 67)).alloc (Obj.cells #[Value.int .i64 0, Value.int .i64 0, Value.int .i64 0, Value.int .i64 0, Value.int .i64 0, Value.int .i64 0, Value.int .i64 0, Value.int .i64 0, Value.int .i64 0, Value.int .i64 0] 67)).frozen? ⟨w.heap.size + 1 + 1 + 1, 1, none⟩ = false := by go_simp
  have ks2 : ((((w.alloc (Obj.cells #[Value.int .i64 d1, Value.slice a xs.length c1] 29)).alloc (Obj.cells #[Value.int .i64 d2, Value.slice b ys.length c2] 29)).alloc (Obj.cells #[Value.int .i64 0, Value.int .i64 0, Value.int .i64 0, Value.int .i64 0, Value.int .i64 0, Value.int .i64 0, Value.int .i64 0, Value.int .i64 0, Value.int .i64 0, Value.int .i64 0] 67)).alloc (Obj.cells #[Value.int .i64 0, Value.int .i64 0, Value.int .i64 0, Value.int .i64 0, Value.int .i64 0, Value.int .i64 0, Value.int .i64 0, Value.int .i64 0, Value.int .i64 0, Value.int .i64 0] 67)).cell? ⟨w.heap.size + 1 + 1 + 1, 2, none⟩ = some (Value.int .i64 0) := by go_simp
  have fs2 : ((((w.alloc (Obj.cells #[Value.int .i64 d1, Value.slice a xs.length c1] 29)).alloc (Obj.cells #[Value.int .i64 d2, Value.slice b ys.length c2] 29)).alloc (Obj.cells #[Value.int .i64 0, Value.int .i64 0, Value.int .i64 0, Value.int .i64 0, Value.int .i64 0, Value.int .i64 0, Value.int .i64 0, Value.int .i64 0, Value.int .i64 0, Value.int .i64 0] 67)).alloc (Obj.cells #[Value.int .i64 0, Value.int .i64 0, Value.int .i64 0, Value.int .i64 0, Value.int .i64 0, Value.int .i64 0, Value.int .i64 0, Value.int .i64 0, Value.int .i64 0, Value.int .i64 0] 67)).frozen? ⟨w.heap.size + 1 + 1 + 1, 2, none⟩ = false := by go_simp
  have ks3 : ((((w.alloc (Obj.cells #[Value.int .i64 d1, Value.slice a xs.length c1] 29)).alloc (Obj.cells #[Value.int .i64 d2, Value.slice b ys.length c2] 29)).alloc (Obj.cells #[Value.int .i64 0, Value.int .i64 0, Value.int .i64 0, Value.int .i64 0, Value.int .i64 0, Value.int .i64 0, Value.int .i64 0, Value.int .i64 0, Value.int .i64 0, Value.int .i64 0] 67)).alloc (Obj.cells #[Value.int .i64 0, Value.int .i64 0, Value.int .i64 0, Value.int .i64 0, Value.int .i64 0, Value.int .i64 0, Value.int .i64 0, Value.int .i64 0, Value.int .i64 0, Value.int .i64 0] 67)).cell? ⟨w.heap.size + 1 + 1 + 1, 3, none⟩ = some (Value.int .i64 0) := by go_simp
  have fs3 : ((((w.alloc (Obj.cells #[Value.int .i64 d1, Value.slice a xs.length c1] 29)).alloc (Obj.cells #[Value.int .i64 d2, Value.slice b ys.length c2] 29)).alloc (Obj.cells #[Value.int .i64 0, Value.int .i64 0, Value.int .i64 0, Value.int .i64 0, Value.int .i64 0, Value.int .i64 0, Value.int .i64 0, Value.int .i64 0, Value.int .i64 0, Value.int .i64 0] 67)).alloc (Obj.cells #[Value.int .i64 0, Value.int .i64 0, Value.int .i64 0, Value.int .i64 0, Value.int .i64 0, Value.int .i64 0, Value.int .i64 0, Value.int .i64 0, Value.int .i64 0, Value.int .i64 0] 67)).frozen? ⟨w.heap.size + 1 + 1 + 1, 3, none⟩ = false := by go_simp
  have ks4 : ((((w.alloc (Obj.cells #[Value.int .i64 d1, Value.slice a xs.length c1] 29)).alloc (Obj.cells #[Value.int .i64 d2, Value.slice b ys.length c2] 29)).alloc (Obj.cells #[Value.int .i64 0, Value.int .i64 0, Value.int .i64 0, Value.int .i64 0, Value.int .i64 0, Value.int .i64 0, Value.int .i64 0, Value.int .i64 0, Value.int .i64 0, Value.int .i64 0] 67)).alloc (Obj.cells #[Value.int .i64 0, Value.int .i64 0, Value.int .i64 0, Value.int .i64 0, Value.int .i64 0, Value.int .i64 0, Value.int .i64 0, Value.int .i64 0, Value.int .i64 0, Value.int .i64 0] 67)).cell? ⟨w.heap.size + 1 + 1 + 1, 4, none⟩ = some (Value.int .i64 0) := by go_simp
  have fs4 : ((((w.alloc (Obj.cells #[Value.int .i64 d1, Value.slice a xs.length c1] 29)).alloc (Obj.cells #[Value.int .i64 d2, Value.slice b ys.length c2] 29)).alloc (Obj.cells #[Value.int .i64 0, Value.int .i64 0, Value.int .i64 0, Value.int .i64 0, Value.int .i64 0, Value.int .i64 0, Value.int .i64 0, Value.int .i64 0, Value.int .i64 0, Value.int .i64 0] 67)).alloc (Obj.cells #[Value.int .i64 0, Value.int .i64 0, Value.int .i64 0, Value.int .i64 0, Value.int .i64 0, Value.int .i64 0, Value.int .i64 0, Value.int .i64 0, Value.int .i64 0, Value.int .i64 0] 67)).frozen? ⟨w.heap.size + 1 + 1 + 1, 4, none⟩ = false := by go_simp
  have ks5 : ((((w.alloc (Obj.cells #[Value.int .i64 d1, Value.slice a xs.length c1] 29)).alloc (Obj.cells #[Value.int .i64 d2, Value.slice b ys.length c2] 29)).alloc (Obj.cells #[Value.int .i64 0, Value.int .i64 0, Value.int .i64 0, Value.int .i64 0, Value.int .i64 0, Value.int .i64 0, Value.int .i64 0, Value.int .i64 0, Value.int .i64 0, Value.int .i64 0] 67)).alloc (Obj.cells #[Value.int .i64 0, Value.int .i64 0, Value.int .i64 0, Value.int .i64 0, Value.int .i64 0, Value.int .i64 0, Value.int .i64 0, Value.int .i64 0, Value.int .i64 0, Value.int .i64 0] 67)).cell? ⟨w.heap.size + 1 + 1 + 1, 5, none⟩ = some (Value.int .i64 0) := by go_simp
  have fs5 : ((((w.alloc (Obj.cells #[Value.int .i64 d1, Value.slice a xs.length c1] 29)).alloc (Obj.cells #[Value.int .i64 d2, Value.slice b ys.length c2] 29)).alloc (Obj.cells #[Value.int .i64 0, Value.int .i64 0, Value.int .i64 0, Value.int .i64 0, Value.int .i64 0, Value.int .i64 0, Value.int .i64 0, Value.int .i64 0, Value.int .i64 0, Value.int .i64 0] 67)).alloc (Obj.cells #[Value.int .i64 0, Value.int .i64 0, Value.int .i64 0, Value.int .i64 0, Value.int .i64 0, Value.int .i64 0, Value.int .i64 0, Value.int .i64 0, Value.int .i64 0, Value.int .i64 0] 67)).frozen? ⟨w.heap.size + 1 + 1 + 1, 5, none⟩ = false := by go_simp
  have ks6 : ((((w.alloc (Obj.cells #[Value.int .i64 d1, Value.slice a xs.length c1] 29)).alloc (Obj.cells #[Value.int .i64 d2, Value.slice b ys.length c2] 29)).alloc (Obj.cells #[Value.int .i64 0, Value.int .i64 0, Value.int .i64 0, Value.int .i64 0, Value.int .i64 0, Value.int .i64 0, Value.int .i64 0, Value.int .i64 0, Value.int .i64 0, Value.int .i64 0] 67)).alloc (Obj.cells #[Value.int .i64 0, Value.int .i64 0, Value.int .i64 0, Value.int .i64 0, Value.int .i64 0, Value.int .i64 0, Value.int .i64 0, Value.int .i64 0, Value.int .i64 0, Value.int .i64 0] 67)).cell? ⟨w.heap.size + 1 + 1 + 1, 6, none⟩ = some (Value.int .i64 0) := by go_simp
  have fs6 : ((((w.alloc (Obj.cells #[Value.int .i64 d1, Value.slice a xs.length c1] 29)).alloc (Obj.cells #[Value.int .i64 d2, Value.slice b ys.length c2] 29)).alloc (Obj.cells #[Value.int .i64 0, Value.int .i64 0, Value.int .i64 0, Value.int .i64 0, Value.int .i64 0, Value.int .i64 0, Value.int .i64 0, Value.int .i64 0, Value.int .i64 0, Value.int .i64 0] 67)).alloc (Obj.cells #[Value.int .i64 0, Value.int .i64 0, Value.int .i64 0, Value.int .i64 0, Value.int .i64 0, Value.int .i64 0, Value.int .i64 0, Value.int .i64 0, Value.int .i64 0, Value.int .i64 0] 67)).frozen? ⟨w.heap.size + 1 + 1 + 1, 6, none⟩ = false := by go_simp
  have ks7 : ((((w.alloc (Obj.cells #[Value.int .i64 d1, Value.slice a xs.length c1] 29)).alloc (Obj.cells #[Value.int .i64 d2, Value.slice b ys.length c2] 29)).alloc (Obj.cells #[Value.int .i64 0, Value.int .i64 0, Value.int .i64 0, Value.int .i64 0, Value.int .i64 0, Value.int .i64 0, Value.int .i64 0, Value.int .i64 0, Value.int .i64 0, Value.int .i64 0] 67)).alloc (Obj.cells #[Value.int .i64 0, Value.int .i64 0, Value.int .i64 0, Value.int .i64 0, Value.int .i64 0, Value.int .i64 0, Value.int .i64 0, Value.int .i64 0, Value.int .i64 0, Value.int .i64 0] 67)).cell? ⟨w.heap.size + 1 + 1 + 1, 7, none⟩ = some (Value.int .i64 0) := by go_simp
  have fs7 : ((((w.alloc (Obj.cells #[Value.int .i64 d1, Value.slice a xs.length c1] 29)).alloc (Obj.cells #[Value.int .i64 d2, Value.slice b ys.length c2] 29)).alloc (Obj.cells #[Value.int .i64 0, Value.int .i64 0, Value.int .i64 0, Value.int .i64 0, Value.int .i64 0, Value.int .i64 0, Value.int .i64 0, Value.int .i64 0, Value.int .i64 0, Value.int .i64 0] 67)).alloc (Obj.cells #[Value.int .i64 0, Value.int .i64 0, Value.int .i64 0, Value.int .i64 0, Value.int .i64 0, Value.int .i64 0, Value.int .i64 0, Value.int .i64 0, Value.int .i64 0, Value.int .i64 0] 67)).frozen? ⟨w.heap.size + 1 + 1 + 1, 7, none⟩ = false := by go_simp
  have ks8 : ((((w.alloc (Obj.cells #[Value.int .i64 d1, Value.slice a xs.length c1] 29)).alloc (Obj.cells #[Value.int .i64 d2, Value.slice b ys.length c2] 29)).alloc (Obj.cells #[Value.int .i64 0, Value.int .i64 0, Value.int .i64 0, Value.int .i64 0, Value.int .i64 0, Value.int .i64 0, Value.int .i64 0, Value.int .i64 0, Value.int .i64 0, Value.int .i64 0] 67)).alloc (Obj.cells #[Value.int .i64 0, Value.int .i64 0, Value.int .i64 0, Value.int .i64 0, Value.int .i64 0, Value.int .i64 0, Value.int .i64 0, Value.int .i64 0, Value.int .i64 0, Value.int .i64 0] 67)).cell? ⟨w.heap.size + 1 + 1 + 1, 8, none⟩ = some (Value.int .i64 0) := by go_simp
  have fs8 : ((((w.alloc (Obj.cells #[Value.int .i64 d1, Value.slice a xs.length c1] 29)).alloc (Obj.cells #[Value.int .i64 d2, Value.slice b ys.length c2] 29)).alloc (Obj.cells #[Value.int .i64 0, Value.int .i64 0, Value.int .i64 0, Value.int .i64 0, Value.int .i64 0, Value.int .i64 0, Value.int .i64 0, Value.int .i64 0, Value.int .i64 0, Value.int .i64 0] 67)).alloc (Obj.cells #[Value.int .i64 0, Value.int .i64 0, Value.int .i64 0, Value.int .i64 0, Value.int .i64 0, Value.int .i64 0, Value.int .i64 0, Value.int .i64 0, Value.int .i64 0, Value.int .i64 0] 67)).frozen? ⟨w.heap.size + 1 + 1 + 1, 8, none⟩ = false := by go_simp
  have ks9 : ((((w.alloc (Obj.cells #[Value.int .i64 d1, Value.slice a xs.length c1] 29)).alloc (Obj.cells #[Value.int .i64 d2, Value.slice b ys.length c2] 29)).alloc (Obj.cells #[Value.int .i64 0, Value.int .i64 0, Value.int .i64 0, Value.int .i64 0, Value.int .i64 0, Value.int .i64 0, Value.int .i64 0, Value.int .i64 0, Value.int .i64 0, Value.int .i64 0] 67)).alloc (Obj.cells #[Value.int .i64 0, Value.int .i64 0, Value.int .i64 0, Value.int .i64 0, Value.int .i64 0, Value.int .i64 0, Value.int .i64 0, Value.int .i64 0, Value.int .i64 0, Value.int .i64 0] 67)).cell? ⟨w.heap.size + 1 + 1 + 1, 9, none⟩ = some (Value.int .i64 0) := by go_simp
  have fs9 : ((((w.alloc (Obj.cells #[Value.int .i64 d1, Value.slice a xs.length c1] 29)).alloc (Obj.cells #[Value.int .i64 d2, Value.slice b ys.length c2] 29)).alloc (Obj.cells #[Value.int .i64 0, Value.int .i64 0, Value.int .i64 0, Value.int .i64 0, Value.int .i64 0, Value.int .i64 0, Value.int .i64 0, Value.int .i64 0, Value.int .i64 0, Value.int .i64 0] 67)).alloc (Obj.cells #[Value.int .i64 0, Value.int .i64 0, Value.int .i64 0, Value.int .i64 0, Value.int .i64 0, Value.int .i64 0, Value.int .i64 0, Value.int .i64 0, Value.int .i64 0, Value.int .i64 0] 67)).frozen? ⟨w.heap.size + 1 + 1 + 1, 9, none⟩ = false := by go_simp
  have zs : w.heap.size + 1 + 1 + 1 < ((((w.alloc (Obj.cells #[Value.int .i64 d1, Value.slice a xs.length c1] 29)).alloc (Obj.cells #[Value.int .i64 d2, Value.slice b ys.length c2] 29)).alloc (Obj.cells #[Value.int .i64 0, Value.int .i64 0, Value.int .i64 0, Value.int .i64 0, Value.int .i64 0, Value.int .i64 0, Value.int .i64 0, Value.int .i64 0, Value.int .i64 0, Value.int .i64 0] 67)).alloc (Obj.cells #[Value.int .i64 0, Value.int .i64 0, Value.int .i64 0, Value.int .i64 0, Value.int .i64 0, Value.int .i64 0, Value.int .i64 0, Value.int .i64 0, Value.int .i64 0, Value.int .i64 0] 67)).heap.size := by simp only [World.size_alloc]; omega
  have HB := hide (bl_alloc (bl_alloc (bl_alloc (bl_alloc (bl_refl w) (Obj.cells #[Value.int .i64 d1, Value.slice a xs.length c1] 29)) (Obj.cells #[Value.int .i64 d2, Value.slice b ys.length c2] 29)) (Obj.cells #[Value.int .i64 0, Value.int .i64 0, Value.int .i64 0, Value.int .i64 0, Value.int .i64 0, Value.int .i64 0, Value.int .i64 0, Value.int .i64 0, Value.int .i64 0, Value.int .i64 0] 67)) (Obj.cells #[Value.int .i64 0, Value.int .i64 0, Value.int .i64 0, Value.int .i64 0, Value.int .i64 0, Value.int .i64 0, Value.int .i64 0, Value.int .i64 0, Value.int .i64 0, Value.int .i64 0] 67))
  have H1 := hide (h1.below HB.out)
  have H2 := hide (h2.below HB.out)
  clear h1 h2
  go_enter Try.func57, Try.ntmps57
  go_wp2_with fail
  generalize ((((w.alloc (Obj.cells #[Value.int .i64 d1, Value.slice a xs.length c1] 29)).alloc (Obj.cells #[Value.int .i64 d2, Value.slice b ys.length c2] 29)).alloc (Obj.cells #[Value.int .i64 0, Value.int .i64 0, Value.int .i64 0, Value.int .i64 0, Value.int .i64 0, Value.int .i64 0, Value.int .i64 0, Value.int .i64 0, Value.int .i64 0, Value.int .i64 0] 67)).alloc (Obj.cells #[Value.int .i64 0, Value.int .i64 0, Value.int .i64 0, Value.int .i64 0, Value.int .i64 0, Value.int .i64 0, Value.int .i64 0, Value.int .i64 0, Value.int .i64 0, Value.int .i64 0] 67)) = w1 at *
  refine (powersOf d1 a c1 xs _ H1.out).mono ?_
  rintro e w2 ⟨rfl, hb⟩
  replace ka0 := (hb.cell (p := ⟨w.heap.size, 0, none⟩) za).trans ka0
  replace ka1 := (hb.cell (p := ⟨w.heap.size, 1, none⟩) za).trans ka1
  replace za := Nat.lt_of_lt_of_le za hb.size
  replace kb0 := (hb.cell (p := ⟨w.heap.size + 1, 0, none⟩) zb).trans kb0
  replace kb1 := (hb.cell (p := ⟨w.heap.size + 1, 1, none⟩) zb).trans kb1
  replace zb := Nat.lt_of_lt_of_le zb hb.size
  replace kr0 := (hb.cell (p := ⟨w.heap.size + 1 + 1, 0, none⟩) zr).trans kr0
  replace fr0 := (hb.frozen (p := ⟨w.heap.size + 1 + 1, 0, none⟩) zr).trans fr0
  replace kr1 := (hb.cell (p := ⟨w.heap.size + 1 + 1, 1, none⟩) zr).trans kr1
  replace fr1 := (hb.frozen (p := ⟨w.heap.size + 1 + 1, 1, none⟩) zr).trans fr1
  replace kr2 := (hb.cell (p := ⟨w.heap.size + 1 + 1, 2, none⟩) zr).trans kr2
  replace fr2 := (hb.frozen (p := ⟨w.heap.size + 1 + 1, 2, none⟩) zr).trans fr2
  replace kr3 := (hb.cell (p := ⟨w.heap.size + 1 + 1, 3, none⟩) zr).trans kr3
  replace fr3 := (hb.frozen (p := ⟨w.heap.size + 1 + 1, 3, none⟩) zr).trans fr3
  replace kr4 := (hb.cell (p := ⟨w.heap.size + 1 + 1, 4, none⟩) zr).trans kr4
  replace fr4 := (hb.frozen (p := ⟨w.heap.size + 1 + 1, 4, none⟩) zr).trans fr4
  replace kr5 := (hb.cell (p := ⟨w.heap.size + 1 + 1, 5, none⟩) zr).trans kr5
  replace fr5 := (hb.frozen (p := ⟨w.heap.size + 1 + 1, 5, none⟩) zr).trans fr5
  replace kr6 := (hb.cell (p := ⟨w.heap.size + 1 + 1, 6, none⟩) zr).trans kr6
  replace fr6 := (hb.frozen (p := ⟨w.heap.size + 1 + 1, 6, none⟩) zr).trans fr6
  replace kr7 := (hb.cell (p := ⟨w.heap.size + 1 + 1, 7, none⟩) zr).trans kr7
  replace fr7 := (hb.frozen (p := ⟨w.heap.size + 1 + 1, 7, none⟩) zr).trans fr7
  replace kr8 := (hb.cell (p := ⟨w.heap.size + 1 + 1, 8, none⟩) zr).trans kr8
  replace fr8 := (hb.frozen (p := ⟨w.heap.size + 1 + 1, 8, none⟩) zr).trans fr8
  replace kr9 := (hb.cell (p := ⟨w.heap.size + 1 + 1, 9, none⟩) zr).trans kr9
  replace fr9 := (hb.frozen (p := ⟨w.heap.size + 1 + 1, 9, none⟩) zr).trans fr9
  replace zr := Nat.lt_of_lt_of_le zr hb.size
  replace ks0 := (hb.cell (p := ⟨w.heap.size + 1 + 1 + 1, 0, none⟩) zs).trans ks0
  replace fs0 := (hb.frozen (p := ⟨w.heap.size + 1 + 1 + 1, 0, none⟩) zs).trans fs0
  replace ks1 := (hb.cell (p := ⟨w.heap.size + 1 + 1 + 1, 1, none⟩) zs).trans ks1
  replace fs1 := (hb.frozen (p := ⟨w.heap.size + 1 + 1 + 1, 1, none⟩) zs).trans fs1
  replace ks2 := (hb.cell (p := ⟨w.heap.size + 1 + 1 + 1, 2, none⟩) zs).trans ks2
  replace fs2 := (hb.frozen (p := ⟨w.heap.size + 1 + 1 + 1, 2, none⟩) zs).trans fs2
  replace ks3 := (hb.cell (p := ⟨w.heap.size + 1 + 1 + 1, 3, none⟩) zs).trans ks3
  replace fs3 := (hb.frozen (p := ⟨w.heap.size + 1 + 1 + 1, 3, none⟩) zs).trans fs3
  replace ks4 := (hb.cell (p := ⟨w.heap.size + 1 + 1 + 1, 4, none⟩) zs).trans ks4
  replace fs4 := (hb.frozen (p := ⟨w.heap.size + 1 + 1 + 1, 4, none⟩) zs).trans fs4
  replace ks5 := (hb.cell (p := ⟨w.heap.size + 1 + 1 + 1, 5, none⟩) zs).trans ks5
  replace fs5 := (hb.frozen (p := ⟨w.heap.size + 1 + 1 + 1, 5, none⟩) zs).trans fs5
  replace ks6 := (hb.cell (p := ⟨w.heap.size + 1 + 1 + 1, 6, none⟩) zs).trans ks6
  replace fs6 := (hb.frozen (p := ⟨w.heap.size + 1 + 1 + 1, 6, none⟩) zs).trans fs6
  replace ks7 := (hb.cell (p := ⟨w.heap.size + 1 + 1 + 1, 7, none⟩) zs).trans ks7
  replace fs7 := (hb.frozen (p := ⟨w.heap.size + 1 + 1 + 1, 7, none⟩) zs).trans fs7
  replace ks8 := (hb.cell (p := ⟨w.heap.size + 1 + 1 + 1, 8, none⟩) zs).trans ks8
  replace fs8 := (hb.frozen (p := ⟨w.heap.size + 1 + 1 + 1, 8, none⟩) zs).trans fs8
  replace ks9 := (hb.cell (p := ⟨w.heap.size + 1 + 1 + 1, 9, none⟩) zs).trans ks9
  replace fs9 := (hb.frozen (p := ⟨w.heap.size + 1 + 1 + 1, 9, none⟩) zs).trans fs9
  replace zs := Nat.lt_of_lt_of_le zs hb.size
  replace H2 := hide (H2.out.below hb)
  replace HB := hide (bl_trans HB.out hb)
  clear hb H1
  have y2 : w.heap.size + 1 + 1 + 1 < w2.heap.size := zs
  go_wp2_with fail
  have hb := bl_alloc (bl_refl w2) (Obj.cells #[Value.int .i64 (pwN xs), Value.int .i64 (pwF xs 0), Value.int .i64 (pwF xs 1), Value.int .i64 (pwF xs 2), Value.int .i64 (pwF xs 3), Value.int .i64 (pwF xs 4), Value.int .i64 (pwF xs 5), Value.int .i64 (pwF xs 6), Value.int .i64 (pwF xs 7), Value.int .i64 d1] 67)
  have kx0 : (w2.alloc (Obj.cells #[Value.int .i64 (pwN xs), Value.int .i64 (pwF xs 0), Value.int .i64 (pwF xs 1), Value.int .i64 (pwF xs 2), Value.int .i64 (pwF xs 3), Value.int .i64 (pwF xs 4), Value.int .i64 (pwF xs 5), Value.int .i64 (pwF xs 6), Value.int .i64 (pwF xs 7), Value.int .i64 d1] 67)).cell? ⟨w2.heap.size, 0, none⟩ = some (Value.int .i64 (pwN xs)) := by go_simp
  have kx1 : (w2.alloc (Obj.cells #[Value.int .i64 (pwN xs), Value.int .i64 (pwF xs 0), Value.int .i64 (pwF xs 1), Value.int .i64 (pwF xs 2), Value.int .i64 (pwF xs 3), Value.int .i64 (pwF xs 4), Value.int .i64 (pwF xs 5), Value.int .i64 (pwF xs 6), Value.int .i64 (pwF xs 7), Value.int .i64 d1] 67)).cell? ⟨w2.heap.size, 1, none⟩ = some (Value.int .i64 (pwF xs 0)) := by go_simp
  have kx2 : (w2.alloc (Obj.cells #[Value.int .i64 (pwN xs), Value.int .i64 (pwF xs 0), Value.int .i64 (pwF xs 1), Value.int .i64 (pwF xs 2), Value.int .i64 (pwF xs 3), Value.int .i64 (pwF xs 4), Value.int .i64 (pwF xs 5), Value.int .i64 (pwF xs 6), Value.int .i64 (pwF xs 7), Value.int .i64 d1] 67)).cell? ⟨w2.heap.size, 2, none⟩ = some (Value.int .i64 (pwF xs 1)) := by go_simp
  have kx3 : (w2.alloc (Obj.cells #[Value.int .i64 (pwN xs), Value.int .i64 (pwF xs 0), Value.int .i64 (pwF xs 1), Value.int .i64 (pwF xs 2), Value.int .i64 (pwF xs 3), Value.int .i64 (pwF xs 4), Value.int .i64 (pwF xs 5), Value.int .i64 (pwF xs 6), Value.int .i64 (pwF xs 7), Value.int .i64 d1] 67)).cell? ⟨w2.heap.size, 3, none⟩ = some (Value.int .i64 (pwF xs 2)) := by go_simp
  have kx4 : (w2.alloc (Obj.cells #[Value.int .i64 (pwN xs), Value.int .i64 (pwF xs 0), Value.int .i64 (pwF xs 1), Value.int .i64 (pwF xs 2), Value.int .i64 (pwF xs 3), Value.int .i64 (pwF xs 4), Value.int .i64 (pwF xs 5), Value.int .i64 (pwF xs 6), Value.int .i64 (pwF xs 7), Value.int .i64 d1] 67)).cell? ⟨w2.heap.size, 4, none⟩ = some (Value.int .i64 (pwF xs 3)) := by go_simp
  have kx5 : (w2.alloc (Obj.cells #[Value.int .i64 (pwN xs), Value.int .i64 (pwF xs 0), Value.int .i64 (pwF xs 1), Value.int .i64 (pwF xs 2), Value.int .i64 (pwF xs 3), Value.int .i64 (pwF xs 4), Value.int .i64 (pwF xs 5), Value.int .i64 (pwF xs 6), Value.int .i64 (pwF xs 7), Value.int .i64 d1] 67)).cell? ⟨w2.heap.size, 5, none⟩ = some (Value.int .i64 (pwF xs 4)) := by go_simp
  have kx6 : (w2.alloc (Obj.cells #[Value.int .i64 (pwN xs), Value.int .i64 (pwF xs 0), Value.int .i64 (pwF xs 1), Value.int .i64 (pwF xs 2), Value.int .i64 (pwF xs 3), Value.int .i64 (pwF xs 4), Value.int .i64 (pwF xs 5), Value.int .i64 (pwF xs 6), Value.int .i64 (pwF xs 7), Value.int .i64 d1] 67)).cell? ⟨w2.heap.size, 6, none⟩ = some (Value.int .i64 (pwF xs 5)) := by go_simp
  have kx7 : (w2.alloc (Obj.cells #[Value.int .i64 (pwN xs), Value.int .i64 (pwF xs 0), Value.int .i64 (pwF xs 1), Value.int .i64 (pwF xs 2), Value.int .i64 (pwF xs 3), Value.int .i64 (pwF xs 4), Value.int .i64 (pwF xs 5), Value.int .i64 (pwF xs 6), Value.int .i64 (pwF xs 7), Value.int .i64 d1] 67)).cell? ⟨w2.heap.size, 7, none⟩ = some (Value.int .i64 (pwF xs 6)) := by go_simp
  have kx8 : (w2.alloc (Obj.cells #[Value.int .i64 (pwN xs), Value.int .i64 (pwF xs 0), Value.int .i64 (pwF xs 1), Value.int .i64 (pwF xs 2), Value.int .i64 (pwF xs 3), Value.int .i64 (pwF xs 4), Value.int .i64 (pwF xs 5), Value.int .i64 (pwF xs 6), Value.int .i64 (pwF xs 7), Value.int .i64 d1] 67)).cell? ⟨w2.heap.size, 8, none⟩ = some (Value.int .i64 (pwF xs 7)) := by go_simp
  have kx9 : (w2.alloc (Obj.cells #[Value.int .i64 (pwN xs), Value.int .i64 (pwF xs 0), Value.int .i64 (pwF xs 1), Value.int .i64 (pwF xs 2), Value.int .i64 (pwF xs 3), Value.int .i64 (pwF xs 4), Value.int .i64 (pwF xs 5), Value.int .i64 (pwF xs 6), Value.int .i64 (pwF xs 7), Value.int .i64 d1] 67)).cell? ⟨w2.heap.size, 9, none⟩ = some (Value.int .i64 d1) := by go_simp
  have zx : w2.heap.size < (w2.alloc (Obj.cells #[Value.int .i64 (pwN xs), Value.int .i64 (pwF xs 0), Value.int .i64 (pwF xs 1), Value.int .i64 (pwF xs 2), Value.int .i64 (pwF xs 3), Value.int .i64 (pwF xs 4), Value.int .i64 (pwF xs 5), Value.int .i64 (pwF xs 6), Value.int .i64 (pwF xs 7), Value.int .i64 d1] 67)).heap.size := by simp only [World.size_alloc]; omega
  replace ka0 := (hb.cell (p := ⟨w.heap.size, 0, none⟩) za).trans ka0
  replace ka1 := (hb.cell (p := ⟨w.heap.size, 1, none⟩) za).trans ka1
  replace za := Nat.lt_of_lt_of_le za hb.size
  replace kb0 := (hb.cell (p := ⟨w.heap.size + 1, 0, none⟩) zb).trans kb0
  replace kb1 := (hb.cell (p := ⟨w.heap.size + 1, 1, none⟩) zb).trans kb1
  replace zb := Nat.lt_of_lt_of_le zb hb.size
  replace kr0 := (hb.cell (p := ⟨w.heap.size + 1 + 1, 0, none⟩) zr).trans kr0
  replace fr0 := (hb.frozen (p := ⟨w.heap.size + 1 + 1, 0, none⟩) zr).trans fr0
  replace kr1 := (hb.cell (p := ⟨w.heap.size + 1 + 1, 1, none⟩) zr).trans kr1
  replace fr1 := (hb.frozen (p := ⟨w.heap.size + 1 + 1, 1, none⟩) zr).trans fr1
  replace kr2 := (hb.cell (p := ⟨w.heap.size + 1 + 1, 2, none⟩) zr).trans kr2
  replace fr2 := (hb.frozen (p := ⟨w.heap.size + 1 + 1, 2, none⟩) zr).trans fr2
  replace kr3 := (hb.cell (p := ⟨w.heap.size + 1 + 1, 3, none⟩) zr).trans kr3
  replace fr3 := (hb.frozen (p := ⟨w.heap.size + 1 + 1, 3, none⟩) zr).trans fr3
  replace kr4 := (hb.cell (p := ⟨w.heap.size + 1 + 1, 4, none⟩) zr).trans kr4
  replace fr4 := (hb.frozen (p := ⟨w.heap.size + 1 + 1, 4, none⟩) zr).trans fr4
  replace kr5 := (hb.cell (p := ⟨w.heap.size + 1 + 1, 5, none⟩) zr).trans kr5
  replace fr5 := (hb.frozen (p := ⟨w.heap.size + 1 + 1, 5, none⟩) zr).trans fr5
  replace kr6 := (hb.cell (p := ⟨w.heap.size + 1 + 1, 6, none⟩) zr).trans kr6
  replace fr6 := (hb.frozen (p := ⟨w.heap.size + 1 + 1, 6, none⟩) zr).trans fr6
  replace kr7 := (hb.cell (p := ⟨w.heap.size + 1 + 1, 7, none⟩) zr).trans kr7
  replace fr7 := (hb.frozen (p := ⟨w.heap.size + 1 + 1, 7, none⟩) zr).trans fr7
  replace kr8 := (hb.cell (p := ⟨w.heap.size + 1 + 1, 8, none⟩) zr).trans kr8
  replace fr8 := (hb.frozen (p := ⟨w.heap.size + 1 + 1, 8, none⟩) zr).trans fr8
  replace kr9 := (hb.cell (p := ⟨w.heap.size + 1 + 1, 9, none⟩) zr).trans kr9
  replace fr9 := (hb.frozen (p := ⟨w.heap.size + 1 + 1, 9, none⟩) zr).trans fr9
  replace zr := Nat.lt_of_lt_of_le zr hb.size
  replace ks0 := (hb.cell (p := ⟨w.heap.size + 1 + 1 + 1, 0, none⟩) zs).trans ks0
  replace fs0 := (hb.frozen (p := ⟨w.heap.size + 1 + 1 + 1, 0, none⟩) zs).trans fs0
  replace ks1 := (hb.cell (p := ⟨w.heap.size + 1 + 1 + 1, 1, none⟩) zs).trans ks1
  replace fs1 := (hb.frozen (p := ⟨w.heap.size + 1 + 1 + 1, 1, none⟩) zs).trans fs1
  replace ks2 := (hb.cell (p := ⟨w.heap.size + 1 + 1 + 1, 2, none⟩) zs).trans ks2
  replace fs2 := (hb.frozen (p := ⟨w.heap.size + 1 + 1 + 1, 2, none⟩) zs).trans fs2
  replace ks3 := (hb.cell (p := ⟨w.heap.size + 1 + 1 + 1, 3, none⟩) zs).trans ks3
  replace fs3 := (hb.frozen (p := ⟨w.heap.size + 1 + 1 + 1, 3, none⟩) zs).trans fs3
  replace ks4 := (hb.cell (p := ⟨w.heap.size + 1 + 1 + 1, 4, none⟩) zs).trans ks4
  replace fs4 := (hb.frozen (p := ⟨w.heap.size + 1 + 1 + 1, 4, none⟩) zs).trans fs4
  replace ks5 := (hb.cell (p := ⟨w.heap.size + 1 + 1 + 1, 5, none⟩) zs).trans ks5
  replace fs5 := (hb.frozen (p := ⟨w.heap.size + 1 + 1 + 1, 5, none⟩) zs).trans fs5
  replace ks6 := (hb.cell (p := ⟨w.heap.size + 1 + 1 + 1, 6, none⟩) zs).trans ks6
  replace fs6 := (hb.frozen (p := ⟨w.heap.size + 1 + 1 + 1, 6, none⟩) zs).trans fs6
  replace ks7 := (hb.cell (p := ⟨w.heap.size + 1 + 1 + 1, 7, none⟩) zs).trans ks7
  replace fs7 := (hb.frozen (p := ⟨w.heap.size + 1 + 1 + 1, 7, none⟩) zs).trans fs7
  replace ks8 := (hb.cell (p := ⟨w.heap.size + 1 + 1 + 1, 8, none⟩) zs).trans ks8
  replace fs8 := (hb.frozen (p := ⟨w.heap.size + 1 + 1 + 1, 8, none⟩) zs).trans fs8
  replace ks9 := (hb.cell (p := ⟨w.heap.size + 1 + 1 + 1, 9, none⟩) zs).trans ks9
  replace fs9 := (hb.frozen (p := ⟨w.heap.size + 1 + 1 + 1, 9, none⟩) zs).trans fs9
  replace zs := Nat.lt_of_lt_of_le zs hb.size
  replace H2 := hide (H2.out.below hb)
  replace HB := hide (bl_trans HB.out hb)
  generalize w2.alloc (Obj.cells #[Value.int .i64 (pwN xs), Value.int .i64 (pwF xs 0), Value.int .i64 (pwF xs 1), Value.int .i64 (pwF xs 2), Value.int .i64 (pwF xs 3), Value.int .i64 (pwF xs 4), Value.int .i64 (pwF xs 5), Value.int .i64 (pwF xs 6), Value.int .i64 (pwF xs 7), Value.int .i64 d1] 67) = w3 at *
  clear hb
  refine (powersOf d2 b c2 ys _ H2.out).mono ?_
  rintro e w4 ⟨rfl, hb⟩
  replace ka0 := (hb.cell (p := ⟨w.heap.size, 0, none⟩) za).trans ka0
  replace ka1 := (hb.cell (p := ⟨w.heap.size, 1, none⟩) za).trans ka1
  replace za := Nat.lt_of_lt_of_le za hb.size
  replace kb0 := (hb.cell (p := ⟨w.heap.size + 1, 0, none⟩) zb).trans kb0
  replace kb1 := (hb.cell (p := ⟨w.heap.size + 1, 1, none⟩) zb).trans kb1
  replace zb := Nat.lt_of_lt_of_le zb hb.size
  replace kr0 := (hb.cell (p := ⟨w.heap.size + 1 + 1, 0, none⟩) zr).trans kr0
  replace fr0 := (hb.frozen (p := ⟨w.heap.size + 1 + 1, 0, none⟩) zr).trans fr0
  replace kr1 := (hb.cell (p := ⟨w.heap.size + 1 + 1, 1, none⟩) zr).trans kr1
  replace fr1 := (hb.frozen (p := ⟨w.heap.size + 1 + 1, 1, none⟩) zr).trans fr1
  replace kr2 := (hb.cell (p := ⟨w.heap.size + 1 + 1, 2, none⟩) zr).trans kr2
  replace fr2 := (hb.frozen (p := ⟨w.heap.size + 1 + 1, 2, none⟩) zr).trans fr2
  replace kr3 := (hb.cell (p := ⟨w.heap.size + 1 + 1, 3, none⟩) zr).trans kr3
  replace fr3 := (hb.frozen (p := ⟨w.heap.size + 1 + 1, 3, none⟩) zr).trans fr3
  replace kr4 := (hb.cell (p := ⟨w.heap.size + 1 + 1, 4, none⟩) zr).trans kr4
  replace fr4 := (hb.frozen (p := ⟨w.heap.size + 1 + 1, 4, none⟩) zr).trans fr4
  replace kr5 := (hb.cell (p := ⟨w.heap.size + 1 + 1, 5, none⟩) zr).trans kr5
  replace fr5 := (hb.frozen (p := ⟨w.heap.size + 1 + 1, 5, none⟩) zr).trans fr5
  replace kr6 := (hb.cell (p := ⟨w.heap.size + 1 + 1, 6, none⟩) zr).trans kr6
  replace fr6 := (hb.frozen (p := ⟨w.heap.size + 1 + 1, 6, none⟩) zr).trans fr6
  replace kr7 := (hb.cell (p := ⟨w.heap.size + 1 + 1, 7, none⟩) zr).trans kr7
  replace fr7 := (hb.frozen (p := ⟨w.heap.size + 1 + 1, 7, none⟩) zr).trans fr7
  replace kr8 := (hb.cell (p := ⟨w.heap.size + 1 + 1, 8, none⟩) zr).trans kr8
  replace fr8 := (hb.frozen (p := ⟨w.heap.size + 1 + 1, 8, none⟩) zr).trans fr8
  replace kr9 := (hb.cell (p := ⟨w.heap.size + 1 + 1, 9, none⟩) zr).trans kr9
  replace fr9 := (hb.frozen (p := ⟨w.heap.size + 1 + 1, 9, none⟩) zr).trans fr9
  replace zr := Nat.lt_of_lt_of_le zr hb.size
  replace ks0 := (hb.cell (p := ⟨w.heap.size + 1 + 1 + 1, 0, none⟩) zs).trans ks0
  replace fs0 := (hb.frozen (p := ⟨w.heap.size + 1 + 1 + 1, 0, none⟩) zs).trans fs0
  replace ks1 := (hb.cell (p := ⟨w.heap.size + 1 + 1 + 1, 1, none⟩) zs).trans ks1
  replace fs1 := (hb.frozen (p := ⟨w.heap.size + 1 + 1 + 1, 1, none⟩) zs).trans fs1
  replace ks2 := (hb.cell (p := ⟨w.heap.size + 1 + 1 + 1, 2, none⟩) zs).trans ks2
  replace fs2 := (hb.frozen (p := ⟨w.heap.size + 1 + 1 + 1, 2, none⟩) zs).trans fs2
  replace ks3 := (hb.cell (p := ⟨w.heap.size + 1 + 1 + 1, 3, none⟩) zs).trans ks3
  replace fs3 := (hb.frozen (p := ⟨w.heap.size + 1 + 1 + 1, 3, none⟩) zs).trans fs3
  replace ks4 := (hb.cell (p := ⟨w.heap.size + 1 + 1 + 1, 4, none⟩) zs).trans ks4
  replace fs4 := (hb.frozen (p := ⟨w.heap.size + 1 + 1 + 1, 4, none⟩) zs).trans fs4
  replace ks5 := (hb.cell (p := ⟨w.heap.size + 1 + 1 + 1, 5, none⟩) zs).trans ks5
  replace fs5 := (hb.frozen (p := ⟨w.heap.size + 1 + 1 + 1, 5, none⟩) zs).trans fs5
  replace ks6 := (hb.cell (p := ⟨w.heap.size + 1 + 1 + 1, 6, none⟩) zs).trans ks6
  replace fs6 := (hb.frozen (p := ⟨w.heap.size + 1 + 1 + 1, 6, none⟩) zs).trans fs6
  replace ks7 := (hb.cell (p := ⟨w.heap.size + 1 + 1 + 1, 7, none⟩) zs).trans ks7
  replace fs7 := (hb.frozen (p := ⟨w.heap.size + 1 + 1 + 1, 7, none⟩) zs).trans fs7
  replace ks8 := (hb.cell (p := ⟨w.heap.size + 1 + 1 + 1, 8, none⟩) zs).trans ks8
  replace fs8 := (hb.frozen (p := ⟨w.heap.size + 1 + 1 + 1, 8, none⟩) zs).trans fs8
  replace ks9 := (hb.cell (p := ⟨w.heap.size + 1 + 1 + 1, 9, none⟩) zs).trans ks9
  replace fs9 := (hb.frozen (p := ⟨w.heap.size + 1 + 1 + 1, 9, none⟩) zs).trans fs9
  replace zs := Nat.lt_of_lt_of_le zs hb.size
  replace kx0 := (hb.cell (p := ⟨w2.heap.size, 0, none⟩) zx).trans kx0
  replace kx1 := (hb.cell (p := ⟨w2.heap.size, 1, none⟩) zx).trans kx1
  replace kx2 := (hb.cell (p := ⟨w2.heap.size, 2, none⟩) zx).trans kx2
  replace kx3 := (hb.cell (p := ⟨w2.heap.size, 3, none⟩) zx).trans kx3
  replace kx4 := (hb.cell (p := ⟨w2.heap.size, 4, none⟩) zx).trans kx4
  replace kx5 := (hb.cell (p := ⟨w2.heap.size, 5, none⟩) zx).trans kx5
  replace kx6 := (hb.cell (p := ⟨w2.heap.size, 6, none⟩) zx).trans kx6
  replace kx7 := (hb.cell (p := ⟨w2.heap.size, 7, none⟩) zx).trans kx7
  replace kx8 := (hb.cell (p := ⟨w2.heap.size, 8, none⟩) zx).trans kx8
  replace kx9 := (hb.cell (p := ⟨w2.heap.size, 9, none⟩) zx).trans kx9
  replace zx := Nat.lt_of_lt_of_le zx hb.size
  replace HB := hide (bl_trans HB.out hb)
  clear hb H2
  have y4 : w2.heap.size < w4.heap.size := zx
  go_wp2_with fail
  have hb := bl_alloc (bl_refl w4) (Obj.cells #[Value.int .i64 (pwN ys), Value.int .i64 (pwF ys 0), Value.int .i64 (pwF ys 1), Value.int .i64 (pwF ys 2), Value.int .i64 (pwF ys 3), Value.int .i64 (pwF ys 4), Value.int .i64 (pwF ys 5), Value.int .i64 (pwF ys 6), Value.int .i64 (pwF ys 7), Value.int .i64 d2] 67)
  have ky0 : (w4.alloc (Obj.cells #[Value.int .i64 (pwN ys), Value.int .i64 (pwF ys 0), Value.int .i64 (pwF ys 1), Value.int .i64 (pwF ys 2), Value.int .i64 (pwF ys 3), Value.int .i64 (pwF ys 4), Value.int .i64 (pwF ys 5), Value.int .i64 (pwF ys 6), Value.int .i64 (pwF ys 7), Value.int .i64 d2] 67)).cell? ⟨w4.heap.size, 0, none⟩ = some (Value.int .i64 (pwN ys)) := by go_simp
  have ky1 : (w4.alloc (Obj.cells #[Value.int .i64 (pwN ys), Value.int .i64 (pwF ys 0), Value.int .i64 (pwF ys 1), Value.int .i64 (pwF ys 2), Value.int .i64 (pwF ys 3), Value.int .i64 (pwF ys 4), Value.int .i64 (pwF ys 5), Value.int .i64 (pwF ys 6), Value.int .i64 (pwF ys 7), Value.int .i64 d2] 67)).cell? ⟨w4.heap.size, 1, none⟩ = some (Value.int .i64 (pwF ys 0)) := by go_simp
  have ky2 : (w4.alloc (Obj.cells #[Value.int .i64 (pwN ys), Value.int .i64 (pwF ys 0), Value.int .i64 (pwF ys 1), Value.int .i64 (pwF ys 2), Value.int .i64 (pwF ys 3), Value.int .i64 (pwF ys 4), Value.int .i64 (pwF ys 5), Value.int .i64 (pwF ys 6), Value.int .i64 (pwF ys 7), Value.int .i64 d2] 67)).cell? ⟨w4.heap.size, 2, none⟩ = some (Value.int .i64 (pwF ys 1)) := by go_simp
  have ky3 : (w4.alloc (Obj.cells #[Value.int .i64 (pwN ys), Value.int .i64 (pwF ys 0), Value.int .i64 (pwF ys 1), Value.int .i64 (pwF ys 2), Value.int .i64 (pwF ys 3), Value.int .i64 (pwF ys 4), Value.int .i64 (pwF ys 5), Value.int .i64 (pwF ys 6), Value.int .i64 (pwF ys 7), Value.int .i64 d2] 67)).cell? ⟨w4.heap.size, 3, none⟩ = some (Value.int .i64 (pwF ys 2)) := by go_simp
  have ky4 : (w4.alloc (Obj.cells #[Value.int .i64 (pwN ys), Value.int .i64 (pwF ys 0), Value.int .i64 (pwF ys 1), Value.int .i64 (pwF ys 2), Value.int .i64 (pwF ys 3), Value.int .i64 (pwF ys 4), Value.int .i64 (pwF ys 5), Value.int .i64 (pwF ys 6), Value.int .i64 (pwF ys 7), Value.int .i64 d2] 67)).cell? ⟨w4.heap.size, 4, none⟩ = some (Value.int .i64 (pwF ys 3)) := by go_simp
  have ky5 : (w4.alloc (Obj.cells #[Value.int .i64 (pwN ys), Value.int .i64 (pwF ys 0), Value.int .i64 (pwF ys 1), Value.int .i64 (pwF ys 2), Value.int .i64 (pwF ys 3), Value.int .i64 (pwF ys 4), Value.int .i64 (pwF ys 5), Value.int .i64 (pwF ys 6), Value.int .i64 (pwF ys 7), Value.int .i64 d2] 67)).cell? ⟨w4.heap.size, 5, none⟩ = some (Value.int .i64 (pwF ys 4)) := by go_simp
  have ky6 : (w4.alloc (Obj.cells #[Value.int .i64 (pwN ys), Value.int .i64 (pwF ys 0), Value.int .i64 (pwF ys 1), Value.int .i64 (pwF ys 2), Value.int .i64 (pwF ys 3), Value.int .i64 (pwF ys 4), Value.int .i64 (pwF ys 5), Value.int .i64 (pwF ys 6), Value.int .i64 (pwF ys 7), Value.int .i64 d2] 67)).cell? ⟨w4.heap.size, 6, none⟩ = some (Value.int .i64 (pwF ys 5)) := by go_simp
  have ky7 : (w4.alloc (Obj.cells #[Value.int .i64 (pwN ys), Value.int .i64 (pwF ys 0), Value.int .i64 (pwF ys 1), Value.int .i64 (pwF ys 2), Value.int .i64 (pwF ys 3), Value.int .i64 (pwF ys 4), Value.int .i64 (pwF ys 5), Value.int .i64 (pwF ys 6), Value.int .i64 (pwF ys 7), Value.int .i64 d2] 67)).cell? ⟨w4.heap.size, 7, none⟩ = some (Value.int .i64 (pwF ys 6)) := by go_simp
  have ky8 : (w4.alloc (Obj.cells #[Value.int .i64 (pwN ys), Value.int .i64 (pwF ys 0), Value.int .i64 (pwF ys 1), Value.int .i64 (pwF ys 2), Value.int .i64 (pwF ys 3), Value.int .i64 (pwF ys 4), Value.int .i64 (pwF ys 5), Value.int .i64 (pwF ys 6), Value.int .i64 (pwF ys 7), Value.int .i64 d2] 67)).cell? ⟨w4.heap.size, 8, none⟩ = some (Value.int .i64 (pwF ys 7)) := by go_simp
  have ky9 : (w4.alloc (Obj.cells #[Value.int .i64 (pwN ys), Value.int .i64 (pwF ys 0), Value.int .i64 (pwF ys 1), Value.int .i64 (pwF ys 2), Value.int .i64 (pwF ys 3), Value.int .i64 (pwF ys 4), Value.int .i64 (pwF ys 5), Value.int .i64 (pwF ys 6), Value.int .i64 (pwF ys 7), Value.int .i64 d2] 67)).cell? ⟨w4.heap.size, 9, none⟩ = some (Value.int .i64 d2) := by go_simp
  have zy : w4.heap.size < (w4.alloc (Obj.cells #[Value.int .i64 (pwN ys), Value.int .i64 (pwF ys 0), Value.int .i64 (pwF ys 1), Value.int .i64 (pwF ys 2), Value.int .i64 (pwF ys 3), Value.int .i64 (pwF ys 4), Value.int .i64 (pwF ys 5), Value.int .i64 (pwF ys 6), Value.int .i64 (pwF ys 7), Value.int .i64 d2] 67)).heap.size := by simp only [World.size_alloc]; omega
  replace ka0 := (hb.cell (p := ⟨w.heap.size, 0, none⟩) za).trans ka0
  replace ka1 := (hb.cell (p := ⟨w.heap.size, 1, none⟩) za).trans ka1
  replace za := Nat.lt_of_lt_of_le za hb.size
  replace kb0 := (hb.cell (p := ⟨w.heap.size + 1, 0, none⟩) zb).trans kb0
  replace kb1 := (hb.cell (p := ⟨w.heap.size + 1, 1, none⟩) zb).trans kb1
  replace zb := Nat.lt_of_lt_of_le zb hb.size
  replace kr0 := (hb.cell (p := ⟨w.heap.size + 1 + 1, 0, none⟩) zr).trans kr0
  replace fr0 := (hb.frozen (p := ⟨w.heap.size + 1 + 1, 0, none⟩) zr).trans fr0
  replace kr1 := (hb.cell (p := ⟨w.heap.size + 1 + 1, 1, none⟩) zr).trans kr1
  replace fr1 := (hb.frozen (p := ⟨w.heap.size + 1 + 1, 1, none⟩) zr).trans fr1
  replace kr2 := (hb.cell (p := ⟨w.heap.size + 1 + 1, 2, none⟩) zr).trans kr2
  replace fr2 := (hb.frozen (p := ⟨w.heap.size + 1 + 1, 2, none⟩) zr).trans fr2
  replace kr3 := (hb.cell (p := ⟨w.heap.size + 1 + 1, 3, none⟩) zr).trans kr3
  replace fr3 := (hb.frozen (p := ⟨w.heap.size + 1 + 1, 3, none⟩) zr).trans fr3
  replace kr4 := (hb.cell (p := ⟨w.heap.size + 1 + 1, 4, none⟩) zr).trans kr4
  replace fr4 := (hb.frozen (p := ⟨w.heap.size + 1 + 1, 4, none⟩) zr).trans fr4
  replace kr5 := (hb.cell (p := ⟨w.heap.size + 1 + 1, 5, none⟩) zr).trans kr5
  replace fr5 := (hb.frozen (p := ⟨w.heap.size + 1 + 1, 5, none⟩) zr).trans fr5
  replace kr6 := (hb.cell (p := ⟨w.heap.size + 1 + 1, 6, none⟩) zr).trans kr6
  replace fr6 := (hb.frozen (p := ⟨w.heap.size + 1 + 1, 6, none⟩) zr).trans fr6
  replace kr7 := (hb.cell (p := ⟨w.heap.size + 1 + 1, 7, none⟩) zr).trans kr7
  replace fr7 := (hb.frozen (p := ⟨w.heap.size + 1 + 1, 7, none⟩) zr).trans fr7
  replace kr8 := (hb.cell (p := ⟨w.heap.size + 1 + 1, 8, none⟩) zr).trans kr8
  replace fr8 := (hb.frozen (p := ⟨w.heap.size + 1 + 1, 8, none⟩) zr).trans fr8
  replace kr9 := (hb.cell (p := ⟨w.heap.size + 1 + 1, 9, none⟩) zr).trans kr9
  replace fr9 := (hb.frozen (p := ⟨w.heap.size + 1 + 1, 9, none⟩) zr).trans fr9
  replace zr := Nat.lt_of_lt_of_le zr hb.size
  replace ks0 := (hb.cell (p := ⟨w.heap.size + 1 + 1 + 1, 0, none⟩) zs).trans ks0
  replace fs0 := (hb.frozen (p := ⟨w.heap.size + 1 + 1 + 1, 0, none⟩) zs).trans fs0
  replace ks1 := (hb.cell (p := ⟨w.heap.size + 1 + 1 + 1, 1, none⟩) zs).trans ks1
  replace fs1 := (hb.frozen (p := ⟨w.heap.size + 1 + 1 + 1, 1, none⟩) zs).trans fs1
  replace ks2 := (hb.cell (p := ⟨w.heap.size + 1 + 1 + 1, 2, none⟩) zs).trans ks2
  replace fs2 := (hb.frozen (p := ⟨w.heap.size + 1 + 1 + 1, 2, none⟩) zs).trans fs2
  replace ks3 := (hb.cell (p := ⟨w.heap.size + 1 + 1 + 1, 3, none⟩) zs).trans ks3
  replace fs3 := (hb.frozen (p := ⟨w.heap.size + 1 + 1 + 1, 3, none⟩) zs).trans fs3
  replace ks4 := (hb.cell (p := ⟨w.heap.size + 1 + 1 + 1, 4, none⟩) zs).trans ks4
  replace fs4 := (hb.frozen (p := ⟨w.heap.size + 1 + 1 + 1, 4, none⟩) zs).trans fs4
  replace ks5 := (hb.cell (p := ⟨w.heap.size + 1 + 1 + 1, 5, none⟩) zs).trans ks5
  replace fs5 := (hb.frozen (p := ⟨w.heap.size + 1 + 1 + 1, 5, none⟩) zs).trans fs5
  replace ks6 := (hb.cell (p := ⟨w.heap.size + 1 + 1 + 1, 6, none⟩) zs).trans ks6
  replace fs6 := (hb.frozen (p := ⟨w.heap.size + 1 + 1 + 1, 6, none⟩) zs).trans fs6
  replace ks7 := (hb.cell (p := ⟨w.heap.size + 1 + 1 + 1, 7, none⟩) zs).trans ks7
  replace fs7 := (hb.frozen (p := ⟨w.heap.size + 1 + 1 + 1, 7, none⟩) zs).trans fs7
  replace ks8 := (hb.cell (p := ⟨w.heap.size + 1 + 1 + 1, 8, none⟩) zs).trans ks8
  replace fs8 := (hb.frozen (p := ⟨w.heap.size + 1 + 1 + 1, 8, none⟩) zs).trans fs8
  replace ks9 := (hb.cell (p := ⟨w.heap.size + 1 + 1 + 1, 9, none⟩) zs).trans ks9
  replace fs9 := (hb.frozen (p := ⟨w.heap.size + 1 + 1 + 1, 9, none⟩) zs).trans fs9
  replace zs := Nat.lt_of_lt_of_le zs hb.size
  replace kx0 := (hb.cell (p := ⟨w2.heap.size, 0, none⟩) zx).trans kx0
  replace kx1 := (hb.cell (p := ⟨w2.heap.size, 1, none⟩) zx).trans kx1
  replace kx2 := (hb.cell (p := ⟨w2.heap.size, 2, none⟩) zx).trans kx2
  replace kx3 := (hb.cell (p := ⟨w2.heap.size, 3, none⟩) zx).trans kx3
  replace kx4 := (hb.cell (p := ⟨w2.heap.size, 4, none⟩) zx).trans kx4
  replace kx5 := (hb.cell (p := ⟨w2.heap.size, 5, none⟩) zx).trans kx5
  replace kx6 := (hb.cell (p := ⟨w2.heap.size, 6, none⟩) zx).trans kx6
  replace kx7 := (hb.cell (p := ⟨w2.heap.size, 7, none⟩) zx).trans kx7
  replace kx8 := (hb.cell (p := ⟨w2.heap.size, 8, none⟩) zx).trans kx8
  replace kx9 := (hb.cell (p := ⟨w2.heap.size, 9, none⟩) zx).trans kx9
  replace zx := Nat.lt_of_lt_of_le zx hb.size
  replace HB := hide (bl_trans HB.out hb)
  generalize w4.alloc (Obj.cells #[Value.int .i64 (pwN ys), Value.int .i64 (pwF ys 0), Value.int .i64 (pwF ys 1), Value.int .i64 (pwF ys 2), Value.int .i64 (pwF ys 3), Value.int .i64 (pwF ys 4), Value.int .i64 (pwF ys 5), Value.int .i64 (pwF ys 6), Value.int .i64 (pwF ys 7), Value.int .i64 d2] 67) = w5 at *
  clear hb
  clear ka0 kb0
  clear ka1 kb1
  clear za zb
  have KP : Hid (∀ w', Kp w2.heap.size w4.heap.size w5 w' → (w'.cell? ⟨w2.heap.size, 0, none⟩ = some (Value.int .i64 (pwN xs)) ∧ w'.cell? ⟨w2.heap.size, 1, none⟩ = some (Value.int .i64 (pwF xs 0)) ∧ w'.cell? ⟨w2.heap.size, 2, none⟩ = some (Value.int .i64 (pwF xs 1)) ∧ w'.cell? ⟨w2.heap.size, 3, none⟩ = some (Value.int .i64 (pwF xs 2)) ∧ w'.cell? ⟨w2.heap.size, 4, none⟩ = some (Value.int .i64 (pwF xs 3)) ∧ w'.cell? ⟨w2.heap.size, 5, none⟩ = some (Value.int .i64 (pwF xs 4)) ∧ w'.cell? ⟨w2.heap.size, 6, none⟩ = some (Value.int .i64 (pwF xs 5)) ∧ w'.cell? ⟨w2.heap.size, 7, none⟩ = some (Value.int .i64 (pwF xs 6)) ∧ w'.cell? ⟨w2.heap.size, 8, none⟩ = some (Value.int .i64 (pwF xs 7)) ∧ w'.cell? ⟨w2.heap.size, 9, none⟩ = some (Value.int .i64 d1) ∧ w'.cell? ⟨w4.heap.size, 0, none⟩ = some (Value.int .i64 (pwN ys)) ∧ w'.cell? ⟨w4.heap.size, 1, none⟩ = some (Value.int .i64 (pwF ys 0)) ∧ w'.cell? ⟨w4.heap.size, 2, none⟩ = some (Value.int .i64 (pwF ys 1)) ∧ w'.cell? ⟨w4.heap.size, 3, none⟩ = some (Value.int .i64 (pwF ys 2)) ∧ w'.cell? ⟨w4.heap.size, 4, none⟩ = some (Value.int .i64 (pwF ys 3)) ∧ w'.cell? ⟨w4.heap.size, 5, none⟩ = some (Value.int .i64 (pwF ys 4)) ∧ w'.cell? ⟨w4.heap.size, 6, none⟩ = some (Value.int .i64 (pwF ys 5)) ∧ w'.cell? ⟨w4.heap.size, 7, none⟩ = some (Value.int .i64 (pwF ys 6)) ∧ w'.cell? ⟨w4.heap.size, 8, none⟩ = some (Value.int .i64 (pwF ys 7)) ∧ w'.cell? ⟨w4.heap.size, 9, none⟩ = some (Value.int .i64 d2))) := hide (fun w' h => ⟨(h 0).1.trans kx0, (h 1).1.trans kx1, (h 2).1.trans kx2, (h 3).1.trans kx3, (h 4).1.trans kx4, (h 5).1.trans kx5, (h 6).1.trans kx6, (h 7).1.trans kx7, (h 8).1.trans kx8, (h 9).1.trans kx9, (h 0).2.trans ky0, (h 1).2.trans ky1, (h 2).2.trans ky2, (h 3).2.trans ky3, (h 4).2.trans ky4, (h 5).2.trans ky5, (h 6).2.trans ky6, (h 7).2.trans ky7, (h 8).2.trans ky8, (h 9).2.trans ky9⟩)
  have n1 : ¬ w.heap.size + 1 + 1 = w2.heap.size := by omega
  have n2 : ¬ w.heap.size + 1 + 1 = w4.heap.size := by omega
  have n3 : ¬ w.heap.size + 1 + 1 + 1 = w2.heap.size := by omega
  have n4 : ¬ w.heap.size + 1 + 1 + 1 = w4.heap.size := by omega
  clear KP
  cases hv1 : vokB d1 xs with
  | false =>
    have HV1 := hide hv1
    clear hv1
    go_region
    all_goals
      go_wp2
      refine bodyPost_ret (v := .tuple #[Value.agg #[Value.int .i64 (pwN xs), Value.int .i64 (pwF xs 0), Value.int .i64 (pwF xs 1), Value.int .i64 (pwF xs 2), Value.int .i64 (pwF xs 3), Value.int .i64 (pwF xs 4), Value.int .i64 (pwF xs 5), Value.int .i64 (pwF xs 6), Value.int .i64 (pwF xs 7), Value.int .i64 d1], Value.agg #[Value.int .i64 (pwN ys), Value.int .i64 (pwF ys 0), Value.int .i64 (pwF ys 1), Value.int .i64 (pwF ys 2), Value.int .i64 (pwF ys 3), Value.int .i64 (pwF ys 4), Value.int .i64 (pwF ys 5), Value.int .i64 (pwF ys 6), Value.int .i64 (pwF ys 7), Value.int .i64 d2], .bool false]) (by simp [results, Try.results57, go_sem, *]) rfl ⟨by rw [HV1.out, Bool.false_and, Bool.false_and], ?_⟩
      exact (((((((((((((((((((((HB.out.setCell (p := ⟨w.heap.size + 1 + 1, 0, none⟩) (by dsimp only; omega) _).setCell (p := ⟨w.heap.size + 1 + 1, 1, none⟩) (by dsimp only; omega) _).setCell (p := ⟨w.heap.size + 1 + 1, 2, none⟩) (by dsimp only; omega) _).setCell (p := ⟨w.heap.size + 1 + 1, 3, none⟩) (by dsimp only; omega) _).setCell (p := ⟨w.heap.size + 1 + 1, 4, none⟩) (by dsimp only; omega) _).setCell (p := ⟨w.heap.size + 1 + 1, 5, none⟩) (by dsimp only; omega) _).setCell (p := ⟨w.heap.size + 1 + 1, 6, none⟩) (by dsimp only; omega) _).setCell (p := ⟨w.heap.size + 1 + 1, 7, none⟩) (by dsimp only; omega) _).setCell (p := ⟨w.heap.size + 1 + 1, 8, none⟩) (by dsimp only; omega) _).setCell (p := ⟨w.heap.size + 1 + 1, 9, none⟩) (by dsimp only; omega) _).setCell (p := ⟨w.heap.size + 1 + 1 + 1, 0, none⟩) (by dsimp only; omega) _).setCell (p := ⟨w.heap.size + 1 + 1 + 1, 1, none⟩) (by dsimp only; omega) _).setCell (p := ⟨w.heap.size + 1 + 1 + 1, 2, none⟩) (by dsimp only; omega) _).setCell (p := ⟨w.heap.size + 1 + 1 + 1, 3, none⟩) (by dsimp only; omega) _).setCell (p := ⟨w.heap.size + 1 + 1 + 1, 4, none⟩) (by dsimp only; omega) _).setCell (p := ⟨w.heap.size + 1 + 1 + 1, 5, none⟩) (by dsimp only; omega) _).setCell (p := ⟨w.heap.size + 1 + 1 + 1, 6, none⟩) (by dsimp only; omega) _).setCell (p := ⟨w.heap.size + 1 + 1 + 1, 7, none⟩) (by dsimp only; omega) _).setCell (p := ⟨w.heap.size + 1 + 1 + 1, 8, none⟩) (by dsimp only; omega) _).setCell (p := ⟨w.heap.size + 1 + 1 + 1, 9, none⟩) (by dsimp only; omega) _)).drew
  | true =>
    have HV1 := hide hv1
    clear hv1
    cases hv2 : vokB d2 ys with
    | false =>
      have HV2 := hide hv2
      clear hv2
      go_region
      all_goals
        go_wp2
        refine bodyPost_ret (v := .tuple #[Value.agg #[Value.int .i64 (pwN xs), Value.int .i64 (pwF xs 0), Value.int .i64 (pwF xs 1), Value.int .i64 (pwF xs 2), Value.int .i64 (pwF xs 3), Value.int .i64 (pwF xs 4), Value.int .i64 (pwF xs 5), Value.int .i64 (pwF xs 6), Value.int .i64 (pwF xs 7), Value.int .i64 d1], Value.agg #[Value.int .i64 (pwN ys), Value.int .i64 (pwF ys 0), Value.int .i64 (pwF ys 1), Value.int .i64 (pwF ys 2), Value.int .i64 (pwF ys 3), Value.int .i64 (pwF ys 4), Value.int .i64 (pwF ys 5), Value.int .i64 (pwF ys 6), Value.int .i64 (pwF ys 7), Value.int .i64 d2], .bool false]) (by simp [results, Try.results57, go_sem, *]) rfl ⟨by rw [HV1.out, HV2.out, Bool.true_and, Bool.false_and], ?_⟩
        exact (((((((((((((((((((((HB.out.setCell (p := ⟨w.heap.size + 1 + 1, 0, none⟩) (by dsimp only; omega) _).setCell (p := ⟨w.heap.size + 1 + 1, 1, none⟩) (by dsimp only; omega) _).setCell (p := ⟨w.heap.size + 1 + 1, 2, none⟩) (by dsimp only; omega) _).setCell (p := ⟨w.heap.size + 1 + 1, 3, none⟩) (by dsimp only; omega) _).setCell (p := ⟨w.heap.size + 1 + 1, 4, none⟩) (by dsimp only; omega) _).setCell (p := ⟨w.heap.size + 1 + 1, 5, none⟩) (by dsimp only; omega) _).setCell (p := ⟨w.heap.size + 1 + 1, 6, none⟩) (by dsimp only; omega) _).setCell (p := ⟨w.heap.size + 1 + 1, 7, none⟩) (by dsimp only; omega) _).setCell (p := ⟨w.heap.size + 1 + 1, 8, none⟩) (by dsimp only; omega) _).setCell (p := ⟨w.heap.size + 1 + 1, 9, none⟩) (by dsimp only; omega) _).setCell (p := ⟨w.heap.size + 1 + 1 + 1, 0, none⟩) (by dsimp only; omega) _).setCell (p := ⟨w.heap.size + 1 + 1 + 1, 1, none⟩) (by dsimp only; omega) _).setCell (p := ⟨w.heap.size + 1 + 1 + 1, 2, none⟩) (by dsimp only; omega) _).setCell (p := ⟨w.heap.size + 1 + 1 + 1, 3, none⟩) (by dsimp only; omega) _).setCell (p := ⟨w.heap.size + 1 + 1 + 1, 4, none⟩) (by dsimp only; omega) _).setCell (p := ⟨w.heap.size + 1 + 1 + 1, 5, none⟩) (by dsimp only; omega) _).setCell (p := ⟨w.heap.size + 1 + 1 + 1, 6, none⟩) (by dsimp only; omega) _).setCell (p := ⟨w.heap.size + 1 + 1 + 1, 7, none⟩) (by dsimp only; omega) _).setCell (p := ⟨w.heap.size + 1 + 1 + 1, 8, none⟩) (by dsimp only; omega) _).setCell (p := ⟨w.heap.size + 1 + 1 + 1, 9, none⟩) (by dsimp only; omega) _)).drew
    | true =>
      have HV2 := hide hv2
      clear hv2
      go_region
      all_goals
        go_wp2
        refine bodyPost_ret (v := .tuple #[Value.agg #[Value.int .i64 (pwN xs), Value.int .i64 (pwF xs 0), Value.int .i64 (pwF xs 1), Value.int .i64 (pwF xs 2), Value.int .i64 (pwF xs 3), Value.int .i64 (pwF xs 4), Value.int .i64 (pwF xs 5), Value.int .i64 (pwF xs 6), Value.int .i64 (pwF xs 7), Value.int .i64 d1], Value.agg #[Value.int .i64 (pwN ys), Value.int .i64 (pwF ys 0), Value.int .i64 (pwF ys 1), Value.int .i64 (pwF ys 2), Value.int .i64 (pwF ys 3), Value.int .i64 (pwF ys 4), Value.int .i64 (pwF ys 5), Value.int .i64 (pwF ys 6), Value.int .i64 (pwF ys 7), Value.int .i64 d2], .bool (pwN xs == pwN ys)]) (by simp [results, Try.results57, go_sem, *]) rfl ⟨by rw [HV1.out, HV2.out, Bool.true_and, Bool.true_and], ?_⟩
        exact (((((((((((((((((((((HB.out.setCell (p := ⟨w.heap.size + 1 + 1, 0, none⟩) (by dsimp only; omega) _).setCell (p := ⟨w.heap.size + 1 + 1, 1, none⟩) (by dsimp only; omega) _).setCell (p := ⟨w.heap.size + 1 + 1, 2, none⟩) (by dsimp only; omega) _).setCell (p := ⟨w.heap.size + 1 + 1, 3, none⟩) (by dsimp only; omega) _).setCell (p := ⟨w.heap.size + 1 + 1, 4, none⟩) (by dsimp only; omega) _).setCell (p := ⟨w.heap.size + 1 + 1, 5, none⟩) (by dsimp only; omega) _).setCell (p := ⟨w.heap.size + 1 + 1, 6, none⟩) (by dsimp only; omega) _).setCell (p := ⟨w.heap.size + 1 + 1, 7, none⟩) (by dsimp only; omega) _).setCell (p := ⟨w.heap.size + 1 + 1, 8, none⟩) (by dsimp only; omega) _).setCell (p := ⟨w.heap.size + 1 + 1, 9, none⟩) (by dsimp only; omega) _).setCell (p := ⟨w.heap.size + 1 + 1 + 1, 0, none⟩) (by dsimp only; omega) _).setCell (p := ⟨w.heap.size + 1 + 1 + 1, 1, none⟩) (by dsimp only; omega) _).setCell (p := ⟨w.heap.size + 1 + 1 + 1, 2, none⟩) (by dsimp only; omega) _).setCell (p := ⟨w.heap.size + 1 + 1 + 1, 3, none⟩) (by dsimp only; omega) _).setCell (p := ⟨w.heap.size + 1 + 1 + 1, 4, none⟩) (by dsimp only; omega) _).setCell (p := ⟨w.heap.size + 1 + 1 + 1, 5, none⟩) (by dsimp only; omega) _).setCell (p := ⟨w.heap.size + 1 + 1 + 1, 6, none⟩) (by dsimp only; omega) _).setCell (p := ⟨w.heap.size + 1 + 1 + 1, 7, none⟩) (by dsimp only; omega) _).setCell (p := ⟨w.heap.size + 1 + 1 + 1, 8, none⟩) (by dsimp only; omega) _).setCell (p := ⟨w.heap.size + 1 + 1 + 1, 9, none⟩) (by dsimp only; omega) _)).drew
end Go.Proofs.Ytkfiidldappdcaa
