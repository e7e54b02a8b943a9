/- The program's One: at any int. -/
import Derived.Test.YteljkjpcjjiidaaGr1
namespace Go.Proofs.Yteljkjpcjjiidaa
open Go.RowKit
set_option linter.unusedVariables false
set_option maxRecDepth 20000

/-- an answer that is a matrix: its numbers in memory of their own -/
def MNew (W : World) (lo : Nat) (v : Value) (R C : Int) (n : Nat) (E : Nat → Bool × List Nat) : Prop :=
  (v = .agg #[.int .i64 R, .int .i64 C, .slice none 0 0] ∧ n = 0) ∨ ∃ g A, v = .agg #[.int .i64 R, .int .i64 C, .slice (some ⟨g, 0, none⟩) n n] ∧ BOwn W lo g n E A

set_option maxHeartbeats 2000000 in
theorem oneI_no (x : Int) (w : World) (hx : sideB x = false) :
    Calls Try.prog 24 #[.int .i64 x] w fun e w' => e = .returned (Value.agg #[Value.int .i64 0, Value.int .i64 0, Value.slice none 0 0]) ∧ Below w.heap.size w w' := by
  have HX := hide hx
  clear hx
  have Xr : Hid ((w.alloc (Obj.cells #[Value.int .i64 0, Value.int .i64 0, Value.slice none 0 0] 29)).heap[w.heap.size]? = some (.cells #[Value.int .i64 0, Value.int .i64 0, Value.slice none 0 0] 29 (0, 0))) := hide (by simpa only [World.size_alloc] using (hnew w (Obj.cells #[Value.int .i64 0, Value.int .i64 0, Value.slice none 0 0] 29)))
  have HB : Hid (Below w.heap.size w (w.alloc (Obj.cells #[Value.int .i64 0, Value.int .i64 0, Value.slice none 0 0] 29))) := hide (bl_alloc (bl_refl w) (Obj.cells #[Value.int .i64 0, Value.int .i64 0, Value.slice none 0 0] 29))
  have yw1 : w.heap.size + 1 ≤ (w.alloc (Obj.cells #[Value.int .i64 0, Value.int .i64 0, Value.slice none 0 0] 29)).heap.size := by simp only [World.size_alloc]; omega
  have kr0 : (w.alloc (Obj.cells #[Value.int .i64 0, Value.int .i64 0, Value.slice none 0 0] 29)).cell? ⟨w.heap.size, 0, none⟩ = some (Value.int .i64 0) := (Lib.cell_of_heap Xr.out 0).trans rfl
  have fr0 : (w.alloc (Obj.cells #[Value.int .i64 0, Value.int .i64 0, Value.slice none 0 0] 29)).frozen? ⟨w.heap.size, 0, none⟩ = false := Lib.frozen_of_heap Xr.out 0
  have kr1 : (w.alloc (Obj.cells #[Value.int .i64 0, Value.int .i64 0, Value.slice none 0 0] 29)).cell? ⟨w.heap.size, 1, none⟩ = some (Value.int .i64 0) := (Lib.cell_of_heap Xr.out 1).trans rfl
  have fr1 : (w.alloc (Obj.cells #[Value.int .i64 0, Value.int .i64 0, Value.slice none 0 0] 29)).frozen? ⟨w.heap.size, 1, none⟩ = false := Lib.frozen_of_heap Xr.out 1
  have kr2 : (w.alloc (Obj.cells #[Value.int .i64 0, Value.int .i64 0, Value.slice none 0 0] 29)).cell? ⟨w.heap.size, 2, none⟩ = some (Value.slice none 0 0) := (Lib.cell_of_heap Xr.out 2).trans rfl
  have fr2 : (w.alloc (Obj.cells #[Value.int .i64 0, Value.int .i64 0, Value.slice none 0 0] 29)).frozen? ⟨w.heap.size, 2, none⟩ = false := Lib.frozen_of_heap Xr.out 2
  have zr : w.heap.size < (w.alloc (Obj.cells #[Value.int .i64 0, Value.int .i64 0, Value.slice none 0 0] 29)).heap.size := hlt Xr.out
  go_enter Try.func24, Try.ntmps24
  go_wp2_with fail
  generalize (w.alloc (Obj.cells #[Value.int .i64 0, Value.int .i64 0, Value.slice none 0 0] 29)) = w1 at *
  refine (sideI x w1).mono ?_
  rintro e w2 ⟨rfl, hw⟩
  subst w2
  rw [HX.out]
  go_wp2
  refine bodyPost_ret (v := Value.agg #[Value.int .i64 0, Value.int .i64 0, Value.slice none 0 0]) (by simp [results, Try.results24, go_sem, kr0, kr1, kr2]) rfl ?_
  exact ⟨rfl, St.below HB.out ((((St.refl w.heap.size w1).set 0 (.int .i64 0)).set 1 (.int .i64 0)).set 2 (.slice none 0 0)) (Nat.le_refl _)⟩

set_option maxHeartbeats 2000000 in
theorem oneI_yes (n N : Nat) (w : World) (hn : n ≤ 8) (hN : N = n * n) :
    Calls Try.prog 24 #[.int .i64 (n : Int)] w fun e w' => ∃ g A, e = .returned (Value.agg #[Value.int .i64 (n : Int), Value.int .i64 (n : Int), Value.slice (some ⟨g, 0, none⟩) N N]) ∧ BOwn w' w.heap.size g N (fun j => numE (oneZ n n j)) A ∧ Below w.heap.size w w' := by
  have HX : Hid (sideB (n : Int) = true) := hide (side_iff.2 ⟨by omega, by omega⟩)
  have HN := hide hN
  clear hN
  have Xr : Hid ((w.alloc (Obj.cells #[Value.int .i64 0, Value.int .i64 0, Value.slice none 0 0] 29)).heap[w.heap.size]? = some (.cells #[Value.int .i64 0, Value.int .i64 0, Value.slice none 0 0] 29 (0, 0))) := hide (by simpa only [World.size_alloc] using (hnew w (Obj.cells #[Value.int .i64 0, Value.int .i64 0, Value.slice none 0 0] 29)))
  have HB : Hid (Below w.heap.size w (w.alloc (Obj.cells #[Value.int .i64 0, Value.int .i64 0, Value.slice none 0 0] 29))) := hide (bl_alloc (bl_refl w) (Obj.cells #[Value.int .i64 0, Value.int .i64 0, Value.slice none 0 0] 29))
  have yw1 : w.heap.size + 1 ≤ (w.alloc (Obj.cells #[Value.int .i64 0, Value.int .i64 0, Value.slice none 0 0] 29)).heap.size := by simp only [World.size_alloc]; omega
  have kr0 : (w.alloc (Obj.cells #[Value.int .i64 0, Value.int .i64 0, Value.slice none 0 0] 29)).cell? ⟨w.heap.size, 0, none⟩ = some (Value.int .i64 0) := (Lib.cell_of_heap Xr.out 0).trans rfl
  have fr0 : (w.alloc (Obj.cells #[Value.int .i64 0, Value.int .i64 0, Value.slice none 0 0] 29)).frozen? ⟨w.heap.size, 0, none⟩ = false := Lib.frozen_of_heap Xr.out 0
  have kr1 : (w.alloc (Obj.cells #[Value.int .i64 0, Value.int .i64 0, Value.slice none 0 0] 29)).cell? ⟨w.heap.size, 1, none⟩ = some (Value.int .i64 0) := (Lib.cell_of_heap Xr.out 1).trans rfl
  have fr1 : (w.alloc (Obj.cells #[Value.int .i64 0, Value.int .i64 0, Value.slice none 0 0] 29)).frozen? ⟨w.heap.size, 1, none⟩ = false := Lib.frozen_of_heap Xr.out 1
  have kr2 : (w.alloc (Obj.cells #[Value.int .i64 0, Value.int .i64 0, Value.slice none 0 0] 29)).cell? ⟨w.heap.size, 2, none⟩ = some (Value.slice none 0 0) := (Lib.cell_of_heap Xr.out 2).trans rfl
  have fr2 : (w.alloc (Obj.cells #[Value.int .i64 0, Value.int .i64 0, Value.slice none 0 0] 29)).frozen? ⟨w.heap.size, 2, none⟩ = false := Lib.frozen_of_heap Xr.out 2
  have zr : w.heap.size < (w.alloc (Obj.cells #[Value.int .i64 0, Value.int .i64 0, Value.slice none 0 0] 29)).heap.size := hlt Xr.out
  go_enter Try.func24, Try.ntmps24
  go_wp2_with fail
  generalize (w.alloc (Obj.cells #[Value.int .i64 0, Value.int .i64 0, Value.slice none 0 0] 29)) = w1 at *
  refine (sideI (n : Int) w1).mono ?_
  rintro e w2 ⟨rfl, hw⟩
  subst w2
  rw [HX.out]
  go_wp2_with fail
  refine (oneGridI n N w1 hn HN.out).mono ?_
  rintro e w2 ⟨g, A, rfl, ho, hb⟩
  have yw2 := hb.size
  clear kr0 fr0 kr1 fr1 kr2 fr2 zr
  replace Xr := hide (hbel Xr.out hb (by first | assumption | omega))
  replace HB := hide (bl_trans HB.out hb)
  clear hb
  have O1 := hide ho
  clear ho
  have kr0 : w2.cell? ⟨w.heap.size, 0, none⟩ = some (Value.int .i64 0) := (Lib.cell_of_heap Xr.out 0).trans rfl
  have fr0 : w2.frozen? ⟨w.heap.size, 0, none⟩ = false := Lib.frozen_of_heap Xr.out 0
  have kr1 : w2.cell? ⟨w.heap.size, 1, none⟩ = some (Value.int .i64 0) := (Lib.cell_of_heap Xr.out 1).trans rfl
  have fr1 : w2.frozen? ⟨w.heap.size, 1, none⟩ = false := Lib.frozen_of_heap Xr.out 1
  have kr2 : w2.cell? ⟨w.heap.size, 2, none⟩ = some (Value.slice none 0 0) := (Lib.cell_of_heap Xr.out 2).trans rfl
  have fr2 : w2.frozen? ⟨w.heap.size, 2, none⟩ = false := Lib.frozen_of_heap Xr.out 2
  have zr : w.heap.size < w2.heap.size := hlt Xr.out
  go_wp2
  obtain ⟨w3, ew3⟩ : ∃ x, x = (((w2.setCell ⟨w.heap.size, 0, none⟩ (Value.int .i64 (n : Int))).setCell ⟨w.heap.size, 1, none⟩ (Value.int .i64 (n : Int))).setCell ⟨w.heap.size, 2, none⟩ (Value.slice (some ⟨g, 0, none⟩) N N)) := ⟨_, rfl⟩
  have hst : St (w.heap.size) w2 w3 := by rw [ew3]; exact ((((St.refl (w.heap.size) w2).set 0 (Value.int .i64 (n : Int))).set 1 (Value.int .i64 (n : Int))).set 2 (Value.slice (some ⟨g, 0, none⟩) N N))
  rw [← ew3]
  have XX : Hid (w3.heap[w.heap.size]? = some (.cells #[Value.int .i64 (n : Int), Value.int .i64 (n : Int), Value.slice (some ⟨g, 0, none⟩) N N] 29 (0, 0))) := hide (by rw [ew3]; exact (hset (hset (hset Xr.out 0 (Value.int .i64 (n : Int))) 1 (Value.int .i64 (n : Int))) 2 (Value.slice (some ⟨g, 0, none⟩) N N)))
  have yw3 : w2.heap.size ≤ w3.heap.size := Nat.le_of_eq hst.size.symm
  clear ew3
  clear kr0 fr0 kr1 fr1 kr2 fr2 zr
  replace O1 := hide (BOwn.st O1.out hst (by omega))
  replace HB := hide (St.below HB.out hst (by omega))
  have Xr := XX
  clear XX hst
  have kr0 : w3.cell? ⟨w.heap.size, 0, none⟩ = some (Value.int .i64 (n : Int)) := (Lib.cell_of_heap Xr.out 0).trans rfl
  have fr0 : w3.frozen? ⟨w.heap.size, 0, none⟩ = false := Lib.frozen_of_heap Xr.out 0
  have kr1 : w3.cell? ⟨w.heap.size, 1, none⟩ = some (Value.int .i64 (n : Int)) := (Lib.cell_of_heap Xr.out 1).trans rfl
  have fr1 : w3.frozen? ⟨w.heap.size, 1, none⟩ = false := Lib.frozen_of_heap Xr.out 1
  have kr2 : w3.cell? ⟨w.heap.size, 2, none⟩ = some (Value.slice (some ⟨g, 0, none⟩) N N) := (Lib.cell_of_heap Xr.out 2).trans rfl
  have fr2 : w3.frozen? ⟨w.heap.size, 2, none⟩ = false := Lib.frozen_of_heap Xr.out 2
  have zr : w.heap.size < w3.heap.size := hlt Xr.out
  refine bodyPost_ret (v := Value.agg #[Value.int .i64 (n : Int), Value.int .i64 (n : Int), Value.slice (some ⟨g, 0, none⟩) N N]) (by simp [results, Try.results24, go_sem, kr0, kr1, kr2]) rfl ?_
  exact ⟨g, A, rfl, O1.out.mono (by omega), HB.out⟩
end Go.Proofs.Yteljkjpcjjiidaa
