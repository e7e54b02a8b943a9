/- The walks of right, placesOf, powersOf and both VecOk. -/
import Derived.Test.YtkfiidldappdcaaArr
import Derived.Laws.IdiomCopy
namespace Go.Proofs.Ytkfiidldappdcaa
open Go.RowKit
set_option linter.unusedVariables false

/-- the powers of eight places by a number are right -/
def rgtB (f : Nat → Int) (d : Int) : Bool := decide (1 ≤ d ∧ d ≤ 720) && winB 100000 f && (gsh d f 8 == 1)

set_option maxHeartbeats 400000 in
theorem right8 (n d : Int) (f : Nat → Int) (w : World) :
    Calls Try.prog 73 #[Value.agg #[Value.int .i64 n, Value.int .i64 (f 0), Value.int .i64 (f 1), Value.int .i64 (f 2), Value.int .i64 (f 3), Value.int .i64 (f 4), Value.int .i64 (f 5), Value.int .i64 (f 6), Value.int .i64 (f 7), Value.int .i64 d]] w fun e w' => e = .returned (.bool (rgtB f d)) ∧ Below w.heap.size w w' := by
  have HB := hide (bl_alloc (bl_refl w) (Obj.cells #[Value.int .i64 n, Value.int .i64 (f 0), Value.int .i64 (f 1), Value.int .i64 (f 2), Value.int .i64 (f 3), Value.int .i64 (f 4), Value.int .i64 (f 5), Value.int .i64 (f 6), Value.int .i64 (f 7), Value.int .i64 d] 67))
  by_cases h1 : d < 1
  · have HR : Hid (rgtB f d = false) := hide (by unfold rgtB; rw [decide_eq_false (by omega)]; rfl)
    have h1' : ¬ 1 ≤ d := by omega
    go_enter Try.func73, Try.ntmps73
    go_wp2
    go_ret
    exact ⟨ret_bool HR.out.symm, HB.out⟩
  by_cases h2 : 720 < d
  · have HR : Hid (rgtB f d = false) := hide (by unfold rgtB; rw [decide_eq_false (by omega)]; rfl)
    have h1' : 1 ≤ d := by omega
    have h2' : decide (d ≤ 720) = false := by simp; omega
    go_enter Try.func73, Try.ntmps73
    go_wp2
    go_ret
    exact ⟨ret_bool HR.out.symm, HB.out⟩
  have h1' : 1 ≤ d := by omega
  have h2' : d ≤ 720 := by omega
  have h2'' : decide (d ≤ 720) = true := by simp; omega
  clear h1 h2
  cases hw : winB 100000 f with
  | false =>
    have HR : Hid (rgtB f d = false) := hide (by unfold rgtB; rw [hw]; simp)
    have HW := hide hw
    clear hw
    go_enter Try.func73, Try.ntmps73
    go_wp2_with fail
    refine (within8 n 100000 f _ (by omega) (by omega)).mono ?_
    rw [HW.out]
    rintro e w1 ⟨rfl, hb⟩
    have HB1 := hide (bl_trans HB.out hb)
    clear hb
    go_wp2
    go_ret
    exact ⟨ret_bool HR.out.symm, HB1.out⟩
  | true =>
    have HR : Hid (rgtB f d = (gsh d f 8 == 1)) := hide (by unfold rgtB; rw [hw, decide_eq_true ⟨h1', h2'⟩]; simp)
    have hf : ∀ j, j < 8 → -1000000000000000 ≤ f j ∧ f j ≤ 1000000000000000 := fun j hj => by have := (winB_iff 100000 f).1 hw j hj; omega
    have HF := hide hf
    have HW := hide hw
    clear hw hf
    have q0 : ∀ W1 : World, Below (w.alloc (Obj.cells #[Value.int .i64 n, Value.int .i64 (f 0), Value.int .i64 (f 1), Value.int .i64 (f 2), Value.int .i64 (f 3), Value.int .i64 (f 4), Value.int .i64 (f 5), Value.int .i64 (f 6), Value.int .i64 (f 7), Value.int .i64 d] 67)).heap.size (w.alloc (Obj.cells #[Value.int .i64 n, Value.int .i64 (f 0), Value.int .i64 (f 1), Value.int .i64 (f 2), Value.int .i64 (f 3), Value.int .i64 (f 4), Value.int .i64 (f 5), Value.int .i64 (f 6), Value.int .i64 (f 7), Value.int .i64 d] 67)) W1 → (W1.cell? ⟨w.heap.size, 0, none⟩ = some (Value.int .i64 n) ∧ W1.cell? ⟨w.heap.size, 1, none⟩ = some (Value.int .i64 (f 0)) ∧ W1.cell? ⟨w.heap.size, 2, none⟩ = some (Value.int .i64 (f 1)) ∧ W1.cell? ⟨w.heap.size, 3, none⟩ = some (Value.int .i64 (f 2)) ∧ W1.cell? ⟨w.heap.size, 4, none⟩ = some (Value.int .i64 (f 3)) ∧ W1.cell? ⟨w.heap.size, 5, none⟩ = some (Value.int .i64 (f 4)) ∧ W1.cell? ⟨w.heap.size, 6, none⟩ = some (Value.int .i64 (f 5)) ∧ W1.cell? ⟨w.heap.size, 7, none⟩ = some (Value.int .i64 (f 6)) ∧ W1.cell? ⟨w.heap.size, 8, none⟩ = some (Value.int .i64 (f 7)) ∧ W1.cell? ⟨w.heap.size, 9, none⟩ = some (Value.int .i64 d)) := fun W1 hb => ⟨(hb.cell (p := ⟨w.heap.size, 0, none⟩) (by simp only [World.size_alloc]; omega)).trans (by go_simp), (hb.cell (p := ⟨w.heap.size, 1, none⟩) (by simp only [World.size_alloc]; omega)).trans (by go_simp), (hb.cell (p := ⟨w.heap.size, 2, none⟩) (by simp only [World.size_alloc]; omega)).trans (by go_simp), (hb.cell (p := ⟨w.heap.size, 3, none⟩) (by simp only [World.size_alloc]; omega)).trans (by go_simp), (hb.cell (p := ⟨w.heap.size, 4, none⟩) (by simp only [World.size_alloc]; omega)).trans (by go_simp), (hb.cell (p := ⟨w.heap.size, 5, none⟩) (by simp only [World.size_alloc]; omega)).trans (by go_simp), (hb.cell (p := ⟨w.heap.size, 6, none⟩) (by simp only [World.size_alloc]; omega)).trans (by go_simp), (hb.cell (p := ⟨w.heap.size, 7, none⟩) (by simp only [World.size_alloc]; omega)).trans (by go_simp), (hb.cell (p := ⟨w.heap.size, 8, none⟩) (by simp only [World.size_alloc]; omega)).trans (by go_simp), (hb.cell (p := ⟨w.heap.size, 9, none⟩) (by simp only [World.size_alloc]; omega)).trans (by go_simp)⟩
    have Q0 := hide q0
    clear q0
    go_enter Try.func73, Try.ntmps73
    go_wp2_with fail
    refine (within8 n 100000 f _ (by omega) (by omega)).mono ?_
    rw [HW.out]
    rintro e w1 ⟨rfl, hb⟩
    obtain ⟨c0, c1, c2, c3, c4, c5, c6, c7, c8, c9⟩ := Q0.out w1 hb
    have HB1 := hide (bl_trans HB.out hb)
    clear hb
    go_wp2_with fail
    refine (shared8 n d f _ (by omega) HF.out).mono ?_
    rintro e w2 ⟨rfl, hb⟩
    have HB2 := hide (bl_trans HB1.out hb)
    clear hb
    generalize gsh d f 8 = g at *
    go_wp2
    go_ret
    exact ⟨ret_bool HR.out.symm, HB2.out⟩
end Go.Proofs.Ytkfiidldappdcaa
