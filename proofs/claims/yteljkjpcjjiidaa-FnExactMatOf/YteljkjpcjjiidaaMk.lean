/- What the law asks of matrices: how great one is, a copy, whether two are alike, marks, whether they are held. -/
import Derived.Test.YteljkjpcjjiidaaBl
namespace Go.Proofs.Yteljkjpcjjiidaa
open Go.RowKit
set_option linter.unusedVariables false
set_option maxRecDepth 20000

/-- the value of a matrix whose numbers are this list -/
def matV (R C : Int) (v : Value) : Value := .agg #[.int .i64 R, .int .i64 C, v]
theorem BOwn.st {N : Nat} {w w' : World} {lo g n : Nat} {E : Nat → Bool × List Nat} {A : Nat → Option Addr × Nat} (h : BOwn w lo g n E A) (k : St N w w') (hN : N < lo) : BOwn w' lo g n E A :=
  h.chg (P := fun b => b = N) ⟨k.os, k.tape, k.output, Nat.le_of_eq k.size.symm, fun b hb hn => k.block b hn⟩ (fun b hb e => by omega)

set_option maxHeartbeats 4000000 in
set_option maxRecDepth 20000 in
theorem szM (R C : Int) (a : Option Addr) (n cap : Nat) (X : Nat → Prop) (E : Nat → Bool × List Nat) (L : Int) (w : World) (hs : BSeg w X a n cap E) (h0 : 0 ≤ L) (h1 : L ≤ 1048576) :
    Calls Try.prog 10 #[Value.agg #[Value.int .i64 R, Value.int .i64 C, Value.slice a n cap], .int .i64 L] w fun e w' => e = .returned (.int .i64 (bleft L (n + etot E n))) ∧ Below w.heap.size w w' := by
  have HS := hide hs
  clear hs
  have Xa : Hid ((w.alloc (Obj.cells #[Value.int .i64 R, Value.int .i64 C, Value.slice a n cap] 24)).heap[w.heap.size]? = some (.cells #[Value.int .i64 R, Value.int .i64 C, Value.slice a n cap] 24 (0, 0))) := hide (by simpa only [World.size_alloc] using (hnew w (Obj.cells #[Value.int .i64 R, Value.int .i64 C, Value.slice a n cap] 24)))
  have HB : Hid (Below w.heap.size w (w.alloc (Obj.cells #[Value.int .i64 R, Value.int .i64 C, Value.slice a n cap] 24))) := hide (bl_alloc (bl_refl w) (Obj.cells #[Value.int .i64 R, Value.int .i64 C, Value.slice a n cap] 24))
  have yw1 : w.heap.size + 1 ≤ (w.alloc (Obj.cells #[Value.int .i64 R, Value.int .i64 C, Value.slice a n cap] 24)).heap.size := by simp only [World.size_alloc]; omega
  have ka0 : (w.alloc (Obj.cells #[Value.int .i64 R, Value.int .i64 C, Value.slice a n cap] 24)).cell? ⟨w.heap.size, 0, none⟩ = some (Value.int .i64 R) := (Lib.cell_of_heap Xa.out 0).trans rfl
  have fa0 : (w.alloc (Obj.cells #[Value.int .i64 R, Value.int .i64 C, Value.slice a n cap] 24)).frozen? ⟨w.heap.size, 0, none⟩ = false := Lib.frozen_of_heap Xa.out 0
  have ka1 : (w.alloc (Obj.cells #[Value.int .i64 R, Value.int .i64 C, Value.slice a n cap] 24)).cell? ⟨w.heap.size, 1, none⟩ = some (Value.int .i64 C) := (Lib.cell_of_heap Xa.out 1).trans rfl
  have fa1 : (w.alloc (Obj.cells #[Value.int .i64 R, Value.int .i64 C, Value.slice a n cap] 24)).frozen? ⟨w.heap.size, 1, none⟩ = false := Lib.frozen_of_heap Xa.out 1
  have ka2 : (w.alloc (Obj.cells #[Value.int .i64 R, Value.int .i64 C, Value.slice a n cap] 24)).cell? ⟨w.heap.size, 2, none⟩ = some (Value.slice a n cap) := (Lib.cell_of_heap Xa.out 2).trans rfl
  have fa2 : (w.alloc (Obj.cells #[Value.int .i64 R, Value.int .i64 C, Value.slice a n cap] 24)).frozen? ⟨w.heap.size, 2, none⟩ = false := Lib.frozen_of_heap Xa.out 2
  have za : w.heap.size < (w.alloc (Obj.cells #[Value.int .i64 R, Value.int .i64 C, Value.slice a n cap] 24)).heap.size := hlt Xa.out
  go_enter Try.func10, Try.ntmps10
  go_wp2_with fail
  generalize (w.alloc (Obj.cells #[Value.int .i64 R, Value.int .i64 C, Value.slice a n cap] 24)) = w1 at *
  refine (szBS a n cap X E L _ (HS.out.below HB.out) h0 h1).mono ?_
  rintro e w2 ⟨rfl, hb⟩
  have yw2 := hb.size
  clear ka0 fa0 ka1 fa1 ka2 fa2 za
  replace Xa := hide (hbel Xa.out hb (by first | assumption | omega))
  replace HB := hide (bl_trans HB.out hb)
  clear hb
  have ka0 : w2.cell? ⟨w.heap.size, 0, none⟩ = some (Value.int .i64 R) := (Lib.cell_of_heap Xa.out 0).trans rfl
  have fa0 : w2.frozen? ⟨w.heap.size, 0, none⟩ = false := Lib.frozen_of_heap Xa.out 0
  have ka1 : w2.cell? ⟨w.heap.size, 1, none⟩ = some (Value.int .i64 C) := (Lib.cell_of_heap Xa.out 1).trans rfl
  have fa1 : w2.frozen? ⟨w.heap.size, 1, none⟩ = false := Lib.frozen_of_heap Xa.out 1
  have ka2 : w2.cell? ⟨w.heap.size, 2, none⟩ = some (Value.slice a n cap) := (Lib.cell_of_heap Xa.out 2).trans rfl
  have fa2 : w2.frozen? ⟨w.heap.size, 2, none⟩ = false := Lib.frozen_of_heap Xa.out 2
  have za : w.heap.size < w2.heap.size := hlt Xa.out
  obtain ⟨z, hz⟩ : ∃ z, n + etot E n = z := ⟨_, rfl⟩
  have HZ := hide hz
  rw [hz]
  clear hz
  by_cases h : L < (z : Int)
  · have HE : Hid (bleft L z = -1) := hide (by unfold bleft; rw [if_pos h])
    rw [HE.out]
    go_wp2
    go_ret
    exact ⟨ret_int (by rw [HZ.out, HE.out]), HB.out⟩
  · have HE : Hid (bleft L z = L - (z : Int)) := hide (by unfold bleft; rw [if_neg h])
    have hz0 : ¬ L - (z : Int) < 0 := by omega
    rw [HE.out]
    go_wp2
    go_ret
    exact ⟨ret_int (by rw [HZ.out, HE.out]), HB.out⟩

set_option maxHeartbeats 4000000 in
set_option maxRecDepth 20000 in
theorem toM (R C : Int) (a : Option Addr) (n cap : Nat) (X : Nat → Prop) (E : Nat → Bool × List Nat) (w : World) (hs : BSeg w X a n cap E) (hn : n ≤ 1048576) (ht : etot E n ≤ 1048576) :
    Calls Try.prog 12 #[Value.agg #[Value.int .i64 R, Value.int .i64 C, Value.slice a n cap]] w fun e w' => ∃ g A, e = .returned (Value.agg #[Value.int .i64 R, Value.int .i64 C, Value.slice (some ⟨g, 0, none⟩) n n]) ∧ BOwn w' w.heap.size g n E A ∧ Below w.heap.size w w' := by
  have HS := hide hs
  clear hs
  have Xa : Hid ((((w.alloc (Obj.cells #[Value.int .i64 R, Value.int .i64 C, Value.slice a n cap] 24)).alloc (Obj.cells #[Value.int .i64 0, Value.int .i64 0, Value.slice none 0 0] 29)).alloc (Obj.cells #[Value.int .i64 R, Value.int .i64 C, Value.slice none 0 0] 29)).heap[w.heap.size]? = some (.cells #[Value.int .i64 R, Value.int .i64 C, Value.slice a n cap] 24 (0, 0))) := hide (by simpa only [World.size_alloc] using (hnewer (hnewer (hnew w (Obj.cells #[Value.int .i64 R, Value.int .i64 C, Value.slice a n cap] 24)) (Obj.cells #[Value.int .i64 0, Value.int .i64 0, Value.slice none 0 0] 29)) (Obj.cells #[Value.int .i64 R, Value.int .i64 C, Value.slice none 0 0] 29)))
  have Xr : Hid ((((w.alloc (Obj.cells #[Value.int .i64 R, Value.int .i64 C, Value.slice a n cap] 24)).alloc (Obj.cells #[Value.int .i64 0, Value.int .i64 0, Value.slice none 0 0] 29)).alloc (Obj.cells #[Value.int .i64 R, Value.int .i64 C, Value.slice none 0 0] 29)).heap[w.heap.size + 1]? = some (.cells #[Value.int .i64 0, Value.int .i64 0, Value.slice none 0 0] 29 (0, 0))) := hide (by simpa only [World.size_alloc] using (hnewer (hnew (w.alloc (Obj.cells #[Value.int .i64 R, Value.int .i64 C, Value.slice a n cap] 24)) (Obj.cells #[Value.int .i64 0, Value.int .i64 0, Value.slice none 0 0] 29)) (Obj.cells #[Value.int .i64 R, Value.int .i64 C, Value.slice none 0 0] 29)))
  have Xo : Hid ((((w.alloc (Obj.cells #[Value.int .i64 R, Value.int .i64 C, Value.slice a n cap] 24)).alloc (Obj.cells #[Value.int .i64 0, Value.int .i64 0, Value.slice none 0 0] 29)).alloc (Obj.cells #[Value.int .i64 R, Value.int .i64 C, Value.slice none 0 0] 29)).heap[w.heap.size + 1 + 1]? = some (.cells #[Value.int .i64 R, Value.int .i64 C, Value.slice none 0 0] 29 (0, 0))) := hide (by simpa only [World.size_alloc] using (hnew ((w.alloc (Obj.cells #[Value.int .i64 R, Value.int .i64 C, Value.slice a n cap] 24)).alloc (Obj.cells #[Value.int .i64 0, Value.int .i64 0, Value.slice none 0 0] 29)) (Obj.cells #[Value.int .i64 R, Value.int .i64 C, Value.slice none 0 0] 29)))
  have HB : Hid (Below w.heap.size w (((w.alloc (Obj.cells #[Value.int .i64 R, Value.int .i64 C, Value.slice a n cap] 24)).alloc (Obj.cells #[Value.int .i64 0, Value.int .i64 0, Value.slice none 0 0] 29)).alloc (Obj.cells #[Value.int .i64 R, Value.int .i64 C, Value.slice none 0 0] 29))) := hide (bl_alloc (bl_alloc (bl_alloc (bl_refl w) (Obj.cells #[Value.int .i64 R, Value.int .i64 C, Value.slice a n cap] 24)) (Obj.cells #[Value.int .i64 0, Value.int .i64 0, Value.slice none 0 0] 29)) (Obj.cells #[Value.int .i64 R, Value.int .i64 C, Value.slice none 0 0] 29))
  have yw1 : w.heap.size + 3 ≤ (((w.alloc (Obj.cells #[Value.int .i64 R, Value.int .i64 C, Value.slice a n cap] 24)).alloc (Obj.cells #[Value.int .i64 0, Value.int .i64 0, Value.slice none 0 0] 29)).alloc (Obj.cells #[Value.int .i64 R, Value.int .i64 C, Value.slice none 0 0] 29)).heap.size := by simp only [World.size_alloc]; omega
  have ka0 : (((w.alloc (Obj.cells #[Value.int .i64 R, Value.int .i64 C, Value.slice a n cap] 24)).alloc (Obj.cells #[Value.int .i64 0, Value.int .i64 0, Value.slice none 0 0] 29)).alloc (Obj.cells #[Value.int .i64 R, Value.int .i64 C, Value.slice none 0 0] 29)).cell? ⟨w.heap.size, 0, none⟩ = some (Value.int .i64 R) := (Lib.cell_of_heap Xa.out 0).trans rfl
  have fa0 : (((w.alloc (Obj.cells #[Value.int .i64 R, Value.int .i64 C, Value.slice a n cap] 24)).alloc (Obj.cells #[Value.int .i64 0, Value.int .i64 0, Value.slice none 0 0] 29)).alloc (Obj.cells #[Value.int .i64 R, Value.int .i64 C, Value.slice none 0 0] 29)).frozen? ⟨w.heap.size, 0, none⟩ = false := Lib.frozen_of_heap Xa.out 0
  have ka1 : (((w.alloc (Obj.cells #[Value.int .i64 R, Value.int .i64 C, Value.slice a n cap] 24)).alloc (Obj.cells #[Value.int .i64 0, Value.int .i64 0, Value.slice none 0 0] 29)).alloc (Obj.cells #[Value.int .i64 R, Value.int .i64 C, Value.slice none 0 0] 29)).cell? ⟨w.heap.size, 1, none⟩ = some (Value.int .i64 C) := (Lib.cell_of_heap Xa.out 1).trans rfl
  have fa1 : (((w.alloc (Obj.cells #[Value.int .i64 R, Value.int .i64 C, Value.slice a n cap] 24)).alloc (Obj.cells #[Value.int .i64 0, Value.int .i64 0, Value.slice none 0 0] 29)).alloc (Obj.cells #[Value.int .i64 R, Value.int .i64 C, Value.slice none 0 0] 29)).frozen? ⟨w.heap.size, 1, none⟩ = false := Lib.frozen_of_heap Xa.out 1
  have ka2 : (((w.alloc (Obj.cells #[Value.int .i64 R, Value.int .i64 C, Value.slice a n cap] 24)).alloc (Obj.cells #[Value.int .i64 0, Value.int .i64 0, Value.slice none 0 0] 29)).alloc (Obj.cells #[Value.int .i64 R, Value.int .i64 C, Value.slice none 0 0] 29)).cell? ⟨w.heap.size, 2, none⟩ = some (Value.slice a n cap) := (Lib.cell_of_heap Xa.out 2).trans rfl
  have fa2 : (((w.alloc (Obj.cells #[Value.int .i64 R, Value.int .i64 C, Value.slice a n cap] 24)).alloc (Obj.cells #[Value.int .i64 0, Value.int .i64 0, Value.slice none 0 0] 29)).alloc (Obj.cells #[Value.int .i64 R, Value.int .i64 C, Value.slice none 0 0] 29)).frozen? ⟨w.heap.size, 2, none⟩ = false := Lib.frozen_of_heap Xa.out 2
  have za : w.heap.size < (((w.alloc (Obj.cells #[Value.int .i64 R, Value.int .i64 C, Value.slice a n cap] 24)).alloc (Obj.cells #[Value.int .i64 0, Value.int .i64 0, Value.slice none 0 0] 29)).alloc (Obj.cells #[Value.int .i64 R, Value.int .i64 C, Value.slice none 0 0] 29)).heap.size := hlt Xa.out
  have kr0 : (((w.alloc (Obj.cells #[Value.int .i64 R, Value.int .i64 C, Value.slice a n cap] 24)).alloc (Obj.cells #[Value.int .i64 0, Value.int .i64 0, Value.slice none 0 0] 29)).alloc (Obj.cells #[Value.int .i64 R, Value.int .i64 C, Value.slice none 0 0] 29)).cell? ⟨w.heap.size + 1, 0, none⟩ = some (Value.int .i64 0) := (Lib.cell_of_heap Xr.out 0).trans rfl
  have fr0 : (((w.alloc (Obj.cells #[Value.int .i64 R, Value.int .i64 C, Value.slice a n cap] 24)).alloc (Obj.cells #[Value.int .i64 0, Value.int .i64 0, Value.slice none 0 0] 29)).alloc (Obj.cells #[Value.int .i64 R, Value.int .i64 C, Value.slice none 0 0] 29)).frozen? ⟨w.heap.size + 1, 0, none⟩ = false := Lib.frozen_of_heap Xr.out 0
  have kr1 : (((w.alloc (Obj.cells #[Value.int .i64 R, Value.int .i64 C, Value.slice a n cap] 24)).alloc (Obj.cells #[Value.int .i64 0, Value.int .i64 0, Value.slice none 0 0] 29)).alloc (Obj.cells #[Value.int .i64 R, Value.int .i64 C, Value.slice none 0 0] 29)).cell? ⟨w.heap.size + 1, 1, none⟩ = some (Value.int .i64 0) := (Lib.cell_of_heap Xr.out 1).trans rfl
  have fr1 : (((w.alloc (Obj.cells #[Value.int .i64 R, Value.int .i64 C, Value.slice a n cap] 24)).alloc (Obj.cells #[Value.int .i64 0, Value.int .i64 0, Value.slice none 0 0] 29)).alloc (Obj.cells #[Value.int .i64 R, Value.int .i64 C, Value.slice none 0 0] 29)).frozen? ⟨w.heap.size + 1, 1, none⟩ = false := Lib.frozen_of_heap Xr.out 1
  have kr2 : (((w.alloc (Obj.cells #[Value.int .i64 R, Value.int .i64 C, Value.slice a n cap] 24)).alloc (Obj.cells #[Value.int .i64 0, Value.int .i64 0, Value.slice none 0 0] 29)).alloc (Obj.cells #[Value.int .i64 R, Value.int .i64 C, Value.slice none 0 0] 29)).cell? ⟨w.heap.size + 1, 2, none⟩ = some (Value.slice none 0 0) := (Lib.cell_of_heap Xr.out 2).trans rfl
  have fr2 : (((w.alloc (Obj.cells #[Value.int .i64 R, Value.int .i64 C, Value.slice a n cap] 24)).alloc (Obj.cells #[Value.int .i64 0, Value.int .i64 0, Value.slice none 0 0] 29)).alloc (Obj.cells #[Value.int .i64 R, Value.int .i64 C, Value.slice none 0 0] 29)).frozen? ⟨w.heap.size + 1, 2, none⟩ = false := Lib.frozen_of_heap Xr.out 2
  have zr : w.heap.size + 1 < (((w.alloc (Obj.cells #[Value.int .i64 R, Value.int .i64 C, Value.slice a n cap] 24)).alloc (Obj.cells #[Value.int .i64 0, Value.int .i64 0, Value.slice none 0 0] 29)).alloc (Obj.cells #[Value.int .i64 R, Value.int .i64 C, Value.slice none 0 0] 29)).heap.size := hlt Xr.out
  have ko0 : (((w.alloc (Obj.cells #[Value.int .i64 R, Value.int .i64 C, Value.slice a n cap] 24)).alloc (Obj.cells #[Value.int .i64 0, Value.int .i64 0, Value.slice none 0 0] 29)).alloc (Obj.cells #[Value.int .i64 R, Value.int .i64 C, Value.slice none 0 0] 29)).cell? ⟨w.heap.size + 1 + 1, 0, none⟩ = some (Value.int .i64 R) := (Lib.cell_of_heap Xo.out 0).trans rfl
  have fo0 : (((w.alloc (Obj.cells #[Value.int .i64 R, Value.int .i64 C, Value.slice a n cap] 24)).alloc (Obj.cells #[Value.int .i64 0, Value.int .i64 0, Value.slice none 0 0] 29)).alloc (Obj.cells #[Value.int .i64 R, Value.int .i64 C, Value.slice none 0 0] 29)).frozen? ⟨w.heap.size + 1 + 1, 0, none⟩ = false := Lib.frozen_of_heap Xo.out 0
  have ko1 : (((w.alloc (Obj.cells #[Value.int .i64 R, Value.int .i64 C, Value.slice a n cap] 24)).alloc (Obj.cells #[Value.int .i64 0, Value.int .i64 0, Value.slice none 0 0] 29)).alloc (Obj.cells #[Value.int .i64 R, Value.int .i64 C, Value.slice none 0 0] 29)).cell? ⟨w.heap.size + 1 + 1, 1, none⟩ = some (Value.int .i64 C) := (Lib.cell_of_heap Xo.out 1).trans rfl
  have fo1 : (((w.alloc (Obj.cells #[Value.int .i64 R, Value.int .i64 C, Value.slice a n cap] 24)).alloc (Obj.cells #[Value.int .i64 0, Value.int .i64 0, Value.slice none 0 0] 29)).alloc (Obj.cells #[Value.int .i64 R, Value.int .i64 C, Value.slice none 0 0] 29)).frozen? ⟨w.heap.size + 1 + 1, 1, none⟩ = false := Lib.frozen_of_heap Xo.out 1
  have ko2 : (((w.alloc (Obj.cells #[Value.int .i64 R, Value.int .i64 C, Value.slice a n cap] 24)).alloc (Obj.cells #[Value.int .i64 0, Value.int .i64 0, Value.slice none 0 0] 29)).alloc (Obj.cells #[Value.int .i64 R, Value.int .i64 C, Value.slice none 0 0] 29)).cell? ⟨w.heap.size + 1 + 1, 2, none⟩ = some (Value.slice none 0 0) := (Lib.cell_of_heap Xo.out 2).trans rfl
  have fo2 : (((w.alloc (Obj.cells #[Value.int .i64 R, Value.int .i64 C, Value.slice a n cap] 24)).alloc (Obj.cells #[Value.int .i64 0, Value.int .i64 0, Value.slice none 0 0] 29)).alloc (Obj.cells #[Value.int .i64 R, Value.int .i64 C, Value.slice none 0 0] 29)).frozen? ⟨w.heap.size + 1 + 1, 2, none⟩ = false := Lib.frozen_of_heap Xo.out 2
  have zo : w.heap.size + 1 + 1 < (((w.alloc (Obj.cells #[Value.int .i64 R, Value.int .i64 C, Value.slice a n cap] 24)).alloc (Obj.cells #[Value.int .i64 0, Value.int .i64 0, Value.slice none 0 0] 29)).alloc (Obj.cells #[Value.int .i64 R, Value.int .i64 C, Value.slice none 0 0] 29)).heap.size := hlt Xo.out
  go_enter Try.func12, Try.ntmps12
  go_wp2_with fail
  generalize (((w.alloc (Obj.cells #[Value.int .i64 R, Value.int .i64 C, Value.slice a n cap] 24)).alloc (Obj.cells #[Value.int .i64 0, Value.int .i64 0, Value.slice none 0 0] 29)).alloc (Obj.cells #[Value.int .i64 R, Value.int .i64 C, Value.slice none 0 0] 29)) = w1 at *
  refine (toBS a n cap X E _ (HS.out.below HB.out) hn ht).mono ?_
  rintro e w2 ⟨g, A, rfl, ho, hb⟩
  have yw2 := hb.size
  clear ka0 fa0 ka1 fa1 ka2 fa2 za
  clear kr0 fr0 kr1 fr1 kr2 fr2 zr
  clear ko0 fo0 ko1 fo1 ko2 fo2 zo
  replace Xa := hide (hbel Xa.out hb (by first | assumption | omega))
  replace Xr := hide (hbel Xr.out hb (by first | assumption | omega))
  replace Xo := hide (hbel Xo.out hb (by first | assumption | omega))
  replace HB := hide (bl_trans HB.out hb)
  clear hb
  have O1 := hide ho
  clear ho
  have ka0 : w2.cell? ⟨w.heap.size, 0, none⟩ = some (Value.int .i64 R) := (Lib.cell_of_heap Xa.out 0).trans rfl
  have fa0 : w2.frozen? ⟨w.heap.size, 0, none⟩ = false := Lib.frozen_of_heap Xa.out 0
  have ka1 : w2.cell? ⟨w.heap.size, 1, none⟩ = some (Value.int .i64 C) := (Lib.cell_of_heap Xa.out 1).trans rfl
  have fa1 : w2.frozen? ⟨w.heap.size, 1, none⟩ = false := Lib.frozen_of_heap Xa.out 1
  have ka2 : w2.cell? ⟨w.heap.size, 2, none⟩ = some (Value.slice a n cap) := (Lib.cell_of_heap Xa.out 2).trans rfl
  have fa2 : w2.frozen? ⟨w.heap.size, 2, none⟩ = false := Lib.frozen_of_heap Xa.out 2
  have za : w.heap.size < w2.heap.size := hlt Xa.out
  have kr0 : w2.cell? ⟨w.heap.size + 1, 0, none⟩ = some (Value.int .i64 0) := (Lib.cell_of_heap Xr.out 0).trans rfl
  have fr0 : w2.frozen? ⟨w.heap.size + 1, 0, none⟩ = false := Lib.frozen_of_heap Xr.out 0
  have kr1 : w2.cell? ⟨w.heap.size + 1, 1, none⟩ = some (Value.int .i64 0) := (Lib.cell_of_heap Xr.out 1).trans rfl
  have fr1 : w2.frozen? ⟨w.heap.size + 1, 1, none⟩ = false := Lib.frozen_of_heap Xr.out 1
  have kr2 : w2.cell? ⟨w.heap.size + 1, 2, none⟩ = some (Value.slice none 0 0) := (Lib.cell_of_heap Xr.out 2).trans rfl
  have fr2 : w2.frozen? ⟨w.heap.size + 1, 2, none⟩ = false := Lib.frozen_of_heap Xr.out 2
  have zr : w.heap.size + 1 < w2.heap.size := hlt Xr.out
  have ko0 : w2.cell? ⟨w.heap.size + 1 + 1, 0, none⟩ = some (Value.int .i64 R) := (Lib.cell_of_heap Xo.out 0).trans rfl
  have fo0 : w2.frozen? ⟨w.heap.size + 1 + 1, 0, none⟩ = false := Lib.frozen_of_heap Xo.out 0
  have ko1 : w2.cell? ⟨w.heap.size + 1 + 1, 1, none⟩ = some (Value.int .i64 C) := (Lib.cell_of_heap Xo.out 1).trans rfl
  have fo1 : w2.frozen? ⟨w.heap.size + 1 + 1, 1, none⟩ = false := Lib.frozen_of_heap Xo.out 1
  have ko2 : w2.cell? ⟨w.heap.size + 1 + 1, 2, none⟩ = some (Value.slice none 0 0) := (Lib.cell_of_heap Xo.out 2).trans rfl
  have fo2 : w2.frozen? ⟨w.heap.size + 1 + 1, 2, none⟩ = false := Lib.frozen_of_heap Xo.out 2
  have zo : w.heap.size + 1 + 1 < w2.heap.size := hlt Xo.out
  go_wp2
  obtain ⟨w3, ew3⟩ : ∃ x, x = (w2.setCell ⟨w.heap.size + 1 + 1, 2, none⟩ (Value.slice (some ⟨g, 0, none⟩) n n)) := ⟨_, rfl⟩
  have hst : St (w.heap.size + 1 + 1) w2 w3 := by rw [ew3]; exact ((St.refl (w.heap.size + 1 + 1) w2).set 2 (Value.slice (some ⟨g, 0, none⟩) n n))
  rw [← ew3]
  have XX : Hid (w3.heap[w.heap.size + 1 + 1]? = some (.cells #[Value.int .i64 R, Value.int .i64 C, Value.slice (some ⟨g, 0, none⟩) n n] 29 (0, 0))) := hide (by rw [ew3]; exact (hset Xo.out 2 (Value.slice (some ⟨g, 0, none⟩) n n)))
  have yw3 : w2.heap.size ≤ w3.heap.size := Nat.le_of_eq hst.size.symm
  clear ew3
  clear ka0 fa0 ka1 fa1 ka2 fa2 za
  clear kr0 fr0 kr1 fr1 kr2 fr2 zr
  clear ko0 fo0 ko1 fo1 ko2 fo2 zo
  replace Xa := hide (hst.heap Xa.out (by omega))
  replace Xr := hide (hst.heap Xr.out (by omega))
  replace O1 := hide (BOwn.st O1.out hst (by omega))
  replace HB := hide (St.below HB.out hst (by omega))
  have Xo := XX
  clear XX hst
  have ka0 : w3.cell? ⟨w.heap.size, 0, none⟩ = some (Value.int .i64 R) := (Lib.cell_of_heap Xa.out 0).trans rfl
  have fa0 : w3.frozen? ⟨w.heap.size, 0, none⟩ = false := Lib.frozen_of_heap Xa.out 0
  have ka1 : w3.cell? ⟨w.heap.size, 1, none⟩ = some (Value.int .i64 C) := (Lib.cell_of_heap Xa.out 1).trans rfl
  have fa1 : w3.frozen? ⟨w.heap.size, 1, none⟩ = false := Lib.frozen_of_heap Xa.out 1
  have ka2 : w3.cell? ⟨w.heap.size, 2, none⟩ = some (Value.slice a n cap) := (Lib.cell_of_heap Xa.out 2).trans rfl
  have fa2 : w3.frozen? ⟨w.heap.size, 2, none⟩ = false := Lib.frozen_of_heap Xa.out 2
  have za : w.heap.size < w3.heap.size := hlt Xa.out
  have kr0 : w3.cell? ⟨w.heap.size + 1, 0, none⟩ = some (Value.int .i64 0) := (Lib.cell_of_heap Xr.out 0).trans rfl
  have fr0 : w3.frozen? ⟨w.heap.size + 1, 0, none⟩ = false := Lib.frozen_of_heap Xr.out 0
  have kr1 : w3.cell? ⟨w.heap.size + 1, 1, none⟩ = some (Value.int .i64 0) := (Lib.cell_of_heap Xr.out 1).trans rfl
  have fr1 : w3.frozen? ⟨w.heap.size + 1, 1, none⟩ = false := Lib.frozen_of_heap Xr.out 1
  have kr2 : w3.cell? ⟨w.heap.size + 1, 2, none⟩ = some (Value.slice none 0 0) := (Lib.cell_of_heap Xr.out 2).trans rfl
  have fr2 : w3.frozen? ⟨w.heap.size + 1, 2, none⟩ = false := Lib.frozen_of_heap Xr.out 2
  have zr : w.heap.size + 1 < w3.heap.size := hlt Xr.out
  have ko0 : w3.cell? ⟨w.heap.size + 1 + 1, 0, none⟩ = some (Value.int .i64 R) := (Lib.cell_of_heap Xo.out 0).trans rfl
  have fo0 : w3.frozen? ⟨w.heap.size + 1 + 1, 0, none⟩ = false := Lib.frozen_of_heap Xo.out 0
  have ko1 : w3.cell? ⟨w.heap.size + 1 + 1, 1, none⟩ = some (Value.int .i64 C) := (Lib.cell_of_heap Xo.out 1).trans rfl
  have fo1 : w3.frozen? ⟨w.heap.size + 1 + 1, 1, none⟩ = false := Lib.frozen_of_heap Xo.out 1
  have ko2 : w3.cell? ⟨w.heap.size + 1 + 1, 2, none⟩ = some (Value.slice (some ⟨g, 0, none⟩) n n) := (Lib.cell_of_heap Xo.out 2).trans rfl
  have fo2 : w3.frozen? ⟨w.heap.size + 1 + 1, 2, none⟩ = false := Lib.frozen_of_heap Xo.out 2
  have zo : w.heap.size + 1 + 1 < w3.heap.size := hlt Xo.out
  obtain ⟨w4, ew4⟩ : ∃ x, x = (((w3.setCell ⟨w.heap.size + 1, 0, none⟩ (Value.int .i64 R)).setCell ⟨w.heap.size + 1, 1, none⟩ (Value.int .i64 C)).setCell ⟨w.heap.size + 1, 2, none⟩ (Value.slice (some ⟨g, 0, none⟩) n n)) := ⟨_, rfl⟩
  have hst : St (w.heap.size + 1) w3 w4 := by rw [ew4]; exact ((((St.refl (w.heap.size + 1) w3).set 0 (Value.int .i64 R)).set 1 (Value.int .i64 C)).set 2 (Value.slice (some ⟨g, 0, none⟩) n n))
  rw [← ew4]
  have XX : Hid (w4.heap[w.heap.size + 1]? = some (.cells #[Value.int .i64 R, Value.int .i64 C, Value.slice (some ⟨g, 0, none⟩) n n] 29 (0, 0))) := hide (by rw [ew4]; exact (hset (hset (hset Xr.out 0 (Value.int .i64 R)) 1 (Value.int .i64 C)) 2 (Value.slice (some ⟨g, 0, none⟩) n n)))
  have yw4 : w3.heap.size ≤ w4.heap.size := Nat.le_of_eq hst.size.symm
  clear ew4
  clear ka0 fa0 ka1 fa1 ka2 fa2 za
  clear kr0 fr0 kr1 fr1 kr2 fr2 zr
  clear ko0 fo0 ko1 fo1 ko2 fo2 zo
  replace Xa := hide (hst.heap Xa.out (by omega))
  replace Xo := hide (hst.heap Xo.out (by omega))
  replace O1 := hide (BOwn.st O1.out hst (by omega))
  replace HB := hide (St.below HB.out hst (by omega))
  have Xr := XX
  clear XX hst
  have ka0 : w4.cell? ⟨w.heap.size, 0, none⟩ = some (Value.int .i64 R) := (Lib.cell_of_heap Xa.out 0).trans rfl
  have fa0 : w4.frozen? ⟨w.heap.size, 0, none⟩ = false := Lib.frozen_of_heap Xa.out 0
  have ka1 : w4.cell? ⟨w.heap.size, 1, none⟩ = some (Value.int .i64 C) := (Lib.cell_of_heap Xa.out 1).trans rfl
  have fa1 : w4.frozen? ⟨w.heap.size, 1, none⟩ = false := Lib.frozen_of_heap Xa.out 1
  have ka2 : w4.cell? ⟨w.heap.size, 2, none⟩ = some (Value.slice a n cap) := (Lib.cell_of_heap Xa.out 2).trans rfl
  have fa2 : w4.frozen? ⟨w.heap.size, 2, none⟩ = false := Lib.frozen_of_heap Xa.out 2
  have za : w.heap.size < w4.heap.size := hlt Xa.out
  have kr0 : w4.cell? ⟨w.heap.size + 1, 0, none⟩ = some (Value.int .i64 R) := (Lib.cell_of_heap Xr.out 0).trans rfl
  have fr0 : w4.frozen? ⟨w.heap.size + 1, 0, none⟩ = false := Lib.frozen_of_heap Xr.out 0
  have kr1 : w4.cell? ⟨w.heap.size + 1, 1, none⟩ = some (Value.int .i64 C) := (Lib.cell_of_heap Xr.out 1).trans rfl
  have fr1 : w4.frozen? ⟨w.heap.size + 1, 1, none⟩ = false := Lib.frozen_of_heap Xr.out 1
  have kr2 : w4.cell? ⟨w.heap.size + 1, 2, none⟩ = some (Value.slice (some ⟨g, 0, none⟩) n n) := (Lib.cell_of_heap Xr.out 2).trans rfl
  have fr2 : w4.frozen? ⟨w.heap.size + 1, 2, none⟩ = false := Lib.frozen_of_heap Xr.out 2
  have zr : w.heap.size + 1 < w4.heap.size := hlt Xr.out
  have ko0 : w4.cell? ⟨w.heap.size + 1 + 1, 0, none⟩ = some (Value.int .i64 R) := (Lib.cell_of_heap Xo.out 0).trans rfl
  have fo0 : w4.frozen? ⟨w.heap.size + 1 + 1, 0, none⟩ = false := Lib.frozen_of_heap Xo.out 0
  have ko1 : w4.cell? ⟨w.heap.size + 1 + 1, 1, none⟩ = some (Value.int .i64 C) := (Lib.cell_of_heap Xo.out 1).trans rfl
  have fo1 : w4.frozen? ⟨w.heap.size + 1 + 1, 1, none⟩ = false := Lib.frozen_of_heap Xo.out 1
  have ko2 : w4.cell? ⟨w.heap.size + 1 + 1, 2, none⟩ = some (Value.slice (some ⟨g, 0, none⟩) n n) := (Lib.cell_of_heap Xo.out 2).trans rfl
  have fo2 : w4.frozen? ⟨w.heap.size + 1 + 1, 2, none⟩ = false := Lib.frozen_of_heap Xo.out 2
  have zo : w.heap.size + 1 + 1 < w4.heap.size := hlt Xo.out
  refine bodyPost_ret (v := Value.agg #[Value.int .i64 R, Value.int .i64 C, Value.slice (some ⟨g, 0, none⟩) n n]) (by simp [results, Try.results12, go_sem, kr0, kr1, kr2]) rfl ?_
  exact ⟨g, A, rfl, O1.out.mono (by omega), HB.out⟩

set_option maxHeartbeats 4000000 in
set_option maxRecDepth 20000 in
theorem eqM (R C : Int) (a b : Option Addr) (n cap cb : Nat) (X Y : Nat → Prop) (E : Nat → Bool × List Nat) (w : World) (h1 : BSeg w X a n cap E) (h2 : BSeg w Y b n cb E) :
    Calls Try.prog 14 #[Value.agg #[Value.int .i64 R, Value.int .i64 C, Value.slice a n cap], Value.agg #[Value.int .i64 R, Value.int .i64 C, Value.slice b n cb]] w fun e w' => e = .returned (.bool true) ∧ Below w.heap.size w w' := by
  have H1 := hide h1
  have H2 := hide h2
  clear h1 h2
  have Xa : Hid (((w.alloc (Obj.cells #[Value.int .i64 R, Value.int .i64 C, Value.slice a n cap] 29)).alloc (Obj.cells #[Value.int .i64 R, Value.int .i64 C, Value.slice b n cb] 29)).heap[w.heap.size]? = some (.cells #[Value.int .i64 R, Value.int .i64 C, Value.slice a n cap] 29 (0, 0))) := hide (by simpa only [World.size_alloc] using (hnewer (hnew w (Obj.cells #[Value.int .i64 R, Value.int .i64 C, Value.slice a n cap] 29)) (Obj.cells #[Value.int .i64 R, Value.int .i64 C, Value.slice b n cb] 29)))
  have Xb : Hid (((w.alloc (Obj.cells #[Value.int .i64 R, Value.int .i64 C, Value.slice a n cap] 29)).alloc (Obj.cells #[Value.int .i64 R, Value.int .i64 C, Value.slice b n cb] 29)).heap[w.heap.size + 1]? = some (.cells #[Value.int .i64 R, Value.int .i64 C, Value.slice b n cb] 29 (0, 0))) := hide (by simpa only [World.size_alloc] using (hnew (w.alloc (Obj.cells #[Value.int .i64 R, Value.int .i64 C, Value.slice a n cap] 29)) (Obj.cells #[Value.int .i64 R, Value.int .i64 C, Value.slice b n cb] 29)))
  have HB : Hid (Below w.heap.size w ((w.alloc (Obj.cells #[Value.int .i64 R, Value.int .i64 C, Value.slice a n cap] 29)).alloc (Obj.cells #[Value.int .i64 R, Value.int .i64 C, Value.slice b n cb] 29))) := hide (bl_alloc (bl_alloc (bl_refl w) (Obj.cells #[Value.int .i64 R, Value.int .i64 C, Value.slice a n cap] 29)) (Obj.cells #[Value.int .i64 R, Value.int .i64 C, Value.slice b n cb] 29))
  have yw1 : w.heap.size + 2 ≤ ((w.alloc (Obj.cells #[Value.int .i64 R, Value.int .i64 C, Value.slice a n cap] 29)).alloc (Obj.cells #[Value.int .i64 R, Value.int .i64 C, Value.slice b n cb] 29)).heap.size := by simp only [World.size_alloc]; omega
  have ka0 : ((w.alloc (Obj.cells #[Value.int .i64 R, Value.int .i64 C, Value.slice a n cap] 29)).alloc (Obj.cells #[Value.int .i64 R, Value.int .i64 C, Value.slice b n cb] 29)).cell? ⟨w.heap.size, 0, none⟩ = some (Value.int .i64 R) := (Lib.cell_of_heap Xa.out 0).trans rfl
  have fa0 : ((w.alloc (Obj.cells #[Value.int .i64 R, Value.int .i64 C, Value.slice a n cap] 29)).alloc (Obj.cells #[Value.int .i64 R, Value.int .i64 C, Value.slice b n cb] 29)).frozen? ⟨w.heap.size, 0, none⟩ = false := Lib.frozen_of_heap Xa.out 0
  have ka1 : ((w.alloc (Obj.cells #[Value.int .i64 R, Value.int .i64 C, Value.slice a n cap] 29)).alloc (Obj.cells #[Value.int .i64 R, Value.int .i64 C, Value.slice b n cb] 29)).cell? ⟨w.heap.size, 1, none⟩ = some (Value.int .i64 C) := (Lib.cell_of_heap Xa.out 1).trans rfl
  have fa1 : ((w.alloc (Obj.cells #[Value.int .i64 R, Value.int .i64 C, Value.slice a n cap] 29)).alloc (Obj.cells #[Value.int .i64 R, Value.int .i64 C, Value.slice b n cb] 29)).frozen? ⟨w.heap.size, 1, none⟩ = false := Lib.frozen_of_heap Xa.out 1
  have ka2 : ((w.alloc (Obj.cells #[Value.int .i64 R, Value.int .i64 C, Value.slice a n cap] 29)).alloc (Obj.cells #[Value.int .i64 R, Value.int .i64 C, Value.slice b n cb] 29)).cell? ⟨w.heap.size, 2, none⟩ = some (Value.slice a n cap) := (Lib.cell_of_heap Xa.out 2).trans rfl
  have fa2 : ((w.alloc (Obj.cells #[Value.int .i64 R, Value.int .i64 C, Value.slice a n cap] 29)).alloc (Obj.cells #[Value.int .i64 R, Value.int .i64 C, Value.slice b n cb] 29)).frozen? ⟨w.heap.size, 2, none⟩ = false := Lib.frozen_of_heap Xa.out 2
  have za : w.heap.size < ((w.alloc (Obj.cells #[Value.int .i64 R, Value.int .i64 C, Value.slice a n cap] 29)).alloc (Obj.cells #[Value.int .i64 R, Value.int .i64 C, Value.slice b n cb] 29)).heap.size := hlt Xa.out
  have kb0 : ((w.alloc (Obj.cells #[Value.int .i64 R, Value.int .i64 C, Value.slice a n cap] 29)).alloc (Obj.cells #[Value.int .i64 R, Value.int .i64 C, Value.slice b n cb] 29)).cell? ⟨w.heap.size + 1, 0, none⟩ = some (Value.int .i64 R) := (Lib.cell_of_heap Xb.out 0).trans rfl
  have fb0 : ((w.alloc (Obj.cells #[Value.int .i64 R, Value.int .i64 C, Value.slice a n cap] 29)).alloc (Obj.cells #[Value.int .i64 R, Value.int .i64 C, Value.slice b n cb] 29)).frozen? ⟨w.heap.size + 1, 0, none⟩ = false := Lib.frozen_of_heap Xb.out 0
  have kb1 : ((w.alloc (Obj.cells #[Value.int .i64 R, Value.int .i64 C, Value.slice a n cap] 29)).alloc (Obj.cells #[Value.int .i64 R, Value.int .i64 C, Value.slice b n cb] 29)).cell? ⟨w.heap.size + 1, 1, none⟩ = some (Value.int .i64 C) := (Lib.cell_of_heap Xb.out 1).trans rfl
  have fb1 : ((w.alloc (Obj.cells #[Value.int .i64 R, Value.int .i64 C, Value.slice a n cap] 29)).alloc (Obj.cells #[Value.int .i64 R, Value.int .i64 C, Value.slice b n cb] 29)).frozen? ⟨w.heap.size + 1, 1, none⟩ = false := Lib.frozen_of_heap Xb.out 1
  have kb2 : ((w.alloc (Obj.cells #[Value.int .i64 R, Value.int .i64 C, Value.slice a n cap] 29)).alloc (Obj.cells #[Value.int .i64 R, Value.int .i64 C, Value.slice b n cb] 29)).cell? ⟨w.heap.size + 1, 2, none⟩ = some (Value.slice b n cb) := (Lib.cell_of_heap Xb.out 2).trans rfl
  have fb2 : ((w.alloc (Obj.cells #[Value.int .i64 R, Value.int .i64 C, Value.slice a n cap] 29)).alloc (Obj.cells #[Value.int .i64 R, Value.int .i64 C, Value.slice b n cb] 29)).frozen? ⟨w.heap.size + 1, 2, none⟩ = false := Lib.frozen_of_heap Xb.out 2
  have zb : w.heap.size + 1 < ((w.alloc (Obj.cells #[Value.int .i64 R, Value.int .i64 C, Value.slice a n cap] 29)).alloc (Obj.cells #[Value.int .i64 R, Value.int .i64 C, Value.slice b n cb] 29)).heap.size := hlt Xb.out
  go_enter Try.func14, Try.ntmps14
  go_wp2_with fail
  generalize ((w.alloc (Obj.cells #[Value.int .i64 R, Value.int .i64 C, Value.slice a n cap] 29)).alloc (Obj.cells #[Value.int .i64 R, Value.int .i64 C, Value.slice b n cb] 29)) = w1 at *
  refine (eqBS a b n cap cb X Y E _ (H1.out.below HB.out) (H2.out.below HB.out)).mono ?_
  rintro e w2 ⟨rfl, hb⟩
  have yw2 := hb.size
  clear ka0 fa0 ka1 fa1 ka2 fa2 za
  clear kb0 fb0 kb1 fb1 kb2 fb2 zb
  replace Xa := hide (hbel Xa.out hb (by first | assumption | omega))
  replace Xb := hide (hbel Xb.out hb (by first | assumption | omega))
  replace HB := hide (bl_trans HB.out hb)
  clear hb
  have ka0 : w2.cell? ⟨w.heap.size, 0, none⟩ = some (Value.int .i64 R) := (Lib.cell_of_heap Xa.out 0).trans rfl
  have fa0 : w2.frozen? ⟨w.heap.size, 0, none⟩ = false := Lib.frozen_of_heap Xa.out 0
  have ka1 : w2.cell? ⟨w.heap.size, 1, none⟩ = some (Value.int .i64 C) := (Lib.cell_of_heap Xa.out 1).trans rfl
  have fa1 : w2.frozen? ⟨w.heap.size, 1, none⟩ = false := Lib.frozen_of_heap Xa.out 1
  have ka2 : w2.cell? ⟨w.heap.size, 2, none⟩ = some (Value.slice a n cap) := (Lib.cell_of_heap Xa.out 2).trans rfl
  have fa2 : w2.frozen? ⟨w.heap.size, 2, none⟩ = false := Lib.frozen_of_heap Xa.out 2
  have za : w.heap.size < w2.heap.size := hlt Xa.out
  have kb0 : w2.cell? ⟨w.heap.size + 1, 0, none⟩ = some (Value.int .i64 R) := (Lib.cell_of_heap Xb.out 0).trans rfl
  have fb0 : w2.frozen? ⟨w.heap.size + 1, 0, none⟩ = false := Lib.frozen_of_heap Xb.out 0
  have kb1 : w2.cell? ⟨w.heap.size + 1, 1, none⟩ = some (Value.int .i64 C) := (Lib.cell_of_heap Xb.out 1).trans rfl
  have fb1 : w2.frozen? ⟨w.heap.size + 1, 1, none⟩ = false := Lib.frozen_of_heap Xb.out 1
  have kb2 : w2.cell? ⟨w.heap.size + 1, 2, none⟩ = some (Value.slice b n cb) := (Lib.cell_of_heap Xb.out 2).trans rfl
  have fb2 : w2.frozen? ⟨w.heap.size + 1, 2, none⟩ = false := Lib.frozen_of_heap Xb.out 2
  have zb : w.heap.size + 1 < w2.heap.size := hlt Xb.out
  go_wp2
  go_ret
  exact ⟨rfl, HB.out⟩

set_option maxHeartbeats 4000000 in
set_option maxRecDepth 20000 in
theorem markM (R C : Int) (g n : Nat) (E : Nat → Bool × List Nat) (A : Nat → Option Addr × Nat) (lo k0 : Nat) (w : World) (h2 : k0 + n + etot E n ≤ 3000000) (hown : BOwn w lo g n E A) :
    Calls Try.prog 21 #[Value.agg #[Value.int .i64 R, Value.int .i64 C, Value.slice (some ⟨g, 0, none⟩) n n], .int .i64 k0] w fun e w' => e = .returned (.int .i64 ((k0 + n + etot E n : Nat) : Int)) ∧ BOwn w' lo g n (mkE k0 E) A ∧ Chg (BOwn.blocks g n A) w w' := by
  have HO := hide hown
  clear hown
  have Xa : Hid ((w.alloc (Obj.cells #[Value.int .i64 R, Value.int .i64 C, Value.slice (some ⟨g, 0, none⟩) n n] 29)).heap[w.heap.size]? = some (.cells #[Value.int .i64 R, Value.int .i64 C, Value.slice (some ⟨g, 0, none⟩) n n] 29 (0, 0))) := hide (by simpa only [World.size_alloc] using (hnew w (Obj.cells #[Value.int .i64 R, Value.int .i64 C, Value.slice (some ⟨g, 0, none⟩) n n] 29)))
  have HB : Hid (Below w.heap.size w (w.alloc (Obj.cells #[Value.int .i64 R, Value.int .i64 C, Value.slice (some ⟨g, 0, none⟩) n n] 29))) := hide (bl_alloc (bl_refl w) (Obj.cells #[Value.int .i64 R, Value.int .i64 C, Value.slice (some ⟨g, 0, none⟩) n n] 29))
  have yw1 : w.heap.size + 1 ≤ (w.alloc (Obj.cells #[Value.int .i64 R, Value.int .i64 C, Value.slice (some ⟨g, 0, none⟩) n n] 29)).heap.size := by simp only [World.size_alloc]; omega
  have ka0 : (w.alloc (Obj.cells #[Value.int .i64 R, Value.int .i64 C, Value.slice (some ⟨g, 0, none⟩) n n] 29)).cell? ⟨w.heap.size, 0, none⟩ = some (Value.int .i64 R) := (Lib.cell_of_heap Xa.out 0).trans rfl
  have fa0 : (w.alloc (Obj.cells #[Value.int .i64 R, Value.int .i64 C, Value.slice (some ⟨g, 0, none⟩) n n] 29)).frozen? ⟨w.heap.size, 0, none⟩ = false := Lib.frozen_of_heap Xa.out 0
  have ka1 : (w.alloc (Obj.cells #[Value.int .i64 R, Value.int .i64 C, Value.slice (some ⟨g, 0, none⟩) n n] 29)).cell? ⟨w.heap.size, 1, none⟩ = some (Value.int .i64 C) := (Lib.cell_of_heap Xa.out 1).trans rfl
  have fa1 : (w.alloc (Obj.cells #[Value.int .i64 R, Value.int .i64 C, Value.slice (some ⟨g, 0, none⟩) n n] 29)).frozen? ⟨w.heap.size, 1, none⟩ = false := Lib.frozen_of_heap Xa.out 1
  have ka2 : (w.alloc (Obj.cells #[Value.int .i64 R, Value.int .i64 C, Value.slice (some ⟨g, 0, none⟩) n n] 29)).cell? ⟨w.heap.size, 2, none⟩ = some (Value.slice (some ⟨g, 0, none⟩) n n) := (Lib.cell_of_heap Xa.out 2).trans rfl
  have fa2 : (w.alloc (Obj.cells #[Value.int .i64 R, Value.int .i64 C, Value.slice (some ⟨g, 0, none⟩) n n] 29)).frozen? ⟨w.heap.size, 2, none⟩ = false := Lib.frozen_of_heap Xa.out 2
  have za : w.heap.size < (w.alloc (Obj.cells #[Value.int .i64 R, Value.int .i64 C, Value.slice (some ⟨g, 0, none⟩) n n] 29)).heap.size := hlt Xa.out
  go_enter Try.func21, Try.ntmps21
  go_wp2_with fail
  generalize (w.alloc (Obj.cells #[Value.int .i64 R, Value.int .i64 C, Value.slice (some ⟨g, 0, none⟩) n n] 29)) = w1 at *
  refine (markBS g n E A lo k0 _ h2 (HO.out.below HB.out)).mono ?_
  rintro e w2 ⟨rfl, ho, hc⟩
  have HO2 := hide ho
  have HC := hide ((Chg.below HB.out).trans hc)
  clear ho hc
  clear ka0 fa0 ka1 fa1 ka2 fa2 za
  obtain ⟨z, hz⟩ : ∃ z, k0 + n + etot E n = z := ⟨_, rfl⟩
  have HZ := hide hz
  rw [hz]
  clear hz
  go_wp2
  go_ret
  exact ⟨ret_int (by rw [HZ.out]), HO2.out, HC.out⟩

set_option maxHeartbeats 4000000 in
set_option maxRecDepth 20000 in
theorem heldM (R C : Int) (a : Option Addr) (n cap : Nat) (X : Nat → Prop) (E : Nat → Bool × List Nat) (k0 : Nat) (w : World) (h2 : k0 + n + etot E n ≤ 3000000) (hs : BSeg w X a n cap (mkE k0 E)) :
    Calls Try.prog 22 #[Value.agg #[Value.int .i64 R, Value.int .i64 C, Value.slice a n cap], .int .i64 k0] w fun e w' => e = .returned (.int .i64 ((k0 + n + etot E n : Nat) : Int)) ∧ Below w.heap.size w w' := by
  have HS := hide hs
  clear hs
  have Xa : Hid ((w.alloc (Obj.cells #[Value.int .i64 R, Value.int .i64 C, Value.slice a n cap] 29)).heap[w.heap.size]? = some (.cells #[Value.int .i64 R, Value.int .i64 C, Value.slice a n cap] 29 (0, 0))) := hide (by simpa only [World.size_alloc] using (hnew w (Obj.cells #[Value.int .i64 R, Value.int .i64 C, Value.slice a n cap] 29)))
  have HB : Hid (Below w.heap.size w (w.alloc (Obj.cells #[Value.int .i64 R, Value.int .i64 C, Value.slice a n cap] 29))) := hide (bl_alloc (bl_refl w) (Obj.cells #[Value.int .i64 R, Value.int .i64 C, Value.slice a n cap] 29))
  have yw1 : w.heap.size + 1 ≤ (w.alloc (Obj.cells #[Value.int .i64 R, Value.int .i64 C, Value.slice a n cap] 29)).heap.size := by simp only [World.size_alloc]; omega
  have ka0 : (w.alloc (Obj.cells #[Value.int .i64 R, Value.int .i64 C, Value.slice a n cap] 29)).cell? ⟨w.heap.size, 0, none⟩ = some (Value.int .i64 R) := (Lib.cell_of_heap Xa.out 0).trans rfl
  have fa0 : (w.alloc (Obj.cells #[Value.int .i64 R, Value.int .i64 C, Value.slice a n cap] 29)).frozen? ⟨w.heap.size, 0, none⟩ = false := Lib.frozen_of_heap Xa.out 0
  have ka1 : (w.alloc (Obj.cells #[Value.int .i64 R, Value.int .i64 C, Value.slice a n cap] 29)).cell? ⟨w.heap.size, 1, none⟩ = some (Value.int .i64 C) := (Lib.cell_of_heap Xa.out 1).trans rfl
  have fa1 : (w.alloc (Obj.cells #[Value.int .i64 R, Value.int .i64 C, Value.slice a n cap] 29)).frozen? ⟨w.heap.size, 1, none⟩ = false := Lib.frozen_of_heap Xa.out 1
  have ka2 : (w.alloc (Obj.cells #[Value.int .i64 R, Value.int .i64 C, Value.slice a n cap] 29)).cell? ⟨w.heap.size, 2, none⟩ = some (Value.slice a n cap) := (Lib.cell_of_heap Xa.out 2).trans rfl
  have fa2 : (w.alloc (Obj.cells #[Value.int .i64 R, Value.int .i64 C, Value.slice a n cap] 29)).frozen? ⟨w.heap.size, 2, none⟩ = false := Lib.frozen_of_heap Xa.out 2
  have za : w.heap.size < (w.alloc (Obj.cells #[Value.int .i64 R, Value.int .i64 C, Value.slice a n cap] 29)).heap.size := hlt Xa.out
  go_enter Try.func22, Try.ntmps22
  go_wp2_with fail
  generalize (w.alloc (Obj.cells #[Value.int .i64 R, Value.int .i64 C, Value.slice a n cap] 29)) = w1 at *
  refine (heldBS a n cap X E k0 _ h2 (HS.out.below HB.out)).mono ?_
  rintro e w2 ⟨rfl, hb⟩
  have yw2 := hb.size
  clear ka0 fa0 ka1 fa1 ka2 fa2 za
  replace Xa := hide (hbel Xa.out hb (by first | assumption | omega))
  replace HB := hide (bl_trans HB.out hb)
  clear hb
  have ka0 : w2.cell? ⟨w.heap.size, 0, none⟩ = some (Value.int .i64 R) := (Lib.cell_of_heap Xa.out 0).trans rfl
  have fa0 : w2.frozen? ⟨w.heap.size, 0, none⟩ = false := Lib.frozen_of_heap Xa.out 0
  have ka1 : w2.cell? ⟨w.heap.size, 1, none⟩ = some (Value.int .i64 C) := (Lib.cell_of_heap Xa.out 1).trans rfl
  have fa1 : w2.frozen? ⟨w.heap.size, 1, none⟩ = false := Lib.frozen_of_heap Xa.out 1
  have ka2 : w2.cell? ⟨w.heap.size, 2, none⟩ = some (Value.slice a n cap) := (Lib.cell_of_heap Xa.out 2).trans rfl
  have fa2 : w2.frozen? ⟨w.heap.size, 2, none⟩ = false := Lib.frozen_of_heap Xa.out 2
  have za : w.heap.size < w2.heap.size := hlt Xa.out
  obtain ⟨z, hz⟩ : ∃ z, k0 + n + etot E n = z := ⟨_, rfl⟩
  have HZ := hide hz
  rw [hz]
  clear hz
  go_wp2
  go_ret
  exact ⟨ret_int (by rw [HZ.out]), HB.out⟩
end Go.Proofs.Yteljkjpcjjiidaa
