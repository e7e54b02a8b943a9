/- Both ExprOk, and the walk of its exact law. -/
import Derived.Test.YtlknhheafmifnaaGreatDoorPk24
import Derived.Test.YtlknhheafmifnaaGreatDoorTrL
import Derived.Deep.RegionHeld3
namespace Go.Proofs.YtlknhheafmifnaaGreatDoor
open Go.RowKit
set_option linter.unusedVariables false
set_option maxRecDepth 20000

set_option maxHeartbeats 8000000 in
set_option maxRecDepth 20000 in
theorem exprOkS (kd : Int) (n : Bool) (xs : List Nat) (m : Bool) (ys : List Nat) (nm : ByteArray) (p q : Int) (ks : List Ex) (X : Nat → Prop) (a1 : Option Addr) (c1 : Nat) (a2 : Option Addr) (c2 : Nat) (a : Option Addr) (c : Nat) (w : World) (s1 : Seg w a1 xs.length c1 xs) (s2 : Seg w a2 ys.length c2 ys) (s3 : KSeg w X a ks.length c ks) (ht : Ex.sz (Ex.mk kd n xs m ys nm p q ks) ≤ 1048576) :
    Calls Tryz.prog 6 #[Value.agg #[Value.int .i64 kd, Value.bool n, Value.slice a1 xs.length c1, Value.bool m, Value.slice a2 ys.length c2, Value.string nm, Value.int .i64 p, Value.int .i64 q, Value.slice a ks.length c]] w fun e' w' => e' = .returned (.bool (Ex.rt (Ex.mk kd n xs m ys nm p q ks) 12 60).isSome) ∧ Below w.heap.size w w' := by
  have S1 := hide s1
  have S2 := hide s2
  have S3 := hide s3
  clear s1 s2 s3
  have Xa : Hid ((w.alloc (Obj.cells #[Value.int .i64 kd, Value.bool n, Value.slice a1 xs.length c1, Value.bool m, Value.slice a2 ys.length c2, Value.string nm, Value.int .i64 p, Value.int .i64 q, Value.slice a ks.length c] 37)).heap[w.heap.size]? = some (.cells #[Value.int .i64 kd, Value.bool n, Value.slice a1 xs.length c1, Value.bool m, Value.slice a2 ys.length c2, Value.string nm, Value.int .i64 p, Value.int .i64 q, Value.slice a ks.length c] 37 (0, 0))) := hide (by simpa only [World.size_alloc] using (hnew w (Obj.cells #[Value.int .i64 kd, Value.bool n, Value.slice a1 xs.length c1, Value.bool m, Value.slice a2 ys.length c2, Value.string nm, Value.int .i64 p, Value.int .i64 q, Value.slice a ks.length c] 37)))
  have HB : Hid (Below w.heap.size w (w.alloc (Obj.cells #[Value.int .i64 kd, Value.bool n, Value.slice a1 xs.length c1, Value.bool m, Value.slice a2 ys.length c2, Value.string nm, Value.int .i64 p, Value.int .i64 q, Value.slice a ks.length c] 37))) := hide (bl_alloc (bl_refl w) (Obj.cells #[Value.int .i64 kd, Value.bool n, Value.slice a1 xs.length c1, Value.bool m, Value.slice a2 ys.length c2, Value.string nm, Value.int .i64 p, Value.int .i64 q, Value.slice a ks.length c] 37))
  have yw1 : w.heap.size + 1 ≤ (w.alloc (Obj.cells #[Value.int .i64 kd, Value.bool n, Value.slice a1 xs.length c1, Value.bool m, Value.slice a2 ys.length c2, Value.string nm, Value.int .i64 p, Value.int .i64 q, Value.slice a ks.length c] 37)).heap.size := by simp only [World.size_alloc]; omega
  have ka0 : (w.alloc (Obj.cells #[Value.int .i64 kd, Value.bool n, Value.slice a1 xs.length c1, Value.bool m, Value.slice a2 ys.length c2, Value.string nm, Value.int .i64 p, Value.int .i64 q, Value.slice a ks.length c] 37)).cell? ⟨w.heap.size, 0, none⟩ = some (Value.int .i64 kd) := (Lib.cell_of_heap Xa.out 0).trans rfl
  have fa0 : (w.alloc (Obj.cells #[Value.int .i64 kd, Value.bool n, Value.slice a1 xs.length c1, Value.bool m, Value.slice a2 ys.length c2, Value.string nm, Value.int .i64 p, Value.int .i64 q, Value.slice a ks.length c] 37)).frozen? ⟨w.heap.size, 0, none⟩ = false := Lib.frozen_of_heap Xa.out 0
  have ka1 : (w.alloc (Obj.cells #[Value.int .i64 kd, Value.bool n, Value.slice a1 xs.length c1, Value.bool m, Value.slice a2 ys.length c2, Value.string nm, Value.int .i64 p, Value.int .i64 q, Value.slice a ks.length c] 37)).cell? ⟨w.heap.size, 1, none⟩ = some (Value.bool n) := (Lib.cell_of_heap Xa.out 1).trans rfl
  have fa1 : (w.alloc (Obj.cells #[Value.int .i64 kd, Value.bool n, Value.slice a1 xs.length c1, Value.bool m, Value.slice a2 ys.length c2, Value.string nm, Value.int .i64 p, Value.int .i64 q, Value.slice a ks.length c] 37)).frozen? ⟨w.heap.size, 1, none⟩ = false := Lib.frozen_of_heap Xa.out 1
  have ka2 : (w.alloc (Obj.cells #[Value.int .i64 kd, Value.bool n, Value.slice a1 xs.length c1, Value.bool m, Value.slice a2 ys.length c2, Value.string nm, Value.int .i64 p, Value.int .i64 q, Value.slice a ks.length c] 37)).cell? ⟨w.heap.size, 2, none⟩ = some (Value.slice a1 xs.length c1) := (Lib.cell_of_heap Xa.out 2).trans rfl
  have fa2 : (w.alloc (Obj.cells #[Value.int .i64 kd, Value.bool n, Value.slice a1 xs.length c1, Value.bool m, Value.slice a2 ys.length c2, Value.string nm, Value.int .i64 p, Value.int .i64 q, Value.slice a ks.length c] 37)).frozen? ⟨w.heap.size, 2, none⟩ = false := Lib.frozen_of_heap Xa.out 2
  have ka3 : (w.alloc (Obj.cells #[Value.int .i64 kd, Value.bool n, Value.slice a1 xs.length c1, Value.bool m, Value.slice a2 ys.length c2, Value.string nm, Value.int .i64 p, Value.int .i64 q, Value.slice a ks.length c] 37)).cell? ⟨w.heap.size, 3, none⟩ = some (Value.bool m) := (Lib.cell_of_heap Xa.out 3).trans rfl
  have fa3 : (w.alloc (Obj.cells #[Value.int .i64 kd, Value.bool n, Value.slice a1 xs.length c1, Value.bool m, Value.slice a2 ys.length c2, Value.string nm, Value.int .i64 p, Value.int .i64 q, Value.slice a ks.length c] 37)).frozen? ⟨w.heap.size, 3, none⟩ = false := Lib.frozen_of_heap Xa.out 3
  have ka4 : (w.alloc (Obj.cells #[Value.int .i64 kd, Value.bool n, Value.slice a1 xs.length c1, Value.bool m, Value.slice a2 ys.length c2, Value.string nm, Value.int .i64 p, Value.int .i64 q, Value.slice a ks.length c] 37)).cell? ⟨w.heap.size, 4, none⟩ = some (Value.slice a2 ys.length c2) := (Lib.cell_of_heap Xa.out 4).trans rfl
  have fa4 : (w.alloc (Obj.cells #[Value.int .i64 kd, Value.bool n, Value.slice a1 xs.length c1, Value.bool m, Value.slice a2 ys.length c2, Value.string nm, Value.int .i64 p, Value.int .i64 q, Value.slice a ks.length c] 37)).frozen? ⟨w.heap.size, 4, none⟩ = false := Lib.frozen_of_heap Xa.out 4
  have ka5 : (w.alloc (Obj.cells #[Value.int .i64 kd, Value.bool n, Value.slice a1 xs.length c1, Value.bool m, Value.slice a2 ys.length c2, Value.string nm, Value.int .i64 p, Value.int .i64 q, Value.slice a ks.length c] 37)).cell? ⟨w.heap.size, 5, none⟩ = some (Value.string nm) := (Lib.cell_of_heap Xa.out 5).trans rfl
  have fa5 : (w.alloc (Obj.cells #[Value.int .i64 kd, Value.bool n, Value.slice a1 xs.length c1, Value.bool m, Value.slice a2 ys.length c2, Value.string nm, Value.int .i64 p, Value.int .i64 q, Value.slice a ks.length c] 37)).frozen? ⟨w.heap.size, 5, none⟩ = false := Lib.frozen_of_heap Xa.out 5
  have ka6 : (w.alloc (Obj.cells #[Value.int .i64 kd, Value.bool n, Value.slice a1 xs.length c1, Value.bool m, Value.slice a2 ys.length c2, Value.string nm, Value.int .i64 p, Value.int .i64 q, Value.slice a ks.length c] 37)).cell? ⟨w.heap.size, 6, none⟩ = some (Value.int .i64 p) := (Lib.cell_of_heap Xa.out 6).trans rfl
  have fa6 : (w.alloc (Obj.cells #[Value.int .i64 kd, Value.bool n, Value.slice a1 xs.length c1, Value.bool m, Value.slice a2 ys.length c2, Value.string nm, Value.int .i64 p, Value.int .i64 q, Value.slice a ks.length c] 37)).frozen? ⟨w.heap.size, 6, none⟩ = false := Lib.frozen_of_heap Xa.out 6
  have ka7 : (w.alloc (Obj.cells #[Value.int .i64 kd, Value.bool n, Value.slice a1 xs.length c1, Value.bool m, Value.slice a2 ys.length c2, Value.string nm, Value.int .i64 p, Value.int .i64 q, Value.slice a ks.length c] 37)).cell? ⟨w.heap.size, 7, none⟩ = some (Value.int .i64 q) := (Lib.cell_of_heap Xa.out 7).trans rfl
  have fa7 : (w.alloc (Obj.cells #[Value.int .i64 kd, Value.bool n, Value.slice a1 xs.length c1, Value.bool m, Value.slice a2 ys.length c2, Value.string nm, Value.int .i64 p, Value.int .i64 q, Value.slice a ks.length c] 37)).frozen? ⟨w.heap.size, 7, none⟩ = false := Lib.frozen_of_heap Xa.out 7
  have ka8 : (w.alloc (Obj.cells #[Value.int .i64 kd, Value.bool n, Value.slice a1 xs.length c1, Value.bool m, Value.slice a2 ys.length c2, Value.string nm, Value.int .i64 p, Value.int .i64 q, Value.slice a ks.length c] 37)).cell? ⟨w.heap.size, 8, none⟩ = some (Value.slice a ks.length c) := (Lib.cell_of_heap Xa.out 8).trans rfl
  have fa8 : (w.alloc (Obj.cells #[Value.int .i64 kd, Value.bool n, Value.slice a1 xs.length c1, Value.bool m, Value.slice a2 ys.length c2, Value.string nm, Value.int .i64 p, Value.int .i64 q, Value.slice a ks.length c] 37)).frozen? ⟨w.heap.size, 8, none⟩ = false := Lib.frozen_of_heap Xa.out 8
  have za : w.heap.size < (w.alloc (Obj.cells #[Value.int .i64 kd, Value.bool n, Value.slice a1 xs.length c1, Value.bool m, Value.slice a2 ys.length c2, Value.string nm, Value.int .i64 p, Value.int .i64 q, Value.slice a ks.length c] 37)).heap.size := hlt Xa.out
  go_enter Tryz.func6, Tryz.ntmps6
  go_wp2_with fail
  generalize (w.alloc (Obj.cells #[Value.int .i64 kd, Value.bool n, Value.slice a1 xs.length c1, Value.bool m, Value.slice a2 ys.length c2, Value.string nm, Value.int .i64 p, Value.int .i64 q, Value.slice a ks.length c] 37)) = w1 at *
  refine (rtS _ (Ex.mk kd n xs m ys nm p q ks) (Nat.le_refl _) kd n xs m ys nm p q ks rfl X a1 c1 a2 c2 a c 12 60 _ (S1.out.below HB.out) (S2.out.below HB.out) (S3.out.below HB.out) ht (by omega) (by omega) (by omega) (by omega)).mono ?_
  rintro e2 w2 ⟨hans, hb2⟩
  unfold RtAns at hans
  subst hans
  have HB2 := hide (bl_trans HB.out hb2)
  clear hb2
  obtain ⟨O, hO⟩ : ∃ O, Ex.rt (Ex.mk kd n xs m ys nm p q ks) 12 60 = O := ⟨_, rfl⟩
  rw [hO]
  have HO := hide hO
  clear hO
  go_wp2
  go_ret
  exact ⟨ret_bool (by rw [HO.out]), HB2.out⟩

set_option maxHeartbeats 8000000 in
set_option maxRecDepth 20000 in
theorem exprOkI (kd : Int) (n : Bool) (xs : List Nat) (m : Bool) (ys : List Nat) (nm : ByteArray) (p q : Int) (ks : List Ex) (X : Nat → Prop) (a1 : Option Addr) (c1 : Nat) (a2 : Option Addr) (c2 : Nat) (a : Option Addr) (c : Nat) (w : World) (s1 : Seg w a1 xs.length c1 xs) (s2 : Seg w a2 ys.length c2 ys) (s3 : KSeg w X a ks.length c ks) (ht : Ex.sz (Ex.mk kd n xs m ys nm p q ks) ≤ 1048576) (htab : Tabs w) :
    Calls Tryz.prog 8 #[Value.agg #[Value.int .i64 kd, Value.bool n, Value.slice a1 xs.length c1, Value.bool m, Value.slice a2 ys.length c2, Value.string nm, Value.int .i64 p, Value.int .i64 q, Value.slice a ks.length c]] w fun e' w' => e' = .returned (.bool (Ex.rt (Ex.mk kd n xs m ys nm p q ks) 12 60).isSome) ∧ Below w.heap.size w w' := by
  have S1 := hide s1
  have S2 := hide s2
  have S3 := hide s3
  clear s1 s2 s3
  have HT := hide htab
  clear htab
  have Xa : Hid (((w.alloc (Obj.cells #[Value.int .i64 kd, Value.bool n, Value.slice a1 xs.length c1, Value.bool m, Value.slice a2 ys.length c2, Value.string nm, Value.int .i64 p, Value.int .i64 q, Value.slice a ks.length c] 37)).alloc (Obj.cells #[Value.int .i64 60] 3)).heap[w.heap.size]? = some (.cells #[Value.int .i64 kd, Value.bool n, Value.slice a1 xs.length c1, Value.bool m, Value.slice a2 ys.length c2, Value.string nm, Value.int .i64 p, Value.int .i64 q, Value.slice a ks.length c] 37 (0, 0))) := hide (by simpa only [World.size_alloc] using (hnewer (hnew w (Obj.cells #[Value.int .i64 kd, Value.bool n, Value.slice a1 xs.length c1, Value.bool m, Value.slice a2 ys.length c2, Value.string nm, Value.int .i64 p, Value.int .i64 q, Value.slice a ks.length c] 37)) (Obj.cells #[Value.int .i64 60] 3)))
  have Xr : Hid (((w.alloc (Obj.cells #[Value.int .i64 kd, Value.bool n, Value.slice a1 xs.length c1, Value.bool m, Value.slice a2 ys.length c2, Value.string nm, Value.int .i64 p, Value.int .i64 q, Value.slice a ks.length c] 37)).alloc (Obj.cells #[Value.int .i64 60] 3)).heap[w.heap.size + 1]? = some (.cells #[Value.int .i64 60] 3 (0, 0))) := hide (by simpa only [World.size_alloc] using (hnew (w.alloc (Obj.cells #[Value.int .i64 kd, Value.bool n, Value.slice a1 xs.length c1, Value.bool m, Value.slice a2 ys.length c2, Value.string nm, Value.int .i64 p, Value.int .i64 q, Value.slice a ks.length c] 37)) (Obj.cells #[Value.int .i64 60] 3)))
  have HB : Hid (Below w.heap.size w ((w.alloc (Obj.cells #[Value.int .i64 kd, Value.bool n, Value.slice a1 xs.length c1, Value.bool m, Value.slice a2 ys.length c2, Value.string nm, Value.int .i64 p, Value.int .i64 q, Value.slice a ks.length c] 37)).alloc (Obj.cells #[Value.int .i64 60] 3))) := hide (bl_alloc (bl_alloc (bl_refl w) (Obj.cells #[Value.int .i64 kd, Value.bool n, Value.slice a1 xs.length c1, Value.bool m, Value.slice a2 ys.length c2, Value.string nm, Value.int .i64 p, Value.int .i64 q, Value.slice a ks.length c] 37)) (Obj.cells #[Value.int .i64 60] 3))
  have yw1 : w.heap.size + 2 ≤ ((w.alloc (Obj.cells #[Value.int .i64 kd, Value.bool n, Value.slice a1 xs.length c1, Value.bool m, Value.slice a2 ys.length c2, Value.string nm, Value.int .i64 p, Value.int .i64 q, Value.slice a ks.length c] 37)).alloc (Obj.cells #[Value.int .i64 60] 3)).heap.size := by simp only [World.size_alloc]; omega
  have ka0 : ((w.alloc (Obj.cells #[Value.int .i64 kd, Value.bool n, Value.slice a1 xs.length c1, Value.bool m, Value.slice a2 ys.length c2, Value.string nm, Value.int .i64 p, Value.int .i64 q, Value.slice a ks.length c] 37)).alloc (Obj.cells #[Value.int .i64 60] 3)).cell? ⟨w.heap.size, 0, none⟩ = some (Value.int .i64 kd) := (Lib.cell_of_heap Xa.out 0).trans rfl
  have fa0 : ((w.alloc (Obj.cells #[Value.int .i64 kd, Value.bool n, Value.slice a1 xs.length c1, Value.bool m, Value.slice a2 ys.length c2, Value.string nm, Value.int .i64 p, Value.int .i64 q, Value.slice a ks.length c] 37)).alloc (Obj.cells #[Value.int .i64 60] 3)).frozen? ⟨w.heap.size, 0, none⟩ = false := Lib.frozen_of_heap Xa.out 0
  have ka1 : ((w.alloc (Obj.cells #[Value.int .i64 kd, Value.bool n, Value.slice a1 xs.length c1, Value.bool m, Value.slice a2 ys.length c2, Value.string nm, Value.int .i64 p, Value.int .i64 q, Value.slice a ks.length c] 37)).alloc (Obj.cells #[Value.int .i64 60] 3)).cell? ⟨w.heap.size, 1, none⟩ = some (Value.bool n) := (Lib.cell_of_heap Xa.out 1).trans rfl
  have fa1 : ((w.alloc (Obj.cells #[Value.int .i64 kd, Value.bool n, Value.slice a1 xs.length c1, Value.bool m, Value.slice a2 ys.length c2, Value.string nm, Value.int .i64 p, Value.int .i64 q, Value.slice a ks.length c] 37)).alloc (Obj.cells #[Value.int .i64 60] 3)).frozen? ⟨w.heap.size, 1, none⟩ = false := Lib.frozen_of_heap Xa.out 1
  have ka2 : ((w.alloc (Obj.cells #[Value.int .i64 kd, Value.bool n, Value.slice a1 xs.length c1, Value.bool m, Value.slice a2 ys.length c2, Value.string nm, Value.int .i64 p, Value.int .i64 q, Value.slice a ks.length c] 37)).alloc (Obj.cells #[Value.int .i64 60] 3)).cell? ⟨w.heap.size, 2, none⟩ = some (Value.slice a1 xs.length c1) := (Lib.cell_of_heap Xa.out 2).trans rfl
  have fa2 : ((w.alloc (Obj.cells #[Value.int .i64 kd, Value.bool n, Value.slice a1 xs.length c1, Value.bool m, Value.slice a2 ys.length c2, Value.string nm, Value.int .i64 p, Value.int .i64 q, Value.slice a ks.length c] 37)).alloc (Obj.cells #[Value.int .i64 60] 3)).frozen? ⟨w.heap.size, 2, none⟩ = false := Lib.frozen_of_heap Xa.out 2
  have ka3 : ((w.alloc (Obj.cells #[Value.int .i64 kd, Value.bool n, Value.slice a1 xs.length c1, Value.bool m, Value.slice a2 ys.length c2, Value.string nm, Value.int .i64 p, Value.int .i64 q, Value.slice a ks.length c] 37)).alloc (Obj.cells #[Value.int .i64 60] 3)).cell? ⟨w.heap.size, 3, none⟩ = some (Value.bool m) := (Lib.cell_of_heap Xa.out 3).trans rfl
  have fa3 : ((w.alloc (Obj.cells #[Value.int .i64 kd, Value.bool n, Value.slice a1 xs.length c1, Value.bool m, Value.slice a2 ys.length c2, Value.string nm, Value.int .i64 p, Value.int .i64 q, Value.slice a ks.length c] 37)).alloc (Obj.cells #[Value.int .i64 60] 3)).frozen? ⟨w.heap.size, 3, none⟩ = false := Lib.frozen_of_heap Xa.out 3
  have ka4 : ((w.alloc (Obj.cells #[Value.int .i64 kd, Value.bool n, Value.slice a1 xs.length c1, Value.bool m, Value.slice a2 ys.length c2, Value.string nm, Value.int .i64 p, Value.int .i64 q, Value.slice a ks.length c] 37)).alloc (Obj.cells #[Value.int .i64 60] 3)).cell? ⟨w.heap.size, 4, none⟩ = some (Value.slice a2 ys.length c2) := (Lib.cell_of_heap Xa.out 4).trans rfl
  have fa4 : ((w.alloc (Obj.cells #[Value.int .i64 kd, Value.bool n, Value.slice a1 xs.length c1, Value.bool m, Value.slice a2 ys.length c2, Value.string nm, Value.int .i64 p, Value.int .i64 q, Value.slice a ks.length c] 37)).alloc (Obj.cells #[Value.int .i64 60] 3)).frozen? ⟨w.heap.size, 4, none⟩ = false := Lib.frozen_of_heap Xa.out 4
  have ka5 : ((w.alloc (Obj.cells #[Value.int .i64 kd, Value.bool n, Value.slice a1 xs.length c1, Value.bool m, Value.slice a2 ys.length c2, Value.string nm, Value.int .i64 p, Value.int .i64 q, Value.slice a ks.length c] 37)).alloc (Obj.cells #[Value.int .i64 60] 3)).cell? ⟨w.heap.size, 5, none⟩ = some (Value.string nm) := (Lib.cell_of_heap Xa.out 5).trans rfl
  have fa5 : ((w.alloc (Obj.cells #[Value.int .i64 kd, Value.bool n, Value.slice a1 xs.length c1, Value.bool m, Value.slice a2 ys.length c2, Value.string nm, Value.int .i64 p, Value.int .i64 q, Value.slice a ks.length c] 37)).alloc (Obj.cells #[Value.int .i64 60] 3)).frozen? ⟨w.heap.size, 5, none⟩ = false := Lib.frozen_of_heap Xa.out 5
  have ka6 : ((w.alloc (Obj.cells #[Value.int .i64 kd, Value.bool n, Value.slice a1 xs.length c1, Value.bool m, Value.slice a2 ys.length c2, Value.string nm, Value.int .i64 p, Value.int .i64 q, Value.slice a ks.length c] 37)).alloc (Obj.cells #[Value.int .i64 60] 3)).cell? ⟨w.heap.size, 6, none⟩ = some (Value.int .i64 p) := (Lib.cell_of_heap Xa.out 6).trans rfl
  have fa6 : ((w.alloc (Obj.cells #[Value.int .i64 kd, Value.bool n, Value.slice a1 xs.length c1, Value.bool m, Value.slice a2 ys.length c2, Value.string nm, Value.int .i64 p, Value.int .i64 q, Value.slice a ks.length c] 37)).alloc (Obj.cells #[Value.int .i64 60] 3)).frozen? ⟨w.heap.size, 6, none⟩ = false := Lib.frozen_of_heap Xa.out 6
  have ka7 : ((w.alloc (Obj.cells #[Value.int .i64 kd, Value.bool n, Value.slice a1 xs.length c1, Value.bool m, Value.slice a2 ys.length c2, Value.string nm, Value.int .i64 p, Value.int .i64 q, Value.slice a ks.length c] 37)).alloc (Obj.cells #[Value.int .i64 60] 3)).cell? ⟨w.heap.size, 7, none⟩ = some (Value.int .i64 q) := (Lib.cell_of_heap Xa.out 7).trans rfl
  have fa7 : ((w.alloc (Obj.cells #[Value.int .i64 kd, Value.bool n, Value.slice a1 xs.length c1, Value.bool m, Value.slice a2 ys.length c2, Value.string nm, Value.int .i64 p, Value.int .i64 q, Value.slice a ks.length c] 37)).alloc (Obj.cells #[Value.int .i64 60] 3)).frozen? ⟨w.heap.size, 7, none⟩ = false := Lib.frozen_of_heap Xa.out 7
  have ka8 : ((w.alloc (Obj.cells #[Value.int .i64 kd, Value.bool n, Value.slice a1 xs.length c1, Value.bool m, Value.slice a2 ys.length c2, Value.string nm, Value.int .i64 p, Value.int .i64 q, Value.slice a ks.length c] 37)).alloc (Obj.cells #[Value.int .i64 60] 3)).cell? ⟨w.heap.size, 8, none⟩ = some (Value.slice a ks.length c) := (Lib.cell_of_heap Xa.out 8).trans rfl
  have fa8 : ((w.alloc (Obj.cells #[Value.int .i64 kd, Value.bool n, Value.slice a1 xs.length c1, Value.bool m, Value.slice a2 ys.length c2, Value.string nm, Value.int .i64 p, Value.int .i64 q, Value.slice a ks.length c] 37)).alloc (Obj.cells #[Value.int .i64 60] 3)).frozen? ⟨w.heap.size, 8, none⟩ = false := Lib.frozen_of_heap Xa.out 8
  have za : w.heap.size < ((w.alloc (Obj.cells #[Value.int .i64 kd, Value.bool n, Value.slice a1 xs.length c1, Value.bool m, Value.slice a2 ys.length c2, Value.string nm, Value.int .i64 p, Value.int .i64 q, Value.slice a ks.length c] 37)).alloc (Obj.cells #[Value.int .i64 60] 3)).heap.size := hlt Xa.out
  have kr0 : ((w.alloc (Obj.cells #[Value.int .i64 kd, Value.bool n, Value.slice a1 xs.length c1, Value.bool m, Value.slice a2 ys.length c2, Value.string nm, Value.int .i64 p, Value.int .i64 q, Value.slice a ks.length c] 37)).alloc (Obj.cells #[Value.int .i64 60] 3)).cell? ⟨w.heap.size + 1, 0, none⟩ = some (Value.int .i64 60) := (Lib.cell_of_heap Xr.out 0).trans rfl
  have fr0 : ((w.alloc (Obj.cells #[Value.int .i64 kd, Value.bool n, Value.slice a1 xs.length c1, Value.bool m, Value.slice a2 ys.length c2, Value.string nm, Value.int .i64 p, Value.int .i64 q, Value.slice a ks.length c] 37)).alloc (Obj.cells #[Value.int .i64 60] 3)).frozen? ⟨w.heap.size + 1, 0, none⟩ = false := Lib.frozen_of_heap Xr.out 0
  have zr : w.heap.size + 1 < ((w.alloc (Obj.cells #[Value.int .i64 kd, Value.bool n, Value.slice a1 xs.length c1, Value.bool m, Value.slice a2 ys.length c2, Value.string nm, Value.int .i64 p, Value.int .i64 q, Value.slice a ks.length c] 37)).alloc (Obj.cells #[Value.int .i64 60] 3)).heap.size := hlt Xr.out
  go_enter Tryz.func8, Tryz.ntmps8
  go_wp2_with fail
  generalize ((w.alloc (Obj.cells #[Value.int .i64 kd, Value.bool n, Value.slice a1 xs.length c1, Value.bool m, Value.slice a2 ys.length c2, Value.string nm, Value.int .i64 p, Value.int .i64 q, Value.slice a ks.length c] 37)).alloc (Obj.cells #[Value.int .i64 60] 3)) = w1 at *
  refine (alI _ (Ex.mk kd n xs m ys nm p q ks) (Nat.le_refl _) kd n xs m ys nm p q ks rfl X a1 c1 a2 c2 a c 0 60 (w.heap.size + 1) w _ HT.out S1.out S2.out S3.out ht (by omega) (by omega) (by omega) (by omega) (by omega) HB.out Xr.out).mono ?_
  rintro e2 w2 ⟨hans, hb2⟩
  have HB2 := hide hb2
  clear hb2
  rw [show (12 : Int) - 0 = 12 by omega] at hans
  cases hrt : Ex.rt (Ex.mk kd n xs m ys nm p q ks) 12 60 with
  | none =>
    have HN := hide hrt
    rw [hrt] at hans
    have h2 : e2 = .returned (.bool false) := hans
    subst h2
    clear hrt hans
    go_wp2
    go_ret
    exact ⟨ret_bool (by rw [HN.out]; rfl), HB2.out⟩
  | some j =>
    have HN := hide hrt
    rw [hrt] at hans
    have h2 : e2 = .returned (.bool true) := hans.1
    subst h2
    clear hrt hans
    go_wp2
    go_ret
    exact ⟨ret_bool (by rw [HN.out]; rfl), HB2.out⟩

set_option maxHeartbeats 8000000 in
set_option maxRecDepth 20000 in
theorem walkExprOk (kd : Int) (n : Bool) (xs : List Nat) (m : Bool) (ys : List Nat) (nm : ByteArray) (p q : Int) (ks : List Ex) (a1 : Option Addr) (c1 : Nat) (a2 : Option Addr) (c2 : Nat) (a : Option Addr) (c : Nat) (w : World) (s1 : Seg w a1 xs.length c1 xs) (s2 : Seg w a2 ys.length c2 ys) (s3 : KSeg w (fun _ => True) a ks.length c ks) (hw : rwf [.i kd, .b n, .l xs, .b m, .l ys, .t nm, .i p, .i q]) (htab : Tabs w) :
    Calls Tryz.prog 3 #[Value.agg #[Value.int .i64 kd, Value.bool n, Value.slice a1 xs.length c1, Value.bool m, Value.slice a2 ys.length c2, Value.string nm, Value.int .i64 p, Value.int .i64 q, Value.slice a ks.length c]] w fun e' w' => e' = .returned (.bool true) ∧ Below w.heap.size w w' := by
  have hnm : nm.size ≤ 9223372036854775807 := hw (.t nm) (by simp)
  clear hw
  have S1 := hide s1
  have S2 := hide s2
  have S3 := hide s3
  clear s1 s2 s3
  have HT := hide htab
  clear htab
  have Xa : Hid ((w.alloc (Obj.cells #[Value.int .i64 kd, Value.bool n, Value.slice a1 xs.length c1, Value.bool m, Value.slice a2 ys.length c2, Value.string nm, Value.int .i64 p, Value.int .i64 q, Value.slice a ks.length c] 29)).heap[w.heap.size]? = some (.cells #[Value.int .i64 kd, Value.bool n, Value.slice a1 xs.length c1, Value.bool m, Value.slice a2 ys.length c2, Value.string nm, Value.int .i64 p, Value.int .i64 q, Value.slice a ks.length c] 29 (0, 0))) := hide (by simpa only [World.size_alloc] using (hnew w (Obj.cells #[Value.int .i64 kd, Value.bool n, Value.slice a1 xs.length c1, Value.bool m, Value.slice a2 ys.length c2, Value.string nm, Value.int .i64 p, Value.int .i64 q, Value.slice a ks.length c] 29)))
  have HB : Hid (Below w.heap.size w (w.alloc (Obj.cells #[Value.int .i64 kd, Value.bool n, Value.slice a1 xs.length c1, Value.bool m, Value.slice a2 ys.length c2, Value.string nm, Value.int .i64 p, Value.int .i64 q, Value.slice a ks.length c] 29))) := hide (bl_alloc (bl_refl w) (Obj.cells #[Value.int .i64 kd, Value.bool n, Value.slice a1 xs.length c1, Value.bool m, Value.slice a2 ys.length c2, Value.string nm, Value.int .i64 p, Value.int .i64 q, Value.slice a ks.length c] 29))
  have yw1 : w.heap.size + 1 ≤ (w.alloc (Obj.cells #[Value.int .i64 kd, Value.bool n, Value.slice a1 xs.length c1, Value.bool m, Value.slice a2 ys.length c2, Value.string nm, Value.int .i64 p, Value.int .i64 q, Value.slice a ks.length c] 29)).heap.size := by simp only [World.size_alloc]; omega
  have ka0 : (w.alloc (Obj.cells #[Value.int .i64 kd, Value.bool n, Value.slice a1 xs.length c1, Value.bool m, Value.slice a2 ys.length c2, Value.string nm, Value.int .i64 p, Value.int .i64 q, Value.slice a ks.length c] 29)).cell? ⟨w.heap.size, 0, none⟩ = some (Value.int .i64 kd) := (Lib.cell_of_heap Xa.out 0).trans rfl
  have fa0 : (w.alloc (Obj.cells #[Value.int .i64 kd, Value.bool n, Value.slice a1 xs.length c1, Value.bool m, Value.slice a2 ys.length c2, Value.string nm, Value.int .i64 p, Value.int .i64 q, Value.slice a ks.length c] 29)).frozen? ⟨w.heap.size, 0, none⟩ = false := Lib.frozen_of_heap Xa.out 0
  have ka1 : (w.alloc (Obj.cells #[Value.int .i64 kd, Value.bool n, Value.slice a1 xs.length c1, Value.bool m, Value.slice a2 ys.length c2, Value.string nm, Value.int .i64 p, Value.int .i64 q, Value.slice a ks.length c] 29)).cell? ⟨w.heap.size, 1, none⟩ = some (Value.bool n) := (Lib.cell_of_heap Xa.out 1).trans rfl
  have fa1 : (w.alloc (Obj.cells #[Value.int .i64 kd, Value.bool n, Value.slice a1 xs.length c1, Value.bool m, Value.slice a2 ys.length c2, Value.string nm, Value.int .i64 p, Value.int .i64 q, Value.slice a ks.length c] 29)).frozen? ⟨w.heap.size, 1, none⟩ = false := Lib.frozen_of_heap Xa.out 1
  have ka2 : (w.alloc (Obj.cells #[Value.int .i64 kd, Value.bool n, Value.slice a1 xs.length c1, Value.bool m, Value.slice a2 ys.length c2, Value.string nm, Value.int .i64 p, Value.int .i64 q, Value.slice a ks.length c] 29)).cell? ⟨w.heap.size, 2, none⟩ = some (Value.slice a1 xs.length c1) := (Lib.cell_of_heap Xa.out 2).trans rfl
  have fa2 : (w.alloc (Obj.cells #[Value.int .i64 kd, Value.bool n, Value.slice a1 xs.length c1, Value.bool m, Value.slice a2 ys.length c2, Value.string nm, Value.int .i64 p, Value.int .i64 q, Value.slice a ks.length c] 29)).frozen? ⟨w.heap.size, 2, none⟩ = false := Lib.frozen_of_heap Xa.out 2
  have ka3 : (w.alloc (Obj.cells #[Value.int .i64 kd, Value.bool n, Value.slice a1 xs.length c1, Value.bool m, Value.slice a2 ys.length c2, Value.string nm, Value.int .i64 p, Value.int .i64 q, Value.slice a ks.length c] 29)).cell? ⟨w.heap.size, 3, none⟩ = some (Value.bool m) := (Lib.cell_of_heap Xa.out 3).trans rfl
  have fa3 : (w.alloc (Obj.cells #[Value.int .i64 kd, Value.bool n, Value.slice a1 xs.length c1, Value.bool m, Value.slice a2 ys.length c2, Value.string nm, Value.int .i64 p, Value.int .i64 q, Value.slice a ks.length c] 29)).frozen? ⟨w.heap.size, 3, none⟩ = false := Lib.frozen_of_heap Xa.out 3
  have ka4 : (w.alloc (Obj.cells #[Value.int .i64 kd, Value.bool n, Value.slice a1 xs.length c1, Value.bool m, Value.slice a2 ys.length c2, Value.string nm, Value.int .i64 p, Value.int .i64 q, Value.slice a ks.length c] 29)).cell? ⟨w.heap.size, 4, none⟩ = some (Value.slice a2 ys.length c2) := (Lib.cell_of_heap Xa.out 4).trans rfl
  have fa4 : (w.alloc (Obj.cells #[Value.int .i64 kd, Value.bool n, Value.slice a1 xs.length c1, Value.bool m, Value.slice a2 ys.length c2, Value.string nm, Value.int .i64 p, Value.int .i64 q, Value.slice a ks.length c] 29)).frozen? ⟨w.heap.size, 4, none⟩ = false := Lib.frozen_of_heap Xa.out 4
  have ka5 : (w.alloc (Obj.cells #[Value.int .i64 kd, Value.bool n, Value.slice a1 xs.length c1, Value.bool m, Value.slice a2 ys.length c2, Value.string nm, Value.int .i64 p, Value.int .i64 q, Value.slice a ks.length c] 29)).cell? ⟨w.heap.size, 5, none⟩ = some (Value.string nm) := (Lib.cell_of_heap Xa.out 5).trans rfl
  have fa5 : (w.alloc (Obj.cells #[Value.int .i64 kd, Value.bool n, Value.slice a1 xs.length c1, Value.bool m, Value.slice a2 ys.length c2, Value.string nm, Value.int .i64 p, Value.int .i64 q, Value.slice a ks.length c] 29)).frozen? ⟨w.heap.size, 5, none⟩ = false := Lib.frozen_of_heap Xa.out 5
  have ka6 : (w.alloc (Obj.cells #[Value.int .i64 kd, Value.bool n, Value.slice a1 xs.length c1, Value.bool m, Value.slice a2 ys.length c2, Value.string nm, Value.int .i64 p, Value.int .i64 q, Value.slice a ks.length c] 29)).cell? ⟨w.heap.size, 6, none⟩ = some (Value.int .i64 p) := (Lib.cell_of_heap Xa.out 6).trans rfl
  have fa6 : (w.alloc (Obj.cells #[Value.int .i64 kd, Value.bool n, Value.slice a1 xs.length c1, Value.bool m, Value.slice a2 ys.length c2, Value.string nm, Value.int .i64 p, Value.int .i64 q, Value.slice a ks.length c] 29)).frozen? ⟨w.heap.size, 6, none⟩ = false := Lib.frozen_of_heap Xa.out 6
  have ka7 : (w.alloc (Obj.cells #[Value.int .i64 kd, Value.bool n, Value.slice a1 xs.length c1, Value.bool m, Value.slice a2 ys.length c2, Value.string nm, Value.int .i64 p, Value.int .i64 q, Value.slice a ks.length c] 29)).cell? ⟨w.heap.size, 7, none⟩ = some (Value.int .i64 q) := (Lib.cell_of_heap Xa.out 7).trans rfl
  have fa7 : (w.alloc (Obj.cells #[Value.int .i64 kd, Value.bool n, Value.slice a1 xs.length c1, Value.bool m, Value.slice a2 ys.length c2, Value.string nm, Value.int .i64 p, Value.int .i64 q, Value.slice a ks.length c] 29)).frozen? ⟨w.heap.size, 7, none⟩ = false := Lib.frozen_of_heap Xa.out 7
  have ka8 : (w.alloc (Obj.cells #[Value.int .i64 kd, Value.bool n, Value.slice a1 xs.length c1, Value.bool m, Value.slice a2 ys.length c2, Value.string nm, Value.int .i64 p, Value.int .i64 q, Value.slice a ks.length c] 29)).cell? ⟨w.heap.size, 8, none⟩ = some (Value.slice a ks.length c) := (Lib.cell_of_heap Xa.out 8).trans rfl
  have fa8 : (w.alloc (Obj.cells #[Value.int .i64 kd, Value.bool n, Value.slice a1 xs.length c1, Value.bool m, Value.slice a2 ys.length c2, Value.string nm, Value.int .i64 p, Value.int .i64 q, Value.slice a ks.length c] 29)).frozen? ⟨w.heap.size, 8, none⟩ = false := Lib.frozen_of_heap Xa.out 8
  have za : w.heap.size < (w.alloc (Obj.cells #[Value.int .i64 kd, Value.bool n, Value.slice a1 xs.length c1, Value.bool m, Value.slice a2 ys.length c2, Value.string nm, Value.int .i64 p, Value.int .i64 q, Value.slice a ks.length c] 29)).heap.size := hlt Xa.out
  go_enter Tryz.func3, Tryz.ntmps3
  go_wp2_with fail
  generalize (w.alloc (Obj.cells #[Value.int .i64 kd, Value.bool n, Value.slice a1 xs.length c1, Value.bool m, Value.slice a2 ys.length c2, Value.string nm, Value.int .i64 p, Value.int .i64 q, Value.slice a ks.length c] 29)) = w1 at *
  refine (szEx _ (Ex.mk kd n xs m ys nm p q ks) (Nat.le_refl _) kd n xs m ys nm p q ks rfl _ a1 c1 a2 c2 a c 1048576 _ (S1.out.below HB.out) (S2.out.below HB.out) (S3.out.below HB.out) hnm (by omega) (by omega)).mono ?_
  rintro e w2 ⟨rfl, hb⟩
  have yw2 := hb.size
  clear ka0 fa0 ka1 fa1 ka2 fa2 ka3 fa3 ka4 fa4 ka5 fa5 ka6 fa6 ka7 fa7 ka8 fa8 za
  replace Xa := hide (hbel Xa.out hb (by first | assumption | omega))
  replace HB := hide (bl_trans HB.out hb)
  clear hb
  have ka0 : w2.cell? ⟨w.heap.size, 0, none⟩ = some (Value.int .i64 kd) := (Lib.cell_of_heap Xa.out 0).trans rfl
  have fa0 : w2.frozen? ⟨w.heap.size, 0, none⟩ = false := Lib.frozen_of_heap Xa.out 0
  have ka1 : w2.cell? ⟨w.heap.size, 1, none⟩ = some (Value.bool n) := (Lib.cell_of_heap Xa.out 1).trans rfl
  have fa1 : w2.frozen? ⟨w.heap.size, 1, none⟩ = false := Lib.frozen_of_heap Xa.out 1
  have ka2 : w2.cell? ⟨w.heap.size, 2, none⟩ = some (Value.slice a1 xs.length c1) := (Lib.cell_of_heap Xa.out 2).trans rfl
  have fa2 : w2.frozen? ⟨w.heap.size, 2, none⟩ = false := Lib.frozen_of_heap Xa.out 2
  have ka3 : w2.cell? ⟨w.heap.size, 3, none⟩ = some (Value.bool m) := (Lib.cell_of_heap Xa.out 3).trans rfl
  have fa3 : w2.frozen? ⟨w.heap.size, 3, none⟩ = false := Lib.frozen_of_heap Xa.out 3
  have ka4 : w2.cell? ⟨w.heap.size, 4, none⟩ = some (Value.slice a2 ys.length c2) := (Lib.cell_of_heap Xa.out 4).trans rfl
  have fa4 : w2.frozen? ⟨w.heap.size, 4, none⟩ = false := Lib.frozen_of_heap Xa.out 4
  have ka5 : w2.cell? ⟨w.heap.size, 5, none⟩ = some (Value.string nm) := (Lib.cell_of_heap Xa.out 5).trans rfl
  have fa5 : w2.frozen? ⟨w.heap.size, 5, none⟩ = false := Lib.frozen_of_heap Xa.out 5
  have ka6 : w2.cell? ⟨w.heap.size, 6, none⟩ = some (Value.int .i64 p) := (Lib.cell_of_heap Xa.out 6).trans rfl
  have fa6 : w2.frozen? ⟨w.heap.size, 6, none⟩ = false := Lib.frozen_of_heap Xa.out 6
  have ka7 : w2.cell? ⟨w.heap.size, 7, none⟩ = some (Value.int .i64 q) := (Lib.cell_of_heap Xa.out 7).trans rfl
  have fa7 : w2.frozen? ⟨w.heap.size, 7, none⟩ = false := Lib.frozen_of_heap Xa.out 7
  have ka8 : w2.cell? ⟨w.heap.size, 8, none⟩ = some (Value.slice a ks.length c) := (Lib.cell_of_heap Xa.out 8).trans rfl
  have fa8 : w2.frozen? ⟨w.heap.size, 8, none⟩ = false := Lib.frozen_of_heap Xa.out 8
  have za : w.heap.size < w2.heap.size := hlt Xa.out
  by_cases hz : (1048576 : Int) < ((Ex.sz (Ex.mk kd n xs m ys nm p q ks) : Nat) : Int)
  · have HE : rleft 1048576 (Ex.sz (Ex.mk kd n xs m ys nm p q ks)) = -1 := by unfold rleft; rw [if_pos hz]
    rw [HE]
    clear HE
    go_wp2
    go_ret
    exact ⟨rfl, HB.out⟩
  have HE : rleft 1048576 (Ex.sz (Ex.mk kd n xs m ys nm p q ks)) = 1048576 - ((Ex.sz (Ex.mk kd n xs m ys nm p q ks) : Nat) : Int) := by unfold rleft; rw [if_neg hz]
  have HZ : Hid (Ex.sz (Ex.mk kd n xs m ys nm p q ks) ≤ 1048576) := hide (by omega)
  have hz0 : ¬ 1048576 - ((Ex.sz (Ex.mk kd n xs m ys nm p q ks) : Nat) : Int) < 0 := by omega
  rw [HE]
  clear HE hz
  generalize ((Ex.sz (Ex.mk kd n xs m ys nm p q ks) : Nat) : Int) = z at *
  go_wp2_with fail
  refine (toEx _ (Ex.mk kd n xs m ys nm p q ks) (Nat.le_refl _) kd n xs m ys nm p q ks rfl _ a1 c1 a2 c2 a c _ (S1.out.below HB.out) (S2.out.below HB.out) (S3.out.below HB.out) HZ.out).mono ?_
  rintro e w3 ⟨b11, d11, b12, d12, b1, rfl, ho11, ho12, ho13, hb⟩
  have yw3 := hb.size
  clear ka0 fa0 ka1 fa1 ka2 fa2 ka3 fa3 ka4 fa4 ka5 fa5 ka6 fa6 ka7 fa7 ka8 fa8 za
  replace Xa := hide (hbel Xa.out hb (by first | assumption | omega))
  replace HB := hide (bl_trans HB.out hb)
  clear hb
  have P11 := hide ho11
  clear ho11
  have P12 := hide ho12
  clear ho12
  have P13 := hide ho13
  clear ho13
  have ka0 : w3.cell? ⟨w.heap.size, 0, none⟩ = some (Value.int .i64 kd) := (Lib.cell_of_heap Xa.out 0).trans rfl
  have fa0 : w3.frozen? ⟨w.heap.size, 0, none⟩ = false := Lib.frozen_of_heap Xa.out 0
  have ka1 : w3.cell? ⟨w.heap.size, 1, none⟩ = some (Value.bool n) := (Lib.cell_of_heap Xa.out 1).trans rfl
  have fa1 : w3.frozen? ⟨w.heap.size, 1, none⟩ = false := Lib.frozen_of_heap Xa.out 1
  have ka2 : w3.cell? ⟨w.heap.size, 2, none⟩ = some (Value.slice a1 xs.length c1) := (Lib.cell_of_heap Xa.out 2).trans rfl
  have fa2 : w3.frozen? ⟨w.heap.size, 2, none⟩ = false := Lib.frozen_of_heap Xa.out 2
  have ka3 : w3.cell? ⟨w.heap.size, 3, none⟩ = some (Value.bool m) := (Lib.cell_of_heap Xa.out 3).trans rfl
  have fa3 : w3.frozen? ⟨w.heap.size, 3, none⟩ = false := Lib.frozen_of_heap Xa.out 3
  have ka4 : w3.cell? ⟨w.heap.size, 4, none⟩ = some (Value.slice a2 ys.length c2) := (Lib.cell_of_heap Xa.out 4).trans rfl
  have fa4 : w3.frozen? ⟨w.heap.size, 4, none⟩ = false := Lib.frozen_of_heap Xa.out 4
  have ka5 : w3.cell? ⟨w.heap.size, 5, none⟩ = some (Value.string nm) := (Lib.cell_of_heap Xa.out 5).trans rfl
  have fa5 : w3.frozen? ⟨w.heap.size, 5, none⟩ = false := Lib.frozen_of_heap Xa.out 5
  have ka6 : w3.cell? ⟨w.heap.size, 6, none⟩ = some (Value.int .i64 p) := (Lib.cell_of_heap Xa.out 6).trans rfl
  have fa6 : w3.frozen? ⟨w.heap.size, 6, none⟩ = false := Lib.frozen_of_heap Xa.out 6
  have ka7 : w3.cell? ⟨w.heap.size, 7, none⟩ = some (Value.int .i64 q) := (Lib.cell_of_heap Xa.out 7).trans rfl
  have fa7 : w3.frozen? ⟨w.heap.size, 7, none⟩ = false := Lib.frozen_of_heap Xa.out 7
  have ka8 : w3.cell? ⟨w.heap.size, 8, none⟩ = some (Value.slice a ks.length c) := (Lib.cell_of_heap Xa.out 8).trans rfl
  have fa8 : w3.frozen? ⟨w.heap.size, 8, none⟩ = false := Lib.frozen_of_heap Xa.out 8
  have za : w.heap.size < w3.heap.size := hlt Xa.out
  go_wp2_with fail
  refine (exprOkS kd n xs m ys nm p q ks _ _ _ _ _ _ _ _ P11.out.seg P12.out.seg P13.out HZ.out).mono ?_
  rintro e w4 ⟨rfl, hb⟩
  have yw4 := hb.size
  clear ka0 fa0 ka1 fa1 ka2 fa2 ka3 fa3 ka4 fa4 ka5 fa5 ka6 fa6 ka7 fa7 ka8 fa8 za
  replace Xa := hide (hbel Xa.out hb (by first | assumption | omega))
  replace P11 := hide (P11.out.below hb)
  replace P12 := hide (P12.out.below hb)
  replace P13 := hide (P13.out.below hb)
  replace HB := hide (bl_trans HB.out hb)
  clear hb
  have ka0 : w4.cell? ⟨w.heap.size, 0, none⟩ = some (Value.int .i64 kd) := (Lib.cell_of_heap Xa.out 0).trans rfl
  have fa0 : w4.frozen? ⟨w.heap.size, 0, none⟩ = false := Lib.frozen_of_heap Xa.out 0
  have ka1 : w4.cell? ⟨w.heap.size, 1, none⟩ = some (Value.bool n) := (Lib.cell_of_heap Xa.out 1).trans rfl
  have fa1 : w4.frozen? ⟨w.heap.size, 1, none⟩ = false := Lib.frozen_of_heap Xa.out 1
  have ka2 : w4.cell? ⟨w.heap.size, 2, none⟩ = some (Value.slice a1 xs.length c1) := (Lib.cell_of_heap Xa.out 2).trans rfl
  have fa2 : w4.frozen? ⟨w.heap.size, 2, none⟩ = false := Lib.frozen_of_heap Xa.out 2
  have ka3 : w4.cell? ⟨w.heap.size, 3, none⟩ = some (Value.bool m) := (Lib.cell_of_heap Xa.out 3).trans rfl
  have fa3 : w4.frozen? ⟨w.heap.size, 3, none⟩ = false := Lib.frozen_of_heap Xa.out 3
  have ka4 : w4.cell? ⟨w.heap.size, 4, none⟩ = some (Value.slice a2 ys.length c2) := (Lib.cell_of_heap Xa.out 4).trans rfl
  have fa4 : w4.frozen? ⟨w.heap.size, 4, none⟩ = false := Lib.frozen_of_heap Xa.out 4
  have ka5 : w4.cell? ⟨w.heap.size, 5, none⟩ = some (Value.string nm) := (Lib.cell_of_heap Xa.out 5).trans rfl
  have fa5 : w4.frozen? ⟨w.heap.size, 5, none⟩ = false := Lib.frozen_of_heap Xa.out 5
  have ka6 : w4.cell? ⟨w.heap.size, 6, none⟩ = some (Value.int .i64 p) := (Lib.cell_of_heap Xa.out 6).trans rfl
  have fa6 : w4.frozen? ⟨w.heap.size, 6, none⟩ = false := Lib.frozen_of_heap Xa.out 6
  have ka7 : w4.cell? ⟨w.heap.size, 7, none⟩ = some (Value.int .i64 q) := (Lib.cell_of_heap Xa.out 7).trans rfl
  have fa7 : w4.frozen? ⟨w.heap.size, 7, none⟩ = false := Lib.frozen_of_heap Xa.out 7
  have ka8 : w4.cell? ⟨w.heap.size, 8, none⟩ = some (Value.slice a ks.length c) := (Lib.cell_of_heap Xa.out 8).trans rfl
  have fa8 : w4.frozen? ⟨w.heap.size, 8, none⟩ = false := Lib.frozen_of_heap Xa.out 8
  have za : w.heap.size < w4.heap.size := hlt Xa.out
  clear P11 P12 P13
  obtain ⟨O, hO⟩ : ∃ O, (Ex.rt (Ex.mk kd n xs m ys nm p q ks) 12 60).isSome = O := ⟨_, rfl⟩
  rw [hO]
  have HO := hide hO
  clear hO
  go_wp2_with fail
  refine (toEx _ (Ex.mk kd n xs m ys nm p q ks) (Nat.le_refl _) kd n xs m ys nm p q ks rfl _ a1 c1 a2 c2 a c _ (S1.out.below HB.out) (S2.out.below HB.out) (S3.out.below HB.out) HZ.out).mono ?_
  rintro e w5 ⟨b21, d21, b22, d22, b2, rfl, ho21, ho22, ho23, hb⟩
  have yw5 := hb.size
  clear ka0 fa0 ka1 fa1 ka2 fa2 ka3 fa3 ka4 fa4 ka5 fa5 ka6 fa6 ka7 fa7 ka8 fa8 za
  replace Xa := hide (hbel Xa.out hb (by first | assumption | omega))
  replace HB := hide (bl_trans HB.out hb)
  clear hb
  have P21 := hide ho21
  clear ho21
  have P22 := hide ho22
  clear ho22
  have P23 := hide ho23
  clear ho23
  have ka0 : w5.cell? ⟨w.heap.size, 0, none⟩ = some (Value.int .i64 kd) := (Lib.cell_of_heap Xa.out 0).trans rfl
  have fa0 : w5.frozen? ⟨w.heap.size, 0, none⟩ = false := Lib.frozen_of_heap Xa.out 0
  have ka1 : w5.cell? ⟨w.heap.size, 1, none⟩ = some (Value.bool n) := (Lib.cell_of_heap Xa.out 1).trans rfl
  have fa1 : w5.frozen? ⟨w.heap.size, 1, none⟩ = false := Lib.frozen_of_heap Xa.out 1
  have ka2 : w5.cell? ⟨w.heap.size, 2, none⟩ = some (Value.slice a1 xs.length c1) := (Lib.cell_of_heap Xa.out 2).trans rfl
  have fa2 : w5.frozen? ⟨w.heap.size, 2, none⟩ = false := Lib.frozen_of_heap Xa.out 2
  have ka3 : w5.cell? ⟨w.heap.size, 3, none⟩ = some (Value.bool m) := (Lib.cell_of_heap Xa.out 3).trans rfl
  have fa3 : w5.frozen? ⟨w.heap.size, 3, none⟩ = false := Lib.frozen_of_heap Xa.out 3
  have ka4 : w5.cell? ⟨w.heap.size, 4, none⟩ = some (Value.slice a2 ys.length c2) := (Lib.cell_of_heap Xa.out 4).trans rfl
  have fa4 : w5.frozen? ⟨w.heap.size, 4, none⟩ = false := Lib.frozen_of_heap Xa.out 4
  have ka5 : w5.cell? ⟨w.heap.size, 5, none⟩ = some (Value.string nm) := (Lib.cell_of_heap Xa.out 5).trans rfl
  have fa5 : w5.frozen? ⟨w.heap.size, 5, none⟩ = false := Lib.frozen_of_heap Xa.out 5
  have ka6 : w5.cell? ⟨w.heap.size, 6, none⟩ = some (Value.int .i64 p) := (Lib.cell_of_heap Xa.out 6).trans rfl
  have fa6 : w5.frozen? ⟨w.heap.size, 6, none⟩ = false := Lib.frozen_of_heap Xa.out 6
  have ka7 : w5.cell? ⟨w.heap.size, 7, none⟩ = some (Value.int .i64 q) := (Lib.cell_of_heap Xa.out 7).trans rfl
  have fa7 : w5.frozen? ⟨w.heap.size, 7, none⟩ = false := Lib.frozen_of_heap Xa.out 7
  have ka8 : w5.cell? ⟨w.heap.size, 8, none⟩ = some (Value.slice a ks.length c) := (Lib.cell_of_heap Xa.out 8).trans rfl
  have fa8 : w5.frozen? ⟨w.heap.size, 8, none⟩ = false := Lib.frozen_of_heap Xa.out 8
  have za : w.heap.size < w5.heap.size := hlt Xa.out
  go_wp2_with fail
  have Xx : Hid ((w5.alloc (Obj.cells #[Value.int .i64 kd, Value.bool n, Value.slice b21 xs.length d21, Value.bool m, Value.slice b22 ys.length d22, Value.string nm, Value.int .i64 p, Value.int .i64 q, Value.slice b2 ks.length ks.length] 37)).heap[w5.heap.size]? = some (Obj.cells #[Value.int .i64 kd, Value.bool n, Value.slice b21 xs.length d21, Value.bool m, Value.slice b22 ys.length d22, Value.string nm, Value.int .i64 p, Value.int .i64 q, Value.slice b2 ks.length ks.length] 37)) := hide (hnew _ _)
  have hbn := (bl_alloc (bl_refl w5) (Obj.cells #[Value.int .i64 kd, Value.bool n, Value.slice b21 xs.length d21, Value.bool m, Value.slice b22 ys.length d22, Value.string nm, Value.int .i64 p, Value.int .i64 q, Value.slice b2 ks.length ks.length] 37))
  have yw6 : w5.heap.size + 1 ≤ (w5.alloc (Obj.cells #[Value.int .i64 kd, Value.bool n, Value.slice b21 xs.length d21, Value.bool m, Value.slice b22 ys.length d22, Value.string nm, Value.int .i64 p, Value.int .i64 q, Value.slice b2 ks.length ks.length] 37)).heap.size := by simp only [World.size_alloc]; omega
  generalize w5.alloc (Obj.cells #[Value.int .i64 kd, Value.bool n, Value.slice b21 xs.length d21, Value.bool m, Value.slice b22 ys.length d22, Value.string nm, Value.int .i64 p, Value.int .i64 q, Value.slice b2 ks.length ks.length] 37) = w6 at *
  clear ka0 fa0 ka1 fa1 ka2 fa2 ka3 fa3 ka4 fa4 ka5 fa5 ka6 fa6 ka7 fa7 ka8 fa8 za
  replace Xa := hide (hbel Xa.out hbn (by first | assumption | omega))
  replace P21 := hide (P21.out.below hbn)
  replace P22 := hide (P22.out.below hbn)
  replace P23 := hide (P23.out.below hbn)
  replace HB := hide (bl_trans HB.out hbn)
  clear hbn
  have ka0 : w6.cell? ⟨w.heap.size, 0, none⟩ = some (Value.int .i64 kd) := (Lib.cell_of_heap Xa.out 0).trans rfl
  have fa0 : w6.frozen? ⟨w.heap.size, 0, none⟩ = false := Lib.frozen_of_heap Xa.out 0
  have ka1 : w6.cell? ⟨w.heap.size, 1, none⟩ = some (Value.bool n) := (Lib.cell_of_heap Xa.out 1).trans rfl
  have fa1 : w6.frozen? ⟨w.heap.size, 1, none⟩ = false := Lib.frozen_of_heap Xa.out 1
  have ka2 : w6.cell? ⟨w.heap.size, 2, none⟩ = some (Value.slice a1 xs.length c1) := (Lib.cell_of_heap Xa.out 2).trans rfl
  have fa2 : w6.frozen? ⟨w.heap.size, 2, none⟩ = false := Lib.frozen_of_heap Xa.out 2
  have ka3 : w6.cell? ⟨w.heap.size, 3, none⟩ = some (Value.bool m) := (Lib.cell_of_heap Xa.out 3).trans rfl
  have fa3 : w6.frozen? ⟨w.heap.size, 3, none⟩ = false := Lib.frozen_of_heap Xa.out 3
  have ka4 : w6.cell? ⟨w.heap.size, 4, none⟩ = some (Value.slice a2 ys.length c2) := (Lib.cell_of_heap Xa.out 4).trans rfl
  have fa4 : w6.frozen? ⟨w.heap.size, 4, none⟩ = false := Lib.frozen_of_heap Xa.out 4
  have ka5 : w6.cell? ⟨w.heap.size, 5, none⟩ = some (Value.string nm) := (Lib.cell_of_heap Xa.out 5).trans rfl
  have fa5 : w6.frozen? ⟨w.heap.size, 5, none⟩ = false := Lib.frozen_of_heap Xa.out 5
  have ka6 : w6.cell? ⟨w.heap.size, 6, none⟩ = some (Value.int .i64 p) := (Lib.cell_of_heap Xa.out 6).trans rfl
  have fa6 : w6.frozen? ⟨w.heap.size, 6, none⟩ = false := Lib.frozen_of_heap Xa.out 6
  have ka7 : w6.cell? ⟨w.heap.size, 7, none⟩ = some (Value.int .i64 q) := (Lib.cell_of_heap Xa.out 7).trans rfl
  have fa7 : w6.frozen? ⟨w.heap.size, 7, none⟩ = false := Lib.frozen_of_heap Xa.out 7
  have ka8 : w6.cell? ⟨w.heap.size, 8, none⟩ = some (Value.slice a ks.length c) := (Lib.cell_of_heap Xa.out 8).trans rfl
  have fa8 : w6.frozen? ⟨w.heap.size, 8, none⟩ = false := Lib.frozen_of_heap Xa.out 8
  have za : w.heap.size < w6.heap.size := hlt Xa.out
  have kx0 : w6.cell? ⟨w5.heap.size, 0, none⟩ = some (Value.int .i64 kd) := (Lib.cell_of_heap Xx.out 0).trans rfl
  have fx0 : w6.frozen? ⟨w5.heap.size, 0, none⟩ = false := Lib.frozen_of_heap Xx.out 0
  have kx1 : w6.cell? ⟨w5.heap.size, 1, none⟩ = some (Value.bool n) := (Lib.cell_of_heap Xx.out 1).trans rfl
  have fx1 : w6.frozen? ⟨w5.heap.size, 1, none⟩ = false := Lib.frozen_of_heap Xx.out 1
  have kx2 : w6.cell? ⟨w5.heap.size, 2, none⟩ = some (Value.slice b21 xs.length d21) := (Lib.cell_of_heap Xx.out 2).trans rfl
  have fx2 : w6.frozen? ⟨w5.heap.size, 2, none⟩ = false := Lib.frozen_of_heap Xx.out 2
  have kx3 : w6.cell? ⟨w5.heap.size, 3, none⟩ = some (Value.bool m) := (Lib.cell_of_heap Xx.out 3).trans rfl
  have fx3 : w6.frozen? ⟨w5.heap.size, 3, none⟩ = false := Lib.frozen_of_heap Xx.out 3
  have kx4 : w6.cell? ⟨w5.heap.size, 4, none⟩ = some (Value.slice b22 ys.length d22) := (Lib.cell_of_heap Xx.out 4).trans rfl
  have fx4 : w6.frozen? ⟨w5.heap.size, 4, none⟩ = false := Lib.frozen_of_heap Xx.out 4
  have kx5 : w6.cell? ⟨w5.heap.size, 5, none⟩ = some (Value.string nm) := (Lib.cell_of_heap Xx.out 5).trans rfl
  have fx5 : w6.frozen? ⟨w5.heap.size, 5, none⟩ = false := Lib.frozen_of_heap Xx.out 5
  have kx6 : w6.cell? ⟨w5.heap.size, 6, none⟩ = some (Value.int .i64 p) := (Lib.cell_of_heap Xx.out 6).trans rfl
  have fx6 : w6.frozen? ⟨w5.heap.size, 6, none⟩ = false := Lib.frozen_of_heap Xx.out 6
  have kx7 : w6.cell? ⟨w5.heap.size, 7, none⟩ = some (Value.int .i64 q) := (Lib.cell_of_heap Xx.out 7).trans rfl
  have fx7 : w6.frozen? ⟨w5.heap.size, 7, none⟩ = false := Lib.frozen_of_heap Xx.out 7
  have kx8 : w6.cell? ⟨w5.heap.size, 8, none⟩ = some (Value.slice b2 ks.length ks.length) := (Lib.cell_of_heap Xx.out 8).trans rfl
  have fx8 : w6.frozen? ⟨w5.heap.size, 8, none⟩ = false := Lib.frozen_of_heap Xx.out 8
  have zx : w5.heap.size < w6.heap.size := hlt Xx.out
  refine (exprOkI kd n xs m ys nm p q ks _ _ _ _ _ _ _ _ P21.out.seg P22.out.seg P23.out HZ.out (HT.out.below HB.out)).mono ?_
  rintro e w7 ⟨rfl, hb⟩
  have yw7 := hb.size
  clear ka0 fa0 ka1 fa1 ka2 fa2 ka3 fa3 ka4 fa4 ka5 fa5 ka6 fa6 ka7 fa7 ka8 fa8 za
  clear kx0 fx0 kx1 fx1 kx2 fx2 kx3 fx3 kx4 fx4 kx5 fx5 kx6 fx6 kx7 fx7 kx8 fx8 zx
  replace Xa := hide (hbel Xa.out hb (by first | assumption | omega))
  replace Xx := hide (hbel Xx.out hb (by first | assumption | omega))
  replace P21 := hide (P21.out.below hb)
  replace P22 := hide (P22.out.below hb)
  replace P23 := hide (P23.out.below hb)
  replace HB := hide (bl_trans HB.out hb)
  clear hb
  have ka0 : w7.cell? ⟨w.heap.size, 0, none⟩ = some (Value.int .i64 kd) := (Lib.cell_of_heap Xa.out 0).trans rfl
  have fa0 : w7.frozen? ⟨w.heap.size, 0, none⟩ = false := Lib.frozen_of_heap Xa.out 0
  have ka1 : w7.cell? ⟨w.heap.size, 1, none⟩ = some (Value.bool n) := (Lib.cell_of_heap Xa.out 1).trans rfl
  have fa1 : w7.frozen? ⟨w.heap.size, 1, none⟩ = false := Lib.frozen_of_heap Xa.out 1
  have ka2 : w7.cell? ⟨w.heap.size, 2, none⟩ = some (Value.slice a1 xs.length c1) := (Lib.cell_of_heap Xa.out 2).trans rfl
  have fa2 : w7.frozen? ⟨w.heap.size, 2, none⟩ = false := Lib.frozen_of_heap Xa.out 2
  have ka3 : w7.cell? ⟨w.heap.size, 3, none⟩ = some (Value.bool m) := (Lib.cell_of_heap Xa.out 3).trans rfl
  have fa3 : w7.frozen? ⟨w.heap.size, 3, none⟩ = false := Lib.frozen_of_heap Xa.out 3
  have ka4 : w7.cell? ⟨w.heap.size, 4, none⟩ = some (Value.slice a2 ys.length c2) := (Lib.cell_of_heap Xa.out 4).trans rfl
  have fa4 : w7.frozen? ⟨w.heap.size, 4, none⟩ = false := Lib.frozen_of_heap Xa.out 4
  have ka5 : w7.cell? ⟨w.heap.size, 5, none⟩ = some (Value.string nm) := (Lib.cell_of_heap Xa.out 5).trans rfl
  have fa5 : w7.frozen? ⟨w.heap.size, 5, none⟩ = false := Lib.frozen_of_heap Xa.out 5
  have ka6 : w7.cell? ⟨w.heap.size, 6, none⟩ = some (Value.int .i64 p) := (Lib.cell_of_heap Xa.out 6).trans rfl
  have fa6 : w7.frozen? ⟨w.heap.size, 6, none⟩ = false := Lib.frozen_of_heap Xa.out 6
  have ka7 : w7.cell? ⟨w.heap.size, 7, none⟩ = some (Value.int .i64 q) := (Lib.cell_of_heap Xa.out 7).trans rfl
  have fa7 : w7.frozen? ⟨w.heap.size, 7, none⟩ = false := Lib.frozen_of_heap Xa.out 7
  have ka8 : w7.cell? ⟨w.heap.size, 8, none⟩ = some (Value.slice a ks.length c) := (Lib.cell_of_heap Xa.out 8).trans rfl
  have fa8 : w7.frozen? ⟨w.heap.size, 8, none⟩ = false := Lib.frozen_of_heap Xa.out 8
  have za : w.heap.size < w7.heap.size := hlt Xa.out
  have kx0 : w7.cell? ⟨w5.heap.size, 0, none⟩ = some (Value.int .i64 kd) := (Lib.cell_of_heap Xx.out 0).trans rfl
  have fx0 : w7.frozen? ⟨w5.heap.size, 0, none⟩ = false := Lib.frozen_of_heap Xx.out 0
  have kx1 : w7.cell? ⟨w5.heap.size, 1, none⟩ = some (Value.bool n) := (Lib.cell_of_heap Xx.out 1).trans rfl
  have fx1 : w7.frozen? ⟨w5.heap.size, 1, none⟩ = false := Lib.frozen_of_heap Xx.out 1
  have kx2 : w7.cell? ⟨w5.heap.size, 2, none⟩ = some (Value.slice b21 xs.length d21) := (Lib.cell_of_heap Xx.out 2).trans rfl
  have fx2 : w7.frozen? ⟨w5.heap.size, 2, none⟩ = false := Lib.frozen_of_heap Xx.out 2
  have kx3 : w7.cell? ⟨w5.heap.size, 3, none⟩ = some (Value.bool m) := (Lib.cell_of_heap Xx.out 3).trans rfl
  have fx3 : w7.frozen? ⟨w5.heap.size, 3, none⟩ = false := Lib.frozen_of_heap Xx.out 3
  have kx4 : w7.cell? ⟨w5.heap.size, 4, none⟩ = some (Value.slice b22 ys.length d22) := (Lib.cell_of_heap Xx.out 4).trans rfl
  have fx4 : w7.frozen? ⟨w5.heap.size, 4, none⟩ = false := Lib.frozen_of_heap Xx.out 4
  have kx5 : w7.cell? ⟨w5.heap.size, 5, none⟩ = some (Value.string nm) := (Lib.cell_of_heap Xx.out 5).trans rfl
  have fx5 : w7.frozen? ⟨w5.heap.size, 5, none⟩ = false := Lib.frozen_of_heap Xx.out 5
  have kx6 : w7.cell? ⟨w5.heap.size, 6, none⟩ = some (Value.int .i64 p) := (Lib.cell_of_heap Xx.out 6).trans rfl
  have fx6 : w7.frozen? ⟨w5.heap.size, 6, none⟩ = false := Lib.frozen_of_heap Xx.out 6
  have kx7 : w7.cell? ⟨w5.heap.size, 7, none⟩ = some (Value.int .i64 q) := (Lib.cell_of_heap Xx.out 7).trans rfl
  have fx7 : w7.frozen? ⟨w5.heap.size, 7, none⟩ = false := Lib.frozen_of_heap Xx.out 7
  have kx8 : w7.cell? ⟨w5.heap.size, 8, none⟩ = some (Value.slice b2 ks.length ks.length) := (Lib.cell_of_heap Xx.out 8).trans rfl
  have fx8 : w7.frozen? ⟨w5.heap.size, 8, none⟩ = false := Lib.frozen_of_heap Xx.out 8
  have zx : w5.heap.size < w7.heap.size := hlt Xx.out
  rw [HO.out]
  have hxx : (O != O) = false := by simp
  go_wp2_with fail
  have KP : Hid (∀ w', Below w7.heap.size w7 w' → (w'.cell? ⟨w.heap.size, 0, none⟩ = some (Value.int .i64 kd) ∧ w'.cell? ⟨w.heap.size, 1, none⟩ = some (Value.bool n) ∧ w'.cell? ⟨w.heap.size, 2, none⟩ = some (Value.slice a1 xs.length c1) ∧ w'.cell? ⟨w.heap.size, 3, none⟩ = some (Value.bool m) ∧ w'.cell? ⟨w.heap.size, 4, none⟩ = some (Value.slice a2 ys.length c2) ∧ w'.cell? ⟨w.heap.size, 5, none⟩ = some (Value.string nm) ∧ w'.cell? ⟨w.heap.size, 6, none⟩ = some (Value.int .i64 p) ∧ w'.cell? ⟨w.heap.size, 7, none⟩ = some (Value.int .i64 q) ∧ w'.cell? ⟨w.heap.size, 8, none⟩ = some (Value.slice a ks.length c) ∧ w'.cell? ⟨w5.heap.size, 0, none⟩ = some (Value.int .i64 kd) ∧ w'.cell? ⟨w5.heap.size, 1, none⟩ = some (Value.bool n) ∧ w'.cell? ⟨w5.heap.size, 2, none⟩ = some (Value.slice b21 xs.length d21) ∧ w'.cell? ⟨w5.heap.size, 3, none⟩ = some (Value.bool m) ∧ w'.cell? ⟨w5.heap.size, 4, none⟩ = some (Value.slice b22 ys.length d22) ∧ w'.cell? ⟨w5.heap.size, 5, none⟩ = some (Value.string nm) ∧ w'.cell? ⟨w5.heap.size, 6, none⟩ = some (Value.int .i64 p) ∧ w'.cell? ⟨w5.heap.size, 7, none⟩ = some (Value.int .i64 q) ∧ w'.cell? ⟨w5.heap.size, 8, none⟩ = some (Value.slice b2 ks.length ks.length))) := hide (fun w' h => ⟨(h.cell (p := ⟨w.heap.size, 0, none⟩) za).trans ka0, (h.cell (p := ⟨w.heap.size, 1, none⟩) za).trans ka1, (h.cell (p := ⟨w.heap.size, 2, none⟩) za).trans ka2, (h.cell (p := ⟨w.heap.size, 3, none⟩) za).trans ka3, (h.cell (p := ⟨w.heap.size, 4, none⟩) za).trans ka4, (h.cell (p := ⟨w.heap.size, 5, none⟩) za).trans ka5, (h.cell (p := ⟨w.heap.size, 6, none⟩) za).trans ka6, (h.cell (p := ⟨w.heap.size, 7, none⟩) za).trans ka7, (h.cell (p := ⟨w.heap.size, 8, none⟩) za).trans ka8, (h.cell (p := ⟨w5.heap.size, 0, none⟩) zx).trans kx0, (h.cell (p := ⟨w5.heap.size, 1, none⟩) zx).trans kx1, (h.cell (p := ⟨w5.heap.size, 2, none⟩) zx).trans kx2, (h.cell (p := ⟨w5.heap.size, 3, none⟩) zx).trans kx3, (h.cell (p := ⟨w5.heap.size, 4, none⟩) zx).trans kx4, (h.cell (p := ⟨w5.heap.size, 5, none⟩) zx).trans kx5, (h.cell (p := ⟨w5.heap.size, 6, none⟩) zx).trans kx6, (h.cell (p := ⟨w5.heap.size, 7, none⟩) zx).trans kx7, (h.cell (p := ⟨w5.heap.size, 8, none⟩) zx).trans kx8⟩)
  go_region_held3 (fun w' => w'.cell? ⟨w.heap.size, 0, none⟩ = some (Value.int .i64 kd) ∧ w'.cell? ⟨w.heap.size, 1, none⟩ = some (Value.bool n) ∧ w'.cell? ⟨w.heap.size, 2, none⟩ = some (Value.slice a1 xs.length c1) ∧ w'.cell? ⟨w.heap.size, 3, none⟩ = some (Value.bool m) ∧ w'.cell? ⟨w.heap.size, 4, none⟩ = some (Value.slice a2 ys.length c2) ∧ w'.cell? ⟨w.heap.size, 5, none⟩ = some (Value.string nm) ∧ w'.cell? ⟨w.heap.size, 6, none⟩ = some (Value.int .i64 p) ∧ w'.cell? ⟨w.heap.size, 7, none⟩ = some (Value.int .i64 q) ∧ w'.cell? ⟨w.heap.size, 8, none⟩ = some (Value.slice a ks.length c) ∧ w'.cell? ⟨w5.heap.size, 0, none⟩ = some (Value.int .i64 kd) ∧ w'.cell? ⟨w5.heap.size, 1, none⟩ = some (Value.bool n) ∧ w'.cell? ⟨w5.heap.size, 2, none⟩ = some (Value.slice b21 xs.length d21) ∧ w'.cell? ⟨w5.heap.size, 3, none⟩ = some (Value.bool m) ∧ w'.cell? ⟨w5.heap.size, 4, none⟩ = some (Value.slice b22 ys.length d22) ∧ w'.cell? ⟨w5.heap.size, 5, none⟩ = some (Value.string nm) ∧ w'.cell? ⟨w5.heap.size, 6, none⟩ = some (Value.int .i64 p) ∧ w'.cell? ⟨w5.heap.size, 7, none⟩ = some (Value.int .i64 q) ∧ w'.cell? ⟨w5.heap.size, 8, none⟩ = some (Value.slice b2 ks.length ks.length))
    (first | exact KP.out _ (bl_refl w7).drew | exact KP.out _ hbY | exact KP.out _ hbX)
    (first
      | (go_at_call 7; refine (toEx _ (Ex.mk kd n xs m ys nm p q ks) (Nat.le_refl _) kd n xs m ys nm p q ks rfl _ a1 c1 a2 c2 a c _ ((S1.out.below HB.out).below (bl_refl w7).drew) ((S2.out.below HB.out).below (bl_refl w7).drew) ((S3.out.below HB.out).below (bl_refl w7).drew) HZ.out).mono ?_; rintro e wX ⟨b31, d31, b32, d32, b3, rfl, ho31, ho32, ho33, hbXr⟩; have hbX : Below w7.heap.size w7 wX := (bl_refl w7).drew.trans hbXr)
      | (go_at_call 9; refine (eqEx _ (Ex.mk kd n xs m ys nm p q ks) (Nat.le_refl _) kd n xs m ys nm p q ks rfl _ _ b21 d21 b22 d22 b2 ks.length b31 d31 b32 d32 b3 ks.length _ (P21.out.seg.below hbX) (P22.out.seg.below hbX) (P23.out.below hbX) ho31.seg ho32.seg ho33).mono ?_; rintro e wY ⟨rfl, hbYr⟩; have hbY : Below w7.heap.size w7 wY := bl_trans hbX hbYr))
  clear KP
  have HBY := hide (bl_trans HB.out hbY)
  clear hbX hbY
  go_wp2
  go_ret
  exact ⟨rfl, HBY.out⟩
end Go.Proofs.YtlknhheafmifnaaGreatDoor
