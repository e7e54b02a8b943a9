/- Turn of both, of right matrices and of others. -/
import Derived.Test.YteljkjpcjjiidaaTurnS
import Derived.Test.YteljkjpcjjiidaaMatS
import Derived.Test.YteljkjpcjjiidaaGr2
import Derived.Test.YteljkjpcjjiidaaGr3
namespace Go.Proofs.Yteljkjpcjjiidaa
open Go.RowKit
set_option linter.unusedVariables false
set_option maxRecDepth 20000

/-- the number that an entry is -/
def zOf (E : Nat → Bool × List Nat) (j : Nat) : Int := mk (E j).1 (Num.nat (E j).2)
theorem zOf_ok {E : Nat → Bool × List Nat} {j : Nat} (hs : Num.Small (E j).2) (h : entB (E j) = true) : E j = numE (zOf E j) ∧ (lms (zOf E j)).length ≤ 8 := by
  unfold entB at h
  rw [Bool.and_eq_true] at h
  obtain ⟨z, h1, h2, h3⟩ := ok_num hs h.1
  have e : zOf E j = z := by unfold zOf; rw [h1, h2, nat_lms, mk_self]
  rw [e]
  refine ⟨?_, ?_⟩
  · unfold numE; rw [← h1, ← h2]
  · rw [← h2]; exact of_decide_eq_true h.2
theorem BSeg.small {W : World} {X : Nat → Prop} {a : Option Addr} {n cap : Nat} {E : Nat → Bool × List Nat} (h : BSeg W X a n cap E) {j : Nat} (hj : j < n) : Num.Small (E j).2 := by
  rcases h.2.2 with h0 | ⟨g, o, _, _, _, hc⟩
  · omega
  · obtain ⟨b, c, _, _, s, _⟩ := hc j hj
    exact s.2.2.2.1
theorem mat_num {W : World} {X : Nat → Prop} {a : Option Addr} {n cap : Nat} {E : Nat → Bool × List Nat} {R C : Int} (h : BSeg W X a n cap E) (hm : matB R C n E = true) : ∀ j, j < n → E j = numE (zOf E j) ∧ (lms (zOf E j)).length ≤ 8 :=
  fun j hj => zOf_ok (h.small hj) ((matB_iff.1 hm).2.2.2 j hj)
theorem rc_lt {r R c C n : Nat} (hr : r < R) (hc : c < C) (hn : n = R * C) : r * C + c < n := by
  have h6 : r * C + C ≤ R * C := by rw [← Nat.succ_mul]; exact Nat.mul_le_mul_right C hr
  omega
theorem flat_tr (R C i : Nat) (E : Nat → Bool × List Nat) (n : Nat) (hn : n = R * C) (hz : ∀ j, j < n → E j = numE (zOf E j)) (hi : i < C * R) : flat R (fun c r => zOf E (r * C + c)) i = tr R C E i := by
  unfold flat tr trI
  have h0 : 0 < R := by
    rcases Nat.eq_zero_or_pos R with h | h
    · subst h; simp at hi
    · exact h
  refine (hz _ ?_).symm
  have := trI_lt (R := R) (C := C) (i := i) (by rw [Nat.mul_comm]; exact hi)
  unfold trI at this
  omega

set_option maxHeartbeats 4000000 in
set_option maxRecDepth 20000 in
theorem turnS_no (x y : Int) (a : Option Addr) (n cap : Nat) (X : Nat → Prop) (E : Nat → Bool × List Nat) (w : World) (hs : BSeg w X a n cap E) (hn : n ≤ 1048576) (hx : matB x y n E = false) :
    Calls Try.prog 25 #[Value.agg #[Value.int .i64 x, Value.int .i64 y, Value.slice a n cap]] w fun e w' => e = .returned (Value.agg #[Value.int .i64 0, Value.int .i64 0, Value.slice none 0 0]) ∧ Below w.heap.size w w' := by
  have HS := hide hs
  have HX := hide hx
  clear hs hx
  have Xa : Hid (((w.alloc (Obj.cells #[Value.int .i64 x, Value.int .i64 y, Value.slice a n cap] 29)).alloc (Obj.cells #[Value.int .i64 0, Value.int .i64 0, Value.slice none 0 0] 29)).heap[w.heap.size]? = some (.cells #[Value.int .i64 x, Value.int .i64 y, Value.slice a n cap] 29 (0, 0))) := hide (by simpa only [World.size_alloc] using (hnewer (hnew w (Obj.cells #[Value.int .i64 x, Value.int .i64 y, Value.slice a n cap] 29)) (Obj.cells #[Value.int .i64 0, Value.int .i64 0, Value.slice none 0 0] 29)))
  have Xr : Hid (((w.alloc (Obj.cells #[Value.int .i64 x, Value.int .i64 y, Value.slice a n cap] 29)).alloc (Obj.cells #[Value.int .i64 0, Value.int .i64 0, Value.slice none 0 0] 29)).heap[w.heap.size + 1]? = some (.cells #[Value.int .i64 0, Value.int .i64 0, Value.slice none 0 0] 29 (0, 0))) := hide (by simpa only [World.size_alloc] using (hnew (w.alloc (Obj.cells #[Value.int .i64 x, Value.int .i64 y, Value.slice a n cap] 29)) (Obj.cells #[Value.int .i64 0, Value.int .i64 0, Value.slice none 0 0] 29)))
  have HB : Hid (Below w.heap.size w ((w.alloc (Obj.cells #[Value.int .i64 x, Value.int .i64 y, Value.slice a n cap] 29)).alloc (Obj.cells #[Value.int .i64 0, Value.int .i64 0, Value.slice none 0 0] 29))) := hide (bl_alloc (bl_alloc (bl_refl w) (Obj.cells #[Value.int .i64 x, Value.int .i64 y, Value.slice a n cap] 29)) (Obj.cells #[Value.int .i64 0, Value.int .i64 0, Value.slice none 0 0] 29))
  have yw1 : w.heap.size + 2 ≤ ((w.alloc (Obj.cells #[Value.int .i64 x, Value.int .i64 y, Value.slice a n cap] 29)).alloc (Obj.cells #[Value.int .i64 0, Value.int .i64 0, Value.slice none 0 0] 29)).heap.size := by simp only [World.size_alloc]; omega
  have ka0 : ((w.alloc (Obj.cells #[Value.int .i64 x, Value.int .i64 y, Value.slice a n cap] 29)).alloc (Obj.cells #[Value.int .i64 0, Value.int .i64 0, Value.slice none 0 0] 29)).cell? ⟨w.heap.size, 0, none⟩ = some (Value.int .i64 x) := (Lib.cell_of_heap Xa.out 0).trans rfl
  have fa0 : ((w.alloc (Obj.cells #[Value.int .i64 x, Value.int .i64 y, Value.slice a n cap] 29)).alloc (Obj.cells #[Value.int .i64 0, Value.int .i64 0, Value.slice none 0 0] 29)).frozen? ⟨w.heap.size, 0, none⟩ = false := Lib.frozen_of_heap Xa.out 0
  have ka1 : ((w.alloc (Obj.cells #[Value.int .i64 x, Value.int .i64 y, Value.slice a n cap] 29)).alloc (Obj.cells #[Value.int .i64 0, Value.int .i64 0, Value.slice none 0 0] 29)).cell? ⟨w.heap.size, 1, none⟩ = some (Value.int .i64 y) := (Lib.cell_of_heap Xa.out 1).trans rfl
  have fa1 : ((w.alloc (Obj.cells #[Value.int .i64 x, Value.int .i64 y, Value.slice a n cap] 29)).alloc (Obj.cells #[Value.int .i64 0, Value.int .i64 0, Value.slice none 0 0] 29)).frozen? ⟨w.heap.size, 1, none⟩ = false := Lib.frozen_of_heap Xa.out 1
  have ka2 : ((w.alloc (Obj.cells #[Value.int .i64 x, Value.int .i64 y, Value.slice a n cap] 29)).alloc (Obj.cells #[Value.int .i64 0, Value.int .i64 0, Value.slice none 0 0] 29)).cell? ⟨w.heap.size, 2, none⟩ = some (Value.slice a n cap) := (Lib.cell_of_heap Xa.out 2).trans rfl
  have fa2 : ((w.alloc (Obj.cells #[Value.int .i64 x, Value.int .i64 y, Value.slice a n cap] 29)).alloc (Obj.cells #[Value.int .i64 0, Value.int .i64 0, Value.slice none 0 0] 29)).frozen? ⟨w.heap.size, 2, none⟩ = false := Lib.frozen_of_heap Xa.out 2
  have za : w.heap.size < ((w.alloc (Obj.cells #[Value.int .i64 x, Value.int .i64 y, Value.slice a n cap] 29)).alloc (Obj.cells #[Value.int .i64 0, Value.int .i64 0, Value.slice none 0 0] 29)).heap.size := hlt Xa.out
  have kr0 : ((w.alloc (Obj.cells #[Value.int .i64 x, Value.int .i64 y, Value.slice a n cap] 29)).alloc (Obj.cells #[Value.int .i64 0, Value.int .i64 0, Value.slice none 0 0] 29)).cell? ⟨w.heap.size + 1, 0, none⟩ = some (Value.int .i64 0) := (Lib.cell_of_heap Xr.out 0).trans rfl
  have fr0 : ((w.alloc (Obj.cells #[Value.int .i64 x, Value.int .i64 y, Value.slice a n cap] 29)).alloc (Obj.cells #[Value.int .i64 0, Value.int .i64 0, Value.slice none 0 0] 29)).frozen? ⟨w.heap.size + 1, 0, none⟩ = false := Lib.frozen_of_heap Xr.out 0
  have kr1 : ((w.alloc (Obj.cells #[Value.int .i64 x, Value.int .i64 y, Value.slice a n cap] 29)).alloc (Obj.cells #[Value.int .i64 0, Value.int .i64 0, Value.slice none 0 0] 29)).cell? ⟨w.heap.size + 1, 1, none⟩ = some (Value.int .i64 0) := (Lib.cell_of_heap Xr.out 1).trans rfl
  have fr1 : ((w.alloc (Obj.cells #[Value.int .i64 x, Value.int .i64 y, Value.slice a n cap] 29)).alloc (Obj.cells #[Value.int .i64 0, Value.int .i64 0, Value.slice none 0 0] 29)).frozen? ⟨w.heap.size + 1, 1, none⟩ = false := Lib.frozen_of_heap Xr.out 1
  have kr2 : ((w.alloc (Obj.cells #[Value.int .i64 x, Value.int .i64 y, Value.slice a n cap] 29)).alloc (Obj.cells #[Value.int .i64 0, Value.int .i64 0, Value.slice none 0 0] 29)).cell? ⟨w.heap.size + 1, 2, none⟩ = some (Value.slice none 0 0) := (Lib.cell_of_heap Xr.out 2).trans rfl
  have fr2 : ((w.alloc (Obj.cells #[Value.int .i64 x, Value.int .i64 y, Value.slice a n cap] 29)).alloc (Obj.cells #[Value.int .i64 0, Value.int .i64 0, Value.slice none 0 0] 29)).frozen? ⟨w.heap.size + 1, 2, none⟩ = false := Lib.frozen_of_heap Xr.out 2
  have zr : w.heap.size + 1 < ((w.alloc (Obj.cells #[Value.int .i64 x, Value.int .i64 y, Value.slice a n cap] 29)).alloc (Obj.cells #[Value.int .i64 0, Value.int .i64 0, Value.slice none 0 0] 29)).heap.size := hlt Xr.out
  go_enter Try.func25, Try.ntmps25
  go_wp2_with fail
  generalize ((w.alloc (Obj.cells #[Value.int .i64 x, Value.int .i64 y, Value.slice a n cap] 29)).alloc (Obj.cells #[Value.int .i64 0, Value.int .i64 0, Value.slice none 0 0] 29)) = w1 at *
  refine (matOkS x y a n cap X E _ (HS.out.below HB.out) hn).mono ?_
  rintro e w2 ⟨rfl, hb⟩
  have yw2 := hb.size
  clear ka0 fa0 ka1 fa1 ka2 fa2 za
  clear kr0 fr0 kr1 fr1 kr2 fr2 zr
  replace Xa := hide (hbel Xa.out hb (by first | assumption | omega))
  replace Xr := hide (hbel Xr.out hb (by first | assumption | omega))
  replace HB := hide (bl_trans HB.out hb)
  clear hb
  have ka0 : w2.cell? ⟨w.heap.size, 0, none⟩ = some (Value.int .i64 x) := (Lib.cell_of_heap Xa.out 0).trans rfl
  have fa0 : w2.frozen? ⟨w.heap.size, 0, none⟩ = false := Lib.frozen_of_heap Xa.out 0
  have ka1 : w2.cell? ⟨w.heap.size, 1, none⟩ = some (Value.int .i64 y) := (Lib.cell_of_heap Xa.out 1).trans rfl
  have fa1 : w2.frozen? ⟨w.heap.size, 1, none⟩ = false := Lib.frozen_of_heap Xa.out 1
  have ka2 : w2.cell? ⟨w.heap.size, 2, none⟩ = some (Value.slice a n cap) := (Lib.cell_of_heap Xa.out 2).trans rfl
  have fa2 : w2.frozen? ⟨w.heap.size, 2, none⟩ = false := Lib.frozen_of_heap Xa.out 2
  have za : w.heap.size < w2.heap.size := hlt Xa.out
  have kr0 : w2.cell? ⟨w.heap.size + 1, 0, none⟩ = some (Value.int .i64 0) := (Lib.cell_of_heap Xr.out 0).trans rfl
  have fr0 : w2.frozen? ⟨w.heap.size + 1, 0, none⟩ = false := Lib.frozen_of_heap Xr.out 0
  have kr1 : w2.cell? ⟨w.heap.size + 1, 1, none⟩ = some (Value.int .i64 0) := (Lib.cell_of_heap Xr.out 1).trans rfl
  have fr1 : w2.frozen? ⟨w.heap.size + 1, 1, none⟩ = false := Lib.frozen_of_heap Xr.out 1
  have kr2 : w2.cell? ⟨w.heap.size + 1, 2, none⟩ = some (Value.slice none 0 0) := (Lib.cell_of_heap Xr.out 2).trans rfl
  have fr2 : w2.frozen? ⟨w.heap.size + 1, 2, none⟩ = false := Lib.frozen_of_heap Xr.out 2
  have zr : w.heap.size + 1 < w2.heap.size := hlt Xr.out
  rw [HX.out]
  go_wp2
  refine bodyPost_ret (v := Value.agg #[Value.int .i64 0, Value.int .i64 0, Value.slice none 0 0]) (by simp [results, Try.results25, go_sem, kr0, kr1, kr2]) rfl ?_
  exact ⟨rfl, St.below HB.out ((((St.refl (w.heap.size + 1) _).set 0 (.int .i64 0)).set 1 (.int .i64 0)).set 2 (.slice none 0 0)) (by omega)⟩

set_option maxHeartbeats 4000000 in
set_option maxRecDepth 20000 in
theorem turnI_no (x y : Int) (a : Option Addr) (n cap : Nat) (X : Nat → Prop) (E : Nat → Bool × List Nat) (w : World) (hs : BSeg w X a n cap E) (hn : n ≤ 1048576) (hx : matB x y n E = false) :
    Calls Try.prog 26 #[Value.agg #[Value.int .i64 x, Value.int .i64 y, Value.slice a n cap]] w fun e w' => e = .returned (Value.agg #[Value.int .i64 0, Value.int .i64 0, Value.slice none 0 0]) ∧ Below w.heap.size w w' := by
  have HS := hide hs
  have HX := hide hx
  clear hs hx
  have Xa : Hid (((w.alloc (Obj.cells #[Value.int .i64 x, Value.int .i64 y, Value.slice a n cap] 29)).alloc (Obj.cells #[Value.int .i64 0, Value.int .i64 0, Value.slice none 0 0] 29)).heap[w.heap.size]? = some (.cells #[Value.int .i64 x, Value.int .i64 y, Value.slice a n cap] 29 (0, 0))) := hide (by simpa only [World.size_alloc] using (hnewer (hnew w (Obj.cells #[Value.int .i64 x, Value.int .i64 y, Value.slice a n cap] 29)) (Obj.cells #[Value.int .i64 0, Value.int .i64 0, Value.slice none 0 0] 29)))
  have Xr : Hid (((w.alloc (Obj.cells #[Value.int .i64 x, Value.int .i64 y, Value.slice a n cap] 29)).alloc (Obj.cells #[Value.int .i64 0, Value.int .i64 0, Value.slice none 0 0] 29)).heap[w.heap.size + 1]? = some (.cells #[Value.int .i64 0, Value.int .i64 0, Value.slice none 0 0] 29 (0, 0))) := hide (by simpa only [World.size_alloc] using (hnew (w.alloc (Obj.cells #[Value.int .i64 x, Value.int .i64 y, Value.slice a n cap] 29)) (Obj.cells #[Value.int .i64 0, Value.int .i64 0, Value.slice none 0 0] 29)))
  have HB : Hid (Below w.heap.size w ((w.alloc (Obj.cells #[Value.int .i64 x, Value.int .i64 y, Value.slice a n cap] 29)).alloc (Obj.cells #[Value.int .i64 0, Value.int .i64 0, Value.slice none 0 0] 29))) := hide (bl_alloc (bl_alloc (bl_refl w) (Obj.cells #[Value.int .i64 x, Value.int .i64 y, Value.slice a n cap] 29)) (Obj.cells #[Value.int .i64 0, Value.int .i64 0, Value.slice none 0 0] 29))
  have yw1 : w.heap.size + 2 ≤ ((w.alloc (Obj.cells #[Value.int .i64 x, Value.int .i64 y, Value.slice a n cap] 29)).alloc (Obj.cells #[Value.int .i64 0, Value.int .i64 0, Value.slice none 0 0] 29)).heap.size := by simp only [World.size_alloc]; omega
  have ka0 : ((w.alloc (Obj.cells #[Value.int .i64 x, Value.int .i64 y, Value.slice a n cap] 29)).alloc (Obj.cells #[Value.int .i64 0, Value.int .i64 0, Value.slice none 0 0] 29)).cell? ⟨w.heap.size, 0, none⟩ = some (Value.int .i64 x) := (Lib.cell_of_heap Xa.out 0).trans rfl
  have fa0 : ((w.alloc (Obj.cells #[Value.int .i64 x, Value.int .i64 y, Value.slice a n cap] 29)).alloc (Obj.cells #[Value.int .i64 0, Value.int .i64 0, Value.slice none 0 0] 29)).frozen? ⟨w.heap.size, 0, none⟩ = false := Lib.frozen_of_heap Xa.out 0
  have ka1 : ((w.alloc (Obj.cells #[Value.int .i64 x, Value.int .i64 y, Value.slice a n cap] 29)).alloc (Obj.cells #[Value.int .i64 0, Value.int .i64 0, Value.slice none 0 0] 29)).cell? ⟨w.heap.size, 1, none⟩ = some (Value.int .i64 y) := (Lib.cell_of_heap Xa.out 1).trans rfl
  have fa1 : ((w.alloc (Obj.cells #[Value.int .i64 x, Value.int .i64 y, Value.slice a n cap] 29)).alloc (Obj.cells #[Value.int .i64 0, Value.int .i64 0, Value.slice none 0 0] 29)).frozen? ⟨w.heap.size, 1, none⟩ = false := Lib.frozen_of_heap Xa.out 1
  have ka2 : ((w.alloc (Obj.cells #[Value.int .i64 x, Value.int .i64 y, Value.slice a n cap] 29)).alloc (Obj.cells #[Value.int .i64 0, Value.int .i64 0, Value.slice none 0 0] 29)).cell? ⟨w.heap.size, 2, none⟩ = some (Value.slice a n cap) := (Lib.cell_of_heap Xa.out 2).trans rfl
  have fa2 : ((w.alloc (Obj.cells #[Value.int .i64 x, Value.int .i64 y, Value.slice a n cap] 29)).alloc (Obj.cells #[Value.int .i64 0, Value.int .i64 0, Value.slice none 0 0] 29)).frozen? ⟨w.heap.size, 2, none⟩ = false := Lib.frozen_of_heap Xa.out 2
  have za : w.heap.size < ((w.alloc (Obj.cells #[Value.int .i64 x, Value.int .i64 y, Value.slice a n cap] 29)).alloc (Obj.cells #[Value.int .i64 0, Value.int .i64 0, Value.slice none 0 0] 29)).heap.size := hlt Xa.out
  have kr0 : ((w.alloc (Obj.cells #[Value.int .i64 x, Value.int .i64 y, Value.slice a n cap] 29)).alloc (Obj.cells #[Value.int .i64 0, Value.int .i64 0, Value.slice none 0 0] 29)).cell? ⟨w.heap.size + 1, 0, none⟩ = some (Value.int .i64 0) := (Lib.cell_of_heap Xr.out 0).trans rfl
  have fr0 : ((w.alloc (Obj.cells #[Value.int .i64 x, Value.int .i64 y, Value.slice a n cap] 29)).alloc (Obj.cells #[Value.int .i64 0, Value.int .i64 0, Value.slice none 0 0] 29)).frozen? ⟨w.heap.size + 1, 0, none⟩ = false := Lib.frozen_of_heap Xr.out 0
  have kr1 : ((w.alloc (Obj.cells #[Value.int .i64 x, Value.int .i64 y, Value.slice a n cap] 29)).alloc (Obj.cells #[Value.int .i64 0, Value.int .i64 0, Value.slice none 0 0] 29)).cell? ⟨w.heap.size + 1, 1, none⟩ = some (Value.int .i64 0) := (Lib.cell_of_heap Xr.out 1).trans rfl
  have fr1 : ((w.alloc (Obj.cells #[Value.int .i64 x, Value.int .i64 y, Value.slice a n cap] 29)).alloc (Obj.cells #[Value.int .i64 0, Value.int .i64 0, Value.slice none 0 0] 29)).frozen? ⟨w.heap.size + 1, 1, none⟩ = false := Lib.frozen_of_heap Xr.out 1
  have kr2 : ((w.alloc (Obj.cells #[Value.int .i64 x, Value.int .i64 y, Value.slice a n cap] 29)).alloc (Obj.cells #[Value.int .i64 0, Value.int .i64 0, Value.slice none 0 0] 29)).cell? ⟨w.heap.size + 1, 2, none⟩ = some (Value.slice none 0 0) := (Lib.cell_of_heap Xr.out 2).trans rfl
  have fr2 : ((w.alloc (Obj.cells #[Value.int .i64 x, Value.int .i64 y, Value.slice a n cap] 29)).alloc (Obj.cells #[Value.int .i64 0, Value.int .i64 0, Value.slice none 0 0] 29)).frozen? ⟨w.heap.size + 1, 2, none⟩ = false := Lib.frozen_of_heap Xr.out 2
  have zr : w.heap.size + 1 < ((w.alloc (Obj.cells #[Value.int .i64 x, Value.int .i64 y, Value.slice a n cap] 29)).alloc (Obj.cells #[Value.int .i64 0, Value.int .i64 0, Value.slice none 0 0] 29)).heap.size := hlt Xr.out
  go_enter Try.func26, Try.ntmps26
  go_wp2_with fail
  generalize ((w.alloc (Obj.cells #[Value.int .i64 x, Value.int .i64 y, Value.slice a n cap] 29)).alloc (Obj.cells #[Value.int .i64 0, Value.int .i64 0, Value.slice none 0 0] 29)) = w1 at *
  refine (matOkI x y a n cap X E _ (HS.out.below HB.out) hn).mono ?_
  rintro e w2 ⟨rfl, hb⟩
  have yw2 := hb.size
  clear ka0 fa0 ka1 fa1 ka2 fa2 za
  clear kr0 fr0 kr1 fr1 kr2 fr2 zr
  replace Xa := hide (hbel Xa.out hb (by first | assumption | omega))
  replace Xr := hide (hbel Xr.out hb (by first | assumption | omega))
  replace HB := hide (bl_trans HB.out hb)
  clear hb
  have ka0 : w2.cell? ⟨w.heap.size, 0, none⟩ = some (Value.int .i64 x) := (Lib.cell_of_heap Xa.out 0).trans rfl
  have fa0 : w2.frozen? ⟨w.heap.size, 0, none⟩ = false := Lib.frozen_of_heap Xa.out 0
  have ka1 : w2.cell? ⟨w.heap.size, 1, none⟩ = some (Value.int .i64 y) := (Lib.cell_of_heap Xa.out 1).trans rfl
  have fa1 : w2.frozen? ⟨w.heap.size, 1, none⟩ = false := Lib.frozen_of_heap Xa.out 1
  have ka2 : w2.cell? ⟨w.heap.size, 2, none⟩ = some (Value.slice a n cap) := (Lib.cell_of_heap Xa.out 2).trans rfl
  have fa2 : w2.frozen? ⟨w.heap.size, 2, none⟩ = false := Lib.frozen_of_heap Xa.out 2
  have za : w.heap.size < w2.heap.size := hlt Xa.out
  have kr0 : w2.cell? ⟨w.heap.size + 1, 0, none⟩ = some (Value.int .i64 0) := (Lib.cell_of_heap Xr.out 0).trans rfl
  have fr0 : w2.frozen? ⟨w.heap.size + 1, 0, none⟩ = false := Lib.frozen_of_heap Xr.out 0
  have kr1 : w2.cell? ⟨w.heap.size + 1, 1, none⟩ = some (Value.int .i64 0) := (Lib.cell_of_heap Xr.out 1).trans rfl
  have fr1 : w2.frozen? ⟨w.heap.size + 1, 1, none⟩ = false := Lib.frozen_of_heap Xr.out 1
  have kr2 : w2.cell? ⟨w.heap.size + 1, 2, none⟩ = some (Value.slice none 0 0) := (Lib.cell_of_heap Xr.out 2).trans rfl
  have fr2 : w2.frozen? ⟨w.heap.size + 1, 2, none⟩ = false := Lib.frozen_of_heap Xr.out 2
  have zr : w.heap.size + 1 < w2.heap.size := hlt Xr.out
  rw [HX.out]
  go_wp2
  refine bodyPost_ret (v := Value.agg #[Value.int .i64 0, Value.int .i64 0, Value.slice none 0 0]) (by simp [results, Try.results26, go_sem, kr0, kr1, kr2]) rfl ?_
  exact ⟨rfl, St.below HB.out ((((St.refl (w.heap.size + 1) _).set 0 (.int .i64 0)).set 1 (.int .i64 0)).set 2 (.slice none 0 0)) (by omega)⟩

set_option maxHeartbeats 4000000 in
set_option maxRecDepth 20000 in
theorem turnI_yes (R C : Nat) (a : Option Addr) (n cap : Nat) (X : Nat → Prop) (E : Nat → Bool × List Nat) (w : World) (hs : BSeg w X a n cap E) (hx : matB (R : Int) (C : Int) n E = true) (hl : ∀ j, j < n → (E j).2.length ≤ 1048576) :
    Calls Try.prog 26 #[Value.agg #[Value.int .i64 (R : Int), Value.int .i64 (C : Int), Value.slice a n cap]] w fun e w' => ∃ g A, e = .returned (Value.agg #[Value.int .i64 (C : Int), Value.int .i64 (R : Int), Value.slice (some ⟨g, 0, none⟩) (C * R) (C * R)]) ∧ BOwn w' w.heap.size g (C * R) (tr R C E) A ∧ Below w.heap.size w w' := by
  have HS := hide hs
  have HX := hide hx
  obtain ⟨⟨_, h2⟩, ⟨_, h4⟩, h5, _⟩ := matB_iff.1 hx
  have hR : R ≤ 8 := by omega
  have hC : C ≤ 8 := by omega
  have hn : n = R * C := Int.ofNat_inj.1 (by rw [h5]; push_cast; rfl)
  have HN := hide hn
  have HNI := hide h5
  have hn64 : n ≤ 64 := by rw [hn]; exact Nat.mul_le_mul hR hC
  have HL := hide hl
  clear hs hx hn hl h2 h4 h5
  have Xa : Hid (((w.alloc (Obj.cells #[Value.int .i64 (R : Int), Value.int .i64 (C : Int), Value.slice a n cap] 29)).alloc (Obj.cells #[Value.int .i64 0, Value.int .i64 0, Value.slice none 0 0] 29)).heap[w.heap.size]? = some (.cells #[Value.int .i64 (R : Int), Value.int .i64 (C : Int), Value.slice a n cap] 29 (0, 0))) := hide (by simpa only [World.size_alloc] using (hnewer (hnew w (Obj.cells #[Value.int .i64 (R : Int), Value.int .i64 (C : Int), Value.slice a n cap] 29)) (Obj.cells #[Value.int .i64 0, Value.int .i64 0, Value.slice none 0 0] 29)))
  have Xr : Hid (((w.alloc (Obj.cells #[Value.int .i64 (R : Int), Value.int .i64 (C : Int), Value.slice a n cap] 29)).alloc (Obj.cells #[Value.int .i64 0, Value.int .i64 0, Value.slice none 0 0] 29)).heap[w.heap.size + 1]? = some (.cells #[Value.int .i64 0, Value.int .i64 0, Value.slice none 0 0] 29 (0, 0))) := hide (by simpa only [World.size_alloc] using (hnew (w.alloc (Obj.cells #[Value.int .i64 (R : Int), Value.int .i64 (C : Int), Value.slice a n cap] 29)) (Obj.cells #[Value.int .i64 0, Value.int .i64 0, Value.slice none 0 0] 29)))
  have HB : Hid (Below w.heap.size w ((w.alloc (Obj.cells #[Value.int .i64 (R : Int), Value.int .i64 (C : Int), Value.slice a n cap] 29)).alloc (Obj.cells #[Value.int .i64 0, Value.int .i64 0, Value.slice none 0 0] 29))) := hide (bl_alloc (bl_alloc (bl_refl w) (Obj.cells #[Value.int .i64 (R : Int), Value.int .i64 (C : Int), Value.slice a n cap] 29)) (Obj.cells #[Value.int .i64 0, Value.int .i64 0, Value.slice none 0 0] 29))
  have yw1 : w.heap.size + 2 ≤ ((w.alloc (Obj.cells #[Value.int .i64 (R : Int), Value.int .i64 (C : Int), Value.slice a n cap] 29)).alloc (Obj.cells #[Value.int .i64 0, Value.int .i64 0, Value.slice none 0 0] 29)).heap.size := by simp only [World.size_alloc]; omega
  have ka0 : ((w.alloc (Obj.cells #[Value.int .i64 (R : Int), Value.int .i64 (C : Int), Value.slice a n cap] 29)).alloc (Obj.cells #[Value.int .i64 0, Value.int .i64 0, Value.slice none 0 0] 29)).cell? ⟨w.heap.size, 0, none⟩ = some (Value.int .i64 (R : Int)) := (Lib.cell_of_heap Xa.out 0).trans rfl
  have fa0 : ((w.alloc (Obj.cells #[Value.int .i64 (R : Int), Value.int .i64 (C : Int), Value.slice a n cap] 29)).alloc (Obj.cells #[Value.int .i64 0, Value.int .i64 0, Value.slice none 0 0] 29)).frozen? ⟨w.heap.size, 0, none⟩ = false := Lib.frozen_of_heap Xa.out 0
  have ka1 : ((w.alloc (Obj.cells #[Value.int .i64 (R : Int), Value.int .i64 (C : Int), Value.slice a n cap] 29)).alloc (Obj.cells #[Value.int .i64 0, Value.int .i64 0, Value.slice none 0 0] 29)).cell? ⟨w.heap.size, 1, none⟩ = some (Value.int .i64 (C : Int)) := (Lib.cell_of_heap Xa.out 1).trans rfl
  have fa1 : ((w.alloc (Obj.cells #[Value.int .i64 (R : Int), Value.int .i64 (C : Int), Value.slice a n cap] 29)).alloc (Obj.cells #[Value.int .i64 0, Value.int .i64 0, Value.slice none 0 0] 29)).frozen? ⟨w.heap.size, 1, none⟩ = false := Lib.frozen_of_heap Xa.out 1
  have ka2 : ((w.alloc (Obj.cells #[Value.int .i64 (R : Int), Value.int .i64 (C : Int), Value.slice a n cap] 29)).alloc (Obj.cells #[Value.int .i64 0, Value.int .i64 0, Value.slice none 0 0] 29)).cell? ⟨w.heap.size, 2, none⟩ = some (Value.slice a n cap) := (Lib.cell_of_heap Xa.out 2).trans rfl
  have fa2 : ((w.alloc (Obj.cells #[Value.int .i64 (R : Int), Value.int .i64 (C : Int), Value.slice a n cap] 29)).alloc (Obj.cells #[Value.int .i64 0, Value.int .i64 0, Value.slice none 0 0] 29)).frozen? ⟨w.heap.size, 2, none⟩ = false := Lib.frozen_of_heap Xa.out 2
  have za : w.heap.size < ((w.alloc (Obj.cells #[Value.int .i64 (R : Int), Value.int .i64 (C : Int), Value.slice a n cap] 29)).alloc (Obj.cells #[Value.int .i64 0, Value.int .i64 0, Value.slice none 0 0] 29)).heap.size := hlt Xa.out
  have kr0 : ((w.alloc (Obj.cells #[Value.int .i64 (R : Int), Value.int .i64 (C : Int), Value.slice a n cap] 29)).alloc (Obj.cells #[Value.int .i64 0, Value.int .i64 0, Value.slice none 0 0] 29)).cell? ⟨w.heap.size + 1, 0, none⟩ = some (Value.int .i64 0) := (Lib.cell_of_heap Xr.out 0).trans rfl
  have fr0 : ((w.alloc (Obj.cells #[Value.int .i64 (R : Int), Value.int .i64 (C : Int), Value.slice a n cap] 29)).alloc (Obj.cells #[Value.int .i64 0, Value.int .i64 0, Value.slice none 0 0] 29)).frozen? ⟨w.heap.size + 1, 0, none⟩ = false := Lib.frozen_of_heap Xr.out 0
  have kr1 : ((w.alloc (Obj.cells #[Value.int .i64 (R : Int), Value.int .i64 (C : Int), Value.slice a n cap] 29)).alloc (Obj.cells #[Value.int .i64 0, Value.int .i64 0, Value.slice none 0 0] 29)).cell? ⟨w.heap.size + 1, 1, none⟩ = some (Value.int .i64 0) := (Lib.cell_of_heap Xr.out 1).trans rfl
  have fr1 : ((w.alloc (Obj.cells #[Value.int .i64 (R : Int), Value.int .i64 (C : Int), Value.slice a n cap] 29)).alloc (Obj.cells #[Value.int .i64 0, Value.int .i64 0, Value.slice none 0 0] 29)).frozen? ⟨w.heap.size + 1, 1, none⟩ = false := Lib.frozen_of_heap Xr.out 1
  have kr2 : ((w.alloc (Obj.cells #[Value.int .i64 (R : Int), Value.int .i64 (C : Int), Value.slice a n cap] 29)).alloc (Obj.cells #[Value.int .i64 0, Value.int .i64 0, Value.slice none 0 0] 29)).cell? ⟨w.heap.size + 1, 2, none⟩ = some (Value.slice none 0 0) := (Lib.cell_of_heap Xr.out 2).trans rfl
  have fr2 : ((w.alloc (Obj.cells #[Value.int .i64 (R : Int), Value.int .i64 (C : Int), Value.slice a n cap] 29)).alloc (Obj.cells #[Value.int .i64 0, Value.int .i64 0, Value.slice none 0 0] 29)).frozen? ⟨w.heap.size + 1, 2, none⟩ = false := Lib.frozen_of_heap Xr.out 2
  have zr : w.heap.size + 1 < ((w.alloc (Obj.cells #[Value.int .i64 (R : Int), Value.int .i64 (C : Int), Value.slice a n cap] 29)).alloc (Obj.cells #[Value.int .i64 0, Value.int .i64 0, Value.slice none 0 0] 29)).heap.size := hlt Xr.out
  go_enter Try.func26, Try.ntmps26
  go_wp2_with fail
  generalize ((w.alloc (Obj.cells #[Value.int .i64 (R : Int), Value.int .i64 (C : Int), Value.slice a n cap] 29)).alloc (Obj.cells #[Value.int .i64 0, Value.int .i64 0, Value.slice none 0 0] 29)) = w1 at *
  refine (matOkI (R : Int) (C : Int) a n cap X E _ (HS.out.below HB.out) (by omega)).mono ?_
  rintro e w2 ⟨rfl, hb⟩
  have yw2 := hb.size
  clear ka0 fa0 ka1 fa1 ka2 fa2 za
  clear kr0 fr0 kr1 fr1 kr2 fr2 zr
  replace Xa := hide (hbel Xa.out hb (by first | assumption | omega))
  replace Xr := hide (hbel Xr.out hb (by first | assumption | omega))
  replace HB := hide (bl_trans HB.out hb)
  clear hb
  have ka0 : w2.cell? ⟨w.heap.size, 0, none⟩ = some (Value.int .i64 (R : Int)) := (Lib.cell_of_heap Xa.out 0).trans rfl
  have fa0 : w2.frozen? ⟨w.heap.size, 0, none⟩ = false := Lib.frozen_of_heap Xa.out 0
  have ka1 : w2.cell? ⟨w.heap.size, 1, none⟩ = some (Value.int .i64 (C : Int)) := (Lib.cell_of_heap Xa.out 1).trans rfl
  have fa1 : w2.frozen? ⟨w.heap.size, 1, none⟩ = false := Lib.frozen_of_heap Xa.out 1
  have ka2 : w2.cell? ⟨w.heap.size, 2, none⟩ = some (Value.slice a n cap) := (Lib.cell_of_heap Xa.out 2).trans rfl
  have fa2 : w2.frozen? ⟨w.heap.size, 2, none⟩ = false := Lib.frozen_of_heap Xa.out 2
  have za : w.heap.size < w2.heap.size := hlt Xa.out
  have kr0 : w2.cell? ⟨w.heap.size + 1, 0, none⟩ = some (Value.int .i64 0) := (Lib.cell_of_heap Xr.out 0).trans rfl
  have fr0 : w2.frozen? ⟨w.heap.size + 1, 0, none⟩ = false := Lib.frozen_of_heap Xr.out 0
  have kr1 : w2.cell? ⟨w.heap.size + 1, 1, none⟩ = some (Value.int .i64 0) := (Lib.cell_of_heap Xr.out 1).trans rfl
  have fr1 : w2.frozen? ⟨w.heap.size + 1, 1, none⟩ = false := Lib.frozen_of_heap Xr.out 1
  have kr2 : w2.cell? ⟨w.heap.size + 1, 2, none⟩ = some (Value.slice none 0 0) := (Lib.cell_of_heap Xr.out 2).trans rfl
  have fr2 : w2.frozen? ⟨w.heap.size + 1, 2, none⟩ = false := Lib.frozen_of_heap Xr.out 2
  have zr : w.heap.size + 1 < w2.heap.size := hlt Xr.out
  rw [HX.out]
  go_wp2_with fail
  refine (copyGrid (R : Int) (C : Int) a n cap X E _ (HS.out.below HB.out) ⟨by omega, by omega⟩ ⟨by omega, by omega⟩ HNI.out HL.out).mono ?_
  rintro e w3 ⟨g0, A0, rfl, ho, hb⟩
  have yw3 := hb.size
  clear ka0 fa0 ka1 fa1 ka2 fa2 za
  clear kr0 fr0 kr1 fr1 kr2 fr2 zr
  replace Xa := hide (hbel Xa.out hb (by first | assumption | omega))
  replace Xr := hide (hbel Xr.out hb (by first | assumption | omega))
  replace HB := hide (bl_trans HB.out hb)
  clear hb
  have O1 := hide ho
  clear ho
  have ka0 : w3.cell? ⟨w.heap.size, 0, none⟩ = some (Value.int .i64 (R : Int)) := (Lib.cell_of_heap Xa.out 0).trans rfl
  have fa0 : w3.frozen? ⟨w.heap.size, 0, none⟩ = false := Lib.frozen_of_heap Xa.out 0
  have ka1 : w3.cell? ⟨w.heap.size, 1, none⟩ = some (Value.int .i64 (C : Int)) := (Lib.cell_of_heap Xa.out 1).trans rfl
  have fa1 : w3.frozen? ⟨w.heap.size, 1, none⟩ = false := Lib.frozen_of_heap Xa.out 1
  have ka2 : w3.cell? ⟨w.heap.size, 2, none⟩ = some (Value.slice a n cap) := (Lib.cell_of_heap Xa.out 2).trans rfl
  have fa2 : w3.frozen? ⟨w.heap.size, 2, none⟩ = false := Lib.frozen_of_heap Xa.out 2
  have za : w.heap.size < w3.heap.size := hlt Xa.out
  have kr0 : w3.cell? ⟨w.heap.size + 1, 0, none⟩ = some (Value.int .i64 0) := (Lib.cell_of_heap Xr.out 0).trans rfl
  have fr0 : w3.frozen? ⟨w.heap.size + 1, 0, none⟩ = false := Lib.frozen_of_heap Xr.out 0
  have kr1 : w3.cell? ⟨w.heap.size + 1, 1, none⟩ = some (Value.int .i64 0) := (Lib.cell_of_heap Xr.out 1).trans rfl
  have fr1 : w3.frozen? ⟨w.heap.size + 1, 1, none⟩ = false := Lib.frozen_of_heap Xr.out 1
  have kr2 : w3.cell? ⟨w.heap.size + 1, 2, none⟩ = some (Value.slice none 0 0) := (Lib.cell_of_heap Xr.out 2).trans rfl
  have fr2 : w3.frozen? ⟨w.heap.size + 1, 2, none⟩ = false := Lib.frozen_of_heap Xr.out 2
  have zr : w.heap.size + 1 < w3.heap.size := hlt Xr.out
  go_wp2_with fail
  have OC := O1
  refine (turnedB R C _ n n _ E A0 _ O1.out.addr hR hC HN.out).mono ?_
  rintro e w4 ⟨g, rfl, hly, hb⟩
  have HBT := hide hb
  have yw4 := hb.size
  clear ka0 fa0 ka1 fa1 ka2 fa2 za
  clear kr0 fr0 kr1 fr1 kr2 fr2 zr
  replace Xa := hide (hbel Xa.out hb (by first | assumption | omega))
  replace Xr := hide (hbel Xr.out hb (by first | assumption | omega))
  replace O1 := hide (O1.out.below hb)
  replace HB := hide (bl_trans HB.out hb)
  clear hb
  have ka0 : w4.cell? ⟨w.heap.size, 0, none⟩ = some (Value.int .i64 (R : Int)) := (Lib.cell_of_heap Xa.out 0).trans rfl
  have fa0 : w4.frozen? ⟨w.heap.size, 0, none⟩ = false := Lib.frozen_of_heap Xa.out 0
  have ka1 : w4.cell? ⟨w.heap.size, 1, none⟩ = some (Value.int .i64 (C : Int)) := (Lib.cell_of_heap Xa.out 1).trans rfl
  have fa1 : w4.frozen? ⟨w.heap.size, 1, none⟩ = false := Lib.frozen_of_heap Xa.out 1
  have ka2 : w4.cell? ⟨w.heap.size, 2, none⟩ = some (Value.slice a n cap) := (Lib.cell_of_heap Xa.out 2).trans rfl
  have fa2 : w4.frozen? ⟨w.heap.size, 2, none⟩ = false := Lib.frozen_of_heap Xa.out 2
  have za : w.heap.size < w4.heap.size := hlt Xa.out
  have kr0 : w4.cell? ⟨w.heap.size + 1, 0, none⟩ = some (Value.int .i64 0) := (Lib.cell_of_heap Xr.out 0).trans rfl
  have fr0 : w4.frozen? ⟨w.heap.size + 1, 0, none⟩ = false := Lib.frozen_of_heap Xr.out 0
  have kr1 : w4.cell? ⟨w.heap.size + 1, 1, none⟩ = some (Value.int .i64 0) := (Lib.cell_of_heap Xr.out 1).trans rfl
  have fr1 : w4.frozen? ⟨w.heap.size + 1, 1, none⟩ = false := Lib.frozen_of_heap Xr.out 1
  have kr2 : w4.cell? ⟨w.heap.size + 1, 2, none⟩ = some (Value.slice none 0 0) := (Lib.cell_of_heap Xr.out 2).trans rfl
  have fr2 : w4.frozen? ⟨w.heap.size + 1, 2, none⟩ = false := Lib.frozen_of_heap Xr.out 2
  have zr : w.heap.size + 1 < w4.heap.size := hlt Xr.out
  have hown := BLay.own hly (by have := OC.out; rw [HN.out] at this; exact this) HBT.out (by have h1 := OC.out.1; have h2 := OC.out.lt; omega) hly.1
  have O2 := hide hown
  clear hown hly HBT OC O1
  go_wp2
  obtain ⟨w5, ew5⟩ : ∃ x, x = (((w4.setCell ⟨w.heap.size + 1, 0, none⟩ (Value.int .i64 (C : Int))).setCell ⟨w.heap.size + 1, 1, none⟩ (Value.int .i64 (R : Int))).setCell ⟨w.heap.size + 1, 2, none⟩ (Value.slice (some ⟨g, 0, none⟩) (C * R) (C * R))) := ⟨_, rfl⟩
  have hst : St (w.heap.size + 1) w4 w5 := by rw [ew5]; exact ((((St.refl (w.heap.size + 1) w4).set 0 (Value.int .i64 (C : Int))).set 1 (Value.int .i64 (R : Int))).set 2 (Value.slice (some ⟨g, 0, none⟩) (C * R) (C * R)))
  rw [← ew5]
  have XX : Hid (w5.heap[w.heap.size + 1]? = some (.cells #[Value.int .i64 (C : Int), Value.int .i64 (R : Int), Value.slice (some ⟨g, 0, none⟩) (C * R) (C * R)] 29 (0, 0))) := hide (by rw [ew5]; exact (hset (hset (hset Xr.out 0 (Value.int .i64 (C : Int))) 1 (Value.int .i64 (R : Int))) 2 (Value.slice (some ⟨g, 0, none⟩) (C * R) (C * R))))
  have yw5 : w4.heap.size ≤ w5.heap.size := Nat.le_of_eq hst.size.symm
  clear ew5
  clear ka0 fa0 ka1 fa1 ka2 fa2 za
  clear kr0 fr0 kr1 fr1 kr2 fr2 zr
  replace Xa := hide (hst.heap Xa.out (by omega))
  replace O2 := hide (BOwn.st O2.out hst (by omega))
  replace HB := hide (St.below HB.out hst (by omega))
  have Xr := XX
  clear XX hst
  have ka0 : w5.cell? ⟨w.heap.size, 0, none⟩ = some (Value.int .i64 (R : Int)) := (Lib.cell_of_heap Xa.out 0).trans rfl
  have fa0 : w5.frozen? ⟨w.heap.size, 0, none⟩ = false := Lib.frozen_of_heap Xa.out 0
  have ka1 : w5.cell? ⟨w.heap.size, 1, none⟩ = some (Value.int .i64 (C : Int)) := (Lib.cell_of_heap Xa.out 1).trans rfl
  have fa1 : w5.frozen? ⟨w.heap.size, 1, none⟩ = false := Lib.frozen_of_heap Xa.out 1
  have ka2 : w5.cell? ⟨w.heap.size, 2, none⟩ = some (Value.slice a n cap) := (Lib.cell_of_heap Xa.out 2).trans rfl
  have fa2 : w5.frozen? ⟨w.heap.size, 2, none⟩ = false := Lib.frozen_of_heap Xa.out 2
  have za : w.heap.size < w5.heap.size := hlt Xa.out
  have kr0 : w5.cell? ⟨w.heap.size + 1, 0, none⟩ = some (Value.int .i64 (C : Int)) := (Lib.cell_of_heap Xr.out 0).trans rfl
  have fr0 : w5.frozen? ⟨w.heap.size + 1, 0, none⟩ = false := Lib.frozen_of_heap Xr.out 0
  have kr1 : w5.cell? ⟨w.heap.size + 1, 1, none⟩ = some (Value.int .i64 (R : Int)) := (Lib.cell_of_heap Xr.out 1).trans rfl
  have fr1 : w5.frozen? ⟨w.heap.size + 1, 1, none⟩ = false := Lib.frozen_of_heap Xr.out 1
  have kr2 : w5.cell? ⟨w.heap.size + 1, 2, none⟩ = some (Value.slice (some ⟨g, 0, none⟩) (C * R) (C * R)) := (Lib.cell_of_heap Xr.out 2).trans rfl
  have fr2 : w5.frozen? ⟨w.heap.size + 1, 2, none⟩ = false := Lib.frozen_of_heap Xr.out 2
  have zr : w.heap.size + 1 < w5.heap.size := hlt Xr.out
  refine bodyPost_ret (v := Value.agg #[Value.int .i64 (C : Int), Value.int .i64 (R : Int), Value.slice (some ⟨g, 0, none⟩) (C * R) (C * R)]) (by simp [results, Try.results26, go_sem, kr0, kr1, kr2]) rfl ?_
  exact ⟨g, tr R C A0, rfl, O2.out.mono (by omega), HB.out⟩

set_option maxHeartbeats 4000000 in
set_option maxRecDepth 20000 in
theorem turnS_yes (R C : Nat) (a : Option Addr) (n cap : Nat) (X : Nat → Prop) (E : Nat → Bool × List Nat) (w : World) (hs : BSeg w X a n cap E) (hx : matB (R : Int) (C : Int) n E = true) :
    Calls Try.prog 25 #[Value.agg #[Value.int .i64 (R : Int), Value.int .i64 (C : Int), Value.slice a n cap]] w fun e w' => ∃ a5 p5, e = .returned (Value.agg #[Value.int .i64 (C : Int), Value.int .i64 (R : Int), Value.slice a5 (C * R) p5]) ∧ BSeg w' (fun b => w.heap.size ≤ b ∧ b < w'.heap.size) a5 (C * R) p5 (tr R C E) ∧ Below w.heap.size w w' := by
  have HS := hide hs
  have HX := hide hx
  have hzz := mat_num hs hx
  have HZZ := hide hzz
  have HSZ := hide (hs.congr (fun j hj => (hzz j hj).1))
  obtain ⟨⟨_, h2⟩, ⟨_, h4⟩, h5, _⟩ := matB_iff.1 hx
  have hR : R ≤ 8 := by omega
  have hC : C ≤ 8 := by omega
  have hn : n = R * C := Int.ofNat_inj.1 (by rw [h5]; push_cast; rfl)
  have HN := hide hn
  have hn64 : n ≤ 64 := by rw [hn]; exact Nat.mul_le_mul hR hC
  have HLZ : Hid (∀ j, j < n → (lms (zOf E j)).length ≤ 1048576) := hide (fun j hj => Nat.le_trans (hzz j hj).2 (by decide))
  have HLZ2 : Hid (∀ c r, c < C → r < R → (lms (zOf E (r * C + c))).length ≤ 1048576) := hide (fun c r hc hr => HLZ.out _ (rc_lt hr hc HN.out))
  clear hs hx hn h2 h4 h5 hzz
  have Xa : Hid (((w.alloc (Obj.cells #[Value.int .i64 (R : Int), Value.int .i64 (C : Int), Value.slice a n cap] 29)).alloc (Obj.cells #[Value.int .i64 0, Value.int .i64 0, Value.slice none 0 0] 29)).heap[w.heap.size]? = some (.cells #[Value.int .i64 (R : Int), Value.int .i64 (C : Int), Value.slice a n cap] 29 (0, 0))) := hide (by simpa only [World.size_alloc] using (hnewer (hnew w (Obj.cells #[Value.int .i64 (R : Int), Value.int .i64 (C : Int), Value.slice a n cap] 29)) (Obj.cells #[Value.int .i64 0, Value.int .i64 0, Value.slice none 0 0] 29)))
  have Xr : Hid (((w.alloc (Obj.cells #[Value.int .i64 (R : Int), Value.int .i64 (C : Int), Value.slice a n cap] 29)).alloc (Obj.cells #[Value.int .i64 0, Value.int .i64 0, Value.slice none 0 0] 29)).heap[w.heap.size + 1]? = some (.cells #[Value.int .i64 0, Value.int .i64 0, Value.slice none 0 0] 29 (0, 0))) := hide (by simpa only [World.size_alloc] using (hnew (w.alloc (Obj.cells #[Value.int .i64 (R : Int), Value.int .i64 (C : Int), Value.slice a n cap] 29)) (Obj.cells #[Value.int .i64 0, Value.int .i64 0, Value.slice none 0 0] 29)))
  have HB : Hid (Below w.heap.size w ((w.alloc (Obj.cells #[Value.int .i64 (R : Int), Value.int .i64 (C : Int), Value.slice a n cap] 29)).alloc (Obj.cells #[Value.int .i64 0, Value.int .i64 0, Value.slice none 0 0] 29))) := hide (bl_alloc (bl_alloc (bl_refl w) (Obj.cells #[Value.int .i64 (R : Int), Value.int .i64 (C : Int), Value.slice a n cap] 29)) (Obj.cells #[Value.int .i64 0, Value.int .i64 0, Value.slice none 0 0] 29))
  have yw1 : w.heap.size + 2 ≤ ((w.alloc (Obj.cells #[Value.int .i64 (R : Int), Value.int .i64 (C : Int), Value.slice a n cap] 29)).alloc (Obj.cells #[Value.int .i64 0, Value.int .i64 0, Value.slice none 0 0] 29)).heap.size := by simp only [World.size_alloc]; omega
  have ka0 : ((w.alloc (Obj.cells #[Value.int .i64 (R : Int), Value.int .i64 (C : Int), Value.slice a n cap] 29)).alloc (Obj.cells #[Value.int .i64 0, Value.int .i64 0, Value.slice none 0 0] 29)).cell? ⟨w.heap.size, 0, none⟩ = some (Value.int .i64 (R : Int)) := (Lib.cell_of_heap Xa.out 0).trans rfl
  have fa0 : ((w.alloc (Obj.cells #[Value.int .i64 (R : Int), Value.int .i64 (C : Int), Value.slice a n cap] 29)).alloc (Obj.cells #[Value.int .i64 0, Value.int .i64 0, Value.slice none 0 0] 29)).frozen? ⟨w.heap.size, 0, none⟩ = false := Lib.frozen_of_heap Xa.out 0
  have ka1 : ((w.alloc (Obj.cells #[Value.int .i64 (R : Int), Value.int .i64 (C : Int), Value.slice a n cap] 29)).alloc (Obj.cells #[Value.int .i64 0, Value.int .i64 0, Value.slice none 0 0] 29)).cell? ⟨w.heap.size, 1, none⟩ = some (Value.int .i64 (C : Int)) := (Lib.cell_of_heap Xa.out 1).trans rfl
  have fa1 : ((w.alloc (Obj.cells #[Value.int .i64 (R : Int), Value.int .i64 (C : Int), Value.slice a n cap] 29)).alloc (Obj.cells #[Value.int .i64 0, Value.int .i64 0, Value.slice none 0 0] 29)).frozen? ⟨w.heap.size, 1, none⟩ = false := Lib.frozen_of_heap Xa.out 1
  have ka2 : ((w.alloc (Obj.cells #[Value.int .i64 (R : Int), Value.int .i64 (C : Int), Value.slice a n cap] 29)).alloc (Obj.cells #[Value.int .i64 0, Value.int .i64 0, Value.slice none 0 0] 29)).cell? ⟨w.heap.size, 2, none⟩ = some (Value.slice a n cap) := (Lib.cell_of_heap Xa.out 2).trans rfl
  have fa2 : ((w.alloc (Obj.cells #[Value.int .i64 (R : Int), Value.int .i64 (C : Int), Value.slice a n cap] 29)).alloc (Obj.cells #[Value.int .i64 0, Value.int .i64 0, Value.slice none 0 0] 29)).frozen? ⟨w.heap.size, 2, none⟩ = false := Lib.frozen_of_heap Xa.out 2
  have za : w.heap.size < ((w.alloc (Obj.cells #[Value.int .i64 (R : Int), Value.int .i64 (C : Int), Value.slice a n cap] 29)).alloc (Obj.cells #[Value.int .i64 0, Value.int .i64 0, Value.slice none 0 0] 29)).heap.size := hlt Xa.out
  have kr0 : ((w.alloc (Obj.cells #[Value.int .i64 (R : Int), Value.int .i64 (C : Int), Value.slice a n cap] 29)).alloc (Obj.cells #[Value.int .i64 0, Value.int .i64 0, Value.slice none 0 0] 29)).cell? ⟨w.heap.size + 1, 0, none⟩ = some (Value.int .i64 0) := (Lib.cell_of_heap Xr.out 0).trans rfl
  have fr0 : ((w.alloc (Obj.cells #[Value.int .i64 (R : Int), Value.int .i64 (C : Int), Value.slice a n cap] 29)).alloc (Obj.cells #[Value.int .i64 0, Value.int .i64 0, Value.slice none 0 0] 29)).frozen? ⟨w.heap.size + 1, 0, none⟩ = false := Lib.frozen_of_heap Xr.out 0
  have kr1 : ((w.alloc (Obj.cells #[Value.int .i64 (R : Int), Value.int .i64 (C : Int), Value.slice a n cap] 29)).alloc (Obj.cells #[Value.int .i64 0, Value.int .i64 0, Value.slice none 0 0] 29)).cell? ⟨w.heap.size + 1, 1, none⟩ = some (Value.int .i64 0) := (Lib.cell_of_heap Xr.out 1).trans rfl
  have fr1 : ((w.alloc (Obj.cells #[Value.int .i64 (R : Int), Value.int .i64 (C : Int), Value.slice a n cap] 29)).alloc (Obj.cells #[Value.int .i64 0, Value.int .i64 0, Value.slice none 0 0] 29)).frozen? ⟨w.heap.size + 1, 1, none⟩ = false := Lib.frozen_of_heap Xr.out 1
  have kr2 : ((w.alloc (Obj.cells #[Value.int .i64 (R : Int), Value.int .i64 (C : Int), Value.slice a n cap] 29)).alloc (Obj.cells #[Value.int .i64 0, Value.int .i64 0, Value.slice none 0 0] 29)).cell? ⟨w.heap.size + 1, 2, none⟩ = some (Value.slice none 0 0) := (Lib.cell_of_heap Xr.out 2).trans rfl
  have fr2 : ((w.alloc (Obj.cells #[Value.int .i64 (R : Int), Value.int .i64 (C : Int), Value.slice a n cap] 29)).alloc (Obj.cells #[Value.int .i64 0, Value.int .i64 0, Value.slice none 0 0] 29)).frozen? ⟨w.heap.size + 1, 2, none⟩ = false := Lib.frozen_of_heap Xr.out 2
  have zr : w.heap.size + 1 < ((w.alloc (Obj.cells #[Value.int .i64 (R : Int), Value.int .i64 (C : Int), Value.slice a n cap] 29)).alloc (Obj.cells #[Value.int .i64 0, Value.int .i64 0, Value.slice none 0 0] 29)).heap.size := hlt Xr.out
  go_enter Try.func25, Try.ntmps25
  go_wp2_with fail
  generalize ((w.alloc (Obj.cells #[Value.int .i64 (R : Int), Value.int .i64 (C : Int), Value.slice a n cap] 29)).alloc (Obj.cells #[Value.int .i64 0, Value.int .i64 0, Value.slice none 0 0] 29)) = w1 at *
  refine (matOkS (R : Int) (C : Int) a n cap X E _ (HS.out.below HB.out) (by omega)).mono ?_
  rintro e w2 ⟨rfl, hb⟩
  have yw2 := hb.size
  clear ka0 fa0 ka1 fa1 ka2 fa2 za
  clear kr0 fr0 kr1 fr1 kr2 fr2 zr
  replace Xa := hide (hbel Xa.out hb (by first | assumption | omega))
  replace Xr := hide (hbel Xr.out hb (by first | assumption | omega))
  replace HB := hide (bl_trans HB.out hb)
  clear hb
  have ka0 : w2.cell? ⟨w.heap.size, 0, none⟩ = some (Value.int .i64 (R : Int)) := (Lib.cell_of_heap Xa.out 0).trans rfl
  have fa0 : w2.frozen? ⟨w.heap.size, 0, none⟩ = false := Lib.frozen_of_heap Xa.out 0
  have ka1 : w2.cell? ⟨w.heap.size, 1, none⟩ = some (Value.int .i64 (C : Int)) := (Lib.cell_of_heap Xa.out 1).trans rfl
  have fa1 : w2.frozen? ⟨w.heap.size, 1, none⟩ = false := Lib.frozen_of_heap Xa.out 1
  have ka2 : w2.cell? ⟨w.heap.size, 2, none⟩ = some (Value.slice a n cap) := (Lib.cell_of_heap Xa.out 2).trans rfl
  have fa2 : w2.frozen? ⟨w.heap.size, 2, none⟩ = false := Lib.frozen_of_heap Xa.out 2
  have za : w.heap.size < w2.heap.size := hlt Xa.out
  have kr0 : w2.cell? ⟨w.heap.size + 1, 0, none⟩ = some (Value.int .i64 0) := (Lib.cell_of_heap Xr.out 0).trans rfl
  have fr0 : w2.frozen? ⟨w.heap.size + 1, 0, none⟩ = false := Lib.frozen_of_heap Xr.out 0
  have kr1 : w2.cell? ⟨w.heap.size + 1, 1, none⟩ = some (Value.int .i64 0) := (Lib.cell_of_heap Xr.out 1).trans rfl
  have fr1 : w2.frozen? ⟨w.heap.size + 1, 1, none⟩ = false := Lib.frozen_of_heap Xr.out 1
  have kr2 : w2.cell? ⟨w.heap.size + 1, 2, none⟩ = some (Value.slice none 0 0) := (Lib.cell_of_heap Xr.out 2).trans rfl
  have fr2 : w2.frozen? ⟨w.heap.size + 1, 2, none⟩ = false := Lib.frozen_of_heap Xr.out 2
  have zr : w.heap.size + 1 < w2.heap.size := hlt Xr.out
  rw [HX.out]
  go_wp2_with fail
  have KP : Hid (∀ w', Chg (fun q => q = w.heap.size + 1) w2 w' → (w'.cell? ⟨w.heap.size, 0, none⟩ = some (Value.int .i64 (R : Int)) ∧ w'.cell? ⟨w.heap.size, 1, none⟩ = some (Value.int .i64 (C : Int)) ∧ w'.cell? ⟨w.heap.size, 2, none⟩ = some (Value.slice a n cap))) := hide (fun w' h => ⟨(Lib.cell_of_heap (h.heap Xa.out (by omega)) 0).trans rfl, (Lib.cell_of_heap (h.heap Xa.out (by omega)) 1).trans rfl, (Lib.cell_of_heap (h.heap Xa.out (by omega)) 2).trans rfl⟩)
  have HSW := hide (HSZ.out.below (HB.out.drew))
  go_region_held3 (fun w' => w'.cell? ⟨w.heap.size, 0, none⟩ = some (Value.int .i64 (R : Int)) ∧ w'.cell? ⟨w.heap.size, 1, none⟩ = some (Value.int .i64 (C : Int)) ∧ w'.cell? ⟨w.heap.size, 2, none⟩ = some (Value.slice a n cap))
    (first
      | exact KP.out _ (Chg.refl _ _).drew
      | exact KP.out _ hc3
      | exact KP.out _ hc4
      | exact KP.out _ hc5
      | exact KP.out _ (((hc5.set rfl _).set rfl _).set rfl _))
    (first
      | (go_at_call 53; refine (rowsS R C a n cap X (zOf E) _ HSW.out hR hC HN.out HLZ.out).mono ?_; rintro e w3 ⟨a3, p3, rfl, hs3, hb3'⟩; have hb3 : Below w2.heap.size w2 w3 := (bl_refl w2).drew.trans hb3'; have hc3 : Chg (fun q => q = w.heap.size + 1) w2 w3 := Chg.below hb3; have HS3 := hide hs3; have hz3 := hb3'.size; clear hs3 hb3')
      | (go_at_call 52; refine (turnRowsS R C a3 p3 w2.drew.heap.size (rowF C (zOf E)) _ HS3.out hR hC hz3).mono ?_; rintro e w4 ⟨a4, p4, rfl, hs4, hb4'⟩; have hb4 : Below w2.heap.size w2 w4 := bl_trans hb3 hb4'; have hc4 : Chg (fun q => q = w.heap.size + 1) w2 w4 := Chg.below hb4; have HS4 : Hid (RSegs w4 (fun b => w2.drew.heap.size ≤ b ∧ b < w4.heap.size) a4 C p4 R (fun c r => numE (zOf E (r * C + c)))) := hide hs4; clear hs4 hb4')
      | (go_at_call 49; refine (matS a4 C p4 R _ (fun c r => zOf E (r * C + c)) _ HS4.out hC hR HLZ2.out).mono ?_; rintro e w5 ⟨a5, p5, rfl, hs5, hb5'⟩; have hb5 : Below w2.heap.size w2 w5 := bl_trans hb4 hb5'; have hc5 : Chg (fun q => q = w.heap.size + 1) w2 w5 := Chg.below hb5; have HS5 := hide hs5; have hz4 := hb4.size; have X5 := hide (hbel Xr.out hb5 zr); have q0 := (Lib.cell_of_heap X5.out 0).trans (show _ = some (Value.int .i64 0) from rfl); have q1 := (Lib.cell_of_heap X5.out 1).trans (show _ = some (Value.int .i64 0) from rfl); have q2 := (Lib.cell_of_heap X5.out 2).trans (show _ = some (Value.slice none 0 0) from rfl); have g0 := Lib.frozen_of_heap X5.out 0; have g1 := Lib.frozen_of_heap X5.out 1; have g2 := Lib.frozen_of_heap X5.out 2; clear hs5 hb5'))
  all_goals go_wp2
  all_goals refine bodyPost_ret (v := Value.agg #[Value.int .i64 (C : Int), Value.int .i64 (R : Int), Value.slice a5 (C * R) p5]) (by simp [results, Try.results25, go_sem, *]) rfl ?_
  all_goals have hst := (((St.refl (w.heap.size + 1) w5).set 0 (.int .i64 (C : Int))).set 1 (.int .i64 (R : Int))).set 2 (.slice a5 (C * R) p5)
  all_goals exact ⟨a5, p5, rfl, ((HS5.out.chg (P := (fun q => q = w.heap.size + 1)) (Chg.grown hst.grown (fun k e => by cases e; rfl)) (fun b hb e => by omega)).mono (fun b hb => by have := hst.size; omega)).congr (fun i hi => flat_tr R C i E n HN.out (fun j hj => (HZZ.out j hj).1) hi), St.below (bl_trans HB.out hb5) hst (by omega)⟩
end Go.Proofs.Yteljkjpcjjiidaa
