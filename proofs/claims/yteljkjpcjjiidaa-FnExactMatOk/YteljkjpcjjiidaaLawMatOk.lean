/- The walk of the exact law of MatOk. -/
import Derived.Test.YteljkjpcjjiidaaMok
import Derived.Deep.RegionHeld3
namespace Go.Proofs.Yteljkjpcjjiidaa
open Go.RowKit
set_option linter.unusedVariables false
set_option maxRecDepth 20000

set_option maxHeartbeats 4000000 in
set_option maxRecDepth 20000 in
theorem walkMatOk (R C : Int) (a : Option Addr) (n cap : Nat) (E : Nat → Bool × List Nat) (w : World) (hs : BSeg w (fun _ => True) a n cap E) :
    Calls Try.prog 3 #[Value.agg #[Value.int .i64 R, Value.int .i64 C, Value.slice a n cap]] w fun e w' => e = .returned (.bool true) ∧ Below w.heap.size w w' := by
  have HS := hide hs
  clear hs
  have Xa : Hid ((w.alloc (Obj.cells #[Value.int .i64 R, Value.int .i64 C, Value.slice a n cap] 24)).heap[w.heap.size]? = some (.cells #[Value.int .i64 R, Value.int .i64 C, Value.slice a n cap] 24 (0, 0))) := hide (by simpa only [World.size_alloc] using (hnew w (Obj.cells #[Value.int .i64 R, Value.int .i64 C, Value.slice a n cap] 24)))
  have HB : Hid (Below w.heap.size w (w.alloc (Obj.cells #[Value.int .i64 R, Value.int .i64 C, Value.slice a n cap] 24))) := hide (bl_alloc (bl_refl w) (Obj.cells #[Value.int .i64 R, Value.int .i64 C, Value.slice a n cap] 24))
  have yw1 : w.heap.size + 1 ≤ (w.alloc (Obj.cells #[Value.int .i64 R, Value.int .i64 C, Value.slice a n cap] 24)).heap.size := by simp only [World.size_alloc]; omega
  have ka0 : (w.alloc (Obj.cells #[Value.int .i64 R, Value.int .i64 C, Value.slice a n cap] 24)).cell? ⟨w.heap.size, 0, none⟩ = some (Value.int .i64 R) := (Lib.cell_of_heap Xa.out 0).trans rfl
  have fa0 : (w.alloc (Obj.cells #[Value.int .i64 R, Value.int .i64 C, Value.slice a n cap] 24)).frozen? ⟨w.heap.size, 0, none⟩ = false := Lib.frozen_of_heap Xa.out 0
  have ka1 : (w.alloc (Obj.cells #[Value.int .i64 R, Value.int .i64 C, Value.slice a n cap] 24)).cell? ⟨w.heap.size, 1, none⟩ = some (Value.int .i64 C) := (Lib.cell_of_heap Xa.out 1).trans rfl
  have fa1 : (w.alloc (Obj.cells #[Value.int .i64 R, Value.int .i64 C, Value.slice a n cap] 24)).frozen? ⟨w.heap.size, 1, none⟩ = false := Lib.frozen_of_heap Xa.out 1
  have ka2 : (w.alloc (Obj.cells #[Value.int .i64 R, Value.int .i64 C, Value.slice a n cap] 24)).cell? ⟨w.heap.size, 2, none⟩ = some (Value.slice a n cap) := (Lib.cell_of_heap Xa.out 2).trans rfl
  have fa2 : (w.alloc (Obj.cells #[Value.int .i64 R, Value.int .i64 C, Value.slice a n cap] 24)).frozen? ⟨w.heap.size, 2, none⟩ = false := Lib.frozen_of_heap Xa.out 2
  have za : w.heap.size < (w.alloc (Obj.cells #[Value.int .i64 R, Value.int .i64 C, Value.slice a n cap] 24)).heap.size := hlt Xa.out
  go_enter Try.func3, Try.ntmps3
  go_wp2_with fail
  generalize (w.alloc (Obj.cells #[Value.int .i64 R, Value.int .i64 C, Value.slice a n cap] 24)) = w1 at *
  refine (szM R C a n cap _ E 1048576 _ (HS.out.below HB.out) (by omega) (by omega)).mono ?_
  rintro e w2 ⟨rfl, hb⟩
  have yw2 := hb.size
  clear ka0 fa0 ka1 fa1 ka2 fa2 za
  replace Xa := hide (hbel Xa.out hb (by first | assumption | omega))
  replace HB := hide (bl_trans HB.out hb)
  clear hb
  have ka0 : w2.cell? ⟨w.heap.size, 0, none⟩ = some (Value.int .i64 R) := (Lib.cell_of_heap Xa.out 0).trans rfl
  have fa0 : w2.frozen? ⟨w.heap.size, 0, none⟩ = false := Lib.frozen_of_heap Xa.out 0
  have ka1 : w2.cell? ⟨w.heap.size, 1, none⟩ = some (Value.int .i64 C) := (Lib.cell_of_heap Xa.out 1).trans rfl
  have fa1 : w2.frozen? ⟨w.heap.size, 1, none⟩ = false := Lib.frozen_of_heap Xa.out 1
  have ka2 : w2.cell? ⟨w.heap.size, 2, none⟩ = some (Value.slice a n cap) := (Lib.cell_of_heap Xa.out 2).trans rfl
  have fa2 : w2.frozen? ⟨w.heap.size, 2, none⟩ = false := Lib.frozen_of_heap Xa.out 2
  have za : w.heap.size < w2.heap.size := hlt Xa.out
  by_cases hz : (1048576 : Int) < ((n + etot E n : Nat) : Int)
  · have HE : bleft 1048576 (n + etot E n) = -1 := by unfold bleft; rw [if_pos hz]
    rw [HE]
    clear HE
    go_wp2
    go_ret
    exact ⟨rfl, HB.out⟩
  have HE : bleft 1048576 (n + etot E n) = 1048576 - ((n + etot E n : Nat) : Int) := by unfold bleft; rw [if_neg hz]
  have hn2 : n ≤ 1048576 := by omega
  have ht : etot E n ≤ 1048576 := by omega
  have hz0 : ¬ 1048576 - ((n + etot E n : Nat) : Int) < 0 := by omega
  rw [HE]
  clear HE hz
  have HT := hide ht
  clear ht
  generalize ((n + etot E n : Nat) : Int) = z at *
  go_wp2_with fail
  refine (toM R C a n cap _ E _ (HS.out.below HB.out) hn2 HT.out).mono ?_
  rintro e w3 ⟨g1, A1, rfl, hx1, hb⟩
  have yw3 := hb.size
  clear ka0 fa0 ka1 fa1 ka2 fa2 za
  replace Xa := hide (hbel Xa.out hb (by first | assumption | omega))
  replace HB := hide (bl_trans HB.out hb)
  clear hb
  have M1 := hide hx1
  clear hx1
  have ka0 : w3.cell? ⟨w.heap.size, 0, none⟩ = some (Value.int .i64 R) := (Lib.cell_of_heap Xa.out 0).trans rfl
  have fa0 : w3.frozen? ⟨w.heap.size, 0, none⟩ = false := Lib.frozen_of_heap Xa.out 0
  have ka1 : w3.cell? ⟨w.heap.size, 1, none⟩ = some (Value.int .i64 C) := (Lib.cell_of_heap Xa.out 1).trans rfl
  have fa1 : w3.frozen? ⟨w.heap.size, 1, none⟩ = false := Lib.frozen_of_heap Xa.out 1
  have ka2 : w3.cell? ⟨w.heap.size, 2, none⟩ = some (Value.slice a n cap) := (Lib.cell_of_heap Xa.out 2).trans rfl
  have fa2 : w3.frozen? ⟨w.heap.size, 2, none⟩ = false := Lib.frozen_of_heap Xa.out 2
  have za : w.heap.size < w3.heap.size := hlt Xa.out
  go_wp2_with fail
  refine (matOkS R C _ n n _ E _ M1.out.seg hn2).mono ?_
  rintro e w4 ⟨rfl, hb⟩
  have yw4 := hb.size
  clear ka0 fa0 ka1 fa1 ka2 fa2 za
  replace Xa := hide (hbel Xa.out hb (by first | assumption | omega))
  replace M1 := hide (M1.out.below hb)
  replace HB := hide (bl_trans HB.out hb)
  clear hb
  have ka0 : w4.cell? ⟨w.heap.size, 0, none⟩ = some (Value.int .i64 R) := (Lib.cell_of_heap Xa.out 0).trans rfl
  have fa0 : w4.frozen? ⟨w.heap.size, 0, none⟩ = false := Lib.frozen_of_heap Xa.out 0
  have ka1 : w4.cell? ⟨w.heap.size, 1, none⟩ = some (Value.int .i64 C) := (Lib.cell_of_heap Xa.out 1).trans rfl
  have fa1 : w4.frozen? ⟨w.heap.size, 1, none⟩ = false := Lib.frozen_of_heap Xa.out 1
  have ka2 : w4.cell? ⟨w.heap.size, 2, none⟩ = some (Value.slice a n cap) := (Lib.cell_of_heap Xa.out 2).trans rfl
  have fa2 : w4.frozen? ⟨w.heap.size, 2, none⟩ = false := Lib.frozen_of_heap Xa.out 2
  have za : w.heap.size < w4.heap.size := hlt Xa.out
  clear M1
  go_wp2_with fail
  refine (toM R C a n cap _ E _ (HS.out.below HB.out) hn2 HT.out).mono ?_
  rintro e w5 ⟨g2, A2, rfl, hx2, hb⟩
  have yw5 := hb.size
  clear ka0 fa0 ka1 fa1 ka2 fa2 za
  replace Xa := hide (hbel Xa.out hb (by first | assumption | omega))
  replace HB := hide (bl_trans HB.out hb)
  clear hb
  have M2 := hide hx2
  clear hx2
  have ka0 : w5.cell? ⟨w.heap.size, 0, none⟩ = some (Value.int .i64 R) := (Lib.cell_of_heap Xa.out 0).trans rfl
  have fa0 : w5.frozen? ⟨w.heap.size, 0, none⟩ = false := Lib.frozen_of_heap Xa.out 0
  have ka1 : w5.cell? ⟨w.heap.size, 1, none⟩ = some (Value.int .i64 C) := (Lib.cell_of_heap Xa.out 1).trans rfl
  have fa1 : w5.frozen? ⟨w.heap.size, 1, none⟩ = false := Lib.frozen_of_heap Xa.out 1
  have ka2 : w5.cell? ⟨w.heap.size, 2, none⟩ = some (Value.slice a n cap) := (Lib.cell_of_heap Xa.out 2).trans rfl
  have fa2 : w5.frozen? ⟨w.heap.size, 2, none⟩ = false := Lib.frozen_of_heap Xa.out 2
  have za : w.heap.size < w5.heap.size := hlt Xa.out
  go_wp2_with fail
  have Xx : Hid ((w5.alloc (Obj.cells #[Value.int .i64 R, Value.int .i64 C, Value.slice (some ⟨g2, 0, none⟩) n n] 29)).heap[w5.heap.size]? = some (Obj.cells #[Value.int .i64 R, Value.int .i64 C, Value.slice (some ⟨g2, 0, none⟩) n n] 29)) := hide (hnew _ _)
  have hbn := (bl_alloc (bl_refl w5) (Obj.cells #[Value.int .i64 R, Value.int .i64 C, Value.slice (some ⟨g2, 0, none⟩) n n] 29))
  have yw6 : w5.heap.size + 1 ≤ (w5.alloc (Obj.cells #[Value.int .i64 R, Value.int .i64 C, Value.slice (some ⟨g2, 0, none⟩) n n] 29)).heap.size := by simp only [World.size_alloc]; omega
  generalize w5.alloc (Obj.cells #[Value.int .i64 R, Value.int .i64 C, Value.slice (some ⟨g2, 0, none⟩) n n] 29) = w6 at *
  clear ka0 fa0 ka1 fa1 ka2 fa2 za
  replace Xa := hide (hbel Xa.out hbn (by first | assumption | omega))
  replace M2 := hide (M2.out.below hbn)
  replace HB := hide (bl_trans HB.out hbn)
  clear hbn
  have ka0 : w6.cell? ⟨w.heap.size, 0, none⟩ = some (Value.int .i64 R) := (Lib.cell_of_heap Xa.out 0).trans rfl
  have fa0 : w6.frozen? ⟨w.heap.size, 0, none⟩ = false := Lib.frozen_of_heap Xa.out 0
  have ka1 : w6.cell? ⟨w.heap.size, 1, none⟩ = some (Value.int .i64 C) := (Lib.cell_of_heap Xa.out 1).trans rfl
  have fa1 : w6.frozen? ⟨w.heap.size, 1, none⟩ = false := Lib.frozen_of_heap Xa.out 1
  have ka2 : w6.cell? ⟨w.heap.size, 2, none⟩ = some (Value.slice a n cap) := (Lib.cell_of_heap Xa.out 2).trans rfl
  have fa2 : w6.frozen? ⟨w.heap.size, 2, none⟩ = false := Lib.frozen_of_heap Xa.out 2
  have za : w.heap.size < w6.heap.size := hlt Xa.out
  have kx0 : w6.cell? ⟨w5.heap.size, 0, none⟩ = some (Value.int .i64 R) := (Lib.cell_of_heap Xx.out 0).trans rfl
  have fx0 : w6.frozen? ⟨w5.heap.size, 0, none⟩ = false := Lib.frozen_of_heap Xx.out 0
  have kx1 : w6.cell? ⟨w5.heap.size, 1, none⟩ = some (Value.int .i64 C) := (Lib.cell_of_heap Xx.out 1).trans rfl
  have fx1 : w6.frozen? ⟨w5.heap.size, 1, none⟩ = false := Lib.frozen_of_heap Xx.out 1
  have kx2 : w6.cell? ⟨w5.heap.size, 2, none⟩ = some (Value.slice (some ⟨g2, 0, none⟩) n n) := (Lib.cell_of_heap Xx.out 2).trans rfl
  have fx2 : w6.frozen? ⟨w5.heap.size, 2, none⟩ = false := Lib.frozen_of_heap Xx.out 2
  have zx : w5.heap.size < w6.heap.size := hlt Xx.out
  refine (matOkI R C _ n n _ E _ M2.out.seg hn2).mono ?_
  rintro e w7 ⟨rfl, hb⟩
  have yw7 := hb.size
  clear ka0 fa0 ka1 fa1 ka2 fa2 za
  clear kx0 fx0 kx1 fx1 kx2 fx2 zx
  replace Xa := hide (hbel Xa.out hb (by first | assumption | omega))
  replace Xx := hide (hbel Xx.out hb (by first | assumption | omega))
  replace M2 := hide (M2.out.below hb)
  replace HB := hide (bl_trans HB.out hb)
  clear hb
  have ka0 : w7.cell? ⟨w.heap.size, 0, none⟩ = some (Value.int .i64 R) := (Lib.cell_of_heap Xa.out 0).trans rfl
  have fa0 : w7.frozen? ⟨w.heap.size, 0, none⟩ = false := Lib.frozen_of_heap Xa.out 0
  have ka1 : w7.cell? ⟨w.heap.size, 1, none⟩ = some (Value.int .i64 C) := (Lib.cell_of_heap Xa.out 1).trans rfl
  have fa1 : w7.frozen? ⟨w.heap.size, 1, none⟩ = false := Lib.frozen_of_heap Xa.out 1
  have ka2 : w7.cell? ⟨w.heap.size, 2, none⟩ = some (Value.slice a n cap) := (Lib.cell_of_heap Xa.out 2).trans rfl
  have fa2 : w7.frozen? ⟨w.heap.size, 2, none⟩ = false := Lib.frozen_of_heap Xa.out 2
  have za : w.heap.size < w7.heap.size := hlt Xa.out
  have kx0 : w7.cell? ⟨w5.heap.size, 0, none⟩ = some (Value.int .i64 R) := (Lib.cell_of_heap Xx.out 0).trans rfl
  have fx0 : w7.frozen? ⟨w5.heap.size, 0, none⟩ = false := Lib.frozen_of_heap Xx.out 0
  have kx1 : w7.cell? ⟨w5.heap.size, 1, none⟩ = some (Value.int .i64 C) := (Lib.cell_of_heap Xx.out 1).trans rfl
  have fx1 : w7.frozen? ⟨w5.heap.size, 1, none⟩ = false := Lib.frozen_of_heap Xx.out 1
  have kx2 : w7.cell? ⟨w5.heap.size, 2, none⟩ = some (Value.slice (some ⟨g2, 0, none⟩) n n) := (Lib.cell_of_heap Xx.out 2).trans rfl
  have fx2 : w7.frozen? ⟨w5.heap.size, 2, none⟩ = false := Lib.frozen_of_heap Xx.out 2
  have zx : w5.heap.size < w7.heap.size := hlt Xx.out
  generalize matB R C n E = X at *
  have hxx : (X != X) = false := by simp
  go_wp2_with fail
  have KP : Hid (∀ w', Below w7.heap.size w7 w' → (w'.cell? ⟨w.heap.size, 0, none⟩ = some (Value.int .i64 R) ∧ w'.cell? ⟨w.heap.size, 1, none⟩ = some (Value.int .i64 C) ∧ w'.cell? ⟨w.heap.size, 2, none⟩ = some (Value.slice a n cap) ∧ w'.cell? ⟨w5.heap.size, 0, none⟩ = some (Value.int .i64 R) ∧ w'.cell? ⟨w5.heap.size, 1, none⟩ = some (Value.int .i64 C) ∧ w'.cell? ⟨w5.heap.size, 2, none⟩ = some (Value.slice (some ⟨g2, 0, none⟩) n n))) := hide (fun w' h => ⟨(h.cell (p := ⟨w.heap.size, 0, none⟩) za).trans ka0, (h.cell (p := ⟨w.heap.size, 1, none⟩) za).trans ka1, (h.cell (p := ⟨w.heap.size, 2, none⟩) za).trans ka2, (h.cell (p := ⟨w5.heap.size, 0, none⟩) zx).trans kx0, (h.cell (p := ⟨w5.heap.size, 1, none⟩) zx).trans kx1, (h.cell (p := ⟨w5.heap.size, 2, none⟩) zx).trans kx2⟩)
  go_region_held3 (fun w' => w'.cell? ⟨w.heap.size, 0, none⟩ = some (Value.int .i64 R) ∧ w'.cell? ⟨w.heap.size, 1, none⟩ = some (Value.int .i64 C) ∧ w'.cell? ⟨w.heap.size, 2, none⟩ = some (Value.slice a n cap) ∧ w'.cell? ⟨w5.heap.size, 0, none⟩ = some (Value.int .i64 R) ∧ w'.cell? ⟨w5.heap.size, 1, none⟩ = some (Value.int .i64 C) ∧ w'.cell? ⟨w5.heap.size, 2, none⟩ = some (Value.slice (some ⟨g2, 0, none⟩) n n))
    (first | exact KP.out _ (bl_refl w7).drew | exact KP.out _ hbY | exact KP.out _ hbX)
    (first
      | (go_at_call 12; refine (toM R C a n cap _ E _ ((HS.out.below HB.out).below (bl_refl w7).drew) hn2 HT.out).mono ?_; rintro e wX ⟨g3, A3, rfl, hx3, hbXr⟩; have hbX : Below w7.heap.size w7 wX := (bl_refl w7).drew.trans hbXr)
      | (go_at_call 14; refine (eqM R C _ _ n n n _ _ E _ (M2.out.seg.below hbX) hx3.seg).mono ?_; rintro e wY ⟨rfl, hbYr⟩; have hbY : Below w7.heap.size w7 wY := bl_trans hbX hbYr))
  clear KP
  have HBY := hide (bl_trans HB.out hbY)
  clear hbX hbY
  go_wp2
  go_ret
  exact ⟨rfl, HBY.out⟩
end Go.Proofs.Yteljkjpcjjiidaa
