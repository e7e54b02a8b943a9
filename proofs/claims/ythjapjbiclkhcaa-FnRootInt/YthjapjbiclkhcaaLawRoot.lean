/- The walk of the law of roots. -/
import Derived.Test.YthjapjbiclkhcaaPk19
import Derived.Test.YthjapjbiclkhcaaDrI
import Derived.Test.YthjapjbiclkhcaaPk01
import Derived.Deep.RegionHeld3
namespace Go.Proofs.Ythjapjbiclkhcaa
open Go.RowKit
set_option linter.unusedVariables false
set_option maxRecDepth 20000

theorem rt_range {n : Bool} {xs : List Nat} {k : Int} (h : rtB n xs k = false) (h1 : okB n xs = true) (h2 : n = false) : k < 1 ∨ 64 < k := by
  unfold rtB at h
  rw [h1, h2] at h
  have h3 : ¬ (1 ≤ k ∧ k ≤ 64) := fun e => by rw [decide_eq_true e] at h; cases h
  omega
theorem rt_ok {n : Bool} {xs : List Nat} {k : Int} (h : rtB n xs k = true) : okB n xs = true := by
  unfold rtB at h
  rw [Bool.and_eq_true] at h
  exact h.1

set_option maxHeartbeats 8000000 in
set_option maxRecDepth 20000 in
theorem walkRoot (a0 : Option Addr) (len0 cap0 : Nat) (w : World) (hr : Row a0 len0 cap0 w) :
    Calls Try.prog 3 #[.slice a0 len0 cap0] w fun e w' => e = .returned (.bool true) ∧ Below w.heap.size w w' := by
  have HROW := hide hr
  have hcap : len0 ≤ 9223372036854775807 := Nat.le_trans hr.2.1 hr.2.2
  clear hr
  by_cases hbig : (1048576 : Int) < (len0 : Int)
  · go_enter Try.func3, Try.ntmps3
    go_wp2
    go_ret
    exact ⟨rfl, Below.refl _ _⟩
  have HB := hide (bl_refl w)
  go_enter Try.func3, Try.ntmps3
  go_wp2_with (first | (go_at_call 5; go_in) | fail)
  refine (drawRootInt _ _ _ _ HROW.out).mono ?_
  rintro e w1 ⟨n, a', c', xs, q, rfl, hq, hseg, hb⟩
  have yw1 := hb.size
  replace HB := hide (bl_trans HB.out hb)
  have SX := hide hseg
  have HSM := hide hseg.2.2.2.1
  obtain ⟨hqa, hqb⟩ := hq
  clear hb hseg HROW
  go_wp2_with fail
  have Xx : Hid ((w1.alloc (Obj.cells #[Value.bool n, Value.slice a' xs.length c'] 26)).heap[w1.heap.size]? = some (.cells #[Value.bool n, Value.slice a' xs.length c'] 26 (0, 0))) := hide (hnew _ _)
  have hbn := (bl_alloc (bl_refl w1) (Obj.cells #[Value.bool n, Value.slice a' xs.length c'] 26))
  have yw2 : w1.heap.size + 1 ≤ (w1.alloc (Obj.cells #[Value.bool n, Value.slice a' xs.length c'] 26)).heap.size := by simp only [World.size_alloc]; omega
  generalize w1.alloc (Obj.cells #[Value.bool n, Value.slice a' xs.length c'] 26) = w2 at *
  replace SX := hide (SX.out.below hbn)
  replace HB := hide (bl_trans HB.out hbn)
  clear hbn
  have kx0 : w2.cell? ⟨w1.heap.size, 0, none⟩ = some (Value.bool n) := (Lib.cell_of_heap Xx.out 0).trans rfl
  have fx0 : w2.frozen? ⟨w1.heap.size, 0, none⟩ = false := Lib.frozen_of_heap Xx.out 0
  have kx1 : w2.cell? ⟨w1.heap.size, 1, none⟩ = some (Value.slice a' xs.length c') := (Lib.cell_of_heap Xx.out 1).trans rfl
  have fx1 : w2.frozen? ⟨w1.heap.size, 1, none⟩ = false := Lib.frozen_of_heap Xx.out 1
  have zx : w1.heap.size < w2.heap.size := hlt Xx.out
  refine (rootP n xs q a' c' w2 SX.out (by omega) (by omega)).mono ?_
  rintro e w3 ⟨a1, c1, rfl, hoR, hb⟩
  have yw3 := hb.size
  clear kx0 fx0 kx1 fx1 zx
  replace Xx := hide (hbel Xx.out hb (by first | assumption | omega))
  replace SX := hide (SX.out.below hb)
  replace HB := hide (bl_trans HB.out hb)
  clear hb
  have SR := hide hoR.seg
  clear hoR
  have kx0 : w3.cell? ⟨w1.heap.size, 0, none⟩ = some (Value.bool n) := (Lib.cell_of_heap Xx.out 0).trans rfl
  have fx0 : w3.frozen? ⟨w1.heap.size, 0, none⟩ = false := Lib.frozen_of_heap Xx.out 0
  have kx1 : w3.cell? ⟨w1.heap.size, 1, none⟩ = some (Value.slice a' xs.length c') := (Lib.cell_of_heap Xx.out 1).trans rfl
  have fx1 : w3.frozen? ⟨w1.heap.size, 1, none⟩ = false := Lib.frozen_of_heap Xx.out 1
  have zx : w1.heap.size < w3.heap.size := hlt Xx.out
  obtain ⟨R, hR⟩ : ∃ R, rtZ n xs q = R := ⟨_, rfl⟩
  obtain ⟨Eb, hE⟩ : ∃ Eb, rtE n xs q = Eb := ⟨_, rfl⟩
  have HR := hide hR
  have HE := hide hE
  rw [hR] at SR ⊢
  rw [hE]
  clear hR hE
  go_wp2_with fail
  have Xr : Hid ((w3.alloc (Obj.cells #[Value.bool (sgn R), Value.slice a1 (lms R).length c1] 26)).heap[w3.heap.size]? = some (.cells #[Value.bool (sgn R), Value.slice a1 (lms R).length c1] 26 (0, 0))) := hide (hnew _ _)
  have hbn := (bl_alloc (bl_refl w3) (Obj.cells #[Value.bool (sgn R), Value.slice a1 (lms R).length c1] 26))
  have yw4 : w3.heap.size + 1 ≤ (w3.alloc (Obj.cells #[Value.bool (sgn R), Value.slice a1 (lms R).length c1] 26)).heap.size := by simp only [World.size_alloc]; omega
  generalize w3.alloc (Obj.cells #[Value.bool (sgn R), Value.slice a1 (lms R).length c1] 26) = w4 at *
  clear kx0 fx0 kx1 fx1 zx
  replace Xx := hide (hbel Xx.out hbn (by first | assumption | omega))
  replace SX := hide (SX.out.below hbn)
  replace SR := hide (SR.out.below hbn)
  replace HB := hide (bl_trans HB.out hbn)
  clear hbn
  have kx0 : w4.cell? ⟨w1.heap.size, 0, none⟩ = some (Value.bool n) := (Lib.cell_of_heap Xx.out 0).trans rfl
  have fx0 : w4.frozen? ⟨w1.heap.size, 0, none⟩ = false := Lib.frozen_of_heap Xx.out 0
  have kx1 : w4.cell? ⟨w1.heap.size, 1, none⟩ = some (Value.slice a' xs.length c') := (Lib.cell_of_heap Xx.out 1).trans rfl
  have fx1 : w4.frozen? ⟨w1.heap.size, 1, none⟩ = false := Lib.frozen_of_heap Xx.out 1
  have zx : w1.heap.size < w4.heap.size := hlt Xx.out
  have kr0 : w4.cell? ⟨w3.heap.size, 0, none⟩ = some (Value.bool (sgn R)) := (Lib.cell_of_heap Xr.out 0).trans rfl
  have fr0 : w4.frozen? ⟨w3.heap.size, 0, none⟩ = false := Lib.frozen_of_heap Xr.out 0
  have kr1 : w4.cell? ⟨w3.heap.size, 1, none⟩ = some (Value.slice a1 (lms R).length c1) := (Lib.cell_of_heap Xr.out 1).trans rfl
  have fr1 : w4.frozen? ⟨w3.heap.size, 1, none⟩ = false := Lib.frozen_of_heap Xr.out 1
  have zr : w3.heap.size < w4.heap.size := hlt Xr.out
  refine (okS _ n xs w4 ⟨a', c', rfl, SX.out⟩).mono ?_
  rintro e w5 ⟨rfl, hb⟩
  have yw5 := hb.size
  clear kx0 fx0 kx1 fx1 zx
  clear kr0 fr0 kr1 fr1 zr
  replace Xx := hide (hbel Xx.out hb (by first | assumption | omega))
  replace Xr := hide (hbel Xr.out hb (by first | assumption | omega))
  replace SX := hide (SX.out.below hb)
  replace SR := hide (SR.out.below hb)
  replace HB := hide (bl_trans HB.out hb)
  clear hb
  have kx0 : w5.cell? ⟨w1.heap.size, 0, none⟩ = some (Value.bool n) := (Lib.cell_of_heap Xx.out 0).trans rfl
  have fx0 : w5.frozen? ⟨w1.heap.size, 0, none⟩ = false := Lib.frozen_of_heap Xx.out 0
  have kx1 : w5.cell? ⟨w1.heap.size, 1, none⟩ = some (Value.slice a' xs.length c') := (Lib.cell_of_heap Xx.out 1).trans rfl
  have fx1 : w5.frozen? ⟨w1.heap.size, 1, none⟩ = false := Lib.frozen_of_heap Xx.out 1
  have zx : w1.heap.size < w5.heap.size := hlt Xx.out
  have kr0 : w5.cell? ⟨w3.heap.size, 0, none⟩ = some (Value.bool (sgn R)) := (Lib.cell_of_heap Xr.out 0).trans rfl
  have fr0 : w5.frozen? ⟨w3.heap.size, 0, none⟩ = false := Lib.frozen_of_heap Xr.out 0
  have kr1 : w5.cell? ⟨w3.heap.size, 1, none⟩ = some (Value.slice a1 (lms R).length c1) := (Lib.cell_of_heap Xr.out 1).trans rfl
  have fr1 : w5.frozen? ⟨w3.heap.size, 1, none⟩ = false := Lib.frozen_of_heap Xr.out 1
  have zr : w3.heap.size < w5.heap.size := hlt Xr.out
  cases hrt : rtB n xs q with
  | false =>
    obtain ⟨e1, e2⟩ := rt_no hrt
    have e3 := HR.out.symm.trans e1
    have e4 := HE.out.symm.trans e2
    subst e3
    subst e4
    clear HR HE
    rw [zero_lms] at kr1
    rw [List.length_nil] at kr1
    have hrg := hide (fun h1 h2 => rt_range hrt h1 h2)
    clear e1 e2 hrt
    cases hok : okB n xs with
    | false =>
      go_wp2
      go_ret
      exact ⟨rfl, HB.out⟩
    | true =>
    cases n with
    | true =>
      go_wp2
      go_ret
      exact ⟨rfl, HB.out⟩
    | false =>
    rcases hrg.out hok rfl with hk | hk
    · go_wp2
      go_ret
      exact ⟨rfl, HB.out⟩
    · have hk1 : ¬ q < 1 := by omega
      go_wp2
      go_ret
      exact ⟨rfl, HB.out⟩
  | true =>
  have hok := rt_ok hrt
  rw [hok]
  obtain ⟨x, K, hn, hxs, hqK, hK, hx⟩ := rt_args HSM.out hrt
  subst hn
  subst hxs
  obtain ⟨r, hrr⟩ := root_ex (K + 1) x (by omega)
  obtain ⟨e1, e2⟩ := rt_yes hx hK hrr
  rw [← hqK] at e1 e2
  have e3 := HR.out.symm.trans e1
  have e4 := HE.out.symm.trans e2
  subst e3
  clear HR HE e1 e2 hrt hok
  obtain ⟨hr40, hT1, c, hcc, hc0, hcb, hc1⟩ := root_law hx hK hrr
  rw [hcb] at e4
  clear hcb
  have hcb := e4.symm
  clear e4
  have HNX := hide (fun s h1 h2 h3 => root_next hx hK hrr s h1 h2 h3)
  rw [sgn_nat x, ← hqK] at hcc
  rw [← hqK] at hT1
  simp only [← hqK, sgn_nat x] at HNX
  have hq1 : ¬ q < 1 := by omega
  have hq2 : ¬ (64 : Int) < q := by omega
  have hc2 : ¬ (0 : Int) < c := by omega
  clear hqK hK hx hrr hr40 HSM
  generalize lms (x : Int) = xs at *
  generalize (r : Int) = R at *
  have HCC := hide hcc
  have HT1 := hide hT1
  clear hcc hT1
  go_wp2_with fail
  refine (PowP _ (sgn R) (lms R) q w5 ⟨a1, c1, rfl, SR.out⟩ (by omega) (by omega)).mono ?_
  rintro e w6 ⟨vP, rfl, ⟨aP, cP, rfl, hoP⟩, hb⟩
  have yw6 := hb.size
  clear kx0 fx0 kx1 fx1 zx
  clear kr0 fr0 kr1 fr1 zr
  replace Xx := hide (hbel Xx.out hb (by first | assumption | omega))
  replace Xr := hide (hbel Xr.out hb (by first | assumption | omega))
  replace SX := hide (SX.out.below hb)
  replace SR := hide (SR.out.below hb)
  replace HB := hide (bl_trans HB.out hb)
  clear hb
  have SP := hide hoP.seg
  clear hoP
  have kx0 : w6.cell? ⟨w1.heap.size, 0, none⟩ = some (Value.bool false) := (Lib.cell_of_heap Xx.out 0).trans rfl
  have fx0 : w6.frozen? ⟨w1.heap.size, 0, none⟩ = false := Lib.frozen_of_heap Xx.out 0
  have kx1 : w6.cell? ⟨w1.heap.size, 1, none⟩ = some (Value.slice a' xs.length c') := (Lib.cell_of_heap Xx.out 1).trans rfl
  have fx1 : w6.frozen? ⟨w1.heap.size, 1, none⟩ = false := Lib.frozen_of_heap Xx.out 1
  have zx : w1.heap.size < w6.heap.size := hlt Xx.out
  have kr0 : w6.cell? ⟨w3.heap.size, 0, none⟩ = some (Value.bool (sgn R)) := (Lib.cell_of_heap Xr.out 0).trans rfl
  have fr0 : w6.frozen? ⟨w3.heap.size, 0, none⟩ = false := Lib.frozen_of_heap Xr.out 0
  have kr1 : w6.cell? ⟨w3.heap.size, 1, none⟩ = some (Value.slice a1 (lms R).length c1) := (Lib.cell_of_heap Xr.out 1).trans rfl
  have fr1 : w6.frozen? ⟨w3.heap.size, 1, none⟩ = false := Lib.frozen_of_heap Xr.out 1
  have zr : w3.heap.size < w6.heap.size := hlt Xr.out
  rw [HT1.out]
  obtain ⟨P, hP⟩ : ∃ P, pwZ (sgn R) (lms R) q = P := ⟨_, rfl⟩
  rw [hP] at HCC SP ⊢
  clear hP HT1
  go_wp2_with fail
  have Xp : Hid ((w6.alloc (Obj.cells #[Value.bool (sgn P), Value.slice aP (lms P).length cP] 26)).heap[w6.heap.size]? = some (.cells #[Value.bool (sgn P), Value.slice aP (lms P).length cP] 26 (0, 0))) := hide (hnew _ _)
  have hbn := (bl_alloc (bl_refl w6) (Obj.cells #[Value.bool (sgn P), Value.slice aP (lms P).length cP] 26))
  have yw7 : w6.heap.size + 1 ≤ (w6.alloc (Obj.cells #[Value.bool (sgn P), Value.slice aP (lms P).length cP] 26)).heap.size := by simp only [World.size_alloc]; omega
  generalize w6.alloc (Obj.cells #[Value.bool (sgn P), Value.slice aP (lms P).length cP] 26) = w7 at *
  clear kx0 fx0 kx1 fx1 zx
  clear kr0 fr0 kr1 fr1 zr
  replace Xx := hide (hbel Xx.out hbn (by first | assumption | omega))
  replace Xr := hide (hbel Xr.out hbn (by first | assumption | omega))
  replace SX := hide (SX.out.below hbn)
  replace SR := hide (SR.out.below hbn)
  replace SP := hide (SP.out.below hbn)
  replace HB := hide (bl_trans HB.out hbn)
  clear hbn
  have kx0 : w7.cell? ⟨w1.heap.size, 0, none⟩ = some (Value.bool false) := (Lib.cell_of_heap Xx.out 0).trans rfl
  have fx0 : w7.frozen? ⟨w1.heap.size, 0, none⟩ = false := Lib.frozen_of_heap Xx.out 0
  have kx1 : w7.cell? ⟨w1.heap.size, 1, none⟩ = some (Value.slice a' xs.length c') := (Lib.cell_of_heap Xx.out 1).trans rfl
  have fx1 : w7.frozen? ⟨w1.heap.size, 1, none⟩ = false := Lib.frozen_of_heap Xx.out 1
  have zx : w1.heap.size < w7.heap.size := hlt Xx.out
  have kr0 : w7.cell? ⟨w3.heap.size, 0, none⟩ = some (Value.bool (sgn R)) := (Lib.cell_of_heap Xr.out 0).trans rfl
  have fr0 : w7.frozen? ⟨w3.heap.size, 0, none⟩ = false := Lib.frozen_of_heap Xr.out 0
  have kr1 : w7.cell? ⟨w3.heap.size, 1, none⟩ = some (Value.slice a1 (lms R).length c1) := (Lib.cell_of_heap Xr.out 1).trans rfl
  have fr1 : w7.frozen? ⟨w3.heap.size, 1, none⟩ = false := Lib.frozen_of_heap Xr.out 1
  have zr : w3.heap.size < w7.heap.size := hlt Xr.out
  have kp0 : w7.cell? ⟨w6.heap.size, 0, none⟩ = some (Value.bool (sgn P)) := (Lib.cell_of_heap Xp.out 0).trans rfl
  have fp0 : w7.frozen? ⟨w6.heap.size, 0, none⟩ = false := Lib.frozen_of_heap Xp.out 0
  have kp1 : w7.cell? ⟨w6.heap.size, 1, none⟩ = some (Value.slice aP (lms P).length cP) := (Lib.cell_of_heap Xp.out 1).trans rfl
  have fp1 : w7.frozen? ⟨w6.heap.size, 1, none⟩ = false := Lib.frozen_of_heap Xp.out 1
  have zp : w6.heap.size < w7.heap.size := hlt Xp.out
  have KP : Hid (∀ w', Below w7.heap.size w7 w' → (w'.cell? ⟨w3.heap.size, 0, none⟩ = some (Value.bool (sgn R)) ∧ w'.cell? ⟨w3.heap.size, 1, none⟩ = some (Value.slice a1 (lms R).length c1))) := hide (fun w' h => ⟨(h.cell (p := ⟨w3.heap.size, 0, none⟩) zr).trans kr0, (h.cell (p := ⟨w3.heap.size, 1, none⟩) zr).trans kr1⟩)
  have h0 : Below w7.heap.size w7 w7.drew := (bl_refl w7).drew
  have hA : Below w7.heap.size w7 (w7.drew.alloc (Obj.cells #[Value.bool false, Value.slice none 0 0] 26)) := bl_alloc h0 (Obj.cells #[Value.bool false, Value.slice none 0 0] 26)
  have hzD : w7.drew.heap.size = w7.heap.size := rfl
  obtain ⟨S0, hS0⟩ : ∃ S0, opZ addZ (sgn R) (lms R) (sgn 1) (lms 1) = S0 := ⟨_, rfl⟩
  obtain ⟨F, hF⟩ : ∃ F, opT addZ (sgn R) (lms R) (sgn 1) (lms 1) = F := ⟨_, rfl⟩
  have HS0 := hide hS0
  have HF := hide hF
  clear hS0 hF
  go_region_held3 (fun w' => w'.cell? ⟨w3.heap.size, 0, none⟩ = some (Value.bool (sgn R)) ∧ w'.cell? ⟨w3.heap.size, 1, none⟩ = some (Value.slice a1 (lms R).length c1))
    (first
      | exact KP.out _ h0
      | exact KP.out _ hA
      | exact KP.out _ hbA
      | exact KP.out _ hbF
      | exact KP.out _ (bl_alloc hbA (Obj.cells #[Value.bool (sgn S0), Value.slice aA (lms S0).length cA] 26))
      | exact KP.out _ (bl_alloc hbF (Obj.cells #[Value.bool false, Value.slice none 0 0] 26))
      | exact KP.out _ (bl_alloc hbA (Obj.cells #[Value.bool false, Value.slice none 0 0] 26))
      | exact KP.out _ (St.below (bl_alloc hbA (Obj.cells #[Value.bool false, Value.slice none 0 0] 26)) (((St.refl (wA.heap.size) (wA.alloc (Obj.cells #[Value.bool false, Value.slice none 0 0] 26))).set 0 _).set 1 _) (by omega))
      | exact KP.out _ (St.below hbA (((St.refl (wF.heap.size) wA).set 0 _).set 1 _) (by omega))
      | exact KP.out _ (St.below hbA (((St.refl (w7.heap.size) wA).set 0 _).set 1 _) (by omega)))
    (first
      | (go_at_call 11; refine (fromS 1 w7.drew (by omega) (by omega)).mono ?_; rintro e wF ⟨vF, rfl, ⟨aF, cF, rfl, hoF⟩, hbF'⟩; have hbF : Below w7.heap.size w7 wF := bl_trans h0 hbF'; have ywF := hbF.size; have SF := hide hoF.seg; clear hoF)
      | (go_at_call 11; refine (fromS 1 (w7.drew.alloc (Obj.cells #[Value.bool false, Value.slice none 0 0] 26)) (by omega) (by omega)).mono ?_; rintro e wF ⟨vF, rfl, ⟨aF, cF, rfl, hoF⟩, hbF'⟩; have hbF : Below w7.heap.size w7 wF := bl_trans hA hbF'; have ywF := hbF.size; have SF := hide hoF.seg; have XF3 := hide (hbel (show (w7.drew.alloc (Obj.cells #[Value.bool false, Value.slice none 0 0] 26)).heap[w7.heap.size]? = some (.cells #[Value.bool false, Value.slice none 0 0] 26 (0, 0)) from hnew w7.drew (Obj.cells #[Value.bool false, Value.slice none 0 0] 26)) hbF' (by simp only [World.size_alloc]; omega)); clear hoF)
      | (have hck := XF3; go_at_call 10; refine (AddP _ _ (sgn R) (sgn 1) (lms R) (lms 1) wF ⟨a1, c1, rfl, SR.out.below hbF⟩ ⟨aF, cF, rfl, SF.out⟩).mono ?_; rintro e wA ⟨vA, rfl, ⟨aA, cA, rfl, hoA⟩, hbA'⟩; have hbA : Below w7.heap.size w7 wA := bl_trans hbF hbA'; have ywA := hbA.size; rw [HS0.out] at hoA ⊢; rw [HF.out]; have SA := hide hoA.seg; have hz9 := hlt XF3.out; have SAne : ∀ u, aA = some u → ¬ u.block = w7.heap.size := fun u e h => (by have := hoA.inb u e; omega); have XA3 := hide (hbel XF3.out hbA' (hlt XF3.out)); have q0 : wA.cell? ⟨w7.heap.size, 0, none⟩ = some (Value.bool false) := (Lib.cell_of_heap XA3.out 0).trans rfl; have q1 : wA.cell? ⟨w7.heap.size, 1, none⟩ = some (Value.slice none 0 0) := (Lib.cell_of_heap XA3.out 1).trans rfl; have g0 : wA.frozen? ⟨w7.heap.size, 0, none⟩ = false := Lib.frozen_of_heap XA3.out 0; have g1 : wA.frozen? ⟨w7.heap.size, 1, none⟩ = false := Lib.frozen_of_heap XA3.out 1; clear hoA)
      | (go_at_call 10; refine (AddP _ _ (sgn R) (sgn 1) (lms R) (lms 1) wF ⟨a1, c1, rfl, SR.out.below hbF⟩ ⟨aF, cF, rfl, SF.out⟩).mono ?_; rintro e wA ⟨vA, rfl, ⟨aA, cA, rfl, hoA⟩, hbA'⟩; have hbA : Below w7.heap.size w7 wA := bl_trans hbF hbA'; have ywA := hbA.size; rw [HS0.out] at hoA ⊢; rw [HF.out]; have SA := hide hoA.seg; have hw1 : True := trivial; clear hoA)
      | (go_at_call 10; refine (AddP _ _ (sgn R) (sgn 1) (lms R) (lms 1) (wF.alloc (Obj.cells #[Value.bool false, Value.slice none 0 0] 26)) ⟨a1, c1, rfl, SR.out.below (bl_alloc hbF (Obj.cells #[Value.bool false, Value.slice none 0 0] 26))⟩ ⟨aF, cF, rfl, (SF.out.below (bl_alloc (bl_refl wF) (Obj.cells #[Value.bool false, Value.slice none 0 0] 26)))⟩).mono ?_; rintro e wA ⟨vA, rfl, ⟨aA, cA, rfl, hoA⟩, hbA'⟩; have hbA : Below w7.heap.size w7 wA := bl_trans (bl_alloc hbF (Obj.cells #[Value.bool false, Value.slice none 0 0] 26)) hbA'; have ywA := hbA.size; rw [HS0.out] at hoA ⊢; rw [HF.out]; have SA := hide hoA.seg; have hz9 : (wF.alloc (Obj.cells #[Value.bool false, Value.slice none 0 0] 26)).heap.size = wF.heap.size + 1 := (by simp only [World.size_alloc]); have SAne : ∀ u, aA = some u → ¬ u.block = wF.heap.size := fun u e h => (by have := hoA.inb u e; omega); have XA2 := hide (hbel (hnew wF (Obj.cells #[Value.bool false, Value.slice none 0 0] 26)) hbA' (by simp)); have q0 : wA.cell? ⟨wF.heap.size, 0, none⟩ = some (Value.bool false) := (Lib.cell_of_heap XA2.out 0).trans rfl; have q1 : wA.cell? ⟨wF.heap.size, 1, none⟩ = some (Value.slice none 0 0) := (Lib.cell_of_heap XA2.out 1).trans rfl; have g0 : wA.frozen? ⟨wF.heap.size, 0, none⟩ = false := Lib.frozen_of_heap XA2.out 0; have g1 : wA.frozen? ⟨wF.heap.size, 1, none⟩ = false := Lib.frozen_of_heap XA2.out 1; clear hoA))
  · skip
    clear kx0 fx0 kx1 fx1 zx
    clear kr0 fr0 kr1 fr1 zr
    clear kp0 fp0 kp1 fp1 zp
    have hbz := bl_alloc hbA (Obj.cells #[Value.bool (sgn S0), Value.slice aA (lms S0).length cA] 26)
    have Xs : Hid ((wA.alloc (Obj.cells #[Value.bool (sgn S0), Value.slice aA (lms S0).length cA] 26)).heap[wA.heap.size]? = some (.cells #[Value.bool (sgn S0), Value.slice aA (lms S0).length cA] 26 (0, 0))) := hide (hnew _ _)
    have SZ := hide (SA.out.below (bl_alloc (bl_refl wA) (Obj.cells #[Value.bool (sgn S0), Value.slice aA (lms S0).length cA] 26)))
    generalize wA.alloc (Obj.cells #[Value.bool (sgn S0), Value.slice aA (lms S0).length cA] 26) = wz at *
    have ywz := hbz.size
    have yzs := hlt Xs.out
    replace Xx := hide (hbel Xx.out hbz (by first | assumption | omega))
    replace Xr := hide (hbel Xr.out hbz (by first | assumption | omega))
    replace Xp := hide (hbel Xp.out hbz (by first | assumption | omega))
    replace SX := hide (SX.out.below hbz)
    replace SR := hide (SR.out.below hbz)
    replace SP := hide (SP.out.below hbz)
    replace HB := hide (bl_trans HB.out hbz)
    clear hbz KP SA SF
    have kx0 : wz.cell? ⟨w1.heap.size, 0, none⟩ = some (Value.bool false) := (Lib.cell_of_heap Xx.out 0).trans rfl
    have fx0 : wz.frozen? ⟨w1.heap.size, 0, none⟩ = false := Lib.frozen_of_heap Xx.out 0
    have kx1 : wz.cell? ⟨w1.heap.size, 1, none⟩ = some (Value.slice a' xs.length c') := (Lib.cell_of_heap Xx.out 1).trans rfl
    have fx1 : wz.frozen? ⟨w1.heap.size, 1, none⟩ = false := Lib.frozen_of_heap Xx.out 1
    have zx : w1.heap.size < wz.heap.size := hlt Xx.out
    have kr0 : wz.cell? ⟨w3.heap.size, 0, none⟩ = some (Value.bool (sgn R)) := (Lib.cell_of_heap Xr.out 0).trans rfl
    have fr0 : wz.frozen? ⟨w3.heap.size, 0, none⟩ = false := Lib.frozen_of_heap Xr.out 0
    have kr1 : wz.cell? ⟨w3.heap.size, 1, none⟩ = some (Value.slice a1 (lms R).length c1) := (Lib.cell_of_heap Xr.out 1).trans rfl
    have fr1 : wz.frozen? ⟨w3.heap.size, 1, none⟩ = false := Lib.frozen_of_heap Xr.out 1
    have zr : w3.heap.size < wz.heap.size := hlt Xr.out
    have kp0 : wz.cell? ⟨w6.heap.size, 0, none⟩ = some (Value.bool (sgn P)) := (Lib.cell_of_heap Xp.out 0).trans rfl
    have fp0 : wz.frozen? ⟨w6.heap.size, 0, none⟩ = false := Lib.frozen_of_heap Xp.out 0
    have kp1 : wz.cell? ⟨w6.heap.size, 1, none⟩ = some (Value.slice aP (lms P).length cP) := (Lib.cell_of_heap Xp.out 1).trans rfl
    have fp1 : wz.frozen? ⟨w6.heap.size, 1, none⟩ = false := Lib.frozen_of_heap Xp.out 1
    have zp : w6.heap.size < wz.heap.size := hlt Xp.out
    have ks0 : wz.cell? ⟨wA.heap.size, 0, none⟩ = some (Value.bool (sgn S0)) := (Lib.cell_of_heap Xs.out 0).trans rfl
    have fs0 : wz.frozen? ⟨wA.heap.size, 0, none⟩ = false := Lib.frozen_of_heap Xs.out 0
    have ks1 : wz.cell? ⟨wA.heap.size, 1, none⟩ = some (Value.slice aA (lms S0).length cA) := (Lib.cell_of_heap Xs.out 1).trans rfl
    have fs1 : wz.frozen? ⟨wA.heap.size, 1, none⟩ = false := Lib.frozen_of_heap Xs.out 1
    have zs : wA.heap.size < wz.heap.size := hlt Xs.out
    go_wp2_with fail
    refine (CmpI _ _ (sgn P) false (lms P) xs wz ⟨aP, cP, rfl, SP.out⟩ ⟨a', c', rfl, SX.out⟩).mono ?_
    rintro e w9 ⟨rfl, hb⟩
    have yw9 := hb.size
    clear kx0 fx0 kx1 fx1 zx
    clear kr0 fr0 kr1 fr1 zr
    clear kp0 fp0 kp1 fp1 zp
    clear ks0 fs0 ks1 fs1 zs
    replace Xx := hide (hbel Xx.out hb (by first | assumption | omega))
    replace Xr := hide (hbel Xr.out hb (by first | assumption | omega))
    replace Xp := hide (hbel Xp.out hb (by first | assumption | omega))
    replace Xs := hide (hbel Xs.out hb (by first | assumption | omega))
    replace SX := hide (SX.out.below hb)
    replace SR := hide (SR.out.below hb)
    replace SP := hide (SP.out.below hb)
    replace SZ := hide (SZ.out.below hb)
    replace HB := hide (bl_trans HB.out hb)
    clear hb
    have kx0 : w9.cell? ⟨w1.heap.size, 0, none⟩ = some (Value.bool false) := (Lib.cell_of_heap Xx.out 0).trans rfl
    have fx0 : w9.frozen? ⟨w1.heap.size, 0, none⟩ = false := Lib.frozen_of_heap Xx.out 0
    have kx1 : w9.cell? ⟨w1.heap.size, 1, none⟩ = some (Value.slice a' xs.length c') := (Lib.cell_of_heap Xx.out 1).trans rfl
    have fx1 : w9.frozen? ⟨w1.heap.size, 1, none⟩ = false := Lib.frozen_of_heap Xx.out 1
    have zx : w1.heap.size < w9.heap.size := hlt Xx.out
    have kr0 : w9.cell? ⟨w3.heap.size, 0, none⟩ = some (Value.bool (sgn R)) := (Lib.cell_of_heap Xr.out 0).trans rfl
    have fr0 : w9.frozen? ⟨w3.heap.size, 0, none⟩ = false := Lib.frozen_of_heap Xr.out 0
    have kr1 : w9.cell? ⟨w3.heap.size, 1, none⟩ = some (Value.slice a1 (lms R).length c1) := (Lib.cell_of_heap Xr.out 1).trans rfl
    have fr1 : w9.frozen? ⟨w3.heap.size, 1, none⟩ = false := Lib.frozen_of_heap Xr.out 1
    have zr : w3.heap.size < w9.heap.size := hlt Xr.out
    have kp0 : w9.cell? ⟨w6.heap.size, 0, none⟩ = some (Value.bool (sgn P)) := (Lib.cell_of_heap Xp.out 0).trans rfl
    have fp0 : w9.frozen? ⟨w6.heap.size, 0, none⟩ = false := Lib.frozen_of_heap Xp.out 0
    have kp1 : w9.cell? ⟨w6.heap.size, 1, none⟩ = some (Value.slice aP (lms P).length cP) := (Lib.cell_of_heap Xp.out 1).trans rfl
    have fp1 : w9.frozen? ⟨w6.heap.size, 1, none⟩ = false := Lib.frozen_of_heap Xp.out 1
    have zp : w6.heap.size < w9.heap.size := hlt Xp.out
    have ks0 : w9.cell? ⟨wA.heap.size, 0, none⟩ = some (Value.bool (sgn S0)) := (Lib.cell_of_heap Xs.out 0).trans rfl
    have fs0 : w9.frozen? ⟨wA.heap.size, 0, none⟩ = false := Lib.frozen_of_heap Xs.out 0
    have ks1 : w9.cell? ⟨wA.heap.size, 1, none⟩ = some (Value.slice aA (lms S0).length cA) := (Lib.cell_of_heap Xs.out 1).trans rfl
    have fs1 : w9.frozen? ⟨wA.heap.size, 1, none⟩ = false := Lib.frozen_of_heap Xs.out 1
    have zs : wA.heap.size < w9.heap.size := hlt Xs.out
    rw [HCC.out]
    go_wp2_with fail
    refine (CmpI _ _ (sgn P) false (lms P) xs w9 ⟨aP, cP, rfl, SP.out⟩ ⟨a', c', rfl, SX.out⟩).mono ?_
    rintro e w10 ⟨rfl, hb⟩
    have yw10 := hb.size
    clear kx0 fx0 kx1 fx1 zx
    clear kr0 fr0 kr1 fr1 zr
    clear kp0 fp0 kp1 fp1 zp
    clear ks0 fs0 ks1 fs1 zs
    replace Xx := hide (hbel Xx.out hb (by first | assumption | omega))
    replace Xr := hide (hbel Xr.out hb (by first | assumption | omega))
    replace Xp := hide (hbel Xp.out hb (by first | assumption | omega))
    replace Xs := hide (hbel Xs.out hb (by first | assumption | omega))
    replace SX := hide (SX.out.below hb)
    replace SR := hide (SR.out.below hb)
    replace SP := hide (SP.out.below hb)
    replace SZ := hide (SZ.out.below hb)
    replace HB := hide (bl_trans HB.out hb)
    clear hb
    have kx0 : w10.cell? ⟨w1.heap.size, 0, none⟩ = some (Value.bool false) := (Lib.cell_of_heap Xx.out 0).trans rfl
    have fx0 : w10.frozen? ⟨w1.heap.size, 0, none⟩ = false := Lib.frozen_of_heap Xx.out 0
    have kx1 : w10.cell? ⟨w1.heap.size, 1, none⟩ = some (Value.slice a' xs.length c') := (Lib.cell_of_heap Xx.out 1).trans rfl
    have fx1 : w10.frozen? ⟨w1.heap.size, 1, none⟩ = false := Lib.frozen_of_heap Xx.out 1
    have zx : w1.heap.size < w10.heap.size := hlt Xx.out
    have kr0 : w10.cell? ⟨w3.heap.size, 0, none⟩ = some (Value.bool (sgn R)) := (Lib.cell_of_heap Xr.out 0).trans rfl
    have fr0 : w10.frozen? ⟨w3.heap.size, 0, none⟩ = false := Lib.frozen_of_heap Xr.out 0
    have kr1 : w10.cell? ⟨w3.heap.size, 1, none⟩ = some (Value.slice a1 (lms R).length c1) := (Lib.cell_of_heap Xr.out 1).trans rfl
    have fr1 : w10.frozen? ⟨w3.heap.size, 1, none⟩ = false := Lib.frozen_of_heap Xr.out 1
    have zr : w3.heap.size < w10.heap.size := hlt Xr.out
    have kp0 : w10.cell? ⟨w6.heap.size, 0, none⟩ = some (Value.bool (sgn P)) := (Lib.cell_of_heap Xp.out 0).trans rfl
    have fp0 : w10.frozen? ⟨w6.heap.size, 0, none⟩ = false := Lib.frozen_of_heap Xp.out 0
    have kp1 : w10.cell? ⟨w6.heap.size, 1, none⟩ = some (Value.slice aP (lms P).length cP) := (Lib.cell_of_heap Xp.out 1).trans rfl
    have fp1 : w10.frozen? ⟨w6.heap.size, 1, none⟩ = false := Lib.frozen_of_heap Xp.out 1
    have zp : w6.heap.size < w10.heap.size := hlt Xp.out
    have ks0 : w10.cell? ⟨wA.heap.size, 0, none⟩ = some (Value.bool (sgn S0)) := (Lib.cell_of_heap Xs.out 0).trans rfl
    have fs0 : w10.frozen? ⟨wA.heap.size, 0, none⟩ = false := Lib.frozen_of_heap Xs.out 0
    have ks1 : w10.cell? ⟨wA.heap.size, 1, none⟩ = some (Value.slice aA (lms S0).length cA) := (Lib.cell_of_heap Xs.out 1).trans rfl
    have fs1 : w10.frozen? ⟨wA.heap.size, 1, none⟩ = false := Lib.frozen_of_heap Xs.out 1
    have zs : wA.heap.size < w10.heap.size := hlt Xs.out
    rw [HCC.out]
    go_wp2_with fail
    refine (PowP _ (sgn S0) (lms S0) q w10 ⟨aA, cA, rfl, SZ.out⟩ (by omega) (by omega)).mono ?_
    rintro e w11 ⟨vQ, rfl, ⟨aQ, cQ, rfl, hoQ⟩, hb⟩
    have yw11 := hb.size
    clear kx0 fx0 kx1 fx1 zx
    clear kr0 fr0 kr1 fr1 zr
    clear kp0 fp0 kp1 fp1 zp
    clear ks0 fs0 ks1 fs1 zs
    replace Xx := hide (hbel Xx.out hb (by first | assumption | omega))
    replace Xr := hide (hbel Xr.out hb (by first | assumption | omega))
    replace Xp := hide (hbel Xp.out hb (by first | assumption | omega))
    replace Xs := hide (hbel Xs.out hb (by first | assumption | omega))
    replace SX := hide (SX.out.below hb)
    replace SR := hide (SR.out.below hb)
    replace SP := hide (SP.out.below hb)
    replace SZ := hide (SZ.out.below hb)
    replace HB := hide (bl_trans HB.out hb)
    clear hb
    have SQ := hide hoQ.seg
    clear hoQ
    have kx0 : w11.cell? ⟨w1.heap.size, 0, none⟩ = some (Value.bool false) := (Lib.cell_of_heap Xx.out 0).trans rfl
    have fx0 : w11.frozen? ⟨w1.heap.size, 0, none⟩ = false := Lib.frozen_of_heap Xx.out 0
    have kx1 : w11.cell? ⟨w1.heap.size, 1, none⟩ = some (Value.slice a' xs.length c') := (Lib.cell_of_heap Xx.out 1).trans rfl
    have fx1 : w11.frozen? ⟨w1.heap.size, 1, none⟩ = false := Lib.frozen_of_heap Xx.out 1
    have zx : w1.heap.size < w11.heap.size := hlt Xx.out
    have kr0 : w11.cell? ⟨w3.heap.size, 0, none⟩ = some (Value.bool (sgn R)) := (Lib.cell_of_heap Xr.out 0).trans rfl
    have fr0 : w11.frozen? ⟨w3.heap.size, 0, none⟩ = false := Lib.frozen_of_heap Xr.out 0
    have kr1 : w11.cell? ⟨w3.heap.size, 1, none⟩ = some (Value.slice a1 (lms R).length c1) := (Lib.cell_of_heap Xr.out 1).trans rfl
    have fr1 : w11.frozen? ⟨w3.heap.size, 1, none⟩ = false := Lib.frozen_of_heap Xr.out 1
    have zr : w3.heap.size < w11.heap.size := hlt Xr.out
    have kp0 : w11.cell? ⟨w6.heap.size, 0, none⟩ = some (Value.bool (sgn P)) := (Lib.cell_of_heap Xp.out 0).trans rfl
    have fp0 : w11.frozen? ⟨w6.heap.size, 0, none⟩ = false := Lib.frozen_of_heap Xp.out 0
    have kp1 : w11.cell? ⟨w6.heap.size, 1, none⟩ = some (Value.slice aP (lms P).length cP) := (Lib.cell_of_heap Xp.out 1).trans rfl
    have fp1 : w11.frozen? ⟨w6.heap.size, 1, none⟩ = false := Lib.frozen_of_heap Xp.out 1
    have zp : w6.heap.size < w11.heap.size := hlt Xp.out
    have ks0 : w11.cell? ⟨wA.heap.size, 0, none⟩ = some (Value.bool (sgn S0)) := (Lib.cell_of_heap Xs.out 0).trans rfl
    have fs0 : w11.frozen? ⟨wA.heap.size, 0, none⟩ = false := Lib.frozen_of_heap Xs.out 0
    have ks1 : w11.cell? ⟨wA.heap.size, 1, none⟩ = some (Value.slice aA (lms S0).length cA) := (Lib.cell_of_heap Xs.out 1).trans rfl
    have fs1 : w11.frozen? ⟨wA.heap.size, 1, none⟩ = false := Lib.frozen_of_heap Xs.out 1
    have zs : wA.heap.size < w11.heap.size := hlt Xs.out
    have HNY := hide (HNX.out S0 HS0.out)
    obtain ⟨T2, hT2⟩ : ∃ T2, pwT (sgn S0) (lms S0) q = T2 := ⟨_, rfl⟩
    obtain ⟨Q, hQ⟩ : ∃ Q, pwZ (sgn S0) (lms S0) q = Q := ⟨_, rfl⟩
    rw [hQ] at SQ HNY ⊢
    rw [hT2] at HNY ⊢
    clear hT2 hQ
    cases F with
    | false =>
      go_wp2
      go_ret
      exact ⟨rfl, bl_alloc HB.out _⟩
    | true =>
    cases T2 with
    | false =>
      go_wp2
      go_ret
      exact ⟨rfl, bl_alloc HB.out _⟩
    | true =>
    have hfin := HNY.out HF.out rfl
    go_wp2_with fail
    have Xq : Hid ((w11.alloc (Obj.cells #[Value.bool (sgn Q), Value.slice aQ (lms Q).length cQ] 26)).heap[w11.heap.size]? = some (.cells #[Value.bool (sgn Q), Value.slice aQ (lms Q).length cQ] 26 (0, 0))) := hide (hnew _ _)
    have hbn := (bl_alloc (bl_refl w11) (Obj.cells #[Value.bool (sgn Q), Value.slice aQ (lms Q).length cQ] 26))
    have yw12 : w11.heap.size + 1 ≤ (w11.alloc (Obj.cells #[Value.bool (sgn Q), Value.slice aQ (lms Q).length cQ] 26)).heap.size := by simp only [World.size_alloc]; omega
    generalize w11.alloc (Obj.cells #[Value.bool (sgn Q), Value.slice aQ (lms Q).length cQ] 26) = w12 at *
    clear kx0 fx0 kx1 fx1 zx
    clear kr0 fr0 kr1 fr1 zr
    clear kp0 fp0 kp1 fp1 zp
    clear ks0 fs0 ks1 fs1 zs
    replace Xx := hide (hbel Xx.out hbn (by first | assumption | omega))
    replace Xr := hide (hbel Xr.out hbn (by first | assumption | omega))
    replace Xp := hide (hbel Xp.out hbn (by first | assumption | omega))
    replace Xs := hide (hbel Xs.out hbn (by first | assumption | omega))
    replace SX := hide (SX.out.below hbn)
    replace SR := hide (SR.out.below hbn)
    replace SP := hide (SP.out.below hbn)
    replace SZ := hide (SZ.out.below hbn)
    replace SQ := hide (SQ.out.below hbn)
    replace HB := hide (bl_trans HB.out hbn)
    clear hbn
    have kx0 : w12.cell? ⟨w1.heap.size, 0, none⟩ = some (Value.bool false) := (Lib.cell_of_heap Xx.out 0).trans rfl
    have fx0 : w12.frozen? ⟨w1.heap.size, 0, none⟩ = false := Lib.frozen_of_heap Xx.out 0
    have kx1 : w12.cell? ⟨w1.heap.size, 1, none⟩ = some (Value.slice a' xs.length c') := (Lib.cell_of_heap Xx.out 1).trans rfl
    have fx1 : w12.frozen? ⟨w1.heap.size, 1, none⟩ = false := Lib.frozen_of_heap Xx.out 1
    have zx : w1.heap.size < w12.heap.size := hlt Xx.out
    have kr0 : w12.cell? ⟨w3.heap.size, 0, none⟩ = some (Value.bool (sgn R)) := (Lib.cell_of_heap Xr.out 0).trans rfl
    have fr0 : w12.frozen? ⟨w3.heap.size, 0, none⟩ = false := Lib.frozen_of_heap Xr.out 0
    have kr1 : w12.cell? ⟨w3.heap.size, 1, none⟩ = some (Value.slice a1 (lms R).length c1) := (Lib.cell_of_heap Xr.out 1).trans rfl
    have fr1 : w12.frozen? ⟨w3.heap.size, 1, none⟩ = false := Lib.frozen_of_heap Xr.out 1
    have zr : w3.heap.size < w12.heap.size := hlt Xr.out
    have kp0 : w12.cell? ⟨w6.heap.size, 0, none⟩ = some (Value.bool (sgn P)) := (Lib.cell_of_heap Xp.out 0).trans rfl
    have fp0 : w12.frozen? ⟨w6.heap.size, 0, none⟩ = false := Lib.frozen_of_heap Xp.out 0
    have kp1 : w12.cell? ⟨w6.heap.size, 1, none⟩ = some (Value.slice aP (lms P).length cP) := (Lib.cell_of_heap Xp.out 1).trans rfl
    have fp1 : w12.frozen? ⟨w6.heap.size, 1, none⟩ = false := Lib.frozen_of_heap Xp.out 1
    have zp : w6.heap.size < w12.heap.size := hlt Xp.out
    have ks0 : w12.cell? ⟨wA.heap.size, 0, none⟩ = some (Value.bool (sgn S0)) := (Lib.cell_of_heap Xs.out 0).trans rfl
    have fs0 : w12.frozen? ⟨wA.heap.size, 0, none⟩ = false := Lib.frozen_of_heap Xs.out 0
    have ks1 : w12.cell? ⟨wA.heap.size, 1, none⟩ = some (Value.slice aA (lms S0).length cA) := (Lib.cell_of_heap Xs.out 1).trans rfl
    have fs1 : w12.frozen? ⟨wA.heap.size, 1, none⟩ = false := Lib.frozen_of_heap Xs.out 1
    have zs : wA.heap.size < w12.heap.size := hlt Xs.out
    have kq0 : w12.cell? ⟨w11.heap.size, 0, none⟩ = some (Value.bool (sgn Q)) := (Lib.cell_of_heap Xq.out 0).trans rfl
    have fq0 : w12.frozen? ⟨w11.heap.size, 0, none⟩ = false := Lib.frozen_of_heap Xq.out 0
    have kq1 : w12.cell? ⟨w11.heap.size, 1, none⟩ = some (Value.slice aQ (lms Q).length cQ) := (Lib.cell_of_heap Xq.out 1).trans rfl
    have fq1 : w12.frozen? ⟨w11.heap.size, 1, none⟩ = false := Lib.frozen_of_heap Xq.out 1
    have zq : w11.heap.size < w12.heap.size := hlt Xq.out
    refine (CmpI _ _ (sgn Q) false (lms Q) xs w12 ⟨aQ, cQ, rfl, SQ.out⟩ ⟨a', c', rfl, SX.out⟩).mono ?_
    rintro e w13 ⟨rfl, hb⟩
    have yw13 := hb.size
    clear kx0 fx0 kx1 fx1 zx
    clear kr0 fr0 kr1 fr1 zr
    clear kp0 fp0 kp1 fp1 zp
    clear ks0 fs0 ks1 fs1 zs
    clear kq0 fq0 kq1 fq1 zq
    replace Xx := hide (hbel Xx.out hb (by first | assumption | omega))
    replace Xr := hide (hbel Xr.out hb (by first | assumption | omega))
    replace Xp := hide (hbel Xp.out hb (by first | assumption | omega))
    replace Xs := hide (hbel Xs.out hb (by first | assumption | omega))
    replace Xq := hide (hbel Xq.out hb (by first | assumption | omega))
    replace SX := hide (SX.out.below hb)
    replace SR := hide (SR.out.below hb)
    replace SP := hide (SP.out.below hb)
    replace SZ := hide (SZ.out.below hb)
    replace SQ := hide (SQ.out.below hb)
    replace HB := hide (bl_trans HB.out hb)
    clear hb
    have kx0 : w13.cell? ⟨w1.heap.size, 0, none⟩ = some (Value.bool false) := (Lib.cell_of_heap Xx.out 0).trans rfl
    have fx0 : w13.frozen? ⟨w1.heap.size, 0, none⟩ = false := Lib.frozen_of_heap Xx.out 0
    have kx1 : w13.cell? ⟨w1.heap.size, 1, none⟩ = some (Value.slice a' xs.length c') := (Lib.cell_of_heap Xx.out 1).trans rfl
    have fx1 : w13.frozen? ⟨w1.heap.size, 1, none⟩ = false := Lib.frozen_of_heap Xx.out 1
    have zx : w1.heap.size < w13.heap.size := hlt Xx.out
    have kr0 : w13.cell? ⟨w3.heap.size, 0, none⟩ = some (Value.bool (sgn R)) := (Lib.cell_of_heap Xr.out 0).trans rfl
    have fr0 : w13.frozen? ⟨w3.heap.size, 0, none⟩ = false := Lib.frozen_of_heap Xr.out 0
    have kr1 : w13.cell? ⟨w3.heap.size, 1, none⟩ = some (Value.slice a1 (lms R).length c1) := (Lib.cell_of_heap Xr.out 1).trans rfl
    have fr1 : w13.frozen? ⟨w3.heap.size, 1, none⟩ = false := Lib.frozen_of_heap Xr.out 1
    have zr : w3.heap.size < w13.heap.size := hlt Xr.out
    have kp0 : w13.cell? ⟨w6.heap.size, 0, none⟩ = some (Value.bool (sgn P)) := (Lib.cell_of_heap Xp.out 0).trans rfl
    have fp0 : w13.frozen? ⟨w6.heap.size, 0, none⟩ = false := Lib.frozen_of_heap Xp.out 0
    have kp1 : w13.cell? ⟨w6.heap.size, 1, none⟩ = some (Value.slice aP (lms P).length cP) := (Lib.cell_of_heap Xp.out 1).trans rfl
    have fp1 : w13.frozen? ⟨w6.heap.size, 1, none⟩ = false := Lib.frozen_of_heap Xp.out 1
    have zp : w6.heap.size < w13.heap.size := hlt Xp.out
    have ks0 : w13.cell? ⟨wA.heap.size, 0, none⟩ = some (Value.bool (sgn S0)) := (Lib.cell_of_heap Xs.out 0).trans rfl
    have fs0 : w13.frozen? ⟨wA.heap.size, 0, none⟩ = false := Lib.frozen_of_heap Xs.out 0
    have ks1 : w13.cell? ⟨wA.heap.size, 1, none⟩ = some (Value.slice aA (lms S0).length cA) := (Lib.cell_of_heap Xs.out 1).trans rfl
    have fs1 : w13.frozen? ⟨wA.heap.size, 1, none⟩ = false := Lib.frozen_of_heap Xs.out 1
    have zs : wA.heap.size < w13.heap.size := hlt Xs.out
    have kq0 : w13.cell? ⟨w11.heap.size, 0, none⟩ = some (Value.bool (sgn Q)) := (Lib.cell_of_heap Xq.out 0).trans rfl
    have fq0 : w13.frozen? ⟨w11.heap.size, 0, none⟩ = false := Lib.frozen_of_heap Xq.out 0
    have kq1 : w13.cell? ⟨w11.heap.size, 1, none⟩ = some (Value.slice aQ (lms Q).length cQ) := (Lib.cell_of_heap Xq.out 1).trans rfl
    have fq1 : w13.frozen? ⟨w11.heap.size, 1, none⟩ = false := Lib.frozen_of_heap Xq.out 1
    have zq : w11.heap.size < w13.heap.size := hlt Xq.out
    rw [hfin]
    go_wp2
    go_ret
    exact ⟨rfl, HB.out⟩
  · skip
    clear kx0 fx0 kx1 fx1 zx
    clear kr0 fr0 kr1 fr1 zr
    clear kp0 fp0 kp1 fp1 zp
    obtain ⟨wz, ewz⟩ : ∃ x, x = ((wA.setCell ⟨wF.heap.size, 0, none⟩ (Value.bool (sgn S0))).setCell ⟨wF.heap.size, 1, none⟩ (Value.slice aA (lms S0).length cA)) := ⟨_, rfl⟩
    have hst : St (wF.heap.size) wA wz := by rw [ewz]; exact (((St.refl (wF.heap.size) wA).set 0 (.bool (sgn S0))).set 1 (.slice aA (lms S0).length cA))
    have hbz : Below w7.heap.size w7 wz := St.below hbA hst (by omega)
    have Xs : Hid (wz.heap[wF.heap.size]? = some (.cells #[Value.bool (sgn S0), Value.slice aA (lms S0).length cA] 26 (0, 0))) := hide (by rw [ewz]; exact hset (hset XA2.out 0 (Value.bool (sgn S0))) 1 (Value.slice aA (lms S0).length cA))
    have SZ := hide (Seg.chg (P := fun k => k = wF.heap.size) SA.out (Chg.grown hst.grown (fun k e => by cases e; rfl)) (fun q e => SAne q e))
    rw [← ewz]
    clear ewz hst
    have ywz := hbz.size
    have yzs := hlt Xs.out
    replace Xx := hide (hbel Xx.out hbz (by first | assumption | omega))
    replace Xr := hide (hbel Xr.out hbz (by first | assumption | omega))
    replace Xp := hide (hbel Xp.out hbz (by first | assumption | omega))
    replace SX := hide (SX.out.below hbz)
    replace SR := hide (SR.out.below hbz)
    replace SP := hide (SP.out.below hbz)
    replace HB := hide (bl_trans HB.out hbz)
    clear hbz KP SA SF
    have kx0 : wz.cell? ⟨w1.heap.size, 0, none⟩ = some (Value.bool false) := (Lib.cell_of_heap Xx.out 0).trans rfl
    have fx0 : wz.frozen? ⟨w1.heap.size, 0, none⟩ = false := Lib.frozen_of_heap Xx.out 0
    have kx1 : wz.cell? ⟨w1.heap.size, 1, none⟩ = some (Value.slice a' xs.length c') := (Lib.cell_of_heap Xx.out 1).trans rfl
    have fx1 : wz.frozen? ⟨w1.heap.size, 1, none⟩ = false := Lib.frozen_of_heap Xx.out 1
    have zx : w1.heap.size < wz.heap.size := hlt Xx.out
    have kr0 : wz.cell? ⟨w3.heap.size, 0, none⟩ = some (Value.bool (sgn R)) := (Lib.cell_of_heap Xr.out 0).trans rfl
    have fr0 : wz.frozen? ⟨w3.heap.size, 0, none⟩ = false := Lib.frozen_of_heap Xr.out 0
    have kr1 : wz.cell? ⟨w3.heap.size, 1, none⟩ = some (Value.slice a1 (lms R).length c1) := (Lib.cell_of_heap Xr.out 1).trans rfl
    have fr1 : wz.frozen? ⟨w3.heap.size, 1, none⟩ = false := Lib.frozen_of_heap Xr.out 1
    have zr : w3.heap.size < wz.heap.size := hlt Xr.out
    have kp0 : wz.cell? ⟨w6.heap.size, 0, none⟩ = some (Value.bool (sgn P)) := (Lib.cell_of_heap Xp.out 0).trans rfl
    have fp0 : wz.frozen? ⟨w6.heap.size, 0, none⟩ = false := Lib.frozen_of_heap Xp.out 0
    have kp1 : wz.cell? ⟨w6.heap.size, 1, none⟩ = some (Value.slice aP (lms P).length cP) := (Lib.cell_of_heap Xp.out 1).trans rfl
    have fp1 : wz.frozen? ⟨w6.heap.size, 1, none⟩ = false := Lib.frozen_of_heap Xp.out 1
    have zp : w6.heap.size < wz.heap.size := hlt Xp.out
    have ks0 : wz.cell? ⟨wF.heap.size, 0, none⟩ = some (Value.bool (sgn S0)) := (Lib.cell_of_heap Xs.out 0).trans rfl
    have fs0 : wz.frozen? ⟨wF.heap.size, 0, none⟩ = false := Lib.frozen_of_heap Xs.out 0
    have ks1 : wz.cell? ⟨wF.heap.size, 1, none⟩ = some (Value.slice aA (lms S0).length cA) := (Lib.cell_of_heap Xs.out 1).trans rfl
    have fs1 : wz.frozen? ⟨wF.heap.size, 1, none⟩ = false := Lib.frozen_of_heap Xs.out 1
    have zs : wF.heap.size < wz.heap.size := hlt Xs.out
    go_wp2_with fail
    refine (CmpI _ _ (sgn P) false (lms P) xs wz ⟨aP, cP, rfl, SP.out⟩ ⟨a', c', rfl, SX.out⟩).mono ?_
    rintro e w9 ⟨rfl, hb⟩
    have yw9 := hb.size
    clear kx0 fx0 kx1 fx1 zx
    clear kr0 fr0 kr1 fr1 zr
    clear kp0 fp0 kp1 fp1 zp
    clear ks0 fs0 ks1 fs1 zs
    replace Xx := hide (hbel Xx.out hb (by first | assumption | omega))
    replace Xr := hide (hbel Xr.out hb (by first | assumption | omega))
    replace Xp := hide (hbel Xp.out hb (by first | assumption | omega))
    replace Xs := hide (hbel Xs.out hb (by first | assumption | omega))
    replace SX := hide (SX.out.below hb)
    replace SR := hide (SR.out.below hb)
    replace SP := hide (SP.out.below hb)
    replace SZ := hide (SZ.out.below hb)
    replace HB := hide (bl_trans HB.out hb)
    clear hb
    have kx0 : w9.cell? ⟨w1.heap.size, 0, none⟩ = some (Value.bool false) := (Lib.cell_of_heap Xx.out 0).trans rfl
    have fx0 : w9.frozen? ⟨w1.heap.size, 0, none⟩ = false := Lib.frozen_of_heap Xx.out 0
    have kx1 : w9.cell? ⟨w1.heap.size, 1, none⟩ = some (Value.slice a' xs.length c') := (Lib.cell_of_heap Xx.out 1).trans rfl
    have fx1 : w9.frozen? ⟨w1.heap.size, 1, none⟩ = false := Lib.frozen_of_heap Xx.out 1
    have zx : w1.heap.size < w9.heap.size := hlt Xx.out
    have kr0 : w9.cell? ⟨w3.heap.size, 0, none⟩ = some (Value.bool (sgn R)) := (Lib.cell_of_heap Xr.out 0).trans rfl
    have fr0 : w9.frozen? ⟨w3.heap.size, 0, none⟩ = false := Lib.frozen_of_heap Xr.out 0
    have kr1 : w9.cell? ⟨w3.heap.size, 1, none⟩ = some (Value.slice a1 (lms R).length c1) := (Lib.cell_of_heap Xr.out 1).trans rfl
    have fr1 : w9.frozen? ⟨w3.heap.size, 1, none⟩ = false := Lib.frozen_of_heap Xr.out 1
    have zr : w3.heap.size < w9.heap.size := hlt Xr.out
    have kp0 : w9.cell? ⟨w6.heap.size, 0, none⟩ = some (Value.bool (sgn P)) := (Lib.cell_of_heap Xp.out 0).trans rfl
    have fp0 : w9.frozen? ⟨w6.heap.size, 0, none⟩ = false := Lib.frozen_of_heap Xp.out 0
    have kp1 : w9.cell? ⟨w6.heap.size, 1, none⟩ = some (Value.slice aP (lms P).length cP) := (Lib.cell_of_heap Xp.out 1).trans rfl
    have fp1 : w9.frozen? ⟨w6.heap.size, 1, none⟩ = false := Lib.frozen_of_heap Xp.out 1
    have zp : w6.heap.size < w9.heap.size := hlt Xp.out
    have ks0 : w9.cell? ⟨wF.heap.size, 0, none⟩ = some (Value.bool (sgn S0)) := (Lib.cell_of_heap Xs.out 0).trans rfl
    have fs0 : w9.frozen? ⟨wF.heap.size, 0, none⟩ = false := Lib.frozen_of_heap Xs.out 0
    have ks1 : w9.cell? ⟨wF.heap.size, 1, none⟩ = some (Value.slice aA (lms S0).length cA) := (Lib.cell_of_heap Xs.out 1).trans rfl
    have fs1 : w9.frozen? ⟨wF.heap.size, 1, none⟩ = false := Lib.frozen_of_heap Xs.out 1
    have zs : wF.heap.size < w9.heap.size := hlt Xs.out
    rw [HCC.out]
    go_wp2_with fail
    refine (CmpI _ _ (sgn P) false (lms P) xs w9 ⟨aP, cP, rfl, SP.out⟩ ⟨a', c', rfl, SX.out⟩).mono ?_
    rintro e w10 ⟨rfl, hb⟩
    have yw10 := hb.size
    clear kx0 fx0 kx1 fx1 zx
    clear kr0 fr0 kr1 fr1 zr
    clear kp0 fp0 kp1 fp1 zp
    clear ks0 fs0 ks1 fs1 zs
    replace Xx := hide (hbel Xx.out hb (by first | assumption | omega))
    replace Xr := hide (hbel Xr.out hb (by first | assumption | omega))
    replace Xp := hide (hbel Xp.out hb (by first | assumption | omega))
    replace Xs := hide (hbel Xs.out hb (by first | assumption | omega))
    replace SX := hide (SX.out.below hb)
    replace SR := hide (SR.out.below hb)
    replace SP := hide (SP.out.below hb)
    replace SZ := hide (SZ.out.below hb)
    replace HB := hide (bl_trans HB.out hb)
    clear hb
    have kx0 : w10.cell? ⟨w1.heap.size, 0, none⟩ = some (Value.bool false) := (Lib.cell_of_heap Xx.out 0).trans rfl
    have fx0 : w10.frozen? ⟨w1.heap.size, 0, none⟩ = false := Lib.frozen_of_heap Xx.out 0
    have kx1 : w10.cell? ⟨w1.heap.size, 1, none⟩ = some (Value.slice a' xs.length c') := (Lib.cell_of_heap Xx.out 1).trans rfl
    have fx1 : w10.frozen? ⟨w1.heap.size, 1, none⟩ = false := Lib.frozen_of_heap Xx.out 1
    have zx : w1.heap.size < w10.heap.size := hlt Xx.out
    have kr0 : w10.cell? ⟨w3.heap.size, 0, none⟩ = some (Value.bool (sgn R)) := (Lib.cell_of_heap Xr.out 0).trans rfl
    have fr0 : w10.frozen? ⟨w3.heap.size, 0, none⟩ = false := Lib.frozen_of_heap Xr.out 0
    have kr1 : w10.cell? ⟨w3.heap.size, 1, none⟩ = some (Value.slice a1 (lms R).length c1) := (Lib.cell_of_heap Xr.out 1).trans rfl
    have fr1 : w10.frozen? ⟨w3.heap.size, 1, none⟩ = false := Lib.frozen_of_heap Xr.out 1
    have zr : w3.heap.size < w10.heap.size := hlt Xr.out
    have kp0 : w10.cell? ⟨w6.heap.size, 0, none⟩ = some (Value.bool (sgn P)) := (Lib.cell_of_heap Xp.out 0).trans rfl
    have fp0 : w10.frozen? ⟨w6.heap.size, 0, none⟩ = false := Lib.frozen_of_heap Xp.out 0
    have kp1 : w10.cell? ⟨w6.heap.size, 1, none⟩ = some (Value.slice aP (lms P).length cP) := (Lib.cell_of_heap Xp.out 1).trans rfl
    have fp1 : w10.frozen? ⟨w6.heap.size, 1, none⟩ = false := Lib.frozen_of_heap Xp.out 1
    have zp : w6.heap.size < w10.heap.size := hlt Xp.out
    have ks0 : w10.cell? ⟨wF.heap.size, 0, none⟩ = some (Value.bool (sgn S0)) := (Lib.cell_of_heap Xs.out 0).trans rfl
    have fs0 : w10.frozen? ⟨wF.heap.size, 0, none⟩ = false := Lib.frozen_of_heap Xs.out 0
    have ks1 : w10.cell? ⟨wF.heap.size, 1, none⟩ = some (Value.slice aA (lms S0).length cA) := (Lib.cell_of_heap Xs.out 1).trans rfl
    have fs1 : w10.frozen? ⟨wF.heap.size, 1, none⟩ = false := Lib.frozen_of_heap Xs.out 1
    have zs : wF.heap.size < w10.heap.size := hlt Xs.out
    rw [HCC.out]
    go_wp2_with fail
    refine (PowP _ (sgn S0) (lms S0) q w10 ⟨aA, cA, rfl, SZ.out⟩ (by omega) (by omega)).mono ?_
    rintro e w11 ⟨vQ, rfl, ⟨aQ, cQ, rfl, hoQ⟩, hb⟩
    have yw11 := hb.size
    clear kx0 fx0 kx1 fx1 zx
    clear kr0 fr0 kr1 fr1 zr
    clear kp0 fp0 kp1 fp1 zp
    clear ks0 fs0 ks1 fs1 zs
    replace Xx := hide (hbel Xx.out hb (by first | assumption | omega))
    replace Xr := hide (hbel Xr.out hb (by first | assumption | omega))
    replace Xp := hide (hbel Xp.out hb (by first | assumption | omega))
    replace Xs := hide (hbel Xs.out hb (by first | assumption | omega))
    replace SX := hide (SX.out.below hb)
    replace SR := hide (SR.out.below hb)
    replace SP := hide (SP.out.below hb)
    replace SZ := hide (SZ.out.below hb)
    replace HB := hide (bl_trans HB.out hb)
    clear hb
    have SQ := hide hoQ.seg
    clear hoQ
    have kx0 : w11.cell? ⟨w1.heap.size, 0, none⟩ = some (Value.bool false) := (Lib.cell_of_heap Xx.out 0).trans rfl
    have fx0 : w11.frozen? ⟨w1.heap.size, 0, none⟩ = false := Lib.frozen_of_heap Xx.out 0
    have kx1 : w11.cell? ⟨w1.heap.size, 1, none⟩ = some (Value.slice a' xs.length c') := (Lib.cell_of_heap Xx.out 1).trans rfl
    have fx1 : w11.frozen? ⟨w1.heap.size, 1, none⟩ = false := Lib.frozen_of_heap Xx.out 1
    have zx : w1.heap.size < w11.heap.size := hlt Xx.out
    have kr0 : w11.cell? ⟨w3.heap.size, 0, none⟩ = some (Value.bool (sgn R)) := (Lib.cell_of_heap Xr.out 0).trans rfl
    have fr0 : w11.frozen? ⟨w3.heap.size, 0, none⟩ = false := Lib.frozen_of_heap Xr.out 0
    have kr1 : w11.cell? ⟨w3.heap.size, 1, none⟩ = some (Value.slice a1 (lms R).length c1) := (Lib.cell_of_heap Xr.out 1).trans rfl
    have fr1 : w11.frozen? ⟨w3.heap.size, 1, none⟩ = false := Lib.frozen_of_heap Xr.out 1
    have zr : w3.heap.size < w11.heap.size := hlt Xr.out
    have kp0 : w11.cell? ⟨w6.heap.size, 0, none⟩ = some (Value.bool (sgn P)) := (Lib.cell_of_heap Xp.out 0).trans rfl
    have fp0 : w11.frozen? ⟨w6.heap.size, 0, none⟩ = false := Lib.frozen_of_heap Xp.out 0
    have kp1 : w11.cell? ⟨w6.heap.size, 1, none⟩ = some (Value.slice aP (lms P).length cP) := (Lib.cell_of_heap Xp.out 1).trans rfl
    have fp1 : w11.frozen? ⟨w6.heap.size, 1, none⟩ = false := Lib.frozen_of_heap Xp.out 1
    have zp : w6.heap.size < w11.heap.size := hlt Xp.out
    have ks0 : w11.cell? ⟨wF.heap.size, 0, none⟩ = some (Value.bool (sgn S0)) := (Lib.cell_of_heap Xs.out 0).trans rfl
    have fs0 : w11.frozen? ⟨wF.heap.size, 0, none⟩ = false := Lib.frozen_of_heap Xs.out 0
    have ks1 : w11.cell? ⟨wF.heap.size, 1, none⟩ = some (Value.slice aA (lms S0).length cA) := (Lib.cell_of_heap Xs.out 1).trans rfl
    have fs1 : w11.frozen? ⟨wF.heap.size, 1, none⟩ = false := Lib.frozen_of_heap Xs.out 1
    have zs : wF.heap.size < w11.heap.size := hlt Xs.out
    have HNY := hide (HNX.out S0 HS0.out)
    obtain ⟨T2, hT2⟩ : ∃ T2, pwT (sgn S0) (lms S0) q = T2 := ⟨_, rfl⟩
    obtain ⟨Q, hQ⟩ : ∃ Q, pwZ (sgn S0) (lms S0) q = Q := ⟨_, rfl⟩
    rw [hQ] at SQ HNY ⊢
    rw [hT2] at HNY ⊢
    clear hT2 hQ
    cases F with
    | false =>
      go_wp2
      go_ret
      exact ⟨rfl, bl_alloc HB.out _⟩
    | true =>
    cases T2 with
    | false =>
      go_wp2
      go_ret
      exact ⟨rfl, bl_alloc HB.out _⟩
    | true =>
    have hfin := HNY.out HF.out rfl
    go_wp2_with fail
    have Xq : Hid ((w11.alloc (Obj.cells #[Value.bool (sgn Q), Value.slice aQ (lms Q).length cQ] 26)).heap[w11.heap.size]? = some (.cells #[Value.bool (sgn Q), Value.slice aQ (lms Q).length cQ] 26 (0, 0))) := hide (hnew _ _)
    have hbn := (bl_alloc (bl_refl w11) (Obj.cells #[Value.bool (sgn Q), Value.slice aQ (lms Q).length cQ] 26))
    have yw12 : w11.heap.size + 1 ≤ (w11.alloc (Obj.cells #[Value.bool (sgn Q), Value.slice aQ (lms Q).length cQ] 26)).heap.size := by simp only [World.size_alloc]; omega
    generalize w11.alloc (Obj.cells #[Value.bool (sgn Q), Value.slice aQ (lms Q).length cQ] 26) = w12 at *
    clear kx0 fx0 kx1 fx1 zx
    clear kr0 fr0 kr1 fr1 zr
    clear kp0 fp0 kp1 fp1 zp
    clear ks0 fs0 ks1 fs1 zs
    replace Xx := hide (hbel Xx.out hbn (by first | assumption | omega))
    replace Xr := hide (hbel Xr.out hbn (by first | assumption | omega))
    replace Xp := hide (hbel Xp.out hbn (by first | assumption | omega))
    replace Xs := hide (hbel Xs.out hbn (by first | assumption | omega))
    replace SX := hide (SX.out.below hbn)
    replace SR := hide (SR.out.below hbn)
    replace SP := hide (SP.out.below hbn)
    replace SZ := hide (SZ.out.below hbn)
    replace SQ := hide (SQ.out.below hbn)
    replace HB := hide (bl_trans HB.out hbn)
    clear hbn
    have kx0 : w12.cell? ⟨w1.heap.size, 0, none⟩ = some (Value.bool false) := (Lib.cell_of_heap Xx.out 0).trans rfl
    have fx0 : w12.frozen? ⟨w1.heap.size, 0, none⟩ = false := Lib.frozen_of_heap Xx.out 0
    have kx1 : w12.cell? ⟨w1.heap.size, 1, none⟩ = some (Value.slice a' xs.length c') := (Lib.cell_of_heap Xx.out 1).trans rfl
    have fx1 : w12.frozen? ⟨w1.heap.size, 1, none⟩ = false := Lib.frozen_of_heap Xx.out 1
    have zx : w1.heap.size < w12.heap.size := hlt Xx.out
    have kr0 : w12.cell? ⟨w3.heap.size, 0, none⟩ = some (Value.bool (sgn R)) := (Lib.cell_of_heap Xr.out 0).trans rfl
    have fr0 : w12.frozen? ⟨w3.heap.size, 0, none⟩ = false := Lib.frozen_of_heap Xr.out 0
    have kr1 : w12.cell? ⟨w3.heap.size, 1, none⟩ = some (Value.slice a1 (lms R).length c1) := (Lib.cell_of_heap Xr.out 1).trans rfl
    have fr1 : w12.frozen? ⟨w3.heap.size, 1, none⟩ = false := Lib.frozen_of_heap Xr.out 1
    have zr : w3.heap.size < w12.heap.size := hlt Xr.out
    have kp0 : w12.cell? ⟨w6.heap.size, 0, none⟩ = some (Value.bool (sgn P)) := (Lib.cell_of_heap Xp.out 0).trans rfl
    have fp0 : w12.frozen? ⟨w6.heap.size, 0, none⟩ = false := Lib.frozen_of_heap Xp.out 0
    have kp1 : w12.cell? ⟨w6.heap.size, 1, none⟩ = some (Value.slice aP (lms P).length cP) := (Lib.cell_of_heap Xp.out 1).trans rfl
    have fp1 : w12.frozen? ⟨w6.heap.size, 1, none⟩ = false := Lib.frozen_of_heap Xp.out 1
    have zp : w6.heap.size < w12.heap.size := hlt Xp.out
    have ks0 : w12.cell? ⟨wF.heap.size, 0, none⟩ = some (Value.bool (sgn S0)) := (Lib.cell_of_heap Xs.out 0).trans rfl
    have fs0 : w12.frozen? ⟨wF.heap.size, 0, none⟩ = false := Lib.frozen_of_heap Xs.out 0
    have ks1 : w12.cell? ⟨wF.heap.size, 1, none⟩ = some (Value.slice aA (lms S0).length cA) := (Lib.cell_of_heap Xs.out 1).trans rfl
    have fs1 : w12.frozen? ⟨wF.heap.size, 1, none⟩ = false := Lib.frozen_of_heap Xs.out 1
    have zs : wF.heap.size < w12.heap.size := hlt Xs.out
    have kq0 : w12.cell? ⟨w11.heap.size, 0, none⟩ = some (Value.bool (sgn Q)) := (Lib.cell_of_heap Xq.out 0).trans rfl
    have fq0 : w12.frozen? ⟨w11.heap.size, 0, none⟩ = false := Lib.frozen_of_heap Xq.out 0
    have kq1 : w12.cell? ⟨w11.heap.size, 1, none⟩ = some (Value.slice aQ (lms Q).length cQ) := (Lib.cell_of_heap Xq.out 1).trans rfl
    have fq1 : w12.frozen? ⟨w11.heap.size, 1, none⟩ = false := Lib.frozen_of_heap Xq.out 1
    have zq : w11.heap.size < w12.heap.size := hlt Xq.out
    refine (CmpI _ _ (sgn Q) false (lms Q) xs w12 ⟨aQ, cQ, rfl, SQ.out⟩ ⟨a', c', rfl, SX.out⟩).mono ?_
    rintro e w13 ⟨rfl, hb⟩
    have yw13 := hb.size
    clear kx0 fx0 kx1 fx1 zx
    clear kr0 fr0 kr1 fr1 zr
    clear kp0 fp0 kp1 fp1 zp
    clear ks0 fs0 ks1 fs1 zs
    clear kq0 fq0 kq1 fq1 zq
    replace Xx := hide (hbel Xx.out hb (by first | assumption | omega))
    replace Xr := hide (hbel Xr.out hb (by first | assumption | omega))
    replace Xp := hide (hbel Xp.out hb (by first | assumption | omega))
    replace Xs := hide (hbel Xs.out hb (by first | assumption | omega))
    replace Xq := hide (hbel Xq.out hb (by first | assumption | omega))
    replace SX := hide (SX.out.below hb)
    replace SR := hide (SR.out.below hb)
    replace SP := hide (SP.out.below hb)
    replace SZ := hide (SZ.out.below hb)
    replace SQ := hide (SQ.out.below hb)
    replace HB := hide (bl_trans HB.out hb)
    clear hb
    have kx0 : w13.cell? ⟨w1.heap.size, 0, none⟩ = some (Value.bool false) := (Lib.cell_of_heap Xx.out 0).trans rfl
    have fx0 : w13.frozen? ⟨w1.heap.size, 0, none⟩ = false := Lib.frozen_of_heap Xx.out 0
    have kx1 : w13.cell? ⟨w1.heap.size, 1, none⟩ = some (Value.slice a' xs.length c') := (Lib.cell_of_heap Xx.out 1).trans rfl
    have fx1 : w13.frozen? ⟨w1.heap.size, 1, none⟩ = false := Lib.frozen_of_heap Xx.out 1
    have zx : w1.heap.size < w13.heap.size := hlt Xx.out
    have kr0 : w13.cell? ⟨w3.heap.size, 0, none⟩ = some (Value.bool (sgn R)) := (Lib.cell_of_heap Xr.out 0).trans rfl
    have fr0 : w13.frozen? ⟨w3.heap.size, 0, none⟩ = false := Lib.frozen_of_heap Xr.out 0
    have kr1 : w13.cell? ⟨w3.heap.size, 1, none⟩ = some (Value.slice a1 (lms R).length c1) := (Lib.cell_of_heap Xr.out 1).trans rfl
    have fr1 : w13.frozen? ⟨w3.heap.size, 1, none⟩ = false := Lib.frozen_of_heap Xr.out 1
    have zr : w3.heap.size < w13.heap.size := hlt Xr.out
    have kp0 : w13.cell? ⟨w6.heap.size, 0, none⟩ = some (Value.bool (sgn P)) := (Lib.cell_of_heap Xp.out 0).trans rfl
    have fp0 : w13.frozen? ⟨w6.heap.size, 0, none⟩ = false := Lib.frozen_of_heap Xp.out 0
    have kp1 : w13.cell? ⟨w6.heap.size, 1, none⟩ = some (Value.slice aP (lms P).length cP) := (Lib.cell_of_heap Xp.out 1).trans rfl
    have fp1 : w13.frozen? ⟨w6.heap.size, 1, none⟩ = false := Lib.frozen_of_heap Xp.out 1
    have zp : w6.heap.size < w13.heap.size := hlt Xp.out
    have ks0 : w13.cell? ⟨wF.heap.size, 0, none⟩ = some (Value.bool (sgn S0)) := (Lib.cell_of_heap Xs.out 0).trans rfl
    have fs0 : w13.frozen? ⟨wF.heap.size, 0, none⟩ = false := Lib.frozen_of_heap Xs.out 0
    have ks1 : w13.cell? ⟨wF.heap.size, 1, none⟩ = some (Value.slice aA (lms S0).length cA) := (Lib.cell_of_heap Xs.out 1).trans rfl
    have fs1 : w13.frozen? ⟨wF.heap.size, 1, none⟩ = false := Lib.frozen_of_heap Xs.out 1
    have zs : wF.heap.size < w13.heap.size := hlt Xs.out
    have kq0 : w13.cell? ⟨w11.heap.size, 0, none⟩ = some (Value.bool (sgn Q)) := (Lib.cell_of_heap Xq.out 0).trans rfl
    have fq0 : w13.frozen? ⟨w11.heap.size, 0, none⟩ = false := Lib.frozen_of_heap Xq.out 0
    have kq1 : w13.cell? ⟨w11.heap.size, 1, none⟩ = some (Value.slice aQ (lms Q).length cQ) := (Lib.cell_of_heap Xq.out 1).trans rfl
    have fq1 : w13.frozen? ⟨w11.heap.size, 1, none⟩ = false := Lib.frozen_of_heap Xq.out 1
    have zq : w11.heap.size < w13.heap.size := hlt Xq.out
    rw [hfin]
    go_wp2
    go_ret
    exact ⟨rfl, HB.out⟩
  · skip
    clear kx0 fx0 kx1 fx1 zx
    clear kr0 fr0 kr1 fr1 zr
    clear kp0 fp0 kp1 fp1 zp
    obtain ⟨wz, ewz⟩ : ∃ x, x = ((wA.setCell ⟨w7.heap.size, 0, none⟩ (Value.bool (sgn S0))).setCell ⟨w7.heap.size, 1, none⟩ (Value.slice aA (lms S0).length cA)) := ⟨_, rfl⟩
    have hst : St (w7.heap.size) wA wz := by rw [ewz]; exact (((St.refl (w7.heap.size) wA).set 0 (.bool (sgn S0))).set 1 (.slice aA (lms S0).length cA))
    have hbz : Below w7.heap.size w7 wz := St.below hbA hst (by omega)
    have Xs : Hid (wz.heap[w7.heap.size]? = some (.cells #[Value.bool (sgn S0), Value.slice aA (lms S0).length cA] 26 (0, 0))) := hide (by rw [ewz]; exact hset (hset XA3.out 0 (Value.bool (sgn S0))) 1 (Value.slice aA (lms S0).length cA))
    have SZ := hide (Seg.chg (P := fun k => k = w7.heap.size) SA.out (Chg.grown hst.grown (fun k e => by cases e; rfl)) (fun q e => SAne q e))
    rw [← ewz]
    clear ewz hst
    have ywz := hbz.size
    have yzs := hlt Xs.out
    replace Xx := hide (hbel Xx.out hbz (by first | assumption | omega))
    replace Xr := hide (hbel Xr.out hbz (by first | assumption | omega))
    replace Xp := hide (hbel Xp.out hbz (by first | assumption | omega))
    replace SX := hide (SX.out.below hbz)
    replace SR := hide (SR.out.below hbz)
    replace SP := hide (SP.out.below hbz)
    replace HB := hide (bl_trans HB.out hbz)
    clear hbz KP SA SF
    have kx0 : wz.cell? ⟨w1.heap.size, 0, none⟩ = some (Value.bool false) := (Lib.cell_of_heap Xx.out 0).trans rfl
    have fx0 : wz.frozen? ⟨w1.heap.size, 0, none⟩ = false := Lib.frozen_of_heap Xx.out 0
    have kx1 : wz.cell? ⟨w1.heap.size, 1, none⟩ = some (Value.slice a' xs.length c') := (Lib.cell_of_heap Xx.out 1).trans rfl
    have fx1 : wz.frozen? ⟨w1.heap.size, 1, none⟩ = false := Lib.frozen_of_heap Xx.out 1
    have zx : w1.heap.size < wz.heap.size := hlt Xx.out
    have kr0 : wz.cell? ⟨w3.heap.size, 0, none⟩ = some (Value.bool (sgn R)) := (Lib.cell_of_heap Xr.out 0).trans rfl
    have fr0 : wz.frozen? ⟨w3.heap.size, 0, none⟩ = false := Lib.frozen_of_heap Xr.out 0
    have kr1 : wz.cell? ⟨w3.heap.size, 1, none⟩ = some (Value.slice a1 (lms R).length c1) := (Lib.cell_of_heap Xr.out 1).trans rfl
    have fr1 : wz.frozen? ⟨w3.heap.size, 1, none⟩ = false := Lib.frozen_of_heap Xr.out 1
    have zr : w3.heap.size < wz.heap.size := hlt Xr.out
    have kp0 : wz.cell? ⟨w6.heap.size, 0, none⟩ = some (Value.bool (sgn P)) := (Lib.cell_of_heap Xp.out 0).trans rfl
    have fp0 : wz.frozen? ⟨w6.heap.size, 0, none⟩ = false := Lib.frozen_of_heap Xp.out 0
    have kp1 : wz.cell? ⟨w6.heap.size, 1, none⟩ = some (Value.slice aP (lms P).length cP) := (Lib.cell_of_heap Xp.out 1).trans rfl
    have fp1 : wz.frozen? ⟨w6.heap.size, 1, none⟩ = false := Lib.frozen_of_heap Xp.out 1
    have zp : w6.heap.size < wz.heap.size := hlt Xp.out
    have ks0 : wz.cell? ⟨w7.heap.size, 0, none⟩ = some (Value.bool (sgn S0)) := (Lib.cell_of_heap Xs.out 0).trans rfl
    have fs0 : wz.frozen? ⟨w7.heap.size, 0, none⟩ = false := Lib.frozen_of_heap Xs.out 0
    have ks1 : wz.cell? ⟨w7.heap.size, 1, none⟩ = some (Value.slice aA (lms S0).length cA) := (Lib.cell_of_heap Xs.out 1).trans rfl
    have fs1 : wz.frozen? ⟨w7.heap.size, 1, none⟩ = false := Lib.frozen_of_heap Xs.out 1
    have zs : w7.heap.size < wz.heap.size := hlt Xs.out
    go_wp2_with fail
    refine (CmpI _ _ (sgn P) false (lms P) xs wz ⟨aP, cP, rfl, SP.out⟩ ⟨a', c', rfl, SX.out⟩).mono ?_
    rintro e w9 ⟨rfl, hb⟩
    have yw9 := hb.size
    clear kx0 fx0 kx1 fx1 zx
    clear kr0 fr0 kr1 fr1 zr
    clear kp0 fp0 kp1 fp1 zp
    clear ks0 fs0 ks1 fs1 zs
    replace Xx := hide (hbel Xx.out hb (by first | assumption | omega))
    replace Xr := hide (hbel Xr.out hb (by first | assumption | omega))
    replace Xp := hide (hbel Xp.out hb (by first | assumption | omega))
    replace Xs := hide (hbel Xs.out hb (by first | assumption | omega))
    replace SX := hide (SX.out.below hb)
    replace SR := hide (SR.out.below hb)
    replace SP := hide (SP.out.below hb)
    replace SZ := hide (SZ.out.below hb)
    replace HB := hide (bl_trans HB.out hb)
    clear hb
    have kx0 : w9.cell? ⟨w1.heap.size, 0, none⟩ = some (Value.bool false) := (Lib.cell_of_heap Xx.out 0).trans rfl
    have fx0 : w9.frozen? ⟨w1.heap.size, 0, none⟩ = false := Lib.frozen_of_heap Xx.out 0
    have kx1 : w9.cell? ⟨w1.heap.size, 1, none⟩ = some (Value.slice a' xs.length c') := (Lib.cell_of_heap Xx.out 1).trans rfl
    have fx1 : w9.frozen? ⟨w1.heap.size, 1, none⟩ = false := Lib.frozen_of_heap Xx.out 1
    have zx : w1.heap.size < w9.heap.size := hlt Xx.out
    have kr0 : w9.cell? ⟨w3.heap.size, 0, none⟩ = some (Value.bool (sgn R)) := (Lib.cell_of_heap Xr.out 0).trans rfl
    have fr0 : w9.frozen? ⟨w3.heap.size, 0, none⟩ = false := Lib.frozen_of_heap Xr.out 0
    have kr1 : w9.cell? ⟨w3.heap.size, 1, none⟩ = some (Value.slice a1 (lms R).length c1) := (Lib.cell_of_heap Xr.out 1).trans rfl
    have fr1 : w9.frozen? ⟨w3.heap.size, 1, none⟩ = false := Lib.frozen_of_heap Xr.out 1
    have zr : w3.heap.size < w9.heap.size := hlt Xr.out
    have kp0 : w9.cell? ⟨w6.heap.size, 0, none⟩ = some (Value.bool (sgn P)) := (Lib.cell_of_heap Xp.out 0).trans rfl
    have fp0 : w9.frozen? ⟨w6.heap.size, 0, none⟩ = false := Lib.frozen_of_heap Xp.out 0
    have kp1 : w9.cell? ⟨w6.heap.size, 1, none⟩ = some (Value.slice aP (lms P).length cP) := (Lib.cell_of_heap Xp.out 1).trans rfl
    have fp1 : w9.frozen? ⟨w6.heap.size, 1, none⟩ = false := Lib.frozen_of_heap Xp.out 1
    have zp : w6.heap.size < w9.heap.size := hlt Xp.out
    have ks0 : w9.cell? ⟨w7.heap.size, 0, none⟩ = some (Value.bool (sgn S0)) := (Lib.cell_of_heap Xs.out 0).trans rfl
    have fs0 : w9.frozen? ⟨w7.heap.size, 0, none⟩ = false := Lib.frozen_of_heap Xs.out 0
    have ks1 : w9.cell? ⟨w7.heap.size, 1, none⟩ = some (Value.slice aA (lms S0).length cA) := (Lib.cell_of_heap Xs.out 1).trans rfl
    have fs1 : w9.frozen? ⟨w7.heap.size, 1, none⟩ = false := Lib.frozen_of_heap Xs.out 1
    have zs : w7.heap.size < w9.heap.size := hlt Xs.out
    rw [HCC.out]
    go_wp2_with fail
    refine (CmpI _ _ (sgn P) false (lms P) xs w9 ⟨aP, cP, rfl, SP.out⟩ ⟨a', c', rfl, SX.out⟩).mono ?_
    rintro e w10 ⟨rfl, hb⟩
    have yw10 := hb.size
    clear kx0 fx0 kx1 fx1 zx
    clear kr0 fr0 kr1 fr1 zr
    clear kp0 fp0 kp1 fp1 zp
    clear ks0 fs0 ks1 fs1 zs
    replace Xx := hide (hbel Xx.out hb (by first | assumption | omega))
    replace Xr := hide (hbel Xr.out hb (by first | assumption | omega))
    replace Xp := hide (hbel Xp.out hb (by first | assumption | omega))
    replace Xs := hide (hbel Xs.out hb (by first | assumption | omega))
    replace SX := hide (SX.out.below hb)
    replace SR := hide (SR.out.below hb)
    replace SP := hide (SP.out.below hb)
    replace SZ := hide (SZ.out.below hb)
    replace HB := hide (bl_trans HB.out hb)
    clear hb
    have kx0 : w10.cell? ⟨w1.heap.size, 0, none⟩ = some (Value.bool false) := (Lib.cell_of_heap Xx.out 0).trans rfl
    have fx0 : w10.frozen? ⟨w1.heap.size, 0, none⟩ = false := Lib.frozen_of_heap Xx.out 0
    have kx1 : w10.cell? ⟨w1.heap.size, 1, none⟩ = some (Value.slice a' xs.length c') := (Lib.cell_of_heap Xx.out 1).trans rfl
    have fx1 : w10.frozen? ⟨w1.heap.size, 1, none⟩ = false := Lib.frozen_of_heap Xx.out 1
    have zx : w1.heap.size < w10.heap.size := hlt Xx.out
    have kr0 : w10.cell? ⟨w3.heap.size, 0, none⟩ = some (Value.bool (sgn R)) := (Lib.cell_of_heap Xr.out 0).trans rfl
    have fr0 : w10.frozen? ⟨w3.heap.size, 0, none⟩ = false := Lib.frozen_of_heap Xr.out 0
    have kr1 : w10.cell? ⟨w3.heap.size, 1, none⟩ = some (Value.slice a1 (lms R).length c1) := (Lib.cell_of_heap Xr.out 1).trans rfl
    have fr1 : w10.frozen? ⟨w3.heap.size, 1, none⟩ = false := Lib.frozen_of_heap Xr.out 1
    have zr : w3.heap.size < w10.heap.size := hlt Xr.out
    have kp0 : w10.cell? ⟨w6.heap.size, 0, none⟩ = some (Value.bool (sgn P)) := (Lib.cell_of_heap Xp.out 0).trans rfl
    have fp0 : w10.frozen? ⟨w6.heap.size, 0, none⟩ = false := Lib.frozen_of_heap Xp.out 0
    have kp1 : w10.cell? ⟨w6.heap.size, 1, none⟩ = some (Value.slice aP (lms P).length cP) := (Lib.cell_of_heap Xp.out 1).trans rfl
    have fp1 : w10.frozen? ⟨w6.heap.size, 1, none⟩ = false := Lib.frozen_of_heap Xp.out 1
    have zp : w6.heap.size < w10.heap.size := hlt Xp.out
    have ks0 : w10.cell? ⟨w7.heap.size, 0, none⟩ = some (Value.bool (sgn S0)) := (Lib.cell_of_heap Xs.out 0).trans rfl
    have fs0 : w10.frozen? ⟨w7.heap.size, 0, none⟩ = false := Lib.frozen_of_heap Xs.out 0
    have ks1 : w10.cell? ⟨w7.heap.size, 1, none⟩ = some (Value.slice aA (lms S0).length cA) := (Lib.cell_of_heap Xs.out 1).trans rfl
    have fs1 : w10.frozen? ⟨w7.heap.size, 1, none⟩ = false := Lib.frozen_of_heap Xs.out 1
    have zs : w7.heap.size < w10.heap.size := hlt Xs.out
    rw [HCC.out]
    go_wp2_with fail
    refine (PowP _ (sgn S0) (lms S0) q w10 ⟨aA, cA, rfl, SZ.out⟩ (by omega) (by omega)).mono ?_
    rintro e w11 ⟨vQ, rfl, ⟨aQ, cQ, rfl, hoQ⟩, hb⟩
    have yw11 := hb.size
    clear kx0 fx0 kx1 fx1 zx
    clear kr0 fr0 kr1 fr1 zr
    clear kp0 fp0 kp1 fp1 zp
    clear ks0 fs0 ks1 fs1 zs
    replace Xx := hide (hbel Xx.out hb (by first | assumption | omega))
    replace Xr := hide (hbel Xr.out hb (by first | assumption | omega))
    replace Xp := hide (hbel Xp.out hb (by first | assumption | omega))
    replace Xs := hide (hbel Xs.out hb (by first | assumption | omega))
    replace SX := hide (SX.out.below hb)
    replace SR := hide (SR.out.below hb)
    replace SP := hide (SP.out.below hb)
    replace SZ := hide (SZ.out.below hb)
    replace HB := hide (bl_trans HB.out hb)
    clear hb
    have SQ := hide hoQ.seg
    clear hoQ
    have kx0 : w11.cell? ⟨w1.heap.size, 0, none⟩ = some (Value.bool false) := (Lib.cell_of_heap Xx.out 0).trans rfl
    have fx0 : w11.frozen? ⟨w1.heap.size, 0, none⟩ = false := Lib.frozen_of_heap Xx.out 0
    have kx1 : w11.cell? ⟨w1.heap.size, 1, none⟩ = some (Value.slice a' xs.length c') := (Lib.cell_of_heap Xx.out 1).trans rfl
    have fx1 : w11.frozen? ⟨w1.heap.size, 1, none⟩ = false := Lib.frozen_of_heap Xx.out 1
    have zx : w1.heap.size < w11.heap.size := hlt Xx.out
    have kr0 : w11.cell? ⟨w3.heap.size, 0, none⟩ = some (Value.bool (sgn R)) := (Lib.cell_of_heap Xr.out 0).trans rfl
    have fr0 : w11.frozen? ⟨w3.heap.size, 0, none⟩ = false := Lib.frozen_of_heap Xr.out 0
    have kr1 : w11.cell? ⟨w3.heap.size, 1, none⟩ = some (Value.slice a1 (lms R).length c1) := (Lib.cell_of_heap Xr.out 1).trans rfl
    have fr1 : w11.frozen? ⟨w3.heap.size, 1, none⟩ = false := Lib.frozen_of_heap Xr.out 1
    have zr : w3.heap.size < w11.heap.size := hlt Xr.out
    have kp0 : w11.cell? ⟨w6.heap.size, 0, none⟩ = some (Value.bool (sgn P)) := (Lib.cell_of_heap Xp.out 0).trans rfl
    have fp0 : w11.frozen? ⟨w6.heap.size, 0, none⟩ = false := Lib.frozen_of_heap Xp.out 0
    have kp1 : w11.cell? ⟨w6.heap.size, 1, none⟩ = some (Value.slice aP (lms P).length cP) := (Lib.cell_of_heap Xp.out 1).trans rfl
    have fp1 : w11.frozen? ⟨w6.heap.size, 1, none⟩ = false := Lib.frozen_of_heap Xp.out 1
    have zp : w6.heap.size < w11.heap.size := hlt Xp.out
    have ks0 : w11.cell? ⟨w7.heap.size, 0, none⟩ = some (Value.bool (sgn S0)) := (Lib.cell_of_heap Xs.out 0).trans rfl
    have fs0 : w11.frozen? ⟨w7.heap.size, 0, none⟩ = false := Lib.frozen_of_heap Xs.out 0
    have ks1 : w11.cell? ⟨w7.heap.size, 1, none⟩ = some (Value.slice aA (lms S0).length cA) := (Lib.cell_of_heap Xs.out 1).trans rfl
    have fs1 : w11.frozen? ⟨w7.heap.size, 1, none⟩ = false := Lib.frozen_of_heap Xs.out 1
    have zs : w7.heap.size < w11.heap.size := hlt Xs.out
    have HNY := hide (HNX.out S0 HS0.out)
    obtain ⟨T2, hT2⟩ : ∃ T2, pwT (sgn S0) (lms S0) q = T2 := ⟨_, rfl⟩
    obtain ⟨Q, hQ⟩ : ∃ Q, pwZ (sgn S0) (lms S0) q = Q := ⟨_, rfl⟩
    rw [hQ] at SQ HNY ⊢
    rw [hT2] at HNY ⊢
    clear hT2 hQ
    cases F with
    | false =>
      go_wp2
      go_ret
      exact ⟨rfl, bl_alloc HB.out _⟩
    | true =>
    cases T2 with
    | false =>
      go_wp2
      go_ret
      exact ⟨rfl, bl_alloc HB.out _⟩
    | true =>
    have hfin := HNY.out HF.out rfl
    go_wp2_with fail
    have Xq : Hid ((w11.alloc (Obj.cells #[Value.bool (sgn Q), Value.slice aQ (lms Q).length cQ] 26)).heap[w11.heap.size]? = some (.cells #[Value.bool (sgn Q), Value.slice aQ (lms Q).length cQ] 26 (0, 0))) := hide (hnew _ _)
    have hbn := (bl_alloc (bl_refl w11) (Obj.cells #[Value.bool (sgn Q), Value.slice aQ (lms Q).length cQ] 26))
    have yw12 : w11.heap.size + 1 ≤ (w11.alloc (Obj.cells #[Value.bool (sgn Q), Value.slice aQ (lms Q).length cQ] 26)).heap.size := by simp only [World.size_alloc]; omega
    generalize w11.alloc (Obj.cells #[Value.bool (sgn Q), Value.slice aQ (lms Q).length cQ] 26) = w12 at *
    clear kx0 fx0 kx1 fx1 zx
    clear kr0 fr0 kr1 fr1 zr
    clear kp0 fp0 kp1 fp1 zp
    clear ks0 fs0 ks1 fs1 zs
    replace Xx := hide (hbel Xx.out hbn (by first | assumption | omega))
    replace Xr := hide (hbel Xr.out hbn (by first | assumption | omega))
    replace Xp := hide (hbel Xp.out hbn (by first | assumption | omega))
    replace Xs := hide (hbel Xs.out hbn (by first | assumption | omega))
    replace SX := hide (SX.out.below hbn)
    replace SR := hide (SR.out.below hbn)
    replace SP := hide (SP.out.below hbn)
    replace SZ := hide (SZ.out.below hbn)
    replace SQ := hide (SQ.out.below hbn)
    replace HB := hide (bl_trans HB.out hbn)
    clear hbn
    have kx0 : w12.cell? ⟨w1.heap.size, 0, none⟩ = some (Value.bool false) := (Lib.cell_of_heap Xx.out 0).trans rfl
    have fx0 : w12.frozen? ⟨w1.heap.size, 0, none⟩ = false := Lib.frozen_of_heap Xx.out 0
    have kx1 : w12.cell? ⟨w1.heap.size, 1, none⟩ = some (Value.slice a' xs.length c') := (Lib.cell_of_heap Xx.out 1).trans rfl
    have fx1 : w12.frozen? ⟨w1.heap.size, 1, none⟩ = false := Lib.frozen_of_heap Xx.out 1
    have zx : w1.heap.size < w12.heap.size := hlt Xx.out
    have kr0 : w12.cell? ⟨w3.heap.size, 0, none⟩ = some (Value.bool (sgn R)) := (Lib.cell_of_heap Xr.out 0).trans rfl
    have fr0 : w12.frozen? ⟨w3.heap.size, 0, none⟩ = false := Lib.frozen_of_heap Xr.out 0
    have kr1 : w12.cell? ⟨w3.heap.size, 1, none⟩ = some (Value.slice a1 (lms R).length c1) := (Lib.cell_of_heap Xr.out 1).trans rfl
    have fr1 : w12.frozen? ⟨w3.heap.size, 1, none⟩ = false := Lib.frozen_of_heap Xr.out 1
    have zr : w3.heap.size < w12.heap.size := hlt Xr.out
    have kp0 : w12.cell? ⟨w6.heap.size, 0, none⟩ = some (Value.bool (sgn P)) := (Lib.cell_of_heap Xp.out 0).trans rfl
    have fp0 : w12.frozen? ⟨w6.heap.size, 0, none⟩ = false := Lib.frozen_of_heap Xp.out 0
    have kp1 : w12.cell? ⟨w6.heap.size, 1, none⟩ = some (Value.slice aP (lms P).length cP) := (Lib.cell_of_heap Xp.out 1).trans rfl
    have fp1 : w12.frozen? ⟨w6.heap.size, 1, none⟩ = false := Lib.frozen_of_heap Xp.out 1
    have zp : w6.heap.size < w12.heap.size := hlt Xp.out
    have ks0 : w12.cell? ⟨w7.heap.size, 0, none⟩ = some (Value.bool (sgn S0)) := (Lib.cell_of_heap Xs.out 0).trans rfl
    have fs0 : w12.frozen? ⟨w7.heap.size, 0, none⟩ = false := Lib.frozen_of_heap Xs.out 0
    have ks1 : w12.cell? ⟨w7.heap.size, 1, none⟩ = some (Value.slice aA (lms S0).length cA) := (Lib.cell_of_heap Xs.out 1).trans rfl
    have fs1 : w12.frozen? ⟨w7.heap.size, 1, none⟩ = false := Lib.frozen_of_heap Xs.out 1
    have zs : w7.heap.size < w12.heap.size := hlt Xs.out
    have kq0 : w12.cell? ⟨w11.heap.size, 0, none⟩ = some (Value.bool (sgn Q)) := (Lib.cell_of_heap Xq.out 0).trans rfl
    have fq0 : w12.frozen? ⟨w11.heap.size, 0, none⟩ = false := Lib.frozen_of_heap Xq.out 0
    have kq1 : w12.cell? ⟨w11.heap.size, 1, none⟩ = some (Value.slice aQ (lms Q).length cQ) := (Lib.cell_of_heap Xq.out 1).trans rfl
    have fq1 : w12.frozen? ⟨w11.heap.size, 1, none⟩ = false := Lib.frozen_of_heap Xq.out 1
    have zq : w11.heap.size < w12.heap.size := hlt Xq.out
    refine (CmpI _ _ (sgn Q) false (lms Q) xs w12 ⟨aQ, cQ, rfl, SQ.out⟩ ⟨a', c', rfl, SX.out⟩).mono ?_
    rintro e w13 ⟨rfl, hb⟩
    have yw13 := hb.size
    clear kx0 fx0 kx1 fx1 zx
    clear kr0 fr0 kr1 fr1 zr
    clear kp0 fp0 kp1 fp1 zp
    clear ks0 fs0 ks1 fs1 zs
    clear kq0 fq0 kq1 fq1 zq
    replace Xx := hide (hbel Xx.out hb (by first | assumption | omega))
    replace Xr := hide (hbel Xr.out hb (by first | assumption | omega))
    replace Xp := hide (hbel Xp.out hb (by first | assumption | omega))
    replace Xs := hide (hbel Xs.out hb (by first | assumption | omega))
    replace Xq := hide (hbel Xq.out hb (by first | assumption | omega))
    replace SX := hide (SX.out.below hb)
    replace SR := hide (SR.out.below hb)
    replace SP := hide (SP.out.below hb)
    replace SZ := hide (SZ.out.below hb)
    replace SQ := hide (SQ.out.below hb)
    replace HB := hide (bl_trans HB.out hb)
    clear hb
    have kx0 : w13.cell? ⟨w1.heap.size, 0, none⟩ = some (Value.bool false) := (Lib.cell_of_heap Xx.out 0).trans rfl
    have fx0 : w13.frozen? ⟨w1.heap.size, 0, none⟩ = false := Lib.frozen_of_heap Xx.out 0
    have kx1 : w13.cell? ⟨w1.heap.size, 1, none⟩ = some (Value.slice a' xs.length c') := (Lib.cell_of_heap Xx.out 1).trans rfl
    have fx1 : w13.frozen? ⟨w1.heap.size, 1, none⟩ = false := Lib.frozen_of_heap Xx.out 1
    have zx : w1.heap.size < w13.heap.size := hlt Xx.out
    have kr0 : w13.cell? ⟨w3.heap.size, 0, none⟩ = some (Value.bool (sgn R)) := (Lib.cell_of_heap Xr.out 0).trans rfl
    have fr0 : w13.frozen? ⟨w3.heap.size, 0, none⟩ = false := Lib.frozen_of_heap Xr.out 0
    have kr1 : w13.cell? ⟨w3.heap.size, 1, none⟩ = some (Value.slice a1 (lms R).length c1) := (Lib.cell_of_heap Xr.out 1).trans rfl
    have fr1 : w13.frozen? ⟨w3.heap.size, 1, none⟩ = false := Lib.frozen_of_heap Xr.out 1
    have zr : w3.heap.size < w13.heap.size := hlt Xr.out
    have kp0 : w13.cell? ⟨w6.heap.size, 0, none⟩ = some (Value.bool (sgn P)) := (Lib.cell_of_heap Xp.out 0).trans rfl
    have fp0 : w13.frozen? ⟨w6.heap.size, 0, none⟩ = false := Lib.frozen_of_heap Xp.out 0
    have kp1 : w13.cell? ⟨w6.heap.size, 1, none⟩ = some (Value.slice aP (lms P).length cP) := (Lib.cell_of_heap Xp.out 1).trans rfl
    have fp1 : w13.frozen? ⟨w6.heap.size, 1, none⟩ = false := Lib.frozen_of_heap Xp.out 1
    have zp : w6.heap.size < w13.heap.size := hlt Xp.out
    have ks0 : w13.cell? ⟨w7.heap.size, 0, none⟩ = some (Value.bool (sgn S0)) := (Lib.cell_of_heap Xs.out 0).trans rfl
    have fs0 : w13.frozen? ⟨w7.heap.size, 0, none⟩ = false := Lib.frozen_of_heap Xs.out 0
    have ks1 : w13.cell? ⟨w7.heap.size, 1, none⟩ = some (Value.slice aA (lms S0).length cA) := (Lib.cell_of_heap Xs.out 1).trans rfl
    have fs1 : w13.frozen? ⟨w7.heap.size, 1, none⟩ = false := Lib.frozen_of_heap Xs.out 1
    have zs : w7.heap.size < w13.heap.size := hlt Xs.out
    have kq0 : w13.cell? ⟨w11.heap.size, 0, none⟩ = some (Value.bool (sgn Q)) := (Lib.cell_of_heap Xq.out 0).trans rfl
    have fq0 : w13.frozen? ⟨w11.heap.size, 0, none⟩ = false := Lib.frozen_of_heap Xq.out 0
    have kq1 : w13.cell? ⟨w11.heap.size, 1, none⟩ = some (Value.slice aQ (lms Q).length cQ) := (Lib.cell_of_heap Xq.out 1).trans rfl
    have fq1 : w13.frozen? ⟨w11.heap.size, 1, none⟩ = false := Lib.frozen_of_heap Xq.out 1
    have zq : w11.heap.size < w13.heap.size := hlt Xq.out
    rw [hfin]
    go_wp2
    go_ret
    exact ⟨rfl, HB.out⟩
end Go.Proofs.Ythjapjbiclkhcaa
