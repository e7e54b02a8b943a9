/- The walk of DrawVecScale: powers and two numbers that are drawn. -/
import Derived.Test.YtkfiidldappdcaaDrawA
namespace Go.Proofs.Ytkfiidldappdcaa
open Go.RowKit
set_option linter.unusedVariables false

set_option maxHeartbeats 4000000 in
theorem drawScale (a : Option Addr) (len cap : Nat) (w : World) (hr : Row a len cap w) :
    Calls Try.prog 25 #[.slice a len cap] w fun e w' => ∃ d1 a1 c1 xs p q, e = .returned (.tuple #[.agg #[.int .i64 d1, .slice a1 xs.length c1], .int .i64 p, .int .i64 q]) ∧ Seg w' a1 xs.length c1 xs ∧ Below w.heap.size w w' := by
  have q0 : (w.alloc (Obj.cells #[Value.int .i64 0, Value.slice none 0 0] 29)).cell? ⟨w.heap.size, 0, none⟩ = some (Value.int .i64 0) := by go_simp
  have p0 : (w.alloc (Obj.cells #[Value.int .i64 0, Value.slice none 0 0] 29)).frozen? ⟨w.heap.size, 0, none⟩ = false := by go_simp
  have q1 : (w.alloc (Obj.cells #[Value.int .i64 0, Value.slice none 0 0] 29)).cell? ⟨w.heap.size, 1, none⟩ = some (Value.slice none 0 0) := by go_simp
  have p1 : (w.alloc (Obj.cells #[Value.int .i64 0, Value.slice none 0 0] 29)).frozen? ⟨w.heap.size, 1, none⟩ = false := by go_simp
  have zz : w.heap.size < (w.alloc (Obj.cells #[Value.int .i64 0, Value.slice none 0 0] 29)).heap.size := by simp only [World.size_alloc]; omega
  have HB := hide (bl_alloc (bl_refl w) (Obj.cells #[Value.int .i64 0, Value.slice none 0 0] 29))
  have HR := hide (hr.bel HB.out)
  clear hr
  go_enter Try.func25, Try.ntmps25
  go_wp2_with fail
  generalize w.alloc (Obj.cells #[Value.int .i64 0, Value.slice none 0 0] 29) = w1 at *
  refine (newD a len cap _ HR.out).mono ?_
  rintro e w2 ⟨rfl, hc, hb⟩
  replace q0 := (hb.cell (p := ⟨w.heap.size, 0, none⟩) (by dsimp only; omega)).trans q0
  replace p0 := (hb.frozen (p := ⟨w.heap.size, 0, none⟩) (by dsimp only; omega)).trans p0
  replace q1 := (hb.cell (p := ⟨w.heap.size, 1, none⟩) (by dsimp only; omega)).trans q1
  replace p1 := (hb.frozen (p := ⟨w.heap.size, 1, none⟩) (by dsimp only; omega)).trans p1
  have zB := zz
  replace zz := Nat.lt_of_lt_of_le zz hb.size
  replace HB := hide (bl_trans HB.out hb)
  have HC := hide hc
  clear hc hb HR
  generalize w1.heap.size = B at *
  go_wp2_with fail
  refine (belowD B a len cap _ HC.out 9 (by omega)).mono ?_
  rintro e w3 ⟨x, hx, rfl, hc, ho⟩
  have hx' : 0 ≤ x ∧ x < 9 := by rcases hx with h | h <;> omega
  obtain ⟨hx1, hx2⟩ := hx'
  obtain ⟨n, rfl⟩ := Int.eq_ofNat_of_zero_le hx1
  replace q0 := (ho.cell (p := ⟨w.heap.size, 0, none⟩) (by dsimp only; omega) (by dsimp only; omega)).trans q0
  replace p0 := (ho.frozen (p := ⟨w.heap.size, 0, none⟩) (by dsimp only; omega) (by dsimp only; omega)).trans p0
  replace q1 := (ho.cell (p := ⟨w.heap.size, 1, none⟩) (by dsimp only; omega) (by dsimp only; omega)).trans q1
  replace p1 := (ho.frozen (p := ⟨w.heap.size, 1, none⟩) (by dsimp only; omega) (by dsimp only; omega)).trans p1
  replace HB := hide (HB.out.trans (ho.below (N := w.heap.size) (by omega) (by omega)))
  replace zz := Nat.lt_of_lt_of_le zz ho.size
  replace HC := hide hc
  clear hc ho hx
  go_wp2_with fail
  refine (anyD9 B a len cap n _ HC.out (by omega)).mono ?_
  rintro e w4 ⟨d1, a1, c1, xs, rfl, hO1, hc, ho⟩
  have z3 := zz
  have hB3 := HC.out.hB
  replace q0 := (ho.cell (p := ⟨w.heap.size, 0, none⟩) (by dsimp only; omega) (by dsimp only; omega)).trans q0
  replace p0 := (ho.frozen (p := ⟨w.heap.size, 0, none⟩) (by dsimp only; omega) (by dsimp only; omega)).trans p0
  replace q1 := (ho.cell (p := ⟨w.heap.size, 1, none⟩) (by dsimp only; omega) (by dsimp only; omega)).trans q1
  replace p1 := (ho.frozen (p := ⟨w.heap.size, 1, none⟩) (by dsimp only; omega) (by dsimp only; omega)).trans p1
  replace HB := hide (HB.out.trans (ho.below (N := w.heap.size) (by omega) (by omega)))
  replace zz := Nat.lt_of_lt_of_le zz ho.size
  replace HC := hide hc
  have HO1 := hide hO1
  clear hc ho hO1
  go_wp2_with fail
  have hb := bl_alloc (bl_alloc (bl_refl w4) (Obj.cells #[Value.int .i64 d1, Value.slice a1 xs.length c1] 29)) (Obj.cells #[Value.int .i64 0, Value.int .i64 1, Value.int .i64 (-1), Value.int .i64 2, Value.int .i64 3, Value.int .i64 12, Value.int .i64 100000, Value.int .i64 1000000000, Value.int .i64 (-1000000001)] 3)
  have t0 : ((w4.alloc (Obj.cells #[Value.int .i64 d1, Value.slice a1 xs.length c1] 29)).alloc (Obj.cells #[Value.int .i64 0, Value.int .i64 1, Value.int .i64 (-1), Value.int .i64 2, Value.int .i64 3, Value.int .i64 12, Value.int .i64 100000, Value.int .i64 1000000000, Value.int .i64 (-1000000001)] 3)).cell? ⟨w4.heap.size, 0, none⟩ = some (Value.int .i64 d1) := by go_simp
  have t1 : ((w4.alloc (Obj.cells #[Value.int .i64 d1, Value.slice a1 xs.length c1] 29)).alloc (Obj.cells #[Value.int .i64 0, Value.int .i64 1, Value.int .i64 (-1), Value.int .i64 2, Value.int .i64 3, Value.int .i64 12, Value.int .i64 100000, Value.int .i64 1000000000, Value.int .i64 (-1000000001)] 3)).cell? ⟨w4.heap.size, 1, none⟩ = some (Value.slice a1 xs.length c1) := by go_simp
  replace q0 := (hb.cell (p := ⟨w.heap.size, 0, none⟩) (by dsimp only; omega)).trans q0
  replace p0 := (hb.frozen (p := ⟨w.heap.size, 0, none⟩) (by dsimp only; omega)).trans p0
  replace q1 := (hb.cell (p := ⟨w.heap.size, 1, none⟩) (by dsimp only; omega)).trans q1
  replace p1 := (hb.frozen (p := ⟨w.heap.size, 1, none⟩) (by dsimp only; omega)).trans p1
  have HPK := hide (new_ints (w4.alloc (Obj.cells #[Value.int .i64 d1, Value.slice a1 xs.length c1] 29)) #[Value.int .i64 0, Value.int .i64 1, Value.int .i64 (-1), Value.int .i64 2, Value.int .i64 3, Value.int .i64 12, Value.int .i64 100000, Value.int .i64 1000000000, Value.int .i64 (-1000000001)] 3 (fun z => -2000000000 ≤ z ∧ z ≤ 2000000000) (by
    intro v hv
    simp only [List.mem_cons, List.not_mem_nil, or_false] at hv
    rcases hv with rfl | rfl | rfl | rfl | rfl | rfl | rfl | rfl | rfl
    all_goals exact ⟨_, by omega, rfl⟩) 9 (by simp))
  have zt : w4.heap.size + 1 < ((w4.alloc (Obj.cells #[Value.int .i64 d1, Value.slice a1 xs.length c1] 29)).alloc (Obj.cells #[Value.int .i64 0, Value.int .i64 1, Value.int .i64 (-1), Value.int .i64 2, Value.int .i64 3, Value.int .i64 12, Value.int .i64 100000, Value.int .i64 1000000000, Value.int .i64 (-1000000001)] 3)).heap.size := by simp only [World.size_alloc]; omega
  have z4 := zz
  have hB4 := HC.out.hB
  replace zz := Nat.lt_of_lt_of_le zz hb.size
  replace HB := hide (bl_trans HB.out hb)
  replace HC := hide ((HC.out.alloc (Obj.cells #[Value.int .i64 d1, Value.slice a1 xs.length c1] 29)).alloc (Obj.cells #[Value.int .i64 0, Value.int .i64 1, Value.int .i64 (-1), Value.int .i64 2, Value.int .i64 3, Value.int .i64 12, Value.int .i64 100000, Value.int .i64 1000000000, Value.int .i64 (-1000000001)] 3))
  replace HO1 := hide (HO1.out.below hb)
  clear hb
  have hz5 : (w4.alloc (Obj.cells #[Value.int .i64 d1, Value.slice a1 xs.length c1] 29)).heap.size = w4.heap.size + 1 := by simp
  rw [hz5] at HPK
  clear hz5
  generalize ((w4.alloc (Obj.cells #[Value.int .i64 d1, Value.slice a1 xs.length c1] 29)).alloc (Obj.cells #[Value.int .i64 0, Value.int .i64 1, Value.int .i64 (-1), Value.int .i64 2, Value.int .i64 3, Value.int .i64 12, Value.int .i64 100000, Value.int .i64 1000000000, Value.int .i64 (-1000000001)] 3)) = w5 at *
  refine (pickIntD B a len cap _ HC.out (w4.heap.size + 1) 9 (fun z => -2000000000 ≤ z ∧ z ≤ 2000000000) zt (by omega) (by omega) (by omega) HPK.out).mono ?_
  rintro e w6 ⟨p', hp, rfl, hc, ho⟩
  replace t0 := (ho.cell (p := ⟨w4.heap.size, 0, none⟩) (by dsimp only; omega) (by dsimp only; omega)).trans t0
  replace t1 := (ho.cell (p := ⟨w4.heap.size, 1, none⟩) (by dsimp only; omega) (by dsimp only; omega)).trans t1
  replace zt : w4.heap.size + 1 < w6.heap.size := Nat.lt_of_lt_of_le zt ho.size
  replace q0 := (ho.cell (p := ⟨w.heap.size, 0, none⟩) (by dsimp only; omega) (by dsimp only; omega)).trans q0
  replace p0 := (ho.frozen (p := ⟨w.heap.size, 0, none⟩) (by dsimp only; omega) (by dsimp only; omega)).trans p0
  replace q1 := (ho.cell (p := ⟨w.heap.size, 1, none⟩) (by dsimp only; omega) (by dsimp only; omega)).trans q1
  replace p1 := (ho.frozen (p := ⟨w.heap.size, 1, none⟩) (by dsimp only; omega) (by dsimp only; omega)).trans p1
  replace HB := hide (HB.out.trans (ho.below (N := w.heap.size) (by omega) (by omega)))
  replace zz := Nat.lt_of_lt_of_le zz ho.size
  replace HC := hide hc
  replace HO1 := hide (HO1.out.only ho (by omega))
  clear hc ho HPK hp
  have HPK := hide (new_ints w6 #[Value.int .i64 1, Value.int .i64 1, Value.int .i64 (-1), Value.int .i64 2, Value.int .i64 3, Value.int .i64 12, Value.int .i64 720, Value.int .i64 0, Value.int .i64 1000000000, Value.int .i64 1000000001] 3 (fun z => -2000000000 ≤ z ∧ z ≤ 2000000000) (by
    intro v hv
    simp only [List.mem_cons, List.not_mem_nil, or_false] at hv
    rcases hv with rfl | rfl | rfl | rfl | rfl | rfl | rfl | rfl | rfl | rfl
    all_goals exact ⟨_, by omega, rfl⟩) 10 (by simp))
  have KP : Hid (∀ w', Only B w6 w' → (w'.cell? ⟨w.heap.size, 0, none⟩ = some (Value.int .i64 0) ∧ w'.cell? ⟨w.heap.size, 1, none⟩ = some (Value.slice none 0 0) ∧ w'.frozen? ⟨w.heap.size, 0, none⟩ = false ∧ w'.frozen? ⟨w.heap.size, 1, none⟩ = false ∧ w'.cell? ⟨w4.heap.size, 0, none⟩ = some (Value.int .i64 d1) ∧ w'.cell? ⟨w4.heap.size, 1, none⟩ = some (Value.slice a1 xs.length c1) ∧ Hid (Own w' w3.heap.size a1 xs.length c1 xs) ∧ Hid (Below w.heap.size w w'))) := hide (fun w' ho => ⟨(ho.cell (p := ⟨w.heap.size, 0, none⟩) (by dsimp only; omega) (by dsimp only; omega)).trans q0, (ho.cell (p := ⟨w.heap.size, 1, none⟩) (by dsimp only; omega) (by dsimp only; omega)).trans q1, (ho.frozen (p := ⟨w.heap.size, 0, none⟩) (by dsimp only; omega) (by dsimp only; omega)).trans p0, (ho.frozen (p := ⟨w.heap.size, 1, none⟩) (by dsimp only; omega) (by dsimp only; omega)).trans p1, (ho.cell (p := ⟨w4.heap.size, 0, none⟩) (by dsimp only; omega) (by dsimp only; omega)).trans t0, (ho.cell (p := ⟨w4.heap.size, 1, none⟩) (by dsimp only; omega) (by dsimp only; omega)).trans t1, hide (HO1.out.only ho (by omega)), hide (HB.out.trans (ho.below (N := w.heap.size) (by omega) (by omega)))⟩)
  have HPI := hide (fun (w7 : World) (h : w7 = (w6.alloc (Obj.cells #[Value.int .i64 1, Value.int .i64 1, Value.int .i64 (-1), Value.int .i64 2, Value.int .i64 3, Value.int .i64 12, Value.int .i64 720, Value.int .i64 0, Value.int .i64 1000000000, Value.int .i64 1000000001] 3)).drew) => by subst h; exact pickIntD B a len cap (w6.alloc (Obj.cells #[Value.int .i64 1, Value.int .i64 1, Value.int .i64 (-1), Value.int .i64 2, Value.int .i64 3, Value.int .i64 12, Value.int .i64 720, Value.int .i64 0, Value.int .i64 1000000000, Value.int .i64 1000000001] 3)).drew ((HC.out.alloc (Obj.cells #[Value.int .i64 1, Value.int .i64 1, Value.int .i64 (-1), Value.int .i64 2, Value.int .i64 3, Value.int .i64 12, Value.int .i64 720, Value.int .i64 0, Value.int .i64 1000000000, Value.int .i64 1000000001] 3)).drew) w6.heap.size 10 (fun z => -2000000000 ≤ z ∧ z ≤ 2000000000) (by simp) (by have := HC.out.hB; omega) (by omega) (by omega) HPK.out)
  go_wp2_with fail
  have TU0 : (w6.alloc (Obj.cells #[Value.int .i64 1, Value.int .i64 1, Value.int .i64 (-1), Value.int .i64 2, Value.int .i64 3, Value.int .i64 12, Value.int .i64 720, Value.int .i64 0, Value.int .i64 1000000000, Value.int .i64 1000000001] 3)).cell? ⟨w4.heap.size, 0, none⟩ = some (Value.int .i64 d1) := ((bl_alloc (bl_refl w6) (Obj.cells #[Value.int .i64 1, Value.int .i64 1, Value.int .i64 (-1), Value.int .i64 2, Value.int .i64 3, Value.int .i64 12, Value.int .i64 720, Value.int .i64 0, Value.int .i64 1000000000, Value.int .i64 1000000001] 3)).cell (p := ⟨w4.heap.size, 0, none⟩) (by dsimp only; omega)).trans t0
  have TU1 : (w6.alloc (Obj.cells #[Value.int .i64 1, Value.int .i64 1, Value.int .i64 (-1), Value.int .i64 2, Value.int .i64 3, Value.int .i64 12, Value.int .i64 720, Value.int .i64 0, Value.int .i64 1000000000, Value.int .i64 1000000001] 3)).cell? ⟨w4.heap.size, 1, none⟩ = some (Value.slice a1 xs.length c1) := ((bl_alloc (bl_refl w6) (Obj.cells #[Value.int .i64 1, Value.int .i64 1, Value.int .i64 (-1), Value.int .i64 2, Value.int .i64 3, Value.int .i64 12, Value.int .i64 720, Value.int .i64 0, Value.int .i64 1000000000, Value.int .i64 1000000001] 3)).cell (p := ⟨w4.heap.size, 1, none⟩) (by dsimp only; omega)).trans t1
  go_region_with (go_at_call 62; refine (HPI.out _ rfl).mono ?_; rintro e w7 ⟨y, hy, rfl, hc7, ho7⟩; obtain ⟨u0, u1, u2, u3, u4, u5, HU1, HUB⟩ := KP.out w7 (((Only.refl B w6).alloc _).trans (only_of_drew ho7)); clear hc7 ho7 hy)
  all_goals
    go_wp2
    refine bodyPost_ret (v := .tuple #[.agg #[.int .i64 d1, .slice a1 xs.length c1], .int .i64 p', .int .i64 y]) (by simp [results, Try.results25, go_sem, *]) rfl ⟨d1, a1, c1, xs, p', y, rfl, ?_, ?_⟩
    · exact ((HU1.out.setCell (p := ⟨w.heap.size, 0, none⟩) (by dsimp only; omega) _).setCell (p := ⟨w.heap.size, 1, none⟩) (by dsimp only; omega) _).seg
    · exact (HUB.out.setCell (p := ⟨w.heap.size, 0, none⟩) (by dsimp only; omega) _).setCell (p := ⟨w.heap.size, 1, none⟩) (by dsimp only; omega) _
end Go.Proofs.Ytkfiidldappdcaa
