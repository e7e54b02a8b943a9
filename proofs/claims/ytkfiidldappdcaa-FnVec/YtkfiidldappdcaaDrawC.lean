/- The walk of DrawVecCmp: two powers that are drawn. -/
import Derived.Test.YtkfiidldappdcaaAny
namespace Go.Proofs.Ytkfiidldappdcaa
open Go.RowKit
set_option linter.unusedVariables false

theorem Row.bel {a : Option Addr} {len cap : Nat} {w w' : World} (h : Row a len cap w) (hb : Below w.heap.size w w') : Row a len cap w' := by
  obtain ⟨h1, h2, h3⟩ := h
  refine ⟨?_, h2, h3⟩
  rcases h1 with h | ⟨b, off, rfl, hlt, hc⟩
  · exact .inl h
  · refine .inr ⟨b, off, rfl, Nat.lt_of_lt_of_le hlt hb.size, fun j hj => ?_⟩
    obtain ⟨z, hz, hcz⟩ := hc j hj
    exact ⟨z, hz, (hb.cell (p := ⟨b, off + j, none⟩) hlt).trans hcz⟩

set_option maxHeartbeats 4000000 in
theorem drawCmp (a : Option Addr) (len cap : Nat) (w : World) (hr : Row a len cap w) :
    Calls Try.prog 28 #[.slice a len cap] w fun e w' => ∃ d1 a1 c1 xs d2 a2 c2 ys, e = .returned (.tuple #[.agg #[.int .i64 d1, .slice a1 xs.length c1], .agg #[.int .i64 d2, .slice a2 ys.length c2]]) ∧ Seg w' a1 xs.length c1 xs ∧ Seg w' a2 ys.length c2 ys ∧ Below w.heap.size w w' := by
  have q0 : ((w.alloc (Obj.cells #[Value.int .i64 0, Value.slice none 0 0] 29)).alloc (Obj.cells #[Value.int .i64 0, Value.slice none 0 0] 29)).cell? ⟨w.heap.size, 0, none⟩ = some (Value.int .i64 0) := by go_simp
  have p0 : ((w.alloc (Obj.cells #[Value.int .i64 0, Value.slice none 0 0] 29)).alloc (Obj.cells #[Value.int .i64 0, Value.slice none 0 0] 29)).frozen? ⟨w.heap.size, 0, none⟩ = false := by go_simp
  have q1 : ((w.alloc (Obj.cells #[Value.int .i64 0, Value.slice none 0 0] 29)).alloc (Obj.cells #[Value.int .i64 0, Value.slice none 0 0] 29)).cell? ⟨w.heap.size, 1, none⟩ = some (Value.slice none 0 0) := by go_simp
  have p1 : ((w.alloc (Obj.cells #[Value.int .i64 0, Value.slice none 0 0] 29)).alloc (Obj.cells #[Value.int .i64 0, Value.slice none 0 0] 29)).frozen? ⟨w.heap.size, 1, none⟩ = false := by go_simp
  have k0 : ((w.alloc (Obj.cells #[Value.int .i64 0, Value.slice none 0 0] 29)).alloc (Obj.cells #[Value.int .i64 0, Value.slice none 0 0] 29)).cell? ⟨w.heap.size + 1, 0, none⟩ = some (Value.int .i64 0) := by go_simp
  have f0 : ((w.alloc (Obj.cells #[Value.int .i64 0, Value.slice none 0 0] 29)).alloc (Obj.cells #[Value.int .i64 0, Value.slice none 0 0] 29)).frozen? ⟨w.heap.size + 1, 0, none⟩ = false := by go_simp
  have k1 : ((w.alloc (Obj.cells #[Value.int .i64 0, Value.slice none 0 0] 29)).alloc (Obj.cells #[Value.int .i64 0, Value.slice none 0 0] 29)).cell? ⟨w.heap.size + 1, 1, none⟩ = some (Value.slice none 0 0) := by go_simp
  have f1 : ((w.alloc (Obj.cells #[Value.int .i64 0, Value.slice none 0 0] 29)).alloc (Obj.cells #[Value.int .i64 0, Value.slice none 0 0] 29)).frozen? ⟨w.heap.size + 1, 1, none⟩ = false := by go_simp
  have zz : w.heap.size + 1 < ((w.alloc (Obj.cells #[Value.int .i64 0, Value.slice none 0 0] 29)).alloc (Obj.cells #[Value.int .i64 0, Value.slice none 0 0] 29)).heap.size := by simp only [World.size_alloc]; omega
  have HB := hide (bl_alloc (bl_alloc (bl_refl w) (Obj.cells #[Value.int .i64 0, Value.slice none 0 0] 29)) (Obj.cells #[Value.int .i64 0, Value.slice none 0 0] 29))
  have HR := hide (hr.bel HB.out)
  clear hr
  go_enter Try.func28, Try.ntmps28
  go_wp2_with fail
  generalize ((w.alloc (Obj.cells #[Value.int .i64 0, Value.slice none 0 0] 29)).alloc (Obj.cells #[Value.int .i64 0, Value.slice none 0 0] 29)) = w1 at *
  refine (newD a len cap _ HR.out).mono ?_
  rintro e w2 ⟨rfl, hc, hb⟩
  replace q0 := (hb.cell (p := ⟨w.heap.size, 0, none⟩) (by dsimp only; omega)).trans q0
  replace p0 := (hb.frozen (p := ⟨w.heap.size, 0, none⟩) (by dsimp only; omega)).trans p0
  replace q1 := (hb.cell (p := ⟨w.heap.size, 1, none⟩) (by dsimp only; omega)).trans q1
  replace p1 := (hb.frozen (p := ⟨w.heap.size, 1, none⟩) (by dsimp only; omega)).trans p1
  replace k0 := (hb.cell (p := ⟨w.heap.size + 1, 0, none⟩) (by dsimp only; omega)).trans k0
  replace f0 := (hb.frozen (p := ⟨w.heap.size + 1, 0, none⟩) (by dsimp only; omega)).trans f0
  replace k1 := (hb.cell (p := ⟨w.heap.size + 1, 1, none⟩) (by dsimp only; omega)).trans k1
  replace f1 := (hb.frozen (p := ⟨w.heap.size + 1, 1, none⟩) (by dsimp only; omega)).trans f1
  have zB := zz
  replace zz := Nat.lt_of_lt_of_le zz hb.size
  replace HB := hide (bl_trans HB.out hb)
  have HC := hide hc
  clear hc hb HR
  generalize w1.heap.size = B at *
  go_wp2_with fail
  refine (belowD B a len cap _ HC.out 4 (by omega)).mono ?_
  rintro e w3 ⟨x, hx, rfl, hc, ho⟩
  have hx' : 0 ≤ x ∧ x < 4 := by rcases hx with h | h <;> omega
  obtain ⟨hx1, hx2⟩ := hx'
  obtain ⟨n, rfl⟩ := Int.eq_ofNat_of_zero_le hx1
  replace q0 := (ho.cell (p := ⟨w.heap.size, 0, none⟩) (by dsimp only; omega) (by dsimp only; omega)).trans q0
  replace p0 := (ho.frozen (p := ⟨w.heap.size, 0, none⟩) (by dsimp only; omega) (by dsimp only; omega)).trans p0
  replace q1 := (ho.cell (p := ⟨w.heap.size, 1, none⟩) (by dsimp only; omega) (by dsimp only; omega)).trans q1
  replace p1 := (ho.frozen (p := ⟨w.heap.size, 1, none⟩) (by dsimp only; omega) (by dsimp only; omega)).trans p1
  replace k0 := (ho.cell (p := ⟨w.heap.size + 1, 0, none⟩) (by dsimp only; omega) (by dsimp only; omega)).trans k0
  replace f0 := (ho.frozen (p := ⟨w.heap.size + 1, 0, none⟩) (by dsimp only; omega) (by dsimp only; omega)).trans f0
  replace k1 := (ho.cell (p := ⟨w.heap.size + 1, 1, none⟩) (by dsimp only; omega) (by dsimp only; omega)).trans k1
  replace f1 := (ho.frozen (p := ⟨w.heap.size + 1, 1, none⟩) (by dsimp only; omega) (by dsimp only; omega)).trans f1
  replace HB := hide (HB.out.trans (ho.below (N := w.heap.size) (by omega) (by omega)))
  replace zz := Nat.lt_of_lt_of_le zz ho.size
  replace HC := hide hc
  clear hc ho hx
  go_wp2_with fail
  refine (anyD B a len cap n _ HC.out (by omega)).mono ?_
  rintro e w4 ⟨d1, a1, c1, xs, rfl, hO1, hc, ho⟩
  have z3 := zz
  have hB3 := HC.out.hB
  replace q0 := (ho.cell (p := ⟨w.heap.size, 0, none⟩) (by dsimp only; omega) (by dsimp only; omega)).trans q0
  replace p0 := (ho.frozen (p := ⟨w.heap.size, 0, none⟩) (by dsimp only; omega) (by dsimp only; omega)).trans p0
  replace q1 := (ho.cell (p := ⟨w.heap.size, 1, none⟩) (by dsimp only; omega) (by dsimp only; omega)).trans q1
  replace p1 := (ho.frozen (p := ⟨w.heap.size, 1, none⟩) (by dsimp only; omega) (by dsimp only; omega)).trans p1
  replace k0 := (ho.cell (p := ⟨w.heap.size + 1, 0, none⟩) (by dsimp only; omega) (by dsimp only; omega)).trans k0
  replace f0 := (ho.frozen (p := ⟨w.heap.size + 1, 0, none⟩) (by dsimp only; omega) (by dsimp only; omega)).trans f0
  replace k1 := (ho.cell (p := ⟨w.heap.size + 1, 1, none⟩) (by dsimp only; omega) (by dsimp only; omega)).trans k1
  replace f1 := (ho.frozen (p := ⟨w.heap.size + 1, 1, none⟩) (by dsimp only; omega) (by dsimp only; omega)).trans f1
  replace HB := hide (HB.out.trans (ho.below (N := w.heap.size) (by omega) (by omega)))
  replace zz := Nat.lt_of_lt_of_le zz ho.size
  replace HC := hide hc
  have HO1 := hide hO1
  clear hc ho hO1
  go_wp2_with fail
  have hb := bl_alloc (bl_refl w4) (Obj.cells #[Value.int .i64 d1, Value.slice a1 xs.length c1] 29)
  have t0 : (w4.alloc (Obj.cells #[Value.int .i64 d1, Value.slice a1 xs.length c1] 29)).cell? ⟨w4.heap.size, 0, none⟩ = some (Value.int .i64 d1) := by go_simp
  have t1 : (w4.alloc (Obj.cells #[Value.int .i64 d1, Value.slice a1 xs.length c1] 29)).cell? ⟨w4.heap.size, 1, none⟩ = some (Value.slice a1 xs.length c1) := by go_simp
  replace q0 := (hb.cell (p := ⟨w.heap.size, 0, none⟩) (by dsimp only; omega)).trans q0
  replace p0 := (hb.frozen (p := ⟨w.heap.size, 0, none⟩) (by dsimp only; omega)).trans p0
  replace q1 := (hb.cell (p := ⟨w.heap.size, 1, none⟩) (by dsimp only; omega)).trans q1
  replace p1 := (hb.frozen (p := ⟨w.heap.size, 1, none⟩) (by dsimp only; omega)).trans p1
  replace k0 := (hb.cell (p := ⟨w.heap.size + 1, 0, none⟩) (by dsimp only; omega)).trans k0
  replace f0 := (hb.frozen (p := ⟨w.heap.size + 1, 0, none⟩) (by dsimp only; omega)).trans f0
  replace k1 := (hb.cell (p := ⟨w.heap.size + 1, 1, none⟩) (by dsimp only; omega)).trans k1
  replace f1 := (hb.frozen (p := ⟨w.heap.size + 1, 1, none⟩) (by dsimp only; omega)).trans f1
  have zt : w4.heap.size < (w4.alloc (Obj.cells #[Value.int .i64 d1, Value.slice a1 xs.length c1] 29)).heap.size := by simp only [World.size_alloc]; omega
  have z4 := zz
  have hB4 := HC.out.hB
  replace zz := Nat.lt_of_lt_of_le zz hb.size
  replace HB := hide (bl_trans HB.out hb)
  replace HC := hide (HC.out.alloc (Obj.cells #[Value.int .i64 d1, Value.slice a1 xs.length c1] 29))
  replace HO1 := hide (HO1.out.below hb)
  clear hb
  generalize w4.alloc (Obj.cells #[Value.int .i64 d1, Value.slice a1 xs.length c1] 29) = w5 at *
  refine (onceD B a len cap _ HC.out 12 (by omega)).mono ?_
  rintro e w6 ⟨bb, rfl, hc, ho⟩
  replace t0 := (ho.cell (p := ⟨w4.heap.size, 0, none⟩) (by dsimp only; omega) (by dsimp only; omega)).trans t0
  replace t1 := (ho.cell (p := ⟨w4.heap.size, 1, none⟩) (by dsimp only; omega) (by dsimp only; omega)).trans t1
  replace zt := Nat.lt_of_lt_of_le zt ho.size
  replace q0 := (ho.cell (p := ⟨w.heap.size, 0, none⟩) (by dsimp only; omega) (by dsimp only; omega)).trans q0
  replace p0 := (ho.frozen (p := ⟨w.heap.size, 0, none⟩) (by dsimp only; omega) (by dsimp only; omega)).trans p0
  replace q1 := (ho.cell (p := ⟨w.heap.size, 1, none⟩) (by dsimp only; omega) (by dsimp only; omega)).trans q1
  replace p1 := (ho.frozen (p := ⟨w.heap.size, 1, none⟩) (by dsimp only; omega) (by dsimp only; omega)).trans p1
  replace k0 := (ho.cell (p := ⟨w.heap.size + 1, 0, none⟩) (by dsimp only; omega) (by dsimp only; omega)).trans k0
  replace f0 := (ho.frozen (p := ⟨w.heap.size + 1, 0, none⟩) (by dsimp only; omega) (by dsimp only; omega)).trans f0
  replace k1 := (ho.cell (p := ⟨w.heap.size + 1, 1, none⟩) (by dsimp only; omega) (by dsimp only; omega)).trans k1
  replace f1 := (ho.frozen (p := ⟨w.heap.size + 1, 1, none⟩) (by dsimp only; omega) (by dsimp only; omega)).trans f1
  replace HB := hide (HB.out.trans (ho.below (N := w.heap.size) (by omega) (by omega)))
  replace zz := Nat.lt_of_lt_of_le zz ho.size
  replace HC := hide hc
  replace HO1 := hide (HO1.out.only ho (by omega))
  clear hc ho
  have hcase : ∃ m : Nat, m ≤ 8 ∧ ((bb = true ∧ (m : Int) = (n : Int) + 1) ∨ (bb = false ∧ m = n)) := by
    cases bb
    · exact ⟨n, by omega, .inr ⟨rfl, rfl⟩⟩
    · exact ⟨n + 1, by omega, .inl ⟨rfl, by omega⟩⟩
  obtain ⟨m, hm8, hm⟩ := hcase
  have KP : Hid (∀ w', Only B w6 w' → (w'.cell? ⟨w.heap.size, 0, none⟩ = some (Value.int .i64 0) ∧ w'.cell? ⟨w.heap.size, 1, none⟩ = some (Value.slice none 0 0) ∧ w'.cell? ⟨w.heap.size + 1, 0, none⟩ = some (Value.int .i64 0) ∧ w'.cell? ⟨w.heap.size + 1, 1, none⟩ = some (Value.slice none 0 0) ∧ w'.frozen? ⟨w.heap.size, 0, none⟩ = false ∧ w'.frozen? ⟨w.heap.size, 1, none⟩ = false ∧ w'.frozen? ⟨w.heap.size + 1, 0, none⟩ = false ∧ w'.frozen? ⟨w.heap.size + 1, 1, none⟩ = false ∧ w'.cell? ⟨w4.heap.size, 0, none⟩ = some (Value.int .i64 d1) ∧ w'.cell? ⟨w4.heap.size, 1, none⟩ = some (Value.slice a1 xs.length c1) ∧ Hid (Own w' w3.heap.size a1 xs.length c1 xs) ∧ Hid (Below w.heap.size w w'))) := hide (fun w' ho => ⟨(ho.cell (p := ⟨w.heap.size, 0, none⟩) (by dsimp only; omega) (by dsimp only; omega)).trans q0, (ho.cell (p := ⟨w.heap.size, 1, none⟩) (by dsimp only; omega) (by dsimp only; omega)).trans q1, (ho.cell (p := ⟨w.heap.size + 1, 0, none⟩) (by dsimp only; omega) (by dsimp only; omega)).trans k0, (ho.cell (p := ⟨w.heap.size + 1, 1, none⟩) (by dsimp only; omega) (by dsimp only; omega)).trans k1, (ho.frozen (p := ⟨w.heap.size, 0, none⟩) (by dsimp only; omega) (by dsimp only; omega)).trans p0, (ho.frozen (p := ⟨w.heap.size, 1, none⟩) (by dsimp only; omega) (by dsimp only; omega)).trans p1, (ho.frozen (p := ⟨w.heap.size + 1, 0, none⟩) (by dsimp only; omega) (by dsimp only; omega)).trans f0, (ho.frozen (p := ⟨w.heap.size + 1, 1, none⟩) (by dsimp only; omega) (by dsimp only; omega)).trans f1, (ho.cell (p := ⟨w4.heap.size, 0, none⟩) (by dsimp only; omega) (by dsimp only; omega)).trans t0, (ho.cell (p := ⟨w4.heap.size, 1, none⟩) (by dsimp only; omega) (by dsimp only; omega)).trans t1, hide (HO1.out.only ho (by omega)), hide (HB.out.trans (ho.below (N := w.heap.size) (by omega) (by omega)))⟩)
  have HAN := hide (fun w h => anyD B a len cap m w h hm8)
  have z6 := zz
  have nm1 : ¬ w.heap.size = w.heap.size + 1 := by omega
  rcases hm with ⟨rfl, hmn⟩ | ⟨rfl, rfl⟩
  · have hmn' : (n : Int) + 1 = (m : Int) := hmn.symm
    clear hmn
    go_wp2_with fail
    go_region_with (go_at_call 55; refine (HAN.out _ HC.out.drew).mono ?_; rintro e w7 ⟨d2, a2, c2, ys, rfl, hO2, hc7, ho7⟩; obtain ⟨u0, u1, u2, u3, u4, u5, u6, u7, u8, u9, HU1, HUB⟩ := KP.out w7 (only_of_drew ho7); have HO2 := hide (show Own w7 w6.heap.size a2 ys.length c2 ys from hO2); clear hO2 hc7 ho7)
    all_goals
      go_wp2
      refine bodyPost_ret (v := .tuple #[.agg #[.int .i64 d1, .slice a1 xs.length c1], .agg #[.int .i64 d2, .slice a2 ys.length c2]]) (by simp [results, Try.results28, go_sem, *]) rfl ⟨d1, a1, c1, xs, d2, a2, c2, ys, rfl, ?_, ?_, ?_⟩
      · exact ((((HU1.out.setCell (p := ⟨w.heap.size, 0, none⟩) (by dsimp only; omega) _).setCell (p := ⟨w.heap.size, 1, none⟩) (by dsimp only; omega) _).setCell (p := ⟨w.heap.size + 1, 0, none⟩) (by dsimp only; omega) _).setCell (p := ⟨w.heap.size + 1, 1, none⟩) (by dsimp only; omega) _).seg
      · exact ((((HO2.out.setCell (p := ⟨w.heap.size, 0, none⟩) (by dsimp only; omega) _).setCell (p := ⟨w.heap.size, 1, none⟩) (by dsimp only; omega) _).setCell (p := ⟨w.heap.size + 1, 0, none⟩) (by dsimp only; omega) _).setCell (p := ⟨w.heap.size + 1, 1, none⟩) (by dsimp only; omega) _).seg
      · exact ((((HUB.out.setCell (p := ⟨w.heap.size, 0, none⟩) (by dsimp only; omega) _).setCell (p := ⟨w.heap.size, 1, none⟩) (by dsimp only; omega) _).setCell (p := ⟨w.heap.size + 1, 0, none⟩) (by dsimp only; omega) _).setCell (p := ⟨w.heap.size + 1, 1, none⟩) (by dsimp only; omega) _)
  · skip
    go_wp2_with fail
    go_region_with (go_at_call 55; refine (HAN.out _ HC.out.drew).mono ?_; rintro e w7 ⟨d2, a2, c2, ys, rfl, hO2, hc7, ho7⟩; obtain ⟨u0, u1, u2, u3, u4, u5, u6, u7, u8, u9, HU1, HUB⟩ := KP.out w7 (only_of_drew ho7); have HO2 := hide (show Own w7 w6.heap.size a2 ys.length c2 ys from hO2); clear hO2 hc7 ho7)
    all_goals
      go_wp2
      refine bodyPost_ret (v := .tuple #[.agg #[.int .i64 d1, .slice a1 xs.length c1], .agg #[.int .i64 d2, .slice a2 ys.length c2]]) (by simp [results, Try.results28, go_sem, *]) rfl ⟨d1, a1, c1, xs, d2, a2, c2, ys, rfl, ?_, ?_, ?_⟩
      · exact ((((HU1.out.setCell (p := ⟨w.heap.size, 0, none⟩) (by dsimp only; omega) _).setCell (p := ⟨w.heap.size, 1, none⟩) (by dsimp only; omega) _).setCell (p := ⟨w.heap.size + 1, 0, none⟩) (by dsimp only; omega) _).setCell (p := ⟨w.heap.size + 1, 1, none⟩) (by dsimp only; omega) _).seg
      · exact ((((HO2.out.setCell (p := ⟨w.heap.size, 0, none⟩) (by dsimp only; omega) _).setCell (p := ⟨w.heap.size, 1, none⟩) (by dsimp only; omega) _).setCell (p := ⟨w.heap.size + 1, 0, none⟩) (by dsimp only; omega) _).setCell (p := ⟨w.heap.size + 1, 1, none⟩) (by dsimp only; omega) _).seg
      · exact ((((HUB.out.setCell (p := ⟨w.heap.size, 0, none⟩) (by dsimp only; omega) _).setCell (p := ⟨w.heap.size, 1, none⟩) (by dsimp only; omega) _).setCell (p := ⟨w.heap.size + 1, 0, none⟩) (by dsimp only; omega) _).setCell (p := ⟨w.heap.size + 1, 1, none⟩) (by dsimp only; omega) _)
end Go.Proofs.Ytkfiidldappdcaa
