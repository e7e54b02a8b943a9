/- My texts DrRA, DrP, in this order. -/
import Derived.Test.YtpmgpdlminacaaaGreatDoorPk31
import Derived.Test.YtpmgpdlminacaaaGreatDoorPk08
/- The walk of a draw of any fraction, not right sometimes. -/
namespace Go.Proofs.YtpmgpdlminacaaaGreatDoor
open Go.RowKit
set_option linter.unusedVariables false

/-- any drawn fraction -/
def RatA (w : World) (B : Nat) (a : Option Addr) (len cap : Nat) (w' : World) (e : Ending) : Prop :=
  ∃ n a1 c1 xs m a2 c2 ys, e = .returned (.agg #[.bool n, .slice a1 xs.length c1, .bool m, .slice a2 ys.length c2]) ∧ Own w' w.heap.size a1 xs.length c1 xs ∧ Own w' w.heap.size a2 ys.length c2 ys ∧ Cur B a len cap w' ∧ Only B w w'
theorem Dst4.doneA {w wr : World} {B : Nat} {a : Option Addr} {len cap : Nat} {n m : Bool} {xs ys : List Nat} {a1 a2 : Option Addr} {c1 c2 b1 b2 : Nat} (h : Dst4 w B a len cap wr) (hB : B < w.heap.size) (o1 : Own wr b1 a1 xs.length c1 xs) (o2 : Own wr b2 a2 ys.length c2 ys) (h1 : w.heap.size < b1) (h2 : w.heap.size < b2) (x y z t : Value) :
    RatA w B a len cap ((((wr.setCell ⟨w.heap.size, 0, none⟩ x).setCell ⟨w.heap.size, 1, none⟩ y).setCell ⟨w.heap.size, 2, none⟩ z).setCell ⟨w.heap.size, 3, none⟩ t) (.returned (.agg #[.bool n, .slice a1 xs.length c1, .bool m, .slice a2 ys.length c2])) :=
  ⟨n, a1, c1, xs, m, a2, c2, ys, rfl, own_four o1 h1 (Nat.le_refl _) _ _ _ _, own_four o2 h2 (Nat.le_refl _) _ _ _ _, (h.fin hB x y z t).1, (h.fin hB x y z t).2⟩

set_option maxHeartbeats 4000000 in
set_option maxRecDepth 20000 in
theorem anyR (B : Nat) (a : Option Addr) (len cap : Nat) (w : World) (hc : Cur B a len cap w) :
    Calls Tryz.prog 35 #[.pointer (some ⟨B, 0, none⟩)] w fun e w' => RatA w B a len cap w' e := by
  have hB := hc.hB
  have HBB := hide hB
  have HD := hide (Dst4.init hc)
  have hzr : (w.alloc (Obj.cells #[Value.bool false, Value.slice none 0 0, Value.bool false, Value.slice none 0 0] 26)).heap.size = w.heap.size + 1 := by simp
  have HZR := hide hzr
  clear hc hzr
  go_enter Tryz.func35, Tryz.ntmps35
  go_upto_region 1 with fail
  generalize w.alloc (Obj.cells #[Value.bool false, Value.slice none 0 0, Value.bool false, Value.slice none 0 0] 26) = wa at *
  go_wp2_with fail
  refine (someR B a len cap _ HD.out.cur).mono ?_
  rintro e w2 ⟨p, aA, cA, q, aF, cF, rfl, hlA, hlF, hoA, hoF, hcw2, how2⟩
  have HLA := hide hlA
  have HLF := hide hlF
  have zwa : w.heap.size < wa.heap.size := by have := HZR.out; omega
  replace HD := hide (HD.out.on HBB.out hcw2 how2)
  clear hcw2 how2
  have z2 := HD.out.z
  have hbx := bl_alloc (bl_refl w2) (Obj.cells #[Value.bool (sgn p), Value.slice aA (lms p).length cA, Value.bool (sgn q), Value.slice aF (lms q).length cF] 26)
  have OA := hide (hoA.below hbx)
  have OF := hide (hoF.below hbx)
  replace HD := hide (HD.out.bel hbx)
  have kx0 : (w2.alloc (Obj.cells #[Value.bool (sgn p), Value.slice aA (lms p).length cA, Value.bool (sgn q), Value.slice aF (lms q).length cF] 26)).cell? ⟨w2.heap.size, 0, none⟩ = some (Value.bool (sgn p)) := by go_simp
  have kx1 : (w2.alloc (Obj.cells #[Value.bool (sgn p), Value.slice aA (lms p).length cA, Value.bool (sgn q), Value.slice aF (lms q).length cF] 26)).cell? ⟨w2.heap.size, 1, none⟩ = some (Value.slice aA (lms p).length cA) := by go_simp
  have kx2 : (w2.alloc (Obj.cells #[Value.bool (sgn p), Value.slice aA (lms p).length cA, Value.bool (sgn q), Value.slice aF (lms q).length cF] 26)).cell? ⟨w2.heap.size, 2, none⟩ = some (Value.bool (sgn q)) := by go_simp
  have kx3 : (w2.alloc (Obj.cells #[Value.bool (sgn p), Value.slice aA (lms p).length cA, Value.bool (sgn q), Value.slice aF (lms q).length cF] 26)).cell? ⟨w2.heap.size, 3, none⟩ = some (Value.slice aF (lms q).length cF) := by go_simp
  have zx : w2.heap.size < (w2.alloc (Obj.cells #[Value.bool (sgn p), Value.slice aA (lms p).length cA, Value.bool (sgn q), Value.slice aF (lms q).length cF] 26)).heap.size := by simp only [World.size_alloc]; omega
  clear hbx hoA hoF hlA hlF HZR
  go_upto_region 2 with fail
  generalize (w2.alloc (Obj.cells #[Value.bool (sgn p), Value.slice aA (lms p).length cA, Value.bool (sgn q), Value.slice aF (lms q).length cF] 26)) = w3 at *
  generalize w2.heap.size = X at *
  go_wp2_with fail
  refine (belowD B a len cap _ HD.out.cur 30 (by omega)).mono ?_
  rintro e w4 ⟨y, hy, rfl, hcw4, how4⟩
  have hy' : 0 ≤ y ∧ y < 30 := by rcases hy with h | h <;> omega
  obtain ⟨hya, hyb⟩ := hy'
  replace kx0 := (how4.cell (p := ⟨X, 0, none⟩) zx (by dsimp only; omega)).trans kx0
  replace kx1 := (how4.cell (p := ⟨X, 1, none⟩) zx (by dsimp only; omega)).trans kx1
  replace kx2 := (how4.cell (p := ⟨X, 2, none⟩) zx (by dsimp only; omega)).trans kx2
  replace kx3 := (how4.cell (p := ⟨X, 3, none⟩) zx (by dsimp only; omega)).trans kx3
  replace zx := Nat.lt_of_lt_of_le zx how4.size
  replace OA := hide (OA.out.only how4 (by have := HBB.out; omega))
  replace OF := hide (OF.out.only how4 (by have := HBB.out; omega))
  replace HD := hide (HD.out.on HBB.out hcw4 how4)
  clear hcw4 how4
  clear hy
  have kr0 := HD.out.r0
  have kr1 := HD.out.r1
  have kr2 := HD.out.r2
  have kr3 := HD.out.r3
  have fr0 := HD.out.g0
  have fr1 := HD.out.g1
  have fr2 := HD.out.g2
  have fr3 := HD.out.g3
  have zr := HD.out.z
  by_cases h0 : y = 0
  · have e0 : (y == 0) = true := by rw [h0]; rfl
    clear h0
    go_wp2
    refine bodyPost_ret (v := (.agg #[.bool (sgn p), .slice aA (lms p).length cA, .bool false, .slice none 0 0])) (by simp [results, Tryz.results35, go_sem, kr0, kr1, kr2, kr3]) rfl ?_
    exact HD.out.doneA (ys := []) HBB.out OA.out (Own.nil w4 (w.heap.size + 1)) zwa (Nat.lt_succ_self _) _ _ _ _
  have e0 : (y == 0) = false := by rw [beq_eq_false_iff_ne]; exact h0
  by_cases h1 : y = 1
  · have e1 : (y == 1) = true := by rw [h1]; rfl
    clear h0 h1
    have H6 := hide (len_int 6 (by omega) (by omega))
    go_upto_region 6 with fail
    have KP : Hid (∀ w', Below w4.heap.size w4 w' → (w'.cell? ⟨X, 0, none⟩ = some (Value.bool (sgn p)) ∧ w'.cell? ⟨X, 1, none⟩ = some (Value.slice aA (lms p).length cA) ∧ w'.cell? ⟨X, 2, none⟩ = some (Value.bool (sgn q)) ∧ w'.cell? ⟨X, 3, none⟩ = some (Value.slice aF (lms q).length cF))) := hide (fun w' hb => ⟨(hb.cell (p := ⟨X, 0, none⟩) zx).trans kx0, (hb.cell (p := ⟨X, 1, none⟩) zx).trans kx1, (hb.cell (p := ⟨X, 2, none⟩) zx).trans kx2, (hb.cell (p := ⟨X, 3, none⟩) zx).trans kx3⟩)
    have KP4 : Hid (∀ w', Below w4.heap.size w4 w' → ∀ q0 q1 q2 q3, (((((w'.setCell ⟨w.heap.size, 0, none⟩ q0).setCell ⟨w.heap.size, 1, none⟩ q1).setCell ⟨w.heap.size, 2, none⟩ q2).setCell ⟨w.heap.size, 3, none⟩ q3).cell? ⟨X, 0, none⟩ = some (Value.bool (sgn p)) ∧ ((((w'.setCell ⟨w.heap.size, 0, none⟩ q0).setCell ⟨w.heap.size, 1, none⟩ q1).setCell ⟨w.heap.size, 2, none⟩ q2).setCell ⟨w.heap.size, 3, none⟩ q3).cell? ⟨X, 1, none⟩ = some (Value.slice aA (lms p).length cA) ∧ ((((w'.setCell ⟨w.heap.size, 0, none⟩ q0).setCell ⟨w.heap.size, 1, none⟩ q1).setCell ⟨w.heap.size, 2, none⟩ q2).setCell ⟨w.heap.size, 3, none⟩ q3).cell? ⟨X, 2, none⟩ = some (Value.bool (sgn q)) ∧ ((((w'.setCell ⟨w.heap.size, 0, none⟩ q0).setCell ⟨w.heap.size, 1, none⟩ q1).setCell ⟨w.heap.size, 2, none⟩ q2).setCell ⟨w.heap.size, 3, none⟩ q3).cell? ⟨X, 3, none⟩ = some (Value.slice aF (lms q).length cF))) := hide (fun w' hb q0 q1 q2 q3 => ⟨(cell_four (p := ⟨X, 0, none⟩) (by dsimp only; omega)).trans ((hb.cell (p := ⟨X, 0, none⟩) zx).trans kx0), (cell_four (p := ⟨X, 1, none⟩) (by dsimp only; omega)).trans ((hb.cell (p := ⟨X, 1, none⟩) zx).trans kx1), (cell_four (p := ⟨X, 2, none⟩) (by dsimp only; omega)).trans ((hb.cell (p := ⟨X, 2, none⟩) zx).trans kx2), (cell_four (p := ⟨X, 3, none⟩) (by dsimp only; omega)).trans ((hb.cell (p := ⟨X, 3, none⟩) zx).trans kx3)⟩)
    go_region_held3 (fun w' => w'.cell? ⟨X, 0, none⟩ = some (Value.bool (sgn p)) ∧ w'.cell? ⟨X, 1, none⟩ = some (Value.slice aA (lms p).length cA) ∧ w'.cell? ⟨X, 2, none⟩ = some (Value.bool (sgn q)) ∧ w'.cell? ⟨X, 3, none⟩ = some (Value.slice aF (lms q).length cF))
      (first | with_reducible exact KP.out _ (bl_refl w4).drew | with_reducible exact KP4.out _ hbD _ _ _ _ | with_reducible exact KP.out _ hbD | with_reducible exact KP.out _ hbC | with_reducible exact KP.out _ hbB | with_reducible exact KP.out _ hbA)
      (first
        | (have hq := hbC; go_at_call 78; refine (mulL _ _ q 6 _ ⟨aF, cF, rfl, OF.out.seg.below hbC⟩ ⟨uC, vC, rfl, hoC.seg⟩ (by have := HLF.out; omega) (by have := H6.out; omega)).mono ?_; rintro e wD ⟨_, rfl, ⟨uD, vD, rfl, hoD⟩, hbDr⟩; have hbD : Below w4.heap.size w4 wD := bl_trans hbC hbDr; have kr0 := (hbD.cell (p := ⟨w.heap.size, 0, none⟩) zr).trans kr0; have fr0 := (hbD.frozen (p := ⟨w.heap.size, 0, none⟩) zr).trans fr0; have kr1 := (hbD.cell (p := ⟨w.heap.size, 1, none⟩) zr).trans kr1; have fr1 := (hbD.frozen (p := ⟨w.heap.size, 1, none⟩) zr).trans fr1; have kr2 := (hbD.cell (p := ⟨w.heap.size, 2, none⟩) zr).trans kr2; have fr2 := (hbD.frozen (p := ⟨w.heap.size, 2, none⟩) zr).trans fr2; have kr3 := (hbD.cell (p := ⟨w.heap.size, 3, none⟩) zr).trans kr3; have fr3 := (hbD.frozen (p := ⟨w.heap.size, 3, none⟩) zr).trans fr3; have qC := hbC.size; have P1 := hide (hoB.below (bl_trans hbCr hbDr)); have P2 := hide hoD; have qB := hbA.size; clear hq)
        | (have hq := hbB; go_at_call 79; refine (fromS 6 _ (by omega) (by omega)).mono ?_; rintro e wC ⟨_, rfl, ⟨uC, vC, rfl, hoC⟩, hbCr⟩; have hbC : Below w4.heap.size w4 wC := bl_trans hbB hbCr; clear hq)
        | (have hq := hbA; go_at_call 78; refine (mulL _ _ p 6 _ ⟨aA, cA, rfl, OA.out.seg.below hbA⟩ ⟨uA, vA, rfl, hoA.seg⟩ (by have := HLA.out; omega) (by have := H6.out; omega)).mono ?_; rintro e wB ⟨_, rfl, ⟨uB, vB, rfl, hoB⟩, hbBr⟩; have hbB : Below w4.heap.size w4 wB := bl_trans hbA hbBr; clear hq)
        | (go_at_call 79; refine (fromS 6 _ (by omega) (by omega)).mono ?_; rintro e wA ⟨_, rfl, ⟨uA, vA, rfl, hoA⟩, hbAr⟩; have hbA : Below w4.heap.size w4 wA := (bl_refl w4).drew.trans hbAr))
    replace HD := hide (HD.out.bel hbD)
    clear KP KP4 hbA hbAr hbB hbBr hbC hbCr hbD hbDr hoA hoB hoC hoD
    go_wp2
    refine bodyPost_ret (v := (.agg #[.bool (sgn (mulZ p 6)), .slice uB (lms (mulZ p 6)).length vB, .bool (sgn (mulZ q 6)), .slice uD (lms (mulZ q 6)).length vD])) (by simp [results, Tryz.results35, go_sem, kr0, kr1, kr2, kr3]) rfl ?_
    exact HD.out.doneA HBB.out P1.out P2.out (by omega) (by omega) _ _ _ _
  have e1 : (y == 1) = false := by rw [beq_eq_false_iff_ne]; exact h1
  by_cases h2 : y = 2
  · have e2 : (y == 2) = true := by rw [h2]; rfl
    clear h0 h1 h2
    go_upto_region 8 with fail
    have KP : Hid (∀ w', Below w4.heap.size w4 w' → (w'.cell? ⟨X, 0, none⟩ = some (Value.bool (sgn p)) ∧ w'.cell? ⟨X, 1, none⟩ = some (Value.slice aA (lms p).length cA) ∧ w'.cell? ⟨X, 2, none⟩ = some (Value.bool (sgn q)) ∧ w'.cell? ⟨X, 3, none⟩ = some (Value.slice aF (lms q).length cF))) := hide (fun w' hb => ⟨(hb.cell (p := ⟨X, 0, none⟩) zx).trans kx0, (hb.cell (p := ⟨X, 1, none⟩) zx).trans kx1, (hb.cell (p := ⟨X, 2, none⟩) zx).trans kx2, (hb.cell (p := ⟨X, 3, none⟩) zx).trans kx3⟩)
    have KP4 : Hid (∀ w', Below w4.heap.size w4 w' → ∀ q0 q1 q2 q3, (((((w'.setCell ⟨w.heap.size, 0, none⟩ q0).setCell ⟨w.heap.size, 1, none⟩ q1).setCell ⟨w.heap.size, 2, none⟩ q2).setCell ⟨w.heap.size, 3, none⟩ q3).cell? ⟨X, 0, none⟩ = some (Value.bool (sgn p)) ∧ ((((w'.setCell ⟨w.heap.size, 0, none⟩ q0).setCell ⟨w.heap.size, 1, none⟩ q1).setCell ⟨w.heap.size, 2, none⟩ q2).setCell ⟨w.heap.size, 3, none⟩ q3).cell? ⟨X, 1, none⟩ = some (Value.slice aA (lms p).length cA) ∧ ((((w'.setCell ⟨w.heap.size, 0, none⟩ q0).setCell ⟨w.heap.size, 1, none⟩ q1).setCell ⟨w.heap.size, 2, none⟩ q2).setCell ⟨w.heap.size, 3, none⟩ q3).cell? ⟨X, 2, none⟩ = some (Value.bool (sgn q)) ∧ ((((w'.setCell ⟨w.heap.size, 0, none⟩ q0).setCell ⟨w.heap.size, 1, none⟩ q1).setCell ⟨w.heap.size, 2, none⟩ q2).setCell ⟨w.heap.size, 3, none⟩ q3).cell? ⟨X, 3, none⟩ = some (Value.slice aF (lms q).length cF))) := hide (fun w' hb q0 q1 q2 q3 => ⟨(cell_four (p := ⟨X, 0, none⟩) (by dsimp only; omega)).trans ((hb.cell (p := ⟨X, 0, none⟩) zx).trans kx0), (cell_four (p := ⟨X, 1, none⟩) (by dsimp only; omega)).trans ((hb.cell (p := ⟨X, 1, none⟩) zx).trans kx1), (cell_four (p := ⟨X, 2, none⟩) (by dsimp only; omega)).trans ((hb.cell (p := ⟨X, 2, none⟩) zx).trans kx2), (cell_four (p := ⟨X, 3, none⟩) (by dsimp only; omega)).trans ((hb.cell (p := ⟨X, 3, none⟩) zx).trans kx3)⟩)
    go_region_held3 (fun w' => w'.cell? ⟨X, 0, none⟩ = some (Value.bool (sgn p)) ∧ w'.cell? ⟨X, 1, none⟩ = some (Value.slice aA (lms p).length cA) ∧ w'.cell? ⟨X, 2, none⟩ = some (Value.bool (sgn q)) ∧ w'.cell? ⟨X, 3, none⟩ = some (Value.slice aF (lms q).length cF))
      (first | with_reducible exact KP.out _ (bl_refl w4).drew | with_reducible exact KP4.out _ hbA _ _ _ _ | with_reducible exact KP.out _ hbA)
      (first | (go_at_call 60; refine (negS _ q _ ⟨aF, cF, rfl, OF.out.seg.below (bl_refl w4).drew⟩ (by have := HLF.out; omega)).mono ?_; rintro e wA ⟨_, rfl, ⟨uA, vA, rfl, hoA⟩, hbAr⟩; have hbA : Below w4.heap.size w4 wA := (bl_refl w4).drew.trans hbAr; have kr0 := (hbA.cell (p := ⟨w.heap.size, 0, none⟩) zr).trans kr0; have fr0 := (hbA.frozen (p := ⟨w.heap.size, 0, none⟩) zr).trans fr0; have kr1 := (hbA.cell (p := ⟨w.heap.size, 1, none⟩) zr).trans kr1; have fr1 := (hbA.frozen (p := ⟨w.heap.size, 1, none⟩) zr).trans fr1; have kr2 := (hbA.cell (p := ⟨w.heap.size, 2, none⟩) zr).trans kr2; have fr2 := (hbA.frozen (p := ⟨w.heap.size, 2, none⟩) zr).trans fr2; have kr3 := (hbA.cell (p := ⟨w.heap.size, 3, none⟩) zr).trans kr3; have fr3 := (hbA.frozen (p := ⟨w.heap.size, 3, none⟩) zr).trans fr3; have P2 := hide (hoA.mono (base' := w4.heap.size) (Nat.le_of_eq (by first | rfl | (simp only [World.size_drew])))); clear hoA))
    have P1 := hide (OA.out.below hbA)
    replace HD := hide (HD.out.bel hbA)
    clear KP KP4 hbA hbAr
    go_wp2
    refine bodyPost_ret (v := (.agg #[.bool (sgn p), .slice aA (lms p).length cA, .bool (sgn (-q)), .slice uA (lms (-q)).length vA])) (by simp [results, Tryz.results35, go_sem, kr0, kr1, kr2, kr3]) rfl ?_
    exact HD.out.doneA HBB.out P1.out P2.out zwa zr _ _ _ _
  have e2 : (y == 2) = false := by rw [beq_eq_false_iff_ne]; exact h2
  by_cases h3 : y = 3
  · have e3 : (y == 3) = true := by rw [h3]; rfl
    clear h0 h1 h2 h3 kr0 kr1 kr2 kr3 fr0 fr1 fr2 fr3
    go_wp2_with fail
    refine (anyB B a len cap _ HD.out.cur).mono ?_
    rintro e w5 ⟨n1, a1, c1, xs, rfl, hl, ho, hcw5, how5⟩
    have P1 := hide ho
    clear ho hl
    replace HD := hide (HD.out.on HBB.out hcw5 how5)
    clear hcw5 how5
    have z5 := HD.out.z
    go_wp2_with fail
    refine (anyB B a len cap _ HD.out.cur).mono ?_
    rintro e w6 ⟨n2, a2, c2, ys, rfl, hl, ho, hcw6, how6⟩
    have P2 := hide ho
    clear ho hl
    replace P1 := hide (P1.out.only how6 (by have := HBB.out; omega))
    replace HD := hide (HD.out.on HBB.out hcw6 how6)
    clear hcw6 how6
    clear zr
    have kr0 := HD.out.r0
    have kr1 := HD.out.r1
    have kr2 := HD.out.r2
    have kr3 := HD.out.r3
    have fr0 := HD.out.g0
    have fr1 := HD.out.g1
    have fr2 := HD.out.g2
    have fr3 := HD.out.g3
    have zr := HD.out.z
    go_wp2
    refine bodyPost_ret (v := (.agg #[.bool n1, .slice a1 xs.length c1, .bool n2, .slice a2 ys.length c2])) (by simp [results, Tryz.results35, go_sem, kr0, kr1, kr2, kr3]) rfl ?_
    exact HD.out.doneA HBB.out P1.out P2.out (by omega) (by omega) _ _ _ _
  · have e3 : (y == 3) = false := by rw [beq_eq_false_iff_ne]; exact h3
    clear h0 h1 h2 h3
    go_wp2
    refine bodyPost_ret (v := (.agg #[.bool (sgn p), .slice aA (lms p).length cA, .bool (sgn q), .slice aF (lms q).length cF])) (by simp [results, Tryz.results35, go_sem, kr0, kr1, kr2, kr3]) rfl ?_
    exact HD.out.doneA HBB.out OA.out OF.out zwa zwa _ _ _ _
end Go.Proofs.YtpmgpdlminacaaaGreatDoor

/- The walks of whether two numbers are alike, of a byte of the code, and of the draws of the laws. -/
namespace Go.Proofs.YtpmgpdlminacaaaGreatDoor
open Go.RowKit
set_option linter.unusedVariables false

theorem Row.bel {a : Option Addr} {len cap : Nat} {w w' : World} (h : Row a len cap w) (hb : Below w.heap.size w w') : Row a len cap w' := by
  obtain ⟨h1, h2, h3⟩ := h
  refine ⟨?_, h2, h3⟩
  rcases h1 with h | ⟨b, off, rfl, hb', hc⟩
  · exact .inl h
  · exact .inr ⟨b, off, rfl, Nat.lt_of_lt_of_le hb' hb.size, fun j hj => by
      obtain ⟨z, hz, hcz⟩ := hc j hj
      exact ⟨z, hz, (hb.cell (p := ⟨b, off + j, none⟩) hb').trans hcz⟩⟩

set_option maxHeartbeats 2000000 in
theorem sameB (n : Bool) (xs : List Nat) (a1 : Option Addr) (c1 : Nat) (a2 : Option Addr) (c2 : Nat) (w : World) (h1 : Seg w a1 xs.length c1 xs) (h2 : Seg w a2 xs.length c2 xs) :
    Calls Tryz.prog 41 #[.agg #[.bool n, .slice a1 xs.length c1], .agg #[.bool n, .slice a2 xs.length c2]] w fun e w' => e = .returned (.bool true) ∧ Below w.heap.size w w' := by
  have hbl := bl_alloc (bl_alloc (bl_refl w) (Obj.cells #[Value.bool n, Value.slice a1 xs.length c1] 24)) (Obj.cells #[Value.bool n, Value.slice a2 xs.length c2] 24)
  have ka1 : ((w.alloc (Obj.cells #[Value.bool n, Value.slice a1 xs.length c1] 24)).alloc (Obj.cells #[Value.bool n, Value.slice a2 xs.length c2] 24)).cell? ⟨w.heap.size, 1, none⟩ = some (Value.slice a1 xs.length c1) := by go_simp
  have kb1 : ((w.alloc (Obj.cells #[Value.bool n, Value.slice a1 xs.length c1] 24)).alloc (Obj.cells #[Value.bool n, Value.slice a2 xs.length c2] 24)).cell? ⟨w.heap.size + 1, 1, none⟩ = some (Value.slice a2 xs.length c2) := by go_simp
  have ka0 : ((w.alloc (Obj.cells #[Value.bool n, Value.slice a1 xs.length c1] 24)).alloc (Obj.cells #[Value.bool n, Value.slice a2 xs.length c2] 24)).cell? ⟨w.heap.size, 0, none⟩ = some (Value.bool n) := by go_simp
  have kb0 : ((w.alloc (Obj.cells #[Value.bool n, Value.slice a1 xs.length c1] 24)).alloc (Obj.cells #[Value.bool n, Value.slice a2 xs.length c2] 24)).cell? ⟨w.heap.size + 1, 0, none⟩ = some (Value.bool n) := by go_simp
  have hca := h1.2.1
  have hcma := h1.2.2.1
  have hcb := h2.2.1
  have hcmb := h2.2.2.1
  have HA := hide (h1.below hbl)
  have HBB := hide (h2.below hbl)
  have HB := hide hbl
  have hnn : (n != n) = false := by cases n <;> rfl
  clear h1 h2 hbl
  go_enter Tryz.func41, Tryz.ntmps41
  go_upto_region 1 with fail
  generalize ((w.alloc (Obj.cells #[Value.bool n, Value.slice a1 xs.length c1] 24)).alloc (Obj.cells #[Value.bool n, Value.slice a2 xs.length c2] 24)) = w1 at *
  go_wp2
  go_loopw [5] (fun i wr => ∃ k : Nat, k ≤ xs.length ∧ i = .int .i64 k ∧ ∃ m, wr = w1.drewN m) (fun i _ => xs.length - (intOf i).toNat)
  case atStart => exact ⟨0, Nat.zero_le _, rfl, 0, rfl⟩
  case round =>
    obtain ⟨k, hk, rfl, m, rfl⟩ := hrel
    by_cases hlt : k < xs.length
    · obtain ⟨g, o, rfl, hg, hc1⟩ := seg_cell HA.out k hlt
      obtain ⟨g', o', rfl, hg', hc2⟩ := seg_cell HBB.out k hlt
      have hlt' : (k : Int) < (xs.length : Int) := by omega
      generalize xs[k]'_ = x at *
      go_wp2
      go_quiet (fail)
      go_wp2
      exact ⟨⟨k + 1, by omega, by go_num, m + nq, by simp⟩, by simp [intOf]; omega⟩
    · have hlt' : ¬ (k : Int) < (xs.length : Int) := by omega
      go_wp2
      go_ret
      exact ⟨rfl, below_drewN HB.out m⟩

end Go.Proofs.YtpmgpdlminacaaaGreatDoor
