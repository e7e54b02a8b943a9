/- The draw of two numbers to be divided. -/
import Derived.Test.YtmdohdnnhlnghaaAsD
import Derived.Test.YtmdohdnnhlnghaaMul
namespace Go.Proofs.Ytmdohdnnhlnghaa
open Go.RowKit
set_option linter.unusedVariables false

theorem Only.of_below {B : Nat} {w w' : World} (h : Below w.heap.size w w') : Only B w w' := ⟨h.os, h.tape, h.output, h.size, fun k hk _ => h.block k hk⟩
theorem len_mul' {x y : Int} {m n : Nat} (h1 : (lms x).length ≤ m) (h2 : (lms y).length ≤ n) : (lms (x * y)).length ≤ m + n := by
  unfold lms at *
  refine Num.limbs_len.2 ?_
  rw [Int.natAbs_mul, Nat.pow_add]
  exact Nat.mul_lt_mul'' (Num.limbs_len.1 h1) (Num.limbs_len.1 h2)

set_option maxHeartbeats 16000000 in
set_option maxRecDepth 20000 in
theorem drawDm (a : Option Addr) (len cap : Nat) (w : World) (hr : Row a len cap w) :
    Calls Try.prog 11 #[.slice a len cap] w fun e w' => ∃ n a1 c1 xs m b1 e1 ys, e = .returned (.tuple #[.agg #[.bool n, .slice a1 xs.length c1], .agg #[.bool m, .slice b1 ys.length e1]]) ∧ Seg w' a1 xs.length c1 xs ∧ Seg w' b1 ys.length e1 ys ∧ Below w.heap.size w w' := by
  have kr0 : ((w.alloc (Obj.cells #[Value.bool false, Value.slice none 0 0] 26)).alloc (Obj.cells #[Value.bool false, Value.slice none 0 0] 26)).cell? ⟨w.heap.size, 0, none⟩ = some (Value.bool false) := by go_simp
  have fr0 : ((w.alloc (Obj.cells #[Value.bool false, Value.slice none 0 0] 26)).alloc (Obj.cells #[Value.bool false, Value.slice none 0 0] 26)).frozen? ⟨w.heap.size, 0, none⟩ = false := by go_simp
  have kr1 : ((w.alloc (Obj.cells #[Value.bool false, Value.slice none 0 0] 26)).alloc (Obj.cells #[Value.bool false, Value.slice none 0 0] 26)).cell? ⟨w.heap.size, 1, none⟩ = some (Value.slice none 0 0) := by go_simp
  have fr1 : ((w.alloc (Obj.cells #[Value.bool false, Value.slice none 0 0] 26)).alloc (Obj.cells #[Value.bool false, Value.slice none 0 0] 26)).frozen? ⟨w.heap.size, 1, none⟩ = false := by go_simp
  have ks0 : ((w.alloc (Obj.cells #[Value.bool false, Value.slice none 0 0] 26)).alloc (Obj.cells #[Value.bool false, Value.slice none 0 0] 26)).cell? ⟨w.heap.size + 1, 0, none⟩ = some (Value.bool false) := by go_simp
  have fs0 : ((w.alloc (Obj.cells #[Value.bool false, Value.slice none 0 0] 26)).alloc (Obj.cells #[Value.bool false, Value.slice none 0 0] 26)).frozen? ⟨w.heap.size + 1, 0, none⟩ = false := by go_simp
  have ks1 : ((w.alloc (Obj.cells #[Value.bool false, Value.slice none 0 0] 26)).alloc (Obj.cells #[Value.bool false, Value.slice none 0 0] 26)).cell? ⟨w.heap.size + 1, 1, none⟩ = some (Value.slice none 0 0) := by go_simp
  have fs1 : ((w.alloc (Obj.cells #[Value.bool false, Value.slice none 0 0] 26)).alloc (Obj.cells #[Value.bool false, Value.slice none 0 0] 26)).frozen? ⟨w.heap.size + 1, 1, none⟩ = false := by go_simp
  have z0 : w.heap.size + 1 < ((w.alloc (Obj.cells #[Value.bool false, Value.slice none 0 0] 26)).alloc (Obj.cells #[Value.bool false, Value.slice none 0 0] 26)).heap.size := by simp only [World.size_alloc]; omega
  have HB := hide (bl_alloc (bl_alloc (bl_refl w) (Obj.cells #[Value.bool false, Value.slice none 0 0] 26)) (Obj.cells #[Value.bool false, Value.slice none 0 0] 26))
  have HR := hide (hr.bel HB.out)
  clear hr
  go_enter Try.func11, Try.ntmps11
  go_wp2_with fail
  generalize ((w.alloc (Obj.cells #[Value.bool false, Value.slice none 0 0] 26)).alloc (Obj.cells #[Value.bool false, Value.slice none 0 0] 26)) = w1 at *
  refine (newD a len cap _ HR.out).mono ?_
  rintro e w2 ⟨rfl, hc, hb⟩
  have y2 := hb.size
  replace kr0 := (hb.cell (p := ⟨w.heap.size, 0, none⟩) (by dsimp only; omega)).trans kr0
  replace fr0 := (hb.frozen (p := ⟨w.heap.size, 0, none⟩) (by dsimp only; omega)).trans fr0
  replace kr1 := (hb.cell (p := ⟨w.heap.size, 1, none⟩) (by dsimp only; omega)).trans kr1
  replace fr1 := (hb.frozen (p := ⟨w.heap.size, 1, none⟩) (by dsimp only; omega)).trans fr1
  replace ks0 := (hb.cell (p := ⟨w.heap.size + 1, 0, none⟩) (by dsimp only; omega)).trans ks0
  replace fs0 := (hb.frozen (p := ⟨w.heap.size + 1, 0, none⟩) (by dsimp only; omega)).trans fs0
  replace ks1 := (hb.cell (p := ⟨w.heap.size + 1, 1, none⟩) (by dsimp only; omega)).trans ks1
  replace fs1 := (hb.frozen (p := ⟨w.heap.size + 1, 1, none⟩) (by dsimp only; omega)).trans fs1
  replace HB := hide (bl_trans HB.out hb)
  have HC := hide hc
  have hB2 := hc.hB
  clear hb hc HR
  go_wp2_with fail
  refine (anyB w1.heap.size a len cap _ HC.out).mono ?_
  rintro e w3 ⟨n, a1, c1, xs, rfl, hl, hw, hc, ho⟩
  clear hl
  have yw3 := ho.size
  replace kr0 := (ho.cell (p := ⟨w.heap.size, 0, none⟩) (by dsimp only; omega) (by dsimp only; omega)).trans kr0
  replace fr0 := (ho.frozen (p := ⟨w.heap.size, 0, none⟩) (by dsimp only; omega) (by dsimp only; omega)).trans fr0
  replace kr1 := (ho.cell (p := ⟨w.heap.size, 1, none⟩) (by dsimp only; omega) (by dsimp only; omega)).trans kr1
  replace fr1 := (ho.frozen (p := ⟨w.heap.size, 1, none⟩) (by dsimp only; omega) (by dsimp only; omega)).trans fr1
  replace ks0 := (ho.cell (p := ⟨w.heap.size + 1, 0, none⟩) (by dsimp only; omega) (by dsimp only; omega)).trans ks0
  replace fs0 := (ho.frozen (p := ⟨w.heap.size + 1, 0, none⟩) (by dsimp only; omega) (by dsimp only; omega)).trans fs0
  replace ks1 := (ho.cell (p := ⟨w.heap.size + 1, 1, none⟩) (by dsimp only; omega) (by dsimp only; omega)).trans ks1
  replace fs1 := (ho.frozen (p := ⟨w.heap.size + 1, 1, none⟩) (by dsimp only; omega) (by dsimp only; omega)).trans fs1
  replace HB := hide (HB.out.trans (ho.below (by omega) (by omega)))
  have ka0 : (w3.alloc (Obj.cells #[Value.bool n, Value.slice a1 xs.length c1] 26)).cell? ⟨w3.heap.size, 0, none⟩ = some (Value.bool n) := by go_simp
  have ka1 : (w3.alloc (Obj.cells #[Value.bool n, Value.slice a1 xs.length c1] 26)).cell? ⟨w3.heap.size, 1, none⟩ = some (Value.slice a1 xs.length c1) := by go_simp
  have yw4 : w3.heap.size < (w3.alloc (Obj.cells #[Value.bool n, Value.slice a1 xs.length c1] 26)).heap.size := by simp only [World.size_alloc]; omega
  have hbn := bl_alloc (bl_refl w3) (Obj.cells #[Value.bool n, Value.slice a1 xs.length c1] 26)
  replace kr0 := (hbn.cell (p := ⟨w.heap.size, 0, none⟩) (by dsimp only; omega)).trans kr0
  replace fr0 := (hbn.frozen (p := ⟨w.heap.size, 0, none⟩) (by dsimp only; omega)).trans fr0
  replace kr1 := (hbn.cell (p := ⟨w.heap.size, 1, none⟩) (by dsimp only; omega)).trans kr1
  replace fr1 := (hbn.frozen (p := ⟨w.heap.size, 1, none⟩) (by dsimp only; omega)).trans fr1
  replace ks0 := (hbn.cell (p := ⟨w.heap.size + 1, 0, none⟩) (by dsimp only; omega)).trans ks0
  replace fs0 := (hbn.frozen (p := ⟨w.heap.size + 1, 0, none⟩) (by dsimp only; omega)).trans fs0
  replace ks1 := (hbn.cell (p := ⟨w.heap.size + 1, 1, none⟩) (by dsimp only; omega)).trans ks1
  replace fs1 := (hbn.frozen (p := ⟨w.heap.size + 1, 1, none⟩) (by dsimp only; omega)).trans fs1
  replace HC := hide (hc.alloc (Obj.cells #[Value.bool n, Value.slice a1 xs.length c1] 26))
  have OA := hide (hw.below hbn)
  replace HB := hide (bl_trans HB.out hbn)
  clear hc ho hw hbn
  go_wp2_with fail
  generalize (w3.alloc (Obj.cells #[Value.bool n, Value.slice a1 xs.length c1] 26)) = w4 at *
  refine (anyB w1.heap.size a len cap _ HC.out).mono ?_
  rintro e w5 ⟨m, b1, e1, ys, rfl, hl, hw, hc, ho⟩
  clear hl
  have yw5 := ho.size
  replace kr0 := (ho.cell (p := ⟨w.heap.size, 0, none⟩) (by dsimp only; omega) (by dsimp only; omega)).trans kr0
  replace fr0 := (ho.frozen (p := ⟨w.heap.size, 0, none⟩) (by dsimp only; omega) (by dsimp only; omega)).trans fr0
  replace kr1 := (ho.cell (p := ⟨w.heap.size, 1, none⟩) (by dsimp only; omega) (by dsimp only; omega)).trans kr1
  replace fr1 := (ho.frozen (p := ⟨w.heap.size, 1, none⟩) (by dsimp only; omega) (by dsimp only; omega)).trans fr1
  replace ks0 := (ho.cell (p := ⟨w.heap.size + 1, 0, none⟩) (by dsimp only; omega) (by dsimp only; omega)).trans ks0
  replace fs0 := (ho.frozen (p := ⟨w.heap.size + 1, 0, none⟩) (by dsimp only; omega) (by dsimp only; omega)).trans fs0
  replace ks1 := (ho.cell (p := ⟨w.heap.size + 1, 1, none⟩) (by dsimp only; omega) (by dsimp only; omega)).trans ks1
  replace fs1 := (ho.frozen (p := ⟨w.heap.size + 1, 1, none⟩) (by dsimp only; omega) (by dsimp only; omega)).trans fs1
  replace ka0 := (ho.cell (p := ⟨w3.heap.size, 0, none⟩) (by dsimp only; omega) (by dsimp only; omega)).trans ka0
  replace ka1 := (ho.cell (p := ⟨w3.heap.size, 1, none⟩) (by dsimp only; omega) (by dsimp only; omega)).trans ka1
  replace OA := hide (OA.out.only ho (by omega))
  replace HB := hide (HB.out.trans (ho.below (by omega) (by omega)))
  have kb0 : (w5.alloc (Obj.cells #[Value.bool m, Value.slice b1 ys.length e1] 26)).cell? ⟨w5.heap.size, 0, none⟩ = some (Value.bool m) := by go_simp
  have kb1 : (w5.alloc (Obj.cells #[Value.bool m, Value.slice b1 ys.length e1] 26)).cell? ⟨w5.heap.size, 1, none⟩ = some (Value.slice b1 ys.length e1) := by go_simp
  have yw6 : w5.heap.size < (w5.alloc (Obj.cells #[Value.bool m, Value.slice b1 ys.length e1] 26)).heap.size := by simp only [World.size_alloc]; omega
  have hbn := bl_alloc (bl_refl w5) (Obj.cells #[Value.bool m, Value.slice b1 ys.length e1] 26)
  replace kr0 := (hbn.cell (p := ⟨w.heap.size, 0, none⟩) (by dsimp only; omega)).trans kr0
  replace fr0 := (hbn.frozen (p := ⟨w.heap.size, 0, none⟩) (by dsimp only; omega)).trans fr0
  replace kr1 := (hbn.cell (p := ⟨w.heap.size, 1, none⟩) (by dsimp only; omega)).trans kr1
  replace fr1 := (hbn.frozen (p := ⟨w.heap.size, 1, none⟩) (by dsimp only; omega)).trans fr1
  replace ks0 := (hbn.cell (p := ⟨w.heap.size + 1, 0, none⟩) (by dsimp only; omega)).trans ks0
  replace fs0 := (hbn.frozen (p := ⟨w.heap.size + 1, 0, none⟩) (by dsimp only; omega)).trans fs0
  replace ks1 := (hbn.cell (p := ⟨w.heap.size + 1, 1, none⟩) (by dsimp only; omega)).trans ks1
  replace fs1 := (hbn.frozen (p := ⟨w.heap.size + 1, 1, none⟩) (by dsimp only; omega)).trans fs1
  replace ka0 := (hbn.cell (p := ⟨w3.heap.size, 0, none⟩) (by dsimp only; omega)).trans ka0
  replace ka1 := (hbn.cell (p := ⟨w3.heap.size, 1, none⟩) (by dsimp only; omega)).trans ka1
  replace OA := hide (OA.out.below hbn)
  replace HC := hide (hc.alloc (Obj.cells #[Value.bool m, Value.slice b1 ys.length e1] 26))
  have OB := hide (hw.below hbn)
  replace HB := hide (bl_trans HB.out hbn)
  clear hc ho hw hbn
  go_wp2_with fail
  generalize (w5.alloc (Obj.cells #[Value.bool m, Value.slice b1 ys.length e1] 26)) = w6 at *
  refine (onceD w1.heap.size a len cap _ HC.out 4 (by omega)).mono ?_
  rintro e w7 ⟨x, rfl, hc, ho⟩
  have y7 := ho.size
  replace kr0 := (ho.cell (p := ⟨w.heap.size, 0, none⟩) (by dsimp only; omega) (by dsimp only; omega)).trans kr0
  replace fr0 := (ho.frozen (p := ⟨w.heap.size, 0, none⟩) (by dsimp only; omega) (by dsimp only; omega)).trans fr0
  replace kr1 := (ho.cell (p := ⟨w.heap.size, 1, none⟩) (by dsimp only; omega) (by dsimp only; omega)).trans kr1
  replace fr1 := (ho.frozen (p := ⟨w.heap.size, 1, none⟩) (by dsimp only; omega) (by dsimp only; omega)).trans fr1
  replace ks0 := (ho.cell (p := ⟨w.heap.size + 1, 0, none⟩) (by dsimp only; omega) (by dsimp only; omega)).trans ks0
  replace fs0 := (ho.frozen (p := ⟨w.heap.size + 1, 0, none⟩) (by dsimp only; omega) (by dsimp only; omega)).trans fs0
  replace ks1 := (ho.cell (p := ⟨w.heap.size + 1, 1, none⟩) (by dsimp only; omega) (by dsimp only; omega)).trans ks1
  replace fs1 := (ho.frozen (p := ⟨w.heap.size + 1, 1, none⟩) (by dsimp only; omega) (by dsimp only; omega)).trans fs1
  replace ka0 := (ho.cell (p := ⟨w3.heap.size, 0, none⟩) (by dsimp only; omega) (by dsimp only; omega)).trans ka0
  replace ka1 := (ho.cell (p := ⟨w3.heap.size, 1, none⟩) (by dsimp only; omega) (by dsimp only; omega)).trans ka1
  replace kb0 := (ho.cell (p := ⟨w5.heap.size, 0, none⟩) (by dsimp only; omega) (by dsimp only; omega)).trans kb0
  replace kb1 := (ho.cell (p := ⟨w5.heap.size, 1, none⟩) (by dsimp only; omega) (by dsimp only; omega)).trans kb1
  replace OA := hide (OA.out.only ho (by omega))
  replace OB := hide (OB.out.only ho (by omega))
  replace HB := hide (HB.out.trans (ho.below (by omega) (by omega)))
  replace HC := hide hc
  clear hc ho
  cases x with
  | false =>
    go_wp2_with fail
    go_region
    all_goals go_wp2
    all_goals refine bodyPost_ret (v := .tuple #[Value.agg #[Value.bool n, Value.slice a1 xs.length c1], Value.agg #[Value.bool m, Value.slice b1 ys.length e1]]) (by simp [results, Try.results11, go_sem, kr0, kr1, ks0, ks1]) rfl ?_
    all_goals first | exact ⟨n, a1, c1, xs, m, b1, e1, ys, rfl, (((((OA.out).setCell (p := ⟨w.heap.size, 0, none⟩) (by dsimp only; omega) _).setCell (p := ⟨w.heap.size, 1, none⟩) (by dsimp only; omega) _).setCell (p := ⟨w.heap.size + 1, 0, none⟩) (by dsimp only; omega) _).setCell (p := ⟨w.heap.size + 1, 1, none⟩) (by dsimp only; omega) _).seg, (((((OB.out).setCell (p := ⟨w.heap.size, 0, none⟩) (by dsimp only; omega) _).setCell (p := ⟨w.heap.size, 1, none⟩) (by dsimp only; omega) _).setCell (p := ⟨w.heap.size + 1, 0, none⟩) (by dsimp only; omega) _).setCell (p := ⟨w.heap.size + 1, 1, none⟩) (by dsimp only; omega) _).seg, (((((HB.out).setCell (p := ⟨w.heap.size, 0, none⟩) (by dsimp only; omega) _).setCell (p := ⟨w.heap.size, 1, none⟩) (by dsimp only; omega) _).setCell (p := ⟨w.heap.size + 1, 0, none⟩) (by dsimp only; omega) _).setCell (p := ⟨w.heap.size + 1, 1, none⟩) (by dsimp only; omega) _)⟩ | exact ⟨n, a1, c1, xs, m, b1, e1, ys, rfl, (((((OA.out).setCell (p := ⟨w.heap.size, 0, none⟩) (by dsimp only; omega) _).setCell (p := ⟨w.heap.size, 1, none⟩) (by dsimp only; omega) _).setCell (p := ⟨w.heap.size + 1, 0, none⟩) (by dsimp only; omega) _).setCell (p := ⟨w.heap.size + 1, 1, none⟩) (by dsimp only; omega) _).seg, (((((OB.out).setCell (p := ⟨w.heap.size, 0, none⟩) (by dsimp only; omega) _).setCell (p := ⟨w.heap.size, 1, none⟩) (by dsimp only; omega) _).setCell (p := ⟨w.heap.size + 1, 0, none⟩) (by dsimp only; omega) _).setCell (p := ⟨w.heap.size + 1, 1, none⟩) (by dsimp only; omega) _).seg, (((((HB.out).setCell (p := ⟨w.heap.size, 0, none⟩) (by dsimp only; omega) _).setCell (p := ⟨w.heap.size, 1, none⟩) (by dsimp only; omega) _).setCell (p := ⟨w.heap.size + 1, 0, none⟩) (by dsimp only; omega) _).setCell (p := ⟨w.heap.size + 1, 1, none⟩) (by dsimp only; omega) _).drew⟩
  | true =>
    clear ka0 ka1 OA
    go_wp2_with fail
    go_region_with
      (first
        | (go_at_call 28; have hq := oqA; refine (bigD 9 w1.heap.size a len cap _ hcA (by decide)).mono ?_; rintro e wB ⟨v, aB, cB, rfl, lB, hoB, hcB, ho⟩; have yB := ho.size; have oqB : Only w1.heap.size w7 wB := oqA.trans ho; have hoA := hoA.only ho (by first | omega | (have := World.size_drew w7; omega)); have kr0 := (ho.cell (p := ⟨w.heap.size, 0, none⟩) (by dsimp only; first | omega | (rw [World.size_drew]; omega)) (by dsimp only; omega)).trans kr0; have fr0 := (ho.frozen (p := ⟨w.heap.size, 0, none⟩) (by dsimp only; first | omega | (rw [World.size_drew]; omega)) (by dsimp only; omega)).trans fr0; have kr1 := (ho.cell (p := ⟨w.heap.size, 1, none⟩) (by dsimp only; first | omega | (rw [World.size_drew]; omega)) (by dsimp only; omega)).trans kr1; have fr1 := (ho.frozen (p := ⟨w.heap.size, 1, none⟩) (by dsimp only; first | omega | (rw [World.size_drew]; omega)) (by dsimp only; omega)).trans fr1; have ks0 := (ho.cell (p := ⟨w.heap.size + 1, 0, none⟩) (by dsimp only; first | omega | (rw [World.size_drew]; omega)) (by dsimp only; omega)).trans ks0; have fs0 := (ho.frozen (p := ⟨w.heap.size + 1, 0, none⟩) (by dsimp only; first | omega | (rw [World.size_drew]; omega)) (by dsimp only; omega)).trans fs0; have ks1 := (ho.cell (p := ⟨w.heap.size + 1, 1, none⟩) (by dsimp only; first | omega | (rw [World.size_drew]; omega)) (by dsimp only; omega)).trans ks1; have fs1 := (ho.frozen (p := ⟨w.heap.size + 1, 1, none⟩) (by dsimp only; first | omega | (rw [World.size_drew]; omega)) (by dsimp only; omega)).trans fs1; have kb0 := (ho.cell (p := ⟨w5.heap.size, 0, none⟩) (by dsimp only; first | omega | (rw [World.size_drew]; omega)) (by dsimp only; omega)).trans kb0; have kb1 := (ho.cell (p := ⟨w5.heap.size, 1, none⟩) (by dsimp only; first | omega | (rw [World.size_drew]; omega)) (by dsimp only; omega)).trans kb1; clear oqA ho)
        | (go_at_call 28; refine (bigD 9 w1.heap.size a len cap _ (HC.out.drewN 1) (by decide)).mono ?_; rintro e wA ⟨u, aA, cA, rfl, lA, hoA0, hcA, ho⟩; have oqA : Only w1.heap.size w7 wA := ((Only.refl w1.heap.size w7).drewN 1).trans ho; have yA := oqA.size; have hoA : Own wA w7.heap.size aA (lms u).length cA (lms u) := hoA0; have kr0 := (oqA.cell (p := ⟨w.heap.size, 0, none⟩) (by dsimp only; first | omega | (rw [World.size_drew]; omega)) (by dsimp only; omega)).trans kr0; have fr0 := (oqA.frozen (p := ⟨w.heap.size, 0, none⟩) (by dsimp only; first | omega | (rw [World.size_drew]; omega)) (by dsimp only; omega)).trans fr0; have kr1 := (oqA.cell (p := ⟨w.heap.size, 1, none⟩) (by dsimp only; first | omega | (rw [World.size_drew]; omega)) (by dsimp only; omega)).trans kr1; have fr1 := (oqA.frozen (p := ⟨w.heap.size, 1, none⟩) (by dsimp only; first | omega | (rw [World.size_drew]; omega)) (by dsimp only; omega)).trans fr1; have ks0 := (oqA.cell (p := ⟨w.heap.size + 1, 0, none⟩) (by dsimp only; first | omega | (rw [World.size_drew]; omega)) (by dsimp only; omega)).trans ks0; have fs0 := (oqA.frozen (p := ⟨w.heap.size + 1, 0, none⟩) (by dsimp only; first | omega | (rw [World.size_drew]; omega)) (by dsimp only; omega)).trans fs0; have ks1 := (oqA.cell (p := ⟨w.heap.size + 1, 1, none⟩) (by dsimp only; first | omega | (rw [World.size_drew]; omega)) (by dsimp only; omega)).trans ks1; have fs1 := (oqA.frozen (p := ⟨w.heap.size + 1, 1, none⟩) (by dsimp only; first | omega | (rw [World.size_drew]; omega)) (by dsimp only; omega)).trans fs1; have kb0 := (oqA.cell (p := ⟨w5.heap.size, 0, none⟩) (by dsimp only; first | omega | (rw [World.size_drew]; omega)) (by dsimp only; omega)).trans kb0; have kb1 := (oqA.cell (p := ⟨w5.heap.size, 1, none⟩) (by dsimp only; first | omega | (rw [World.size_drew]; omega)) (by dsimp only; omega)).trans kb1; clear ho hoA0)
        | (go_at_call 27; refine (mulS (.agg #[.bool (sgn u), .slice aA (lms u).length cA]) (.agg #[.bool (sgn v), .slice aB (lms v).length cB]) u v _ ⟨aA, cA, rfl, hoA.seg⟩ ⟨aB, cB, rfl, hoB.seg⟩ (by omega) (by omega)).mono ?_; rintro e wC ⟨vC, rfl, ⟨aC, cC, rfl, hoC⟩, hbC⟩; have yC := hbC.size; have lC := len_mul' lA lB; have oqC : Only w1.heap.size w7 wC := oqB.trans (Only.of_below hbC); have hcC := hcB.kept (hbC.mono (by omega)); have kr0 := (hbC.cell (p := ⟨w.heap.size, 0, none⟩) (by dsimp only; first | omega | (rw [World.size_drew]; omega))).trans kr0; have fr0 := (hbC.frozen (p := ⟨w.heap.size, 0, none⟩) (by dsimp only; first | omega | (rw [World.size_drew]; omega))).trans fr0; have kr1 := (hbC.cell (p := ⟨w.heap.size, 1, none⟩) (by dsimp only; first | omega | (rw [World.size_drew]; omega))).trans kr1; have fr1 := (hbC.frozen (p := ⟨w.heap.size, 1, none⟩) (by dsimp only; first | omega | (rw [World.size_drew]; omega))).trans fr1; have ks0 := (hbC.cell (p := ⟨w.heap.size + 1, 0, none⟩) (by dsimp only; first | omega | (rw [World.size_drew]; omega))).trans ks0; have fs0 := (hbC.frozen (p := ⟨w.heap.size + 1, 0, none⟩) (by dsimp only; first | omega | (rw [World.size_drew]; omega))).trans fs0; have ks1 := (hbC.cell (p := ⟨w.heap.size + 1, 1, none⟩) (by dsimp only; first | omega | (rw [World.size_drew]; omega))).trans ks1; have fs1 := (hbC.frozen (p := ⟨w.heap.size + 1, 1, none⟩) (by dsimp only; first | omega | (rw [World.size_drew]; omega))).trans fs1; have kb0 := (hbC.cell (p := ⟨w5.heap.size, 0, none⟩) (by dsimp only; first | omega | (rw [World.size_drew]; omega))).trans kb0; have kb1 := (hbC.cell (p := ⟨w5.heap.size, 1, none⟩) (by dsimp only; first | omega | (rw [World.size_drew]; omega))).trans kb1; clear hbC)
        | (go_at_call 30; refine (belowD w1.heap.size a len cap _ hcC 3 (by omega)).mono ?_; rintro e wD ⟨x, hx, rfl, hcD, ho⟩; have yD := ho.size; have hx0 : 0 ≤ x ∧ x < 3 := (by rcases hx with h | h <;> omega); have oqD : Only w1.heap.size w7 wD := oqC.trans ho; have hoC := hoC.only ho (by omega); have hwx : IntKind.i64.wrap (x - 1) = x - 1 := (by rw [IntKind.wrap_i64]; omega); have kr0 := (ho.cell (p := ⟨w.heap.size, 0, none⟩) (by dsimp only; first | omega | (rw [World.size_drew]; omega)) (by dsimp only; omega)).trans kr0; have fr0 := (ho.frozen (p := ⟨w.heap.size, 0, none⟩) (by dsimp only; first | omega | (rw [World.size_drew]; omega)) (by dsimp only; omega)).trans fr0; have kr1 := (ho.cell (p := ⟨w.heap.size, 1, none⟩) (by dsimp only; first | omega | (rw [World.size_drew]; omega)) (by dsimp only; omega)).trans kr1; have fr1 := (ho.frozen (p := ⟨w.heap.size, 1, none⟩) (by dsimp only; first | omega | (rw [World.size_drew]; omega)) (by dsimp only; omega)).trans fr1; have ks0 := (ho.cell (p := ⟨w.heap.size + 1, 0, none⟩) (by dsimp only; first | omega | (rw [World.size_drew]; omega)) (by dsimp only; omega)).trans ks0; have fs0 := (ho.frozen (p := ⟨w.heap.size + 1, 0, none⟩) (by dsimp only; first | omega | (rw [World.size_drew]; omega)) (by dsimp only; omega)).trans fs0; have ks1 := (ho.cell (p := ⟨w.heap.size + 1, 1, none⟩) (by dsimp only; first | omega | (rw [World.size_drew]; omega)) (by dsimp only; omega)).trans ks1; have fs1 := (ho.frozen (p := ⟨w.heap.size + 1, 1, none⟩) (by dsimp only; first | omega | (rw [World.size_drew]; omega)) (by dsimp only; omega)).trans fs1; have kb0 := (ho.cell (p := ⟨w5.heap.size, 0, none⟩) (by dsimp only; first | omega | (rw [World.size_drew]; omega)) (by dsimp only; omega)).trans kb0; have kb1 := (ho.cell (p := ⟨w5.heap.size, 1, none⟩) (by dsimp only; first | omega | (rw [World.size_drew]; omega)) (by dsimp only; omega)).trans kb1; clear ho hx)
        | (go_at_call 29; (try rw [hwx]); refine (fromS (x - 1) _ (by omega) (by omega)).mono ?_; rintro e wE ⟨vE, rfl, ⟨aE, cE, rfl, hoE⟩, hbE⟩; have yE := hbE.size; have oqE : Only w1.heap.size w7 wE := oqD.trans (Only.of_below hbE); have hoC := hoC.below hbE; have kr0 := (hbE.cell (p := ⟨w.heap.size, 0, none⟩) (by dsimp only; first | omega | (rw [World.size_drew]; omega))).trans kr0; have fr0 := (hbE.frozen (p := ⟨w.heap.size, 0, none⟩) (by dsimp only; first | omega | (rw [World.size_drew]; omega))).trans fr0; have kr1 := (hbE.cell (p := ⟨w.heap.size, 1, none⟩) (by dsimp only; first | omega | (rw [World.size_drew]; omega))).trans kr1; have fr1 := (hbE.frozen (p := ⟨w.heap.size, 1, none⟩) (by dsimp only; first | omega | (rw [World.size_drew]; omega))).trans fr1; have ks0 := (hbE.cell (p := ⟨w.heap.size + 1, 0, none⟩) (by dsimp only; first | omega | (rw [World.size_drew]; omega))).trans ks0; have fs0 := (hbE.frozen (p := ⟨w.heap.size + 1, 0, none⟩) (by dsimp only; first | omega | (rw [World.size_drew]; omega))).trans fs0; have ks1 := (hbE.cell (p := ⟨w.heap.size + 1, 1, none⟩) (by dsimp only; first | omega | (rw [World.size_drew]; omega))).trans ks1; have fs1 := (hbE.frozen (p := ⟨w.heap.size + 1, 1, none⟩) (by dsimp only; first | omega | (rw [World.size_drew]; omega))).trans fs1; have kb0 := (hbE.cell (p := ⟨w5.heap.size, 0, none⟩) (by dsimp only; first | omega | (rw [World.size_drew]; omega))).trans kb0; have kb1 := (hbE.cell (p := ⟨w5.heap.size, 1, none⟩) (by dsimp only; first | omega | (rw [World.size_drew]; omega))).trans kb1; clear hbE)
        | (go_at_call 24; refine (addS (.agg #[.bool (sgn (u * v)), .slice aC (lms (u * v)).length cC]) (.agg #[.bool (sgn (x - 1)), .slice aE (lms (x - 1)).length cE]) (u * v) (x - 1) _ ⟨aC, cC, rfl, hoC.seg⟩ ⟨aE, cE, rfl, hoE.seg⟩ (by omega) (Nat.le_trans (Num.limbs_len.2 (show (x - 1).natAbs < 4294967296 ^ 1 by omega)) (by decide))).mono ?_; rintro e wF ⟨vF, rfl, ⟨aF, cF, rfl, hoF⟩, hbF⟩; have yF := hbF.size; have oqF : Only w1.heap.size w7 wF := oqE.trans (Only.of_below hbF); have kr0 := (hbF.cell (p := ⟨w.heap.size, 0, none⟩) (by dsimp only; first | omega | (rw [World.size_drew]; omega))).trans kr0; have fr0 := (hbF.frozen (p := ⟨w.heap.size, 0, none⟩) (by dsimp only; first | omega | (rw [World.size_drew]; omega))).trans fr0; have kr1 := (hbF.cell (p := ⟨w.heap.size, 1, none⟩) (by dsimp only; first | omega | (rw [World.size_drew]; omega))).trans kr1; have fr1 := (hbF.frozen (p := ⟨w.heap.size, 1, none⟩) (by dsimp only; first | omega | (rw [World.size_drew]; omega))).trans fr1; have ks0 := (hbF.cell (p := ⟨w.heap.size + 1, 0, none⟩) (by dsimp only; first | omega | (rw [World.size_drew]; omega))).trans ks0; have fs0 := (hbF.frozen (p := ⟨w.heap.size + 1, 0, none⟩) (by dsimp only; first | omega | (rw [World.size_drew]; omega))).trans fs0; have ks1 := (hbF.cell (p := ⟨w.heap.size + 1, 1, none⟩) (by dsimp only; first | omega | (rw [World.size_drew]; omega))).trans ks1; have fs1 := (hbF.frozen (p := ⟨w.heap.size + 1, 1, none⟩) (by dsimp only; first | omega | (rw [World.size_drew]; omega))).trans fs1; have kb0 := (hbF.cell (p := ⟨w5.heap.size, 0, none⟩) (by dsimp only; first | omega | (rw [World.size_drew]; omega))).trans kb0; have kb1 := (hbF.cell (p := ⟨w5.heap.size, 1, none⟩) (by dsimp only; first | omega | (rw [World.size_drew]; omega))).trans kb1; clear hbF))
    all_goals go_wp2
    all_goals refine bodyPost_ret (v := .tuple #[Value.agg #[Value.bool (sgn (u * v + (x - 1))), Value.slice aF (lms (u * v + (x - 1))).length cF], Value.agg #[Value.bool m, Value.slice b1 ys.length e1]]) (by simp [results, Try.results11, go_sem, kr0, kr1, ks0, ks1]) rfl ?_
    all_goals have O2 := OB.out.only oqF (by omega)
    all_goals have HBF := HB.out.trans (oqF.below (N := w.heap.size) (by omega) (by omega))
    all_goals exact ⟨_, aF, cF, _, m, b1, e1, ys, rfl, (((((hoF).setCell (p := ⟨w.heap.size, 0, none⟩) (by dsimp only; omega) _).setCell (p := ⟨w.heap.size, 1, none⟩) (by dsimp only; omega) _).setCell (p := ⟨w.heap.size + 1, 0, none⟩) (by dsimp only; omega) _).setCell (p := ⟨w.heap.size + 1, 1, none⟩) (by dsimp only; omega) _).seg, (((((O2).setCell (p := ⟨w.heap.size, 0, none⟩) (by dsimp only; omega) _).setCell (p := ⟨w.heap.size, 1, none⟩) (by dsimp only; omega) _).setCell (p := ⟨w.heap.size + 1, 0, none⟩) (by dsimp only; omega) _).setCell (p := ⟨w.heap.size + 1, 1, none⟩) (by dsimp only; omega) _).seg, (((((HBF).setCell (p := ⟨w.heap.size, 0, none⟩) (by dsimp only; omega) _).setCell (p := ⟨w.heap.size, 1, none⟩) (by dsimp only; omega) _).setCell (p := ⟨w.heap.size + 1, 0, none⟩) (by dsimp only; omega) _).setCell (p := ⟨w.heap.size + 1, 1, none⟩) (by dsimp only; omega) _)⟩
end Go.Proofs.Ytmdohdnnhlnghaa
