/- The draw of two numbers. -/
import Derived.Test.YtmdohdnnhlnghaaDrP
import Derived.Test.YtmdohdnnhlnghaaAddP
import Derived.Test.YtmdohdnnhlnghaaSubS
namespace Go.Proofs.Ytmdohdnnhlnghaa
open Go.RowKit
set_option linter.unusedVariables false

set_option maxHeartbeats 4000000 in
set_option maxRecDepth 20000 in
theorem drawAdd (a : Option Addr) (len cap : Nat) (w : World) (hr : Row a len cap w) :
    Calls Try.prog 6 #[.slice a len cap] w fun e w' => ∃ n a1 c1 xs m b1 e1 ys, e = .returned (.tuple #[.agg #[.bool n, .slice a1 xs.length c1], .agg #[.bool m, .slice b1 ys.length e1]]) ∧ xs.length ≤ 41 ∧ ys.length ≤ 41 ∧ Seg w' a1 xs.length c1 xs ∧ Seg w' b1 ys.length e1 ys ∧ Below w.heap.size w w' := by
  have kr0 : ((w.alloc (Obj.cells #[Value.bool false, Value.slice none 0 0] 26)).alloc (Obj.cells #[Value.bool false, Value.slice none 0 0] 26)).cell? ⟨w.heap.size, 0, none⟩ = some (Value.bool false) := by go_simp
  have fr0 : ((w.alloc (Obj.cells #[Value.bool false, Value.slice none 0 0] 26)).alloc (Obj.cells #[Value.bool false, Value.slice none 0 0] 26)).frozen? ⟨w.heap.size, 0, none⟩ = false := by go_simp
  have kr1 : ((w.alloc (Obj.cells #[Value.bool false, Value.slice none 0 0] 26)).alloc (Obj.cells #[Value.bool false, Value.slice none 0 0] 26)).cell? ⟨w.heap.size, 1, none⟩ = some (Value.slice none 0 0) := by go_simp
  have fr1 : ((w.alloc (Obj.cells #[Value.bool false, Value.slice none 0 0] 26)).alloc (Obj.cells #[Value.bool false, Value.slice none 0 0] 26)).frozen? ⟨w.heap.size, 1, none⟩ = false := by go_simp
  have ks0 : ((w.alloc (Obj.cells #[Value.bool false, Value.slice none 0 0] 26)).alloc (Obj.cells #[Value.bool false, Value.slice none 0 0] 26)).cell? ⟨w.heap.size + 1, 0, none⟩ = some (Value.bool false) := by go_simp
  have fs0 : ((w.alloc (Obj.cells #[Value.bool false, Value.slice none 0 0] 26)).alloc (Obj.cells #[Value.bool false, Value.slice none 0 0] 26)).frozen? ⟨w.heap.size + 1, 0, none⟩ = false := by go_simp
  have ks1 : ((w.alloc (Obj.cells #[Value.bool false, Value.slice none 0 0] 26)).alloc (Obj.cells #[Value.bool false, Value.slice none 0 0] 26)).cell? ⟨w.heap.size + 1, 1, none⟩ = some (Value.slice none 0 0) := by go_simp
  have fs1 : ((w.alloc (Obj.cells #[Value.bool false, Value.slice none 0 0] 26)).alloc (Obj.cells #[Value.bool false, Value.slice none 0 0] 26)).frozen? ⟨w.heap.size + 1, 1, none⟩ = false := by go_simp
  have z0 : w.heap.size + 1 < ((w.alloc (Obj.cells #[Value.bool false, Value.slice none 0 0] 26)).alloc (Obj.cells #[Value.bool false, Value.slice none 0 0] 26)).heap.size := by simp only [World.size_alloc]; omega
  have HB := hide (bl_alloc (bl_alloc (bl_refl w) (Obj.cells #[Value.bool false, Value.slice none 0 0] 26)) (Obj.cells #[Value.bool false, Value.slice none 0 0] 26))
  have HR := hide (hr.bel HB.out)
  clear hr
  go_enter Try.func6, Try.ntmps6
  go_wp2_with fail
  generalize ((w.alloc (Obj.cells #[Value.bool false, Value.slice none 0 0] 26)).alloc (Obj.cells #[Value.bool false, Value.slice none 0 0] 26)) = w1 at *
  refine (newD a len cap _ HR.out).mono ?_
  rintro e w2 ⟨rfl, hc2, hb2⟩
  have y2 := hb2.size
  replace kr0 := (hb2.cell (p := ⟨w.heap.size, 0, none⟩) (by dsimp only; omega)).trans kr0
  replace fr0 := (hb2.frozen (p := ⟨w.heap.size, 0, none⟩) (by dsimp only; omega)).trans fr0
  replace kr1 := (hb2.cell (p := ⟨w.heap.size, 1, none⟩) (by dsimp only; omega)).trans kr1
  replace fr1 := (hb2.frozen (p := ⟨w.heap.size, 1, none⟩) (by dsimp only; omega)).trans fr1
  replace ks0 := (hb2.cell (p := ⟨w.heap.size + 1, 0, none⟩) (by dsimp only; omega)).trans ks0
  replace fs0 := (hb2.frozen (p := ⟨w.heap.size + 1, 0, none⟩) (by dsimp only; omega)).trans fs0
  replace ks1 := (hb2.cell (p := ⟨w.heap.size + 1, 1, none⟩) (by dsimp only; omega)).trans ks1
  replace fs1 := (hb2.frozen (p := ⟨w.heap.size + 1, 1, none⟩) (by dsimp only; omega)).trans fs1
  replace HB := hide (bl_trans HB.out hb2)
  have HC := hide hc2
  have hB2 := hc2.hB
  clear hb2 hc2 HR
  go_wp2_with fail
  refine (anyB w1.heap.size a len cap _ HC.out).mono ?_
  rintro e w3 ⟨n, a1, c1, xs, rfl, hl1, ho1, hc3, ho3⟩
  have y3 := ho3.size
  replace kr0 := (ho3.cell (p := ⟨w.heap.size, 0, none⟩) (by dsimp only; omega) (by dsimp only; omega)).trans kr0
  replace fr0 := (ho3.frozen (p := ⟨w.heap.size, 0, none⟩) (by dsimp only; omega) (by dsimp only; omega)).trans fr0
  replace kr1 := (ho3.cell (p := ⟨w.heap.size, 1, none⟩) (by dsimp only; omega) (by dsimp only; omega)).trans kr1
  replace fr1 := (ho3.frozen (p := ⟨w.heap.size, 1, none⟩) (by dsimp only; omega) (by dsimp only; omega)).trans fr1
  replace ks0 := (ho3.cell (p := ⟨w.heap.size + 1, 0, none⟩) (by dsimp only; omega) (by dsimp only; omega)).trans ks0
  replace fs0 := (ho3.frozen (p := ⟨w.heap.size + 1, 0, none⟩) (by dsimp only; omega) (by dsimp only; omega)).trans fs0
  replace ks1 := (ho3.cell (p := ⟨w.heap.size + 1, 1, none⟩) (by dsimp only; omega) (by dsimp only; omega)).trans ks1
  replace fs1 := (ho3.frozen (p := ⟨w.heap.size + 1, 1, none⟩) (by dsimp only; omega) (by dsimp only; omega)).trans fs1
  replace HB := hide (HB.out.trans (ho3.below (by omega) (by omega)))
  have ka0 : (w3.alloc (Obj.cells #[Value.bool n, Value.slice a1 xs.length c1] 26)).cell? ⟨w3.heap.size, 0, none⟩ = some (Value.bool n) := by go_simp
  have ka1 : (w3.alloc (Obj.cells #[Value.bool n, Value.slice a1 xs.length c1] 26)).cell? ⟨w3.heap.size, 1, none⟩ = some (Value.slice a1 xs.length c1) := by go_simp
  have y4 : w3.heap.size < (w3.alloc (Obj.cells #[Value.bool n, Value.slice a1 xs.length c1] 26)).heap.size := by simp only [World.size_alloc]; omega
  have hbn := bl_alloc (bl_refl w3) (Obj.cells #[Value.bool n, Value.slice a1 xs.length c1] 26)
  replace kr0 := (hbn.cell (p := ⟨w.heap.size, 0, none⟩) (by dsimp only; omega)).trans kr0
  replace fr0 := (hbn.frozen (p := ⟨w.heap.size, 0, none⟩) (by dsimp only; omega)).trans fr0
  replace kr1 := (hbn.cell (p := ⟨w.heap.size, 1, none⟩) (by dsimp only; omega)).trans kr1
  replace fr1 := (hbn.frozen (p := ⟨w.heap.size, 1, none⟩) (by dsimp only; omega)).trans fr1
  replace ks0 := (hbn.cell (p := ⟨w.heap.size + 1, 0, none⟩) (by dsimp only; omega)).trans ks0
  replace fs0 := (hbn.frozen (p := ⟨w.heap.size + 1, 0, none⟩) (by dsimp only; omega)).trans fs0
  replace ks1 := (hbn.cell (p := ⟨w.heap.size + 1, 1, none⟩) (by dsimp only; omega)).trans ks1
  replace fs1 := (hbn.frozen (p := ⟨w.heap.size + 1, 1, none⟩) (by dsimp only; omega)).trans fs1
  replace HC := hide (hc3.alloc (Obj.cells #[Value.bool n, Value.slice a1 xs.length c1] 26))
  have HO1 := hide (ho1.below hbn)
  replace HB := hide (bl_trans HB.out hbn)
  have HL1 := hide hl1
  clear hc3 ho3 ho1 hbn hl1
  go_wp2_with fail
  generalize (w3.alloc (Obj.cells #[Value.bool n, Value.slice a1 xs.length c1] 26)) = w4 at *
  go_region_with
    (first
      | (go_at_call 18; refine (anyB w1.heap.size a len cap _ (HC.out.drewN 1)).mono ?_; rintro e w5 ⟨m, b1, e1, ys, rfl, hl2, ho2, hc5, ho5r⟩; have ho5 : Only w1.heap.size w4 w5 := ((Only.refl w1.heap.size w4).drewN 1).trans ho5r; have y5 := ho5.size; have HO2 := hide ho2; have HL2 := hide hl2; have hb5 := ho5.below (N := w.heap.size) (by omega) (by omega); have hq5 := ho5.below (N := w1.heap.size) (by omega) (by omega); have kr0 := (ho5.cell (p := ⟨w.heap.size, 0, none⟩) (by dsimp only; first | omega | (rw [World.size_drew]; omega)) (by dsimp only; omega)).trans kr0; have fr0 := (ho5.frozen (p := ⟨w.heap.size, 0, none⟩) (by dsimp only; first | omega | (rw [World.size_drew]; omega)) (by dsimp only; omega)).trans fr0; have kr1 := (ho5.cell (p := ⟨w.heap.size, 1, none⟩) (by dsimp only; first | omega | (rw [World.size_drew]; omega)) (by dsimp only; omega)).trans kr1; have fr1 := (ho5.frozen (p := ⟨w.heap.size, 1, none⟩) (by dsimp only; first | omega | (rw [World.size_drew]; omega)) (by dsimp only; omega)).trans fr1; have ks0 := (ho5.cell (p := ⟨w.heap.size + 1, 0, none⟩) (by dsimp only; first | omega | (rw [World.size_drew]; omega)) (by dsimp only; omega)).trans ks0; have fs0 := (ho5.frozen (p := ⟨w.heap.size + 1, 0, none⟩) (by dsimp only; first | omega | (rw [World.size_drew]; omega)) (by dsimp only; omega)).trans fs0; have ks1 := (ho5.cell (p := ⟨w.heap.size + 1, 1, none⟩) (by dsimp only; first | omega | (rw [World.size_drew]; omega)) (by dsimp only; omega)).trans ks1; have fs1 := (ho5.frozen (p := ⟨w.heap.size + 1, 1, none⟩) (by dsimp only; first | omega | (rw [World.size_drew]; omega)) (by dsimp only; omega)).trans fs1; have ka0 := (ho5.cell (p := ⟨w3.heap.size, 0, none⟩) (by dsimp only; first | omega | (rw [World.size_drew]; omega)) (by dsimp only; omega)).trans ka0; have ka1 := (ho5.cell (p := ⟨w3.heap.size, 1, none⟩) (by dsimp only; first | omega | (rw [World.size_drew]; omega)) (by dsimp only; omega)).trans ka1))
  all_goals go_wp2
  all_goals refine bodyPost_ret (v := .tuple #[Value.agg #[Value.bool n, Value.slice a1 xs.length c1], Value.agg #[Value.bool m, Value.slice b1 ys.length e1]]) (by simp [results, Try.results6, go_sem, kr0, kr1, ks0, ks1]) rfl ?_
  all_goals have hgr : w4.grownBy w5 (some w1.heap.size) := ⟨ho5.os, ho5.tape, ho5.output, ho5.size, fun k hk hn => ho5.block k hk (fun e => hn (by rw [e]))⟩
  all_goals have O1 : Own w5 w2.heap.size a1 xs.length c1 xs := HO1.out.kept hgr (by cases a1 with | none => exact .inl rfl | some p => exact .inr (fun e => by have h := HO1.out.1.lt w1.heap.size e; omega))
  all_goals have O2 : Own w5 w4.heap.size b1 ys.length e1 ys := HO2.out
  all_goals exact ⟨n, a1, c1, xs, m, b1, e1, ys, rfl, HL1.out, HL2.out, (((((O1).setCell (p := ⟨w.heap.size, 0, none⟩) (by dsimp only; omega) _).setCell (p := ⟨w.heap.size, 1, none⟩) (by dsimp only; omega) _).setCell (p := ⟨w.heap.size + 1, 0, none⟩) (by dsimp only; omega) _).setCell (p := ⟨w.heap.size + 1, 1, none⟩) (by dsimp only; omega) _).seg, (((((O2).setCell (p := ⟨w.heap.size, 0, none⟩) (by dsimp only; omega) _).setCell (p := ⟨w.heap.size, 1, none⟩) (by dsimp only; omega) _).setCell (p := ⟨w.heap.size + 1, 0, none⟩) (by dsimp only; omega) _).setCell (p := ⟨w.heap.size + 1, 1, none⟩) (by dsimp only; omega) _).seg, (((((HB.out.trans hb5).setCell (p := ⟨w.heap.size, 0, none⟩) (by dsimp only; omega) _).setCell (p := ⟨w.heap.size, 1, none⟩) (by dsimp only; omega) _).setCell (p := ⟨w.heap.size + 1, 0, none⟩) (by dsimp only; omega) _).setCell (p := ⟨w.heap.size + 1, 1, none⟩) (by dsimp only; omega) _)⟩
end Go.Proofs.Ytmdohdnnhlnghaa
