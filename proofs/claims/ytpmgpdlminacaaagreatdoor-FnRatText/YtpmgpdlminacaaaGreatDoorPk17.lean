/- My texts FitR, MRat, RSt, in this order. -/
import Derived.Test.YtpmgpdlminacaaaGreatDoorPk16
/- The walks of ifRight and l03Fit: a fraction where it fits. -/
namespace Go.Proofs.YtpmgpdlminacaaaGreatDoor
open Go.RowKit
set_option linter.unusedVariables false

/-- whether a fraction fits -/
def ftT (p q : Int) : Bool := fits p && fits q
/-- a fraction where it fits, else nothing -/
def ftV (p q : Int) (a : Option Addr) (c : Nat) (b : Option Addr) (d : Nat) : Value :=
  if ftT p q = true then .agg #[.bool (sgn p), .slice a (lms p).length c, .bool (sgn q), .slice b (lms q).length d] else .agg #[.bool false, .slice none 0 0, .bool false, .slice none 0 0]
theorem ok_fits (z : Int) : okB (sgn z) (lms z) = fits z := ok_of_num z
theorem set_four {w w1 : World} {N : Nat} (hN : w.heap.size ≤ N) (hb : Below w.heap.size w w1) (x y z t : Value) : Below w.heap.size w ((((w1.setCell ⟨N, 0, none⟩ x).setCell ⟨N, 1, none⟩ y).setCell ⟨N, 2, none⟩ z).setCell ⟨N, 3, none⟩ t) :=
  ((((hb).setCell (p := ⟨N, 0, none⟩) hN x).setCell (p := ⟨N, 1, none⟩) hN y).setCell (p := ⟨N, 2, none⟩) hN z).setCell (p := ⟨N, 3, none⟩) hN t

set_option maxHeartbeats 800000 in
theorem fitI (p q : Int) (a : Option Addr) (c : Nat) (b : Option Addr) (d : Nat) (w : World) (s1 : Seg w a (lms p).length c (lms p)) (s2 : Seg w b (lms q).length d (lms q)) :
    Calls Tryz.prog 68 #[Value.agg #[Value.bool (sgn p), Value.slice a (lms p).length c, Value.bool (sgn q), Value.slice b (lms q).length d]] w fun e w' => e = .returned (.tuple #[ftV p q a c b d, .bool (ftT p q)]) ∧ Below w.heap.size w w' := by
  have ka0 : ((w.alloc (Obj.cells #[Value.bool (sgn p), Value.slice a (lms p).length c, Value.bool (sgn q), Value.slice b (lms q).length d] 26)).alloc (Obj.cells #[Value.bool false, Value.slice none 0 0, Value.bool false, Value.slice none 0 0] 26)).cell? ⟨w.heap.size, 0, none⟩ = some (Value.bool (sgn p)) := by go_simp
  have ka1 : ((w.alloc (Obj.cells #[Value.bool (sgn p), Value.slice a (lms p).length c, Value.bool (sgn q), Value.slice b (lms q).length d] 26)).alloc (Obj.cells #[Value.bool false, Value.slice none 0 0, Value.bool false, Value.slice none 0 0] 26)).cell? ⟨w.heap.size, 1, none⟩ = some (Value.slice a (lms p).length c) := by go_simp
  have ka2 : ((w.alloc (Obj.cells #[Value.bool (sgn p), Value.slice a (lms p).length c, Value.bool (sgn q), Value.slice b (lms q).length d] 26)).alloc (Obj.cells #[Value.bool false, Value.slice none 0 0, Value.bool false, Value.slice none 0 0] 26)).cell? ⟨w.heap.size, 2, none⟩ = some (Value.bool (sgn q)) := by go_simp
  have ka3 : ((w.alloc (Obj.cells #[Value.bool (sgn p), Value.slice a (lms p).length c, Value.bool (sgn q), Value.slice b (lms q).length d] 26)).alloc (Obj.cells #[Value.bool false, Value.slice none 0 0, Value.bool false, Value.slice none 0 0] 26)).cell? ⟨w.heap.size, 3, none⟩ = some (Value.slice b (lms q).length d) := by go_simp
  have kr0 : ((w.alloc (Obj.cells #[Value.bool (sgn p), Value.slice a (lms p).length c, Value.bool (sgn q), Value.slice b (lms q).length d] 26)).alloc (Obj.cells #[Value.bool false, Value.slice none 0 0, Value.bool false, Value.slice none 0 0] 26)).cell? ⟨w.heap.size + 1, 0, none⟩ = some (Value.bool false) := by go_simp
  have fr0 : ((w.alloc (Obj.cells #[Value.bool (sgn p), Value.slice a (lms p).length c, Value.bool (sgn q), Value.slice b (lms q).length d] 26)).alloc (Obj.cells #[Value.bool false, Value.slice none 0 0, Value.bool false, Value.slice none 0 0] 26)).frozen? ⟨w.heap.size + 1, 0, none⟩ = false := by go_simp
  have kr1 : ((w.alloc (Obj.cells #[Value.bool (sgn p), Value.slice a (lms p).length c, Value.bool (sgn q), Value.slice b (lms q).length d] 26)).alloc (Obj.cells #[Value.bool false, Value.slice none 0 0, Value.bool false, Value.slice none 0 0] 26)).cell? ⟨w.heap.size + 1, 1, none⟩ = some (Value.slice none 0 0) := by go_simp
  have fr1 : ((w.alloc (Obj.cells #[Value.bool (sgn p), Value.slice a (lms p).length c, Value.bool (sgn q), Value.slice b (lms q).length d] 26)).alloc (Obj.cells #[Value.bool false, Value.slice none 0 0, Value.bool false, Value.slice none 0 0] 26)).frozen? ⟨w.heap.size + 1, 1, none⟩ = false := by go_simp
  have kr2 : ((w.alloc (Obj.cells #[Value.bool (sgn p), Value.slice a (lms p).length c, Value.bool (sgn q), Value.slice b (lms q).length d] 26)).alloc (Obj.cells #[Value.bool false, Value.slice none 0 0, Value.bool false, Value.slice none 0 0] 26)).cell? ⟨w.heap.size + 1, 2, none⟩ = some (Value.bool false) := by go_simp
  have fr2 : ((w.alloc (Obj.cells #[Value.bool (sgn p), Value.slice a (lms p).length c, Value.bool (sgn q), Value.slice b (lms q).length d] 26)).alloc (Obj.cells #[Value.bool false, Value.slice none 0 0, Value.bool false, Value.slice none 0 0] 26)).frozen? ⟨w.heap.size + 1, 2, none⟩ = false := by go_simp
  have kr3 : ((w.alloc (Obj.cells #[Value.bool (sgn p), Value.slice a (lms p).length c, Value.bool (sgn q), Value.slice b (lms q).length d] 26)).alloc (Obj.cells #[Value.bool false, Value.slice none 0 0, Value.bool false, Value.slice none 0 0] 26)).cell? ⟨w.heap.size + 1, 3, none⟩ = some (Value.slice none 0 0) := by go_simp
  have fr3 : ((w.alloc (Obj.cells #[Value.bool (sgn p), Value.slice a (lms p).length c, Value.bool (sgn q), Value.slice b (lms q).length d] 26)).alloc (Obj.cells #[Value.bool false, Value.slice none 0 0, Value.bool false, Value.slice none 0 0] 26)).frozen? ⟨w.heap.size + 1, 3, none⟩ = false := by go_simp
  have zr : w.heap.size + 1 < ((w.alloc (Obj.cells #[Value.bool (sgn p), Value.slice a (lms p).length c, Value.bool (sgn q), Value.slice b (lms q).length d] 26)).alloc (Obj.cells #[Value.bool false, Value.slice none 0 0, Value.bool false, Value.slice none 0 0] 26)).heap.size := by simp only [World.size_alloc]; omega
  have HB := hide (bl_alloc (bl_alloc (bl_refl w) (Obj.cells #[Value.bool (sgn p), Value.slice a (lms p).length c, Value.bool (sgn q), Value.slice b (lms q).length d] 26)) (Obj.cells #[Value.bool false, Value.slice none 0 0, Value.bool false, Value.slice none 0 0] 26))
  have S1 := hide (s1.below HB.out)
  have S2 := hide (s2.below HB.out)
  clear s1
  clear s2
  go_enter Tryz.func68, Tryz.ntmps68
  go_wp2_with fail
  generalize ((w.alloc (Obj.cells #[Value.bool (sgn p), Value.slice a (lms p).length c, Value.bool (sgn q), Value.slice b (lms q).length d] 26)).alloc (Obj.cells #[Value.bool false, Value.slice none 0 0, Value.bool false, Value.slice none 0 0] 26)) = w1 at *
  refine (okI _ (sgn p) (lms p) _ ⟨a, c, rfl, S1.out⟩).mono ?_
  rintro e w2 ⟨rfl, hb⟩
  have yw2 := hb.size
  replace ka0 := (hb.cell (p := ⟨w.heap.size, 0, none⟩) (by dsimp only; omega)).trans ka0
  replace ka1 := (hb.cell (p := ⟨w.heap.size, 1, none⟩) (by dsimp only; omega)).trans ka1
  replace ka2 := (hb.cell (p := ⟨w.heap.size, 2, none⟩) (by dsimp only; omega)).trans ka2
  replace ka3 := (hb.cell (p := ⟨w.heap.size, 3, none⟩) (by dsimp only; omega)).trans ka3
  replace kr0 := (hb.cell (p := ⟨w.heap.size + 1, 0, none⟩) (by dsimp only; omega)).trans kr0
  replace fr0 := (hb.frozen (p := ⟨w.heap.size + 1, 0, none⟩) (by dsimp only; omega)).trans fr0
  replace kr1 := (hb.cell (p := ⟨w.heap.size + 1, 1, none⟩) (by dsimp only; omega)).trans kr1
  replace fr1 := (hb.frozen (p := ⟨w.heap.size + 1, 1, none⟩) (by dsimp only; omega)).trans fr1
  replace kr2 := (hb.cell (p := ⟨w.heap.size + 1, 2, none⟩) (by dsimp only; omega)).trans kr2
  replace fr2 := (hb.frozen (p := ⟨w.heap.size + 1, 2, none⟩) (by dsimp only; omega)).trans fr2
  replace kr3 := (hb.cell (p := ⟨w.heap.size + 1, 3, none⟩) (by dsimp only; omega)).trans kr3
  replace fr3 := (hb.frozen (p := ⟨w.heap.size + 1, 3, none⟩) (by dsimp only; omega)).trans fr3
  replace S1 := hide (S1.out.below hb)
  replace S2 := hide (S2.out.below hb)
  replace zr := Nat.lt_of_lt_of_le zr hb.size
  replace HB := hide (bl_trans HB.out hb)
  clear hb
  rw [ok_fits]
  cases e1 : fits p with
  | false =>
    have HE : Hid (ftT p q = false) := hide (by unfold ftT; rw [e1]; rfl)
    clear e1
    go_wp2
    refine bodyPost_ret (v := (.tuple #[.agg #[.bool false, .slice none 0 0, .bool false, .slice none 0 0], .bool false])) (by simp [results, Tryz.results68, go_sem, kr0, kr1, kr2, kr3]) rfl ?_
    exact ⟨by unfold ftV; rw [HE.out]; rfl, by first | exact HB.out | exact set_four (N := w.heap.size + 1) (by omega) HB.out _ _ _ _⟩
  | true =>
  have E1 := hide e1
  clear e1
  go_wp2_with fail
  refine (okI _ (sgn q) (lms q) _ ⟨b, d, rfl, S2.out⟩).mono ?_
  rintro e w3 ⟨rfl, hb⟩
  have yw3 := hb.size
  replace ka0 := (hb.cell (p := ⟨w.heap.size, 0, none⟩) (by dsimp only; omega)).trans ka0
  replace ka1 := (hb.cell (p := ⟨w.heap.size, 1, none⟩) (by dsimp only; omega)).trans ka1
  replace ka2 := (hb.cell (p := ⟨w.heap.size, 2, none⟩) (by dsimp only; omega)).trans ka2
  replace ka3 := (hb.cell (p := ⟨w.heap.size, 3, none⟩) (by dsimp only; omega)).trans ka3
  replace kr0 := (hb.cell (p := ⟨w.heap.size + 1, 0, none⟩) (by dsimp only; omega)).trans kr0
  replace fr0 := (hb.frozen (p := ⟨w.heap.size + 1, 0, none⟩) (by dsimp only; omega)).trans fr0
  replace kr1 := (hb.cell (p := ⟨w.heap.size + 1, 1, none⟩) (by dsimp only; omega)).trans kr1
  replace fr1 := (hb.frozen (p := ⟨w.heap.size + 1, 1, none⟩) (by dsimp only; omega)).trans fr1
  replace kr2 := (hb.cell (p := ⟨w.heap.size + 1, 2, none⟩) (by dsimp only; omega)).trans kr2
  replace fr2 := (hb.frozen (p := ⟨w.heap.size + 1, 2, none⟩) (by dsimp only; omega)).trans fr2
  replace kr3 := (hb.cell (p := ⟨w.heap.size + 1, 3, none⟩) (by dsimp only; omega)).trans kr3
  replace fr3 := (hb.frozen (p := ⟨w.heap.size + 1, 3, none⟩) (by dsimp only; omega)).trans fr3
  replace S1 := hide (S1.out.below hb)
  replace S2 := hide (S2.out.below hb)
  replace zr := Nat.lt_of_lt_of_le zr hb.size
  replace HB := hide (bl_trans HB.out hb)
  clear hb
  rw [ok_fits]
  cases e2 : fits q with
  | false =>
    have HE : Hid (ftT p q = false) := hide (by unfold ftT; rw [e2, Bool.and_false])
    clear e2
    go_wp2
    refine bodyPost_ret (v := (.tuple #[.agg #[.bool false, .slice none 0 0, .bool false, .slice none 0 0], .bool false])) (by simp [results, Tryz.results68, go_sem, kr0, kr1, kr2, kr3]) rfl ?_
    exact ⟨by unfold ftV; rw [HE.out]; rfl, by first | exact HB.out | exact set_four (N := w.heap.size + 1) (by omega) HB.out _ _ _ _⟩
  | true =>
  have HE : Hid (ftT p q = true) := hide (by unfold ftT; rw [E1.out, e2]; rfl)
  clear e2
  go_wp2
  refine bodyPost_ret (v := (.tuple #[Value.agg #[Value.bool (sgn p), Value.slice a (lms p).length c, Value.bool (sgn q), Value.slice b (lms q).length d], .bool true])) (by simp [results, Tryz.results68, go_sem, kr0, kr1, kr2, kr3]) rfl ?_
  exact ⟨by unfold ftV; rw [HE.out]; rfl, by first | exact HB.out | exact set_four (N := w.heap.size + 1) (by omega) HB.out _ _ _ _⟩

set_option maxHeartbeats 800000 in
theorem fitS (p q : Int) (a : Option Addr) (c : Nat) (b : Option Addr) (d : Nat) (w : World) (s1 : Seg w a (lms p).length c (lms p)) (s2 : Seg w b (lms q).length d (lms q)) :
    Calls Tryz.prog 25 #[Value.agg #[Value.bool (sgn p), Value.slice a (lms p).length c, Value.bool (sgn q), Value.slice b (lms q).length d]] w fun e w' => e = .returned (.tuple #[ftV p q a c b d, .bool (ftT p q)]) ∧ Below w.heap.size w w' := by
  have ka0 : ((w.alloc (Obj.cells #[Value.bool (sgn p), Value.slice a (lms p).length c, Value.bool (sgn q), Value.slice b (lms q).length d] 26)).alloc (Obj.cells #[Value.bool false, Value.slice none 0 0, Value.bool false, Value.slice none 0 0] 26)).cell? ⟨w.heap.size, 0, none⟩ = some (Value.bool (sgn p)) := by go_simp
  have ka1 : ((w.alloc (Obj.cells #[Value.bool (sgn p), Value.slice a (lms p).length c, Value.bool (sgn q), Value.slice b (lms q).length d] 26)).alloc (Obj.cells #[Value.bool false, Value.slice none 0 0, Value.bool false, Value.slice none 0 0] 26)).cell? ⟨w.heap.size, 1, none⟩ = some (Value.slice a (lms p).length c) := by go_simp
  have ka2 : ((w.alloc (Obj.cells #[Value.bool (sgn p), Value.slice a (lms p).length c, Value.bool (sgn q), Value.slice b (lms q).length d] 26)).alloc (Obj.cells #[Value.bool false, Value.slice none 0 0, Value.bool false, Value.slice none 0 0] 26)).cell? ⟨w.heap.size, 2, none⟩ = some (Value.bool (sgn q)) := by go_simp
  have ka3 : ((w.alloc (Obj.cells #[Value.bool (sgn p), Value.slice a (lms p).length c, Value.bool (sgn q), Value.slice b (lms q).length d] 26)).alloc (Obj.cells #[Value.bool false, Value.slice none 0 0, Value.bool false, Value.slice none 0 0] 26)).cell? ⟨w.heap.size, 3, none⟩ = some (Value.slice b (lms q).length d) := by go_simp
  have kr0 : ((w.alloc (Obj.cells #[Value.bool (sgn p), Value.slice a (lms p).length c, Value.bool (sgn q), Value.slice b (lms q).length d] 26)).alloc (Obj.cells #[Value.bool false, Value.slice none 0 0, Value.bool false, Value.slice none 0 0] 26)).cell? ⟨w.heap.size + 1, 0, none⟩ = some (Value.bool false) := by go_simp
  have fr0 : ((w.alloc (Obj.cells #[Value.bool (sgn p), Value.slice a (lms p).length c, Value.bool (sgn q), Value.slice b (lms q).length d] 26)).alloc (Obj.cells #[Value.bool false, Value.slice none 0 0, Value.bool false, Value.slice none 0 0] 26)).frozen? ⟨w.heap.size + 1, 0, none⟩ = false := by go_simp
  have kr1 : ((w.alloc (Obj.cells #[Value.bool (sgn p), Value.slice a (lms p).length c, Value.bool (sgn q), Value.slice b (lms q).length d] 26)).alloc (Obj.cells #[Value.bool false, Value.slice none 0 0, Value.bool false, Value.slice none 0 0] 26)).cell? ⟨w.heap.size + 1, 1, none⟩ = some (Value.slice none 0 0) := by go_simp
  have fr1 : ((w.alloc (Obj.cells #[Value.bool (sgn p), Value.slice a (lms p).length c, Value.bool (sgn q), Value.slice b (lms q).length d] 26)).alloc (Obj.cells #[Value.bool false, Value.slice none 0 0, Value.bool false, Value.slice none 0 0] 26)).frozen? ⟨w.heap.size + 1, 1, none⟩ = false := by go_simp
  have kr2 : ((w.alloc (Obj.cells #[Value.bool (sgn p), Value.slice a (lms p).length c, Value.bool (sgn q), Value.slice b (lms q).length d] 26)).alloc (Obj.cells #[Value.bool false, Value.slice none 0 0, Value.bool false, Value.slice none 0 0] 26)).cell? ⟨w.heap.size + 1, 2, none⟩ = some (Value.bool false) := by go_simp
  have fr2 : ((w.alloc (Obj.cells #[Value.bool (sgn p), Value.slice a (lms p).length c, Value.bool (sgn q), Value.slice b (lms q).length d] 26)).alloc (Obj.cells #[Value.bool false, Value.slice none 0 0, Value.bool false, Value.slice none 0 0] 26)).frozen? ⟨w.heap.size + 1, 2, none⟩ = false := by go_simp
  have kr3 : ((w.alloc (Obj.cells #[Value.bool (sgn p), Value.slice a (lms p).length c, Value.bool (sgn q), Value.slice b (lms q).length d] 26)).alloc (Obj.cells #[Value.bool false, Value.slice none 0 0, Value.bool false, Value.slice none 0 0] 26)).cell? ⟨w.heap.size + 1, 3, none⟩ = some (Value.slice none 0 0) := by go_simp
  have fr3 : ((w.alloc (Obj.cells #[Value.bool (sgn p), Value.slice a (lms p).length c, Value.bool (sgn q), Value.slice b (lms q).length d] 26)).alloc (Obj.cells #[Value.bool false, Value.slice none 0 0, Value.bool false, Value.slice none 0 0] 26)).frozen? ⟨w.heap.size + 1, 3, none⟩ = false := by go_simp
  have zr : w.heap.size + 1 < ((w.alloc (Obj.cells #[Value.bool (sgn p), Value.slice a (lms p).length c, Value.bool (sgn q), Value.slice b (lms q).length d] 26)).alloc (Obj.cells #[Value.bool false, Value.slice none 0 0, Value.bool false, Value.slice none 0 0] 26)).heap.size := by simp only [World.size_alloc]; omega
  have HB := hide (bl_alloc (bl_alloc (bl_refl w) (Obj.cells #[Value.bool (sgn p), Value.slice a (lms p).length c, Value.bool (sgn q), Value.slice b (lms q).length d] 26)) (Obj.cells #[Value.bool false, Value.slice none 0 0, Value.bool false, Value.slice none 0 0] 26))
  have S1 := hide (s1.below HB.out)
  have S2 := hide (s2.below HB.out)
  clear s1
  clear s2
  go_enter Tryz.func25, Tryz.ntmps25
  go_wp2_with fail
  generalize ((w.alloc (Obj.cells #[Value.bool (sgn p), Value.slice a (lms p).length c, Value.bool (sgn q), Value.slice b (lms q).length d] 26)).alloc (Obj.cells #[Value.bool false, Value.slice none 0 0, Value.bool false, Value.slice none 0 0] 26)) = w1 at *
  refine (okS _ (sgn p) (lms p) _ ⟨a, c, rfl, S1.out⟩).mono ?_
  rintro e w2 ⟨rfl, hb⟩
  have yw2 := hb.size
  replace ka0 := (hb.cell (p := ⟨w.heap.size, 0, none⟩) (by dsimp only; omega)).trans ka0
  replace ka1 := (hb.cell (p := ⟨w.heap.size, 1, none⟩) (by dsimp only; omega)).trans ka1
  replace ka2 := (hb.cell (p := ⟨w.heap.size, 2, none⟩) (by dsimp only; omega)).trans ka2
  replace ka3 := (hb.cell (p := ⟨w.heap.size, 3, none⟩) (by dsimp only; omega)).trans ka3
  replace kr0 := (hb.cell (p := ⟨w.heap.size + 1, 0, none⟩) (by dsimp only; omega)).trans kr0
  replace fr0 := (hb.frozen (p := ⟨w.heap.size + 1, 0, none⟩) (by dsimp only; omega)).trans fr0
  replace kr1 := (hb.cell (p := ⟨w.heap.size + 1, 1, none⟩) (by dsimp only; omega)).trans kr1
  replace fr1 := (hb.frozen (p := ⟨w.heap.size + 1, 1, none⟩) (by dsimp only; omega)).trans fr1
  replace kr2 := (hb.cell (p := ⟨w.heap.size + 1, 2, none⟩) (by dsimp only; omega)).trans kr2
  replace fr2 := (hb.frozen (p := ⟨w.heap.size + 1, 2, none⟩) (by dsimp only; omega)).trans fr2
  replace kr3 := (hb.cell (p := ⟨w.heap.size + 1, 3, none⟩) (by dsimp only; omega)).trans kr3
  replace fr3 := (hb.frozen (p := ⟨w.heap.size + 1, 3, none⟩) (by dsimp only; omega)).trans fr3
  replace S1 := hide (S1.out.below hb)
  replace S2 := hide (S2.out.below hb)
  replace zr := Nat.lt_of_lt_of_le zr hb.size
  replace HB := hide (bl_trans HB.out hb)
  clear hb
  rw [ok_fits]
  cases e1 : fits p with
  | false =>
    have HE : Hid (ftT p q = false) := hide (by unfold ftT; rw [e1]; rfl)
    clear e1
    go_wp2
    refine bodyPost_ret (v := (.tuple #[.agg #[.bool false, .slice none 0 0, .bool false, .slice none 0 0], .bool false])) (by simp [results, Tryz.results25, go_sem, kr0, kr1, kr2, kr3]) rfl ?_
    exact ⟨by unfold ftV; rw [HE.out]; rfl, by first | exact HB.out | exact set_four (N := w.heap.size + 1) (by omega) HB.out _ _ _ _⟩
  | true =>
  have E1 := hide e1
  clear e1
  go_wp2_with fail
  refine (okS _ (sgn q) (lms q) _ ⟨b, d, rfl, S2.out⟩).mono ?_
  rintro e w3 ⟨rfl, hb⟩
  have yw3 := hb.size
  replace ka0 := (hb.cell (p := ⟨w.heap.size, 0, none⟩) (by dsimp only; omega)).trans ka0
  replace ka1 := (hb.cell (p := ⟨w.heap.size, 1, none⟩) (by dsimp only; omega)).trans ka1
  replace ka2 := (hb.cell (p := ⟨w.heap.size, 2, none⟩) (by dsimp only; omega)).trans ka2
  replace ka3 := (hb.cell (p := ⟨w.heap.size, 3, none⟩) (by dsimp only; omega)).trans ka3
  replace kr0 := (hb.cell (p := ⟨w.heap.size + 1, 0, none⟩) (by dsimp only; omega)).trans kr0
  replace fr0 := (hb.frozen (p := ⟨w.heap.size + 1, 0, none⟩) (by dsimp only; omega)).trans fr0
  replace kr1 := (hb.cell (p := ⟨w.heap.size + 1, 1, none⟩) (by dsimp only; omega)).trans kr1
  replace fr1 := (hb.frozen (p := ⟨w.heap.size + 1, 1, none⟩) (by dsimp only; omega)).trans fr1
  replace kr2 := (hb.cell (p := ⟨w.heap.size + 1, 2, none⟩) (by dsimp only; omega)).trans kr2
  replace fr2 := (hb.frozen (p := ⟨w.heap.size + 1, 2, none⟩) (by dsimp only; omega)).trans fr2
  replace kr3 := (hb.cell (p := ⟨w.heap.size + 1, 3, none⟩) (by dsimp only; omega)).trans kr3
  replace fr3 := (hb.frozen (p := ⟨w.heap.size + 1, 3, none⟩) (by dsimp only; omega)).trans fr3
  replace S1 := hide (S1.out.below hb)
  replace S2 := hide (S2.out.below hb)
  replace zr := Nat.lt_of_lt_of_le zr hb.size
  replace HB := hide (bl_trans HB.out hb)
  clear hb
  rw [ok_fits]
  cases e2 : fits q with
  | false =>
    have HE : Hid (ftT p q = false) := hide (by unfold ftT; rw [e2, Bool.and_false])
    clear e2
    go_wp2
    refine bodyPost_ret (v := (.tuple #[.agg #[.bool false, .slice none 0 0, .bool false, .slice none 0 0], .bool false])) (by simp [results, Tryz.results25, go_sem, kr0, kr1, kr2, kr3]) rfl ?_
    exact ⟨by unfold ftV; rw [HE.out]; rfl, by first | exact HB.out | exact set_four (N := w.heap.size + 1) (by omega) HB.out _ _ _ _⟩
  | true =>
  have HE : Hid (ftT p q = true) := hide (by unfold ftT; rw [E1.out, e2]; rfl)
  clear e2
  go_wp2
  refine bodyPost_ret (v := (.tuple #[Value.agg #[Value.bool (sgn p), Value.slice a (lms p).length c, Value.bool (sgn q), Value.slice b (lms q).length d], .bool true])) (by simp [results, Tryz.results25, go_sem, kr0, kr1, kr2, kr3]) rfl ?_
  exact ⟨by unfold ftV; rw [HE.out]; rfl, by first | exact HB.out | exact set_four (N := w.heap.size + 1) (by omega) HB.out _ _ _ _⟩


end Go.Proofs.YtpmgpdlminacaaaGreatDoor

/- The walks of both MakeRat. -/
namespace Go.Proofs.YtpmgpdlminacaaaGreatDoor
open Go.RowKit
set_option linter.unusedVariables false

/-- whether there is an answer: what was asked ahead, a number to divide by, and what is left fits -/
def rtT (t : Bool) (x y : Int) : Bool := t && (decide (y ≠ 0) && ftT (x / sgG x y) (y / sgG x y))
def rtN (t : Bool) (x y : Int) : Int := if rtT t x y = true then x / sgG x y else 0
def rtD (t : Bool) (x y : Int) : Int := if rtT t x y = true then y / sgG x y else 0
/-- a fraction and a flag, in memory of their own -/
def RatAns (t : Bool) (x y : Int) (w w' : World) (e : Ending) : Prop :=
  ∃ a1 c1 a2 c2, e = .returned (.tuple #[.agg #[.bool (sgn (rtN t x y)), .slice a1 (lms (rtN t x y)).length c1, .bool (sgn (rtD t x y)), .slice a2 (lms (rtD t x y)).length c2], .bool (rtT t x y)]) ∧ Own w' w.heap.size a1 (lms (rtN t x y)).length c1 (lms (rtN t x y)) ∧ Own w' w.heap.size a2 (lms (rtD t x y)).length c2 (lms (rtD t x y)) ∧ Apart a1 a2 ∧ Below w.heap.size w w'
theorem ans_no {t : Bool} {x y : Int} {w w' : World} (h : rtT t x y = false) (hb : Below w.heap.size w w') : RatAns t x y w w' (.returned (.tuple #[.agg #[.bool false, .slice none 0 0, .bool false, .slice none 0 0], .bool false])) := by
  have h1 : rtN t x y = 0 := by unfold rtN; rw [h]; rfl
  have h2 : rtD t x y = 0 := by unfold rtD; rw [h]; rfl
  refine ⟨none, 0, none, 0, ?_, ?_, ?_, Apart.none _, hb⟩
  · rw [h1, h2, h, zero_sgn, zero_lms]; rfl
  · rw [h1, zero_lms]; exact Own.nil _ _
  · rw [h2, zero_lms]; exact Own.nil _ _
theorem ans_yes {t : Bool} {x y : Int} {w w' : World} {a1 a2 : Option Addr} {c1 c2 : Nat} (h : rtT t x y = true) (o1 : Own w' w.heap.size a1 (lms (x / sgG x y)).length c1 (lms (x / sgG x y))) (o2 : Own w' w.heap.size a2 (lms (y / sgG x y)).length c2 (lms (y / sgG x y))) (hap : Apart a1 a2) (hb : Below w.heap.size w w') :
    RatAns t x y w w' (.returned (.tuple #[.agg #[.bool (sgn (x / sgG x y)), .slice a1 (lms (x / sgG x y)).length c1, .bool (sgn (y / sgG x y)), .slice a2 (lms (y / sgG x y)).length c2], .bool true])) := by
  have h1 : rtN t x y = x / sgG x y := by unfold rtN; rw [h]; rfl
  have h2 : rtD t x y = y / sgG x y := by unfold rtD; rw [h]; rfl
  refine ⟨a1, c1, a2, c2, ?_, ?_, ?_, hap, hb⟩
  · rw [h1, h2, h]
  · rw [h1]; exact o1
  · rw [h2]; exact o2
theorem ans_ft {t : Bool} {x y : Int} (ht : t = true) (hy : y ≠ 0) : rtT t x y = ftT (x / sgG x y) (y / sgG x y) := by
  unfold rtT; rw [ht, decide_eq_true hy, Bool.true_and, Bool.true_and]
theorem rtN_len (t : Bool) (x y : Int) : (lms (rtN t x y)).length ≤ 40 := by
  unfold rtN
  by_cases h : rtT t x y = true
  · rw [if_pos h]; unfold rtT ftT fits at h; simp only [Bool.and_eq_true, decide_eq_true_eq] at h; exact Num.limbs_len.2 h.2.2.1
  · rw [if_neg h, zero_lms]; exact Nat.zero_le _
theorem rtD_len (t : Bool) (x y : Int) : (lms (rtD t x y)).length ≤ 40 := by
  unfold rtD
  by_cases h : rtT t x y = true
  · rw [if_pos h]; unfold rtT ftT fits at h; simp only [Bool.and_eq_true, decide_eq_true_eq] at h; exact Num.limbs_len.2 h.2.2.2
  · rw [if_neg h, zero_lms]; exact Nat.zero_le _
theorem ans_f {t : Bool} {x y : Int} (ht : t = false) : rtT t x y = false := by unfold rtT; rw [ht]; rfl
theorem ans_0 {t : Bool} {x y : Int} (hy : y = 0) : rtT t x y = false := by unfold rtT; rw [decide_eq_false (by omega), Bool.false_and, Bool.and_false]
theorem ftV_t {p q : Int} {a b : Option Addr} {c d : Nat} (h : ftT p q = true) : ftV p q a c b d = .agg #[.bool (sgn p), .slice a (lms p).length c, .bool (sgn q), .slice b (lms q).length d] := if_pos h
theorem ftV_f {p q : Int} {a b : Option Addr} {c d : Nat} (h : ftT p q = false) : ftV p q a c b d = .agg #[.bool false, .slice none 0 0, .bool false, .slice none 0 0] := if_neg (by rw [h]; decide)

set_option maxHeartbeats 1600000 in
theorem MakeRatP (n1 : Bool) (xs1 : List Nat) (n2 : Bool) (xs2 : List Nat) (a1 : Option Addr) (c1 : Nat) (a2 : Option Addr) (c2 : Nat) (w : World) (s1 : Seg w a1 xs1.length c1 xs1) (s2 : Seg w a2 xs2.length c2 xs2) :
    Calls Tryz.prog 98 #[Value.agg #[Value.bool n1, Value.slice a1 xs1.length c1], Value.agg #[Value.bool n2, Value.slice a2 xs2.length c2]] w fun e w' => RatAns (okB n1 xs1 && okB n2 xs2) (mk n1 (Num.nat xs1)) (mk n2 (Num.nat xs2)) w w' e := by
  have ka0 : (((w.alloc (Obj.cells #[Value.bool n1, Value.slice a1 xs1.length c1] 24)).alloc (Obj.cells #[Value.bool n2, Value.slice a2 xs2.length c2] 24)).alloc (Obj.cells #[Value.bool false, Value.slice none 0 0, Value.bool false, Value.slice none 0 0] 26)).cell? ⟨w.heap.size, 0, none⟩ = some (Value.bool n1) := by go_simp
  have ka1 : (((w.alloc (Obj.cells #[Value.bool n1, Value.slice a1 xs1.length c1] 24)).alloc (Obj.cells #[Value.bool n2, Value.slice a2 xs2.length c2] 24)).alloc (Obj.cells #[Value.bool false, Value.slice none 0 0, Value.bool false, Value.slice none 0 0] 26)).cell? ⟨w.heap.size, 1, none⟩ = some (Value.slice a1 xs1.length c1) := by go_simp
  have kb0 : (((w.alloc (Obj.cells #[Value.bool n1, Value.slice a1 xs1.length c1] 24)).alloc (Obj.cells #[Value.bool n2, Value.slice a2 xs2.length c2] 24)).alloc (Obj.cells #[Value.bool false, Value.slice none 0 0, Value.bool false, Value.slice none 0 0] 26)).cell? ⟨w.heap.size + 1, 0, none⟩ = some (Value.bool n2) := by go_simp
  have kb1 : (((w.alloc (Obj.cells #[Value.bool n1, Value.slice a1 xs1.length c1] 24)).alloc (Obj.cells #[Value.bool n2, Value.slice a2 xs2.length c2] 24)).alloc (Obj.cells #[Value.bool false, Value.slice none 0 0, Value.bool false, Value.slice none 0 0] 26)).cell? ⟨w.heap.size + 1, 1, none⟩ = some (Value.slice a2 xs2.length c2) := by go_simp
  have kr0 : (((w.alloc (Obj.cells #[Value.bool n1, Value.slice a1 xs1.length c1] 24)).alloc (Obj.cells #[Value.bool n2, Value.slice a2 xs2.length c2] 24)).alloc (Obj.cells #[Value.bool false, Value.slice none 0 0, Value.bool false, Value.slice none 0 0] 26)).cell? ⟨w.heap.size + 1 + 1, 0, none⟩ = some (Value.bool false) := by go_simp
  have fr0 : (((w.alloc (Obj.cells #[Value.bool n1, Value.slice a1 xs1.length c1] 24)).alloc (Obj.cells #[Value.bool n2, Value.slice a2 xs2.length c2] 24)).alloc (Obj.cells #[Value.bool false, Value.slice none 0 0, Value.bool false, Value.slice none 0 0] 26)).frozen? ⟨w.heap.size + 1 + 1, 0, none⟩ = false := by go_simp
  have kr1 : (((w.alloc (Obj.cells #[Value.bool n1, Value.slice a1 xs1.length c1] 24)).alloc (Obj.cells #[Value.bool n2, Value.slice a2 xs2.length c2] 24)).alloc (Obj.cells #[Value.bool false, Value.slice none 0 0, Value.bool false, Value.slice none 0 0] 26)).cell? ⟨w.heap.size + 1 + 1, 1, none⟩ = some (Value.slice none 0 0) := by go_simp
  have fr1 : (((w.alloc (Obj.cells #[Value.bool n1, Value.slice a1 xs1.length c1] 24)).alloc (Obj.cells #[Value.bool n2, Value.slice a2 xs2.length c2] 24)).alloc (Obj.cells #[Value.bool false, Value.slice none 0 0, Value.bool false, Value.slice none 0 0] 26)).frozen? ⟨w.heap.size + 1 + 1, 1, none⟩ = false := by go_simp
  have kr2 : (((w.alloc (Obj.cells #[Value.bool n1, Value.slice a1 xs1.length c1] 24)).alloc (Obj.cells #[Value.bool n2, Value.slice a2 xs2.length c2] 24)).alloc (Obj.cells #[Value.bool false, Value.slice none 0 0, Value.bool false, Value.slice none 0 0] 26)).cell? ⟨w.heap.size + 1 + 1, 2, none⟩ = some (Value.bool false) := by go_simp
  have fr2 : (((w.alloc (Obj.cells #[Value.bool n1, Value.slice a1 xs1.length c1] 24)).alloc (Obj.cells #[Value.bool n2, Value.slice a2 xs2.length c2] 24)).alloc (Obj.cells #[Value.bool false, Value.slice none 0 0, Value.bool false, Value.slice none 0 0] 26)).frozen? ⟨w.heap.size + 1 + 1, 2, none⟩ = false := by go_simp
  have kr3 : (((w.alloc (Obj.cells #[Value.bool n1, Value.slice a1 xs1.length c1] 24)).alloc (Obj.cells #[Value.bool n2, Value.slice a2 xs2.length c2] 24)).alloc (Obj.cells #[Value.bool false, Value.slice none 0 0, Value.bool false, Value.slice none 0 0] 26)).cell? ⟨w.heap.size + 1 + 1, 3, none⟩ = some (Value.slice none 0 0) := by go_simp
  have fr3 : (((w.alloc (Obj.cells #[Value.bool n1, Value.slice a1 xs1.length c1] 24)).alloc (Obj.cells #[Value.bool n2, Value.slice a2 xs2.length c2] 24)).alloc (Obj.cells #[Value.bool false, Value.slice none 0 0, Value.bool false, Value.slice none 0 0] 26)).frozen? ⟨w.heap.size + 1 + 1, 3, none⟩ = false := by go_simp
  have zr : w.heap.size + 1 + 1 < (((w.alloc (Obj.cells #[Value.bool n1, Value.slice a1 xs1.length c1] 24)).alloc (Obj.cells #[Value.bool n2, Value.slice a2 xs2.length c2] 24)).alloc (Obj.cells #[Value.bool false, Value.slice none 0 0, Value.bool false, Value.slice none 0 0] 26)).heap.size := by simp only [World.size_alloc]; omega
  have HB := hide (bl_alloc (bl_alloc (bl_alloc (bl_refl w) (Obj.cells #[Value.bool n1, Value.slice a1 xs1.length c1] 24)) (Obj.cells #[Value.bool n2, Value.slice a2 xs2.length c2] 24)) (Obj.cells #[Value.bool false, Value.slice none 0 0, Value.bool false, Value.slice none 0 0] 26))
  have S1 := hide (s1.below HB.out)
  have S2 := hide (s2.below HB.out)
  clear s1
  clear s2
  go_enter Tryz.func98, Tryz.ntmps98
  go_wp2_with fail
  generalize (((w.alloc (Obj.cells #[Value.bool n1, Value.slice a1 xs1.length c1] 24)).alloc (Obj.cells #[Value.bool n2, Value.slice a2 xs2.length c2] 24)).alloc (Obj.cells #[Value.bool false, Value.slice none 0 0, Value.bool false, Value.slice none 0 0] 26)) = w1 at *
  have z0 := zr
  refine (okI _ n1 xs1 _ ⟨a1, c1, rfl, S1.out⟩).mono ?_
  rintro e w2 ⟨rfl, hb⟩
  have yw2 := hb.size
  replace ka0 := (hb.cell (p := ⟨w.heap.size, 0, none⟩) (by dsimp only; omega)).trans ka0
  replace ka1 := (hb.cell (p := ⟨w.heap.size, 1, none⟩) (by dsimp only; omega)).trans ka1
  replace kb0 := (hb.cell (p := ⟨w.heap.size + 1, 0, none⟩) (by dsimp only; omega)).trans kb0
  replace kb1 := (hb.cell (p := ⟨w.heap.size + 1, 1, none⟩) (by dsimp only; omega)).trans kb1
  replace kr0 := (hb.cell (p := ⟨w.heap.size + 1 + 1, 0, none⟩) (by dsimp only; omega)).trans kr0
  replace fr0 := (hb.frozen (p := ⟨w.heap.size + 1 + 1, 0, none⟩) (by dsimp only; omega)).trans fr0
  replace kr1 := (hb.cell (p := ⟨w.heap.size + 1 + 1, 1, none⟩) (by dsimp only; omega)).trans kr1
  replace fr1 := (hb.frozen (p := ⟨w.heap.size + 1 + 1, 1, none⟩) (by dsimp only; omega)).trans fr1
  replace kr2 := (hb.cell (p := ⟨w.heap.size + 1 + 1, 2, none⟩) (by dsimp only; omega)).trans kr2
  replace fr2 := (hb.frozen (p := ⟨w.heap.size + 1 + 1, 2, none⟩) (by dsimp only; omega)).trans fr2
  replace kr3 := (hb.cell (p := ⟨w.heap.size + 1 + 1, 3, none⟩) (by dsimp only; omega)).trans kr3
  replace fr3 := (hb.frozen (p := ⟨w.heap.size + 1 + 1, 3, none⟩) (by dsimp only; omega)).trans fr3
  replace S1 := hide (S1.out.below hb)
  replace S2 := hide (S2.out.below hb)
  replace zr := Nat.lt_of_lt_of_le zr hb.size
  replace HB := hide (bl_trans HB.out hb)
  clear hb
  cases e1 : okB n1 xs1 with
  | false =>
    have E1 := hide e1
    clear e1
    have HE : Hid (rtT (okB n1 xs1 && okB n2 xs2) (mk n1 (Num.nat xs1)) (mk n2 (Num.nat xs2)) = false) := hide (ans_f (by rw [E1.out]; rfl))
    skip
    go_wp2
    refine bodyPost_ret (v := (.tuple #[.agg #[.bool false, .slice none 0 0, .bool false, .slice none 0 0], .bool false])) (by simp [results, Tryz.results98, go_sem, kr0, kr1, kr2, kr3]) rfl ?_
    exact ans_no HE.out (by first | exact HB.out | exact set_four (N := w.heap.size + 1 + 1) (by omega) HB.out _ _ _ _)
  | true =>
  have E1 := hide e1
  clear e1
  go_wp2_with fail
  refine (okI _ n2 xs2 _ ⟨a2, c2, rfl, S2.out⟩).mono ?_
  rintro e w3 ⟨rfl, hb⟩
  have yw3 := hb.size
  replace ka0 := (hb.cell (p := ⟨w.heap.size, 0, none⟩) (by dsimp only; omega)).trans ka0
  replace ka1 := (hb.cell (p := ⟨w.heap.size, 1, none⟩) (by dsimp only; omega)).trans ka1
  replace kb0 := (hb.cell (p := ⟨w.heap.size + 1, 0, none⟩) (by dsimp only; omega)).trans kb0
  replace kb1 := (hb.cell (p := ⟨w.heap.size + 1, 1, none⟩) (by dsimp only; omega)).trans kb1
  replace kr0 := (hb.cell (p := ⟨w.heap.size + 1 + 1, 0, none⟩) (by dsimp only; omega)).trans kr0
  replace fr0 := (hb.frozen (p := ⟨w.heap.size + 1 + 1, 0, none⟩) (by dsimp only; omega)).trans fr0
  replace kr1 := (hb.cell (p := ⟨w.heap.size + 1 + 1, 1, none⟩) (by dsimp only; omega)).trans kr1
  replace fr1 := (hb.frozen (p := ⟨w.heap.size + 1 + 1, 1, none⟩) (by dsimp only; omega)).trans fr1
  replace kr2 := (hb.cell (p := ⟨w.heap.size + 1 + 1, 2, none⟩) (by dsimp only; omega)).trans kr2
  replace fr2 := (hb.frozen (p := ⟨w.heap.size + 1 + 1, 2, none⟩) (by dsimp only; omega)).trans fr2
  replace kr3 := (hb.cell (p := ⟨w.heap.size + 1 + 1, 3, none⟩) (by dsimp only; omega)).trans kr3
  replace fr3 := (hb.frozen (p := ⟨w.heap.size + 1 + 1, 3, none⟩) (by dsimp only; omega)).trans fr3
  replace S1 := hide (S1.out.below hb)
  replace S2 := hide (S2.out.below hb)
  replace zr := Nat.lt_of_lt_of_le zr hb.size
  replace HB := hide (bl_trans HB.out hb)
  clear hb
  cases e2 : okB n2 xs2 with
  | false =>
    have E2 := hide e2
    clear e2
    have HE : Hid (rtT (okB n1 xs1 && okB n2 xs2) (mk n1 (Num.nat xs1)) (mk n2 (Num.nat xs2)) = false) := hide (ans_f (by rw [E2.out, Bool.and_false]))
    skip
    go_wp2
    refine bodyPost_ret (v := (.tuple #[.agg #[.bool false, .slice none 0 0, .bool false, .slice none 0 0], .bool false])) (by simp [results, Tryz.results98, go_sem, kr0, kr1, kr2, kr3]) rfl ?_
    exact ans_no HE.out (by first | exact HB.out | exact set_four (N := w.heap.size + 1 + 1) (by omega) HB.out _ _ _ _)
  | true =>
  have E2 := hide e2
  clear e2
  have HT : Hid ((okB n1 xs1 && okB n2 xs2) = true) := hide (by rw [E1.out, E2.out]; rfl)
  obtain ⟨x, rfl, rfl, hx⟩ := ok_num S1.out.2.2.2.1 E1.out
  obtain ⟨y, rfl, rfl, hy⟩ := ok_num S2.out.2.2.2.1 E2.out
  have l1 : (lms x).length ≤ 40 := Num.limbs_len.2 hx
  have l2 : (lms y).length ≤ 40 := Num.limbs_len.2 hy
  clear hx hy E1 E2
  go_wp2_with fail
  refine (noughtI _ (sgn y) (lms y) _ ⟨a2, c2, rfl, S2.out⟩).mono ?_
  rintro e w4 ⟨rfl, hb⟩
  have yw4 := hb.size
  replace ka0 := (hb.cell (p := ⟨w.heap.size, 0, none⟩) (by dsimp only; omega)).trans ka0
  replace ka1 := (hb.cell (p := ⟨w.heap.size, 1, none⟩) (by dsimp only; omega)).trans ka1
  replace kb0 := (hb.cell (p := ⟨w.heap.size + 1, 0, none⟩) (by dsimp only; omega)).trans kb0
  replace kb1 := (hb.cell (p := ⟨w.heap.size + 1, 1, none⟩) (by dsimp only; omega)).trans kb1
  replace kr0 := (hb.cell (p := ⟨w.heap.size + 1 + 1, 0, none⟩) (by dsimp only; omega)).trans kr0
  replace fr0 := (hb.frozen (p := ⟨w.heap.size + 1 + 1, 0, none⟩) (by dsimp only; omega)).trans fr0
  replace kr1 := (hb.cell (p := ⟨w.heap.size + 1 + 1, 1, none⟩) (by dsimp only; omega)).trans kr1
  replace fr1 := (hb.frozen (p := ⟨w.heap.size + 1 + 1, 1, none⟩) (by dsimp only; omega)).trans fr1
  replace kr2 := (hb.cell (p := ⟨w.heap.size + 1 + 1, 2, none⟩) (by dsimp only; omega)).trans kr2
  replace fr2 := (hb.frozen (p := ⟨w.heap.size + 1 + 1, 2, none⟩) (by dsimp only; omega)).trans fr2
  replace kr3 := (hb.cell (p := ⟨w.heap.size + 1 + 1, 3, none⟩) (by dsimp only; omega)).trans kr3
  replace fr3 := (hb.frozen (p := ⟨w.heap.size + 1 + 1, 3, none⟩) (by dsimp only; omega)).trans fr3
  replace S1 := hide (S1.out.below hb)
  replace S2 := hide (S2.out.below hb)
  replace zr := Nat.lt_of_lt_of_le zr hb.size
  replace HB := hide (bl_trans HB.out hb)
  clear hb
  rw [len_zero]
  by_cases hy : y = 0
  · skip
    rw [decide_eq_true hy]
    have HY := hide hy
    clear hy
    have HE : Hid (rtT (okB (sgn x) (lms x) && okB (sgn y) (lms y)) (x) (y) = false) := hide (ans_0 HY.out)
    skip
    go_wp2
    refine bodyPost_ret (v := (.tuple #[.agg #[.bool false, .slice none 0 0, .bool false, .slice none 0 0], .bool false])) (by simp [results, Tryz.results98, go_sem, kr0, kr1, kr2, kr3]) rfl ?_
    rw [nat_lms, nat_lms, mk_self, mk_self]
    exact ans_no HE.out (by first | exact HB.out | exact set_four (N := w.heap.size + 1 + 1) (by omega) HB.out _ _ _ _)
  rw [decide_eq_false hy]
  have HY := hide hy
  clear hy
  go_wp2_with fail
  refine (shortI' x y a1 c1 a2 c2 _ S1.out S2.out HY.out (by omega) (by omega)).mono ?_
  rintro e w5 ⟨b1, e1, b2, e2, rfl, ho1, ho2, hap, hb⟩
  have yw5 := hb.size
  replace ka0 := (hb.cell (p := ⟨w.heap.size, 0, none⟩) (by dsimp only; omega)).trans ka0
  replace ka1 := (hb.cell (p := ⟨w.heap.size, 1, none⟩) (by dsimp only; omega)).trans ka1
  replace kb0 := (hb.cell (p := ⟨w.heap.size + 1, 0, none⟩) (by dsimp only; omega)).trans kb0
  replace kb1 := (hb.cell (p := ⟨w.heap.size + 1, 1, none⟩) (by dsimp only; omega)).trans kb1
  replace kr0 := (hb.cell (p := ⟨w.heap.size + 1 + 1, 0, none⟩) (by dsimp only; omega)).trans kr0
  replace fr0 := (hb.frozen (p := ⟨w.heap.size + 1 + 1, 0, none⟩) (by dsimp only; omega)).trans fr0
  replace kr1 := (hb.cell (p := ⟨w.heap.size + 1 + 1, 1, none⟩) (by dsimp only; omega)).trans kr1
  replace fr1 := (hb.frozen (p := ⟨w.heap.size + 1 + 1, 1, none⟩) (by dsimp only; omega)).trans fr1
  replace kr2 := (hb.cell (p := ⟨w.heap.size + 1 + 1, 2, none⟩) (by dsimp only; omega)).trans kr2
  replace fr2 := (hb.frozen (p := ⟨w.heap.size + 1 + 1, 2, none⟩) (by dsimp only; omega)).trans fr2
  replace kr3 := (hb.cell (p := ⟨w.heap.size + 1 + 1, 3, none⟩) (by dsimp only; omega)).trans kr3
  replace fr3 := (hb.frozen (p := ⟨w.heap.size + 1 + 1, 3, none⟩) (by dsimp only; omega)).trans fr3
  replace S1 := hide (S1.out.below hb)
  replace S2 := hide (S2.out.below hb)
  replace zr := Nat.lt_of_lt_of_le zr hb.size
  replace HB := hide (bl_trans HB.out hb)
  clear hb
  have O1 := hide ho1
  have O2 := hide ho2
  have HAP := hide hap
  clear ho1 ho2 hap
  go_wp2_with fail
  refine (fitI (x / sgG x y) (y / sgG x y) b1 e1 b2 e2 _ O1.out.seg O2.out.seg).mono ?_
  rintro e w6 ⟨rfl, hb⟩
  have yw6 := hb.size
  replace ka0 := (hb.cell (p := ⟨w.heap.size, 0, none⟩) (by dsimp only; omega)).trans ka0
  replace ka1 := (hb.cell (p := ⟨w.heap.size, 1, none⟩) (by dsimp only; omega)).trans ka1
  replace kb0 := (hb.cell (p := ⟨w.heap.size + 1, 0, none⟩) (by dsimp only; omega)).trans kb0
  replace kb1 := (hb.cell (p := ⟨w.heap.size + 1, 1, none⟩) (by dsimp only; omega)).trans kb1
  replace kr0 := (hb.cell (p := ⟨w.heap.size + 1 + 1, 0, none⟩) (by dsimp only; omega)).trans kr0
  replace fr0 := (hb.frozen (p := ⟨w.heap.size + 1 + 1, 0, none⟩) (by dsimp only; omega)).trans fr0
  replace kr1 := (hb.cell (p := ⟨w.heap.size + 1 + 1, 1, none⟩) (by dsimp only; omega)).trans kr1
  replace fr1 := (hb.frozen (p := ⟨w.heap.size + 1 + 1, 1, none⟩) (by dsimp only; omega)).trans fr1
  replace kr2 := (hb.cell (p := ⟨w.heap.size + 1 + 1, 2, none⟩) (by dsimp only; omega)).trans kr2
  replace fr2 := (hb.frozen (p := ⟨w.heap.size + 1 + 1, 2, none⟩) (by dsimp only; omega)).trans fr2
  replace kr3 := (hb.cell (p := ⟨w.heap.size + 1 + 1, 3, none⟩) (by dsimp only; omega)).trans kr3
  replace fr3 := (hb.frozen (p := ⟨w.heap.size + 1 + 1, 3, none⟩) (by dsimp only; omega)).trans fr3
  replace S1 := hide (S1.out.below hb)
  replace S2 := hide (S2.out.below hb)
  replace O1 := hide (O1.out.below hb)
  replace O2 := hide (O2.out.below hb)
  replace zr := Nat.lt_of_lt_of_le zr hb.size
  replace HB := hide (bl_trans HB.out hb)
  clear hb
  cases e3 : ftT (x / sgG x y) (y / sgG x y) with
  | false =>
    rw [ftV_f e3]
    have HE := hide ((ans_ft HT.out HY.out).trans e3)
    clear e3
    go_wp2
    refine bodyPost_ret (v := (.tuple #[.agg #[.bool false, .slice none 0 0, .bool false, .slice none 0 0], .bool false])) (by simp [results, Tryz.results98, go_sem, kr0, kr1, kr2, kr3]) rfl ?_
    rw [nat_lms, nat_lms, mk_self, mk_self]
    exact ans_no HE.out (by first | exact HB.out | exact set_four (N := w.heap.size + 1 + 1) (by omega) HB.out _ _ _ _)
  | true =>
  rw [ftV_t e3]
  have HE := hide ((ans_ft HT.out HY.out).trans e3)
  clear e3
  go_wp2
  refine bodyPost_ret (v := (.tuple #[Value.agg #[Value.bool (sgn (x / sgG x y)), Value.slice b1 (lms (x / sgG x y)).length e1, Value.bool (sgn (y / sgG x y)), Value.slice b2 (lms (y / sgG x y)).length e2], .bool true])) (by simp [results, Tryz.results98, go_sem, kr0, kr1, kr2, kr3]) rfl ?_
  obtain ⟨h1, h2, h3⟩ := fin_four (N := w.heap.size + 1 + 1) O1.out O2.out (by omega) (by omega) (by omega) HB.out (Value.bool (sgn (x / sgG x y))) (Value.slice b1 (lms (x / sgG x y)).length e1) (Value.bool (sgn (y / sgG x y))) (Value.slice b2 (lms (y / sgG x y)).length e2)
  rw [nat_lms, nat_lms, mk_self, mk_self]
  exact ans_yes HE.out h1 h2 HAP.out h3

end Go.Proofs.YtpmgpdlminacaaaGreatDoor

/- The walks of what is done to two fractions: products and quotients, and the specification's sum. -/
namespace Go.Proofs.YtpmgpdlminacaaaGreatDoor
open Go.RowKit
set_option linter.unusedVariables false

theorem cell_four {w : World} {N : Nat} {x y z t : Value} {p : Addr} (h : p.block ≠ N) : ((((w.setCell ⟨N, 0, none⟩ x).setCell ⟨N, 1, none⟩ y).setCell ⟨N, 2, none⟩ z).setCell ⟨N, 3, none⟩ t).cell? p = w.cell? p :=
  World.cell?_of_block ((Below.heap_setCell _ ⟨N, 3, none⟩ t p.block h).trans ((Below.heap_setCell _ ⟨N, 2, none⟩ z p.block h).trans ((Below.heap_setCell _ ⟨N, 1, none⟩ y p.block h).trans (Below.heap_setCell w ⟨N, 0, none⟩ x p.block h))))
theorem len_mul {x y : Int} {m n : Nat} (h1 : (lms x).length ≤ m) (h2 : (lms y).length ≤ n) : (lms (mulZ x y)).length ≤ m + n := by
  unfold lms mulZ at *
  refine Num.limbs_len.2 ?_
  rw [Int.natAbs_mul, Nat.pow_add]
  exact Nat.mul_lt_mul'' (Num.limbs_len.1 h1) (Num.limbs_len.1 h2)
theorem len_addN {a b c m : Nat} (h1 : (Num.limbs a).length ≤ m) (h2 : (Num.limbs b).length ≤ m) (h : c ≤ a + b) : (Num.limbs c).length ≤ m + 1 := by
  refine Num.limbs_len.2 (Nat.lt_of_lt_of_le ?_ (pw_two m))
  have := Num.limbs_len.1 h1
  have := Num.limbs_len.1 h2
  omega
theorem len_add {x y : Int} {m : Nat} (h1 : (lms x).length ≤ m) (h2 : (lms y).length ≤ m) : (lms (addZ x y)).length ≤ m + 1 := by
  unfold lms addZ at *; exact len_addN h1 h2 (by omega)
theorem len_sub {x y : Int} {m : Nat} (h1 : (lms x).length ≤ m) (h2 : (lms y).length ≤ m) : (lms (subZ x y)).length ≤ m + 1 := by
  unfold lms subZ at *; exact len_addN h1 h2 (by omega)
theorem prodL (v1 v2 : Value) (x y : Int) (w : World) (h1 : Is w v1 x) (h2 : Is w v2 y) (l1 : (lms x).length ≤ 500000) (l2 : (lms y).length ≤ 500000) :
    Calls Tryz.prog 72 #[v1, v2] w fun e w' => ∃ v, e = .returned v ∧ New w' w.heap.size v (mulZ x y) ∧ Below w.heap.size w w' := by
  have := prodI v1 v2 (sgn x) (sgn y) x.natAbs y.natAbs w h1 h2 l1 l2
  rw [mk_self, mk_self] at this
  exact this
theorem mulL (v1 v2 : Value) (x y : Int) (w : World) (h1 : Is w v1 x) (h2 : Is w v2 y) (l1 : (lms x).length ≤ 500000) (l2 : (lms y).length ≤ 500000) :
    Calls Tryz.prog 78 #[v1, v2] w fun e w' => ∃ v, e = .returned v ∧ New w' w.heap.size v (mulZ x y) ∧ Below w.heap.size w w' := mulS v1 v2 x y w h1 h2 l1 l2
theorem addL (v1 v2 : Value) (x y : Int) (w : World) (h1 : Is w v1 x) (h2 : Is w v2 y) (l1 : (lms x).length ≤ 500000) (l2 : (lms y).length ≤ 500000) :
    Calls Tryz.prog 99 #[v1, v2] w fun e w' => ∃ v, e = .returned v ∧ New w' w.heap.size v (addZ x y) ∧ Below w.heap.size w w' := addS v1 v2 x y w h1 h2 l1 l2
/-- a fraction made of two numbers, in memory of its own -/
def StAns (x y : Int) (w w' : World) (e : Ending) : Prop :=
  ∃ b1 e1 b2 e2, e = .returned (.agg #[.bool (sgn (x / sgG x y)), .slice b1 (lms (x / sgG x y)).length e1, .bool (sgn (y / sgG x y)), .slice b2 (lms (y / sgG x y)).length e2]) ∧ Own w' w.heap.size b1 (lms (x / sgG x y)).length e1 (lms (x / sgG x y)) ∧ Own w' w.heap.size b2 (lms (y / sgG x y)).length e2 (lms (y / sgG x y)) ∧ Apart b1 b2 ∧ Below w.heap.size w w'

end Go.Proofs.YtpmgpdlminacaaaGreatDoor
