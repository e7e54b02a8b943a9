/- My texts FitR, in this order. -/
import Derived.Test.YtpjckilmbidbgaaPk45
/- The walks of ifRight and l03Fit: a fraction where it fits. -/
namespace Go.Proofs.Ytpjckilmbidbgaa
open Go.RowKit
set_option linter.unusedVariables false

/-- whether a fraction fits -/
def ftT (p q : Int) : Bool := fits p && fits q
/-- a fraction where it fits, else nothing -/
def ftV (p q : Int) (a : Option Addr) (c : Nat) (b : Option Addr) (d : Nat) : Value :=
  if ftT p q = true then .agg #[.bool (sgn p), .slice a (lms p).length c, .bool (sgn q), .slice b (lms q).length d] else .agg #[.bool false, .slice none 0 0, .bool false, .slice none 0 0]
theorem ok_fits (z : Int) : okB (sgn z) (lms z) = fits z := ok_of_num z
theorem set_four {w w1 : World} {N : Nat} (hN : w.heap.size ≤ N) (hb : Below w.heap.size w w1) (x y z t : Value) : Below w.heap.size w ((((w1.setCell ⟨N, 0, none⟩ x).setCell ⟨N, 1, none⟩ y).setCell ⟨N, 2, none⟩ z).setCell ⟨N, 3, none⟩ t) :=
  ((((hb).setCell (p := ⟨N, 0, none⟩) hN x).setCell (p := ⟨N, 1, none⟩) hN y).setCell (p := ⟨N, 2, none⟩) hN z).setCell (p := ⟨N, 3, none⟩) hN t

set_option maxHeartbeats 800000 in
theorem fitI (p q : Int) (a : Option Addr) (c : Nat) (b : Option Addr) (d : Nat) (w : World) (s1 : Seg w a (lms p).length c (lms p)) (s2 : Seg w b (lms q).length d (lms q)) :
    Calls Try.prog 40 #[Value.agg #[Value.bool (sgn p), Value.slice a (lms p).length c, Value.bool (sgn q), Value.slice b (lms q).length d]] w fun e w' => e = .returned (.tuple #[ftV p q a c b d, .bool (ftT p q)]) ∧ Below w.heap.size w w' := by
  have ka0 : ((w.alloc (Obj.cells #[Value.bool (sgn p), Value.slice a (lms p).length c, Value.bool (sgn q), Value.slice b (lms q).length d] 28)).alloc (Obj.cells #[Value.bool false, Value.slice none 0 0, Value.bool false, Value.slice none 0 0] 28)).cell? ⟨w.heap.size, 0, none⟩ = some (Value.bool (sgn p)) := by go_simp
  have ka1 : ((w.alloc (Obj.cells #[Value.bool (sgn p), Value.slice a (lms p).length c, Value.bool (sgn q), Value.slice b (lms q).length d] 28)).alloc (Obj.cells #[Value.bool false, Value.slice none 0 0, Value.bool false, Value.slice none 0 0] 28)).cell? ⟨w.heap.size, 1, none⟩ = some (Value.slice a (lms p).length c) := by go_simp
  have ka2 : ((w.alloc (Obj.cells #[Value.bool (sgn p), Value.slice a (lms p).length c, Value.bool (sgn q), Value.slice b (lms q).length d] 28)).alloc (Obj.cells #[Value.bool false, Value.slice none 0 0, Value.bool false, Value.slice none 0 0] 28)).cell? ⟨w.heap.size, 2, none⟩ = some (Value.bool (sgn q)) := by go_simp
  have ka3 : ((w.alloc (Obj.cells #[Value.bool (sgn p), Value.slice a (lms p).length c, Value.bool (sgn q), Value.slice b (lms q).length d] 28)).alloc (Obj.cells #[Value.bool false, Value.slice none 0 0, Value.bool false, Value.slice none 0 0] 28)).cell? ⟨w.heap.size, 3, none⟩ = some (Value.slice b (lms q).length d) := by go_simp
  have kr0 : ((w.alloc (Obj.cells #[Value.bool (sgn p), Value.slice a (lms p).length c, Value.bool (sgn q), Value.slice b (lms q).length d] 28)).alloc (Obj.cells #[Value.bool false, Value.slice none 0 0, Value.bool false, Value.slice none 0 0] 28)).cell? ⟨w.heap.size + 1, 0, none⟩ = some (Value.bool false) := by go_simp
  have fr0 : ((w.alloc (Obj.cells #[Value.bool (sgn p), Value.slice a (lms p).length c, Value.bool (sgn q), Value.slice b (lms q).length d] 28)).alloc (Obj.cells #[Value.bool false, Value.slice none 0 0, Value.bool false, Value.slice none 0 0] 28)).frozen? ⟨w.heap.size + 1, 0, none⟩ = false := by go_simp
  have kr1 : ((w.alloc (Obj.cells #[Value.bool (sgn p), Value.slice a (lms p).length c, Value.bool (sgn q), Value.slice b (lms q).length d] 28)).alloc (Obj.cells #[Value.bool false, Value.slice none 0 0, Value.bool false, Value.slice none 0 0] 28)).cell? ⟨w.heap.size + 1, 1, none⟩ = some (Value.slice none 0 0) := by go_simp
  have fr1 : ((w.alloc (Obj.cells #[Value.bool (sgn p), Value.slice a (lms p).length c, Value.bool (sgn q), Value.slice b (lms q).length d] 28)).alloc (Obj.cells #[Value.bool false, Value.slice none 0 0, Value.bool false, Value.slice none 0 0] 28)).frozen? ⟨w.heap.size + 1, 1, none⟩ = false := by go_simp
  have kr2 : ((w.alloc (Obj.cells #[Value.bool (sgn p), Value.slice a (lms p).length c, Value.bool (sgn q), Value.slice b (lms q).length d] 28)).alloc (Obj.cells #[Value.bool false, Value.slice none 0 0, Value.bool false, Value.slice none 0 0] 28)).cell? ⟨w.heap.size + 1, 2, none⟩ = some (Value.bool false) := by go_simp
  have fr2 : ((w.alloc (Obj.cells #[Value.bool (sgn p), Value.slice a (lms p).length c, Value.bool (sgn q), Value.slice b (lms q).length d] 28)).alloc (Obj.cells #[Value.bool false, Value.slice none 0 0, Value.bool false, Value.slice none 0 0] 28)).frozen? ⟨w.heap.size + 1, 2, none⟩ = false := by go_simp
  have kr3 : ((w.alloc (Obj.cells #[Value.bool (sgn p), Value.slice a (lms p).length c, Value.bool (sgn q), Value.slice b (lms q).length d] 28)).alloc (Obj.cells #[Value.bool false, Value.slice none 0 0, Value.bool false, Value.slice none 0 0] 28)).cell? ⟨w.heap.size + 1, 3, none⟩ = some (Value.slice none 0 0) := by go_simp
  have fr3 : ((w.alloc (Obj.cells #[Value.bool (sgn p), Value.slice a (lms p).length c, Value.bool (sgn q), Value.slice b (lms q).length d] 28)).alloc (Obj.cells #[Value.bool false, Value.slice none 0 0, Value.bool false, Value.slice none 0 0] 28)).frozen? ⟨w.heap.size + 1, 3, none⟩ = false := by go_simp
  have zr : w.heap.size + 1 < ((w.alloc (Obj.cells #[Value.bool (sgn p), Value.slice a (lms p).length c, Value.bool (sgn q), Value.slice b (lms q).length d] 28)).alloc (Obj.cells #[Value.bool false, Value.slice none 0 0, Value.bool false, Value.slice none 0 0] 28)).heap.size := by simp only [World.size_alloc]; omega
  have HB := hide (bl_alloc (bl_alloc (bl_refl w) (Obj.cells #[Value.bool (sgn p), Value.slice a (lms p).length c, Value.bool (sgn q), Value.slice b (lms q).length d] 28)) (Obj.cells #[Value.bool false, Value.slice none 0 0, Value.bool false, Value.slice none 0 0] 28))
  have S1 := hide (s1.below HB.out)
  have S2 := hide (s2.below HB.out)
  clear s1
  clear s2
  go_enter Try.func40, Try.ntmps40
  go_wp2_with fail
  generalize ((w.alloc (Obj.cells #[Value.bool (sgn p), Value.slice a (lms p).length c, Value.bool (sgn q), Value.slice b (lms q).length d] 28)).alloc (Obj.cells #[Value.bool false, Value.slice none 0 0, Value.bool false, Value.slice none 0 0] 28)) = w1 at *
  refine (okI _ (sgn p) (lms p) _ ⟨a, c, rfl, S1.out⟩).mono ?_
  rintro e w2 ⟨rfl, hb⟩
  have yw2 := hb.size
  replace ka0 := (hb.cell (p := ⟨w.heap.size, 0, none⟩) (by dsimp only; omega)).trans ka0
  replace ka1 := (hb.cell (p := ⟨w.heap.size, 1, none⟩) (by dsimp only; omega)).trans ka1
  replace ka2 := (hb.cell (p := ⟨w.heap.size, 2, none⟩) (by dsimp only; omega)).trans ka2
  replace ka3 := (hb.cell (p := ⟨w.heap.size, 3, none⟩) (by dsimp only; omega)).trans ka3
  replace kr0 := (hb.cell (p := ⟨w.heap.size + 1, 0, none⟩) (by dsimp only; omega)).trans kr0
  replace fr0 := (hb.frozen (p := ⟨w.heap.size + 1, 0, none⟩) (by dsimp only; omega)).trans fr0
  replace kr1 := (hb.cell (p := ⟨w.heap.size + 1, 1, none⟩) (by dsimp only; omega)).trans kr1
  replace fr1 := (hb.frozen (p := ⟨w.heap.size + 1, 1, none⟩) (by dsimp only; omega)).trans fr1
  replace kr2 := (hb.cell (p := ⟨w.heap.size + 1, 2, none⟩) (by dsimp only; omega)).trans kr2
  replace fr2 := (hb.frozen (p := ⟨w.heap.size + 1, 2, none⟩) (by dsimp only; omega)).trans fr2
  replace kr3 := (hb.cell (p := ⟨w.heap.size + 1, 3, none⟩) (by dsimp only; omega)).trans kr3
  replace fr3 := (hb.frozen (p := ⟨w.heap.size + 1, 3, none⟩) (by dsimp only; omega)).trans fr3
  replace S1 := hide (S1.out.below hb)
  replace S2 := hide (S2.out.below hb)
  replace zr := Nat.lt_of_lt_of_le zr hb.size
  replace HB := hide (bl_trans HB.out hb)
  clear hb
  rw [ok_fits]
  cases e1 : fits p with
  | false =>
    have HE : Hid (ftT p q = false) := hide (by unfold ftT; rw [e1]; rfl)
    clear e1
    go_wp2
    refine bodyPost_ret (v := (.tuple #[.agg #[.bool false, .slice none 0 0, .bool false, .slice none 0 0], .bool false])) (by simp [results, Try.results40, go_sem, kr0, kr1, kr2, kr3]) rfl ?_
    exact ⟨by unfold ftV; rw [HE.out]; rfl, by first | exact HB.out | exact set_four (N := w.heap.size + 1) (by omega) HB.out _ _ _ _⟩
  | true =>
  have E1 := hide e1
  clear e1
  go_wp2_with fail
  refine (okI _ (sgn q) (lms q) _ ⟨b, d, rfl, S2.out⟩).mono ?_
  rintro e w3 ⟨rfl, hb⟩
  have yw3 := hb.size
  replace ka0 := (hb.cell (p := ⟨w.heap.size, 0, none⟩) (by dsimp only; omega)).trans ka0
  replace ka1 := (hb.cell (p := ⟨w.heap.size, 1, none⟩) (by dsimp only; omega)).trans ka1
  replace ka2 := (hb.cell (p := ⟨w.heap.size, 2, none⟩) (by dsimp only; omega)).trans ka2
  replace ka3 := (hb.cell (p := ⟨w.heap.size, 3, none⟩) (by dsimp only; omega)).trans ka3
  replace kr0 := (hb.cell (p := ⟨w.heap.size + 1, 0, none⟩) (by dsimp only; omega)).trans kr0
  replace fr0 := (hb.frozen (p := ⟨w.heap.size + 1, 0, none⟩) (by dsimp only; omega)).trans fr0
  replace kr1 := (hb.cell (p := ⟨w.heap.size + 1, 1, none⟩) (by dsimp only; omega)).trans kr1
  replace fr1 := (hb.frozen (p := ⟨w.heap.size + 1, 1, none⟩) (by dsimp only; omega)).trans fr1
  replace kr2 := (hb.cell (p := ⟨w.heap.size + 1, 2, none⟩) (by dsimp only; omega)).trans kr2
  replace fr2 := (hb.frozen (p := ⟨w.heap.size + 1, 2, none⟩) (by dsimp only; omega)).trans fr2
  replace kr3 := (hb.cell (p := ⟨w.heap.size + 1, 3, none⟩) (by dsimp only; omega)).trans kr3
  replace fr3 := (hb.frozen (p := ⟨w.heap.size + 1, 3, none⟩) (by dsimp only; omega)).trans fr3
  replace S1 := hide (S1.out.below hb)
  replace S2 := hide (S2.out.below hb)
  replace zr := Nat.lt_of_lt_of_le zr hb.size
  replace HB := hide (bl_trans HB.out hb)
  clear hb
  rw [ok_fits]
  cases e2 : fits q with
  | false =>
    have HE : Hid (ftT p q = false) := hide (by unfold ftT; rw [e2, Bool.and_false])
    clear e2
    go_wp2
    refine bodyPost_ret (v := (.tuple #[.agg #[.bool false, .slice none 0 0, .bool false, .slice none 0 0], .bool false])) (by simp [results, Try.results40, go_sem, kr0, kr1, kr2, kr3]) rfl ?_
    exact ⟨by unfold ftV; rw [HE.out]; rfl, by first | exact HB.out | exact set_four (N := w.heap.size + 1) (by omega) HB.out _ _ _ _⟩
  | true =>
  have HE : Hid (ftT p q = true) := hide (by unfold ftT; rw [E1.out, e2]; rfl)
  clear e2
  go_wp2
  refine bodyPost_ret (v := (.tuple #[Value.agg #[Value.bool (sgn p), Value.slice a (lms p).length c, Value.bool (sgn q), Value.slice b (lms q).length d], .bool true])) (by simp [results, Try.results40, go_sem, kr0, kr1, kr2, kr3]) rfl ?_
  exact ⟨by unfold ftV; rw [HE.out]; rfl, by first | exact HB.out | exact set_four (N := w.heap.size + 1) (by omega) HB.out _ _ _ _⟩

set_option maxHeartbeats 800000 in
theorem fitS (p q : Int) (a : Option Addr) (c : Nat) (b : Option Addr) (d : Nat) (w : World) (s1 : Seg w a (lms p).length c (lms p)) (s2 : Seg w b (lms q).length d (lms q)) :
    Calls Try.prog 27 #[Value.agg #[Value.bool (sgn p), Value.slice a (lms p).length c, Value.bool (sgn q), Value.slice b (lms q).length d]] w fun e w' => e = .returned (.tuple #[ftV p q a c b d, .bool (ftT p q)]) ∧ Below w.heap.size w w' := by
  have ka0 : ((w.alloc (Obj.cells #[Value.bool (sgn p), Value.slice a (lms p).length c, Value.bool (sgn q), Value.slice b (lms q).length d] 28)).alloc (Obj.cells #[Value.bool false, Value.slice none 0 0, Value.bool false, Value.slice none 0 0] 28)).cell? ⟨w.heap.size, 0, none⟩ = some (Value.bool (sgn p)) := by go_simp
  have ka1 : ((w.alloc (Obj.cells #[Value.bool (sgn p), Value.slice a (lms p).length c, Value.bool (sgn q), Value.slice b (lms q).length d] 28)).alloc (Obj.cells #[Value.bool false, Value.slice none 0 0, Value.bool false, Value.slice none 0 0] 28)).cell? ⟨w.heap.size, 1, none⟩ = some (Value.slice a (lms p).length c) := by go_simp
  have ka2 : ((w.alloc (Obj.cells #[Value.bool (sgn p), Value.slice a (lms p).length c, Value.bool (sgn q), Value.slice b (lms q).length d] 28)).alloc (Obj.cells #[Value.bool false, Value.slice none 0 0, Value.bool false, Value.slice none 0 0] 28)).cell? ⟨w.heap.size, 2, none⟩ = some (Value.bool (sgn q)) := by go_simp
  have ka3 : ((w.alloc (Obj.cells #[Value.bool (sgn p), Value.slice a (lms p).length c, Value.bool (sgn q), Value.slice b (lms q).length d] 28)).alloc (Obj.cells #[Value.bool false, Value.slice none 0 0, Value.bool false, Value.slice none 0 0] 28)).cell? ⟨w.heap.size, 3, none⟩ = some (Value.slice b (lms q).length d) := by go_simp
  have kr0 : ((w.alloc (Obj.cells #[Value.bool (sgn p), Value.slice a (lms p).length c, Value.bool (sgn q), Value.slice b (lms q).length d] 28)).alloc (Obj.cells #[Value.bool false, Value.slice none 0 0, Value.bool false, Value.slice none 0 0] 28)).cell? ⟨w.heap.size + 1, 0, none⟩ = some (Value.bool false) := by go_simp
  have fr0 : ((w.alloc (Obj.cells #[Value.bool (sgn p), Value.slice a (lms p).length c, Value.bool (sgn q), Value.slice b (lms q).length d] 28)).alloc (Obj.cells #[Value.bool false, Value.slice none 0 0, Value.bool false, Value.slice none 0 0] 28)).frozen? ⟨w.heap.size + 1, 0, none⟩ = false := by go_simp
  have kr1 : ((w.alloc (Obj.cells #[Value.bool (sgn p), Value.slice a (lms p).length c, Value.bool (sgn q), Value.slice b (lms q).length d] 28)).alloc (Obj.cells #[Value.bool false, Value.slice none 0 0, Value.bool false, Value.slice none 0 0] 28)).cell? ⟨w.heap.size + 1, 1, none⟩ = some (Value.slice none 0 0) := by go_simp
  have fr1 : ((w.alloc (Obj.cells #[Value.bool (sgn p), Value.slice a (lms p).length c, Value.bool (sgn q), Value.slice b (lms q).length d] 28)).alloc (Obj.cells #[Value.bool false, Value.slice none 0 0, Value.bool false, Value.slice none 0 0] 28)).frozen? ⟨w.heap.size + 1, 1, none⟩ = false := by go_simp
  have kr2 : ((w.alloc (Obj.cells #[Value.bool (sgn p), Value.slice a (lms p).length c, Value.bool (sgn q), Value.slice b (lms q).length d] 28)).alloc (Obj.cells #[Value.bool false, Value.slice none 0 0, Value.bool false, Value.slice none 0 0] 28)).cell? ⟨w.heap.size + 1, 2, none⟩ = some (Value.bool false) := by go_simp
  have fr2 : ((w.alloc (Obj.cells #[Value.bool (sgn p), Value.slice a (lms p).length c, Value.bool (sgn q), Value.slice b (lms q).length d] 28)).alloc (Obj.cells #[Value.bool false, Value.slice none 0 0, Value.bool false, Value.slice none 0 0] 28)).frozen? ⟨w.heap.size + 1, 2, none⟩ = false := by go_simp
  have kr3 : ((w.alloc (Obj.cells #[Value.bool (sgn p), Value.slice a (lms p).length c, Value.bool (sgn q), Value.slice b (lms q).length d] 28)).alloc (Obj.cells #[Value.bool false, Value.slice none 0 0, Value.bool false, Value.slice none 0 0] 28)).cell? ⟨w.heap.size + 1, 3, none⟩ = some (Value.slice none 0 0) := by go_simp
  have fr3 : ((w.alloc (Obj.cells #[Value.bool (sgn p), Value.slice a (lms p).length c, Value.bool (sgn q), Value.slice b (lms q).length d] 28)).alloc (Obj.cells #[Value.bool false, Value.slice none 0 0, Value.bool false, Value.slice none 0 0] 28)).frozen? ⟨w.heap.size + 1, 3, none⟩ = false := by go_simp
  have zr : w.heap.size + 1 < ((w.alloc (Obj.cells #[Value.bool (sgn p), Value.slice a (lms p).length c, Value.bool (sgn q), Value.slice b (lms q).length d] 28)).alloc (Obj.cells #[Value.bool false, Value.slice none 0 0, Value.bool false, Value.slice none 0 0] 28)).heap.size := by simp only [World.size_alloc]; omega
  have HB := hide (bl_alloc (bl_alloc (bl_refl w) (Obj.cells #[Value.bool (sgn p), Value.slice a (lms p).length c, Value.bool (sgn q), Value.slice b (lms q).length d] 28)) (Obj.cells #[Value.bool false, Value.slice none 0 0, Value.bool false, Value.slice none 0 0] 28))
  have S1 := hide (s1.below HB.out)
  have S2 := hide (s2.below HB.out)
  clear s1
  clear s2
  go_enter Try.func27, Try.ntmps27
  go_wp2_with fail
  generalize ((w.alloc (Obj.cells #[Value.bool (sgn p), Value.slice a (lms p).length c, Value.bool (sgn q), Value.slice b (lms q).length d] 28)).alloc (Obj.cells #[Value.bool false, Value.slice none 0 0, Value.bool false, Value.slice none 0 0] 28)) = w1 at *
  refine (okS _ (sgn p) (lms p) _ ⟨a, c, rfl, S1.out⟩).mono ?_
  rintro e w2 ⟨rfl, hb⟩
  have yw2 := hb.size
  replace ka0 := (hb.cell (p := ⟨w.heap.size, 0, none⟩) (by dsimp only; omega)).trans ka0
  replace ka1 := (hb.cell (p := ⟨w.heap.size, 1, none⟩) (by dsimp only; omega)).trans ka1
  replace ka2 := (hb.cell (p := ⟨w.heap.size, 2, none⟩) (by dsimp only; omega)).trans ka2
  replace ka3 := (hb.cell (p := ⟨w.heap.size, 3, none⟩) (by dsimp only; omega)).trans ka3
  replace kr0 := (hb.cell (p := ⟨w.heap.size + 1, 0, none⟩) (by dsimp only; omega)).trans kr0
  replace fr0 := (hb.frozen (p := ⟨w.heap.size + 1, 0, none⟩) (by dsimp only; omega)).trans fr0
  replace kr1 := (hb.cell (p := ⟨w.heap.size + 1, 1, none⟩) (by dsimp only; omega)).trans kr1
  replace fr1 := (hb.frozen (p := ⟨w.heap.size + 1, 1, none⟩) (by dsimp only; omega)).trans fr1
  replace kr2 := (hb.cell (p := ⟨w.heap.size + 1, 2, none⟩) (by dsimp only; omega)).trans kr2
  replace fr2 := (hb.frozen (p := ⟨w.heap.size + 1, 2, none⟩) (by dsimp only; omega)).trans fr2
  replace kr3 := (hb.cell (p := ⟨w.heap.size + 1, 3, none⟩) (by dsimp only; omega)).trans kr3
  replace fr3 := (hb.frozen (p := ⟨w.heap.size + 1, 3, none⟩) (by dsimp only; omega)).trans fr3
  replace S1 := hide (S1.out.below hb)
  replace S2 := hide (S2.out.below hb)
  replace zr := Nat.lt_of_lt_of_le zr hb.size
  replace HB := hide (bl_trans HB.out hb)
  clear hb
  rw [ok_fits]
  cases e1 : fits p with
  | false =>
    have HE : Hid (ftT p q = false) := hide (by unfold ftT; rw [e1]; rfl)
    clear e1
    go_wp2
    refine bodyPost_ret (v := (.tuple #[.agg #[.bool false, .slice none 0 0, .bool false, .slice none 0 0], .bool false])) (by simp [results, Try.results27, go_sem, kr0, kr1, kr2, kr3]) rfl ?_
    exact ⟨by unfold ftV; rw [HE.out]; rfl, by first | exact HB.out | exact set_four (N := w.heap.size + 1) (by omega) HB.out _ _ _ _⟩
  | true =>
  have E1 := hide e1
  clear e1
  go_wp2_with fail
  refine (okS _ (sgn q) (lms q) _ ⟨b, d, rfl, S2.out⟩).mono ?_
  rintro e w3 ⟨rfl, hb⟩
  have yw3 := hb.size
  replace ka0 := (hb.cell (p := ⟨w.heap.size, 0, none⟩) (by dsimp only; omega)).trans ka0
  replace ka1 := (hb.cell (p := ⟨w.heap.size, 1, none⟩) (by dsimp only; omega)).trans ka1
  replace ka2 := (hb.cell (p := ⟨w.heap.size, 2, none⟩) (by dsimp only; omega)).trans ka2
  replace ka3 := (hb.cell (p := ⟨w.heap.size, 3, none⟩) (by dsimp only; omega)).trans ka3
  replace kr0 := (hb.cell (p := ⟨w.heap.size + 1, 0, none⟩) (by dsimp only; omega)).trans kr0
  replace fr0 := (hb.frozen (p := ⟨w.heap.size + 1, 0, none⟩) (by dsimp only; omega)).trans fr0
  replace kr1 := (hb.cell (p := ⟨w.heap.size + 1, 1, none⟩) (by dsimp only; omega)).trans kr1
  replace fr1 := (hb.frozen (p := ⟨w.heap.size + 1, 1, none⟩) (by dsimp only; omega)).trans fr1
  replace kr2 := (hb.cell (p := ⟨w.heap.size + 1, 2, none⟩) (by dsimp only; omega)).trans kr2
  replace fr2 := (hb.frozen (p := ⟨w.heap.size + 1, 2, none⟩) (by dsimp only; omega)).trans fr2
  replace kr3 := (hb.cell (p := ⟨w.heap.size + 1, 3, none⟩) (by dsimp only; omega)).trans kr3
  replace fr3 := (hb.frozen (p := ⟨w.heap.size + 1, 3, none⟩) (by dsimp only; omega)).trans fr3
  replace S1 := hide (S1.out.below hb)
  replace S2 := hide (S2.out.below hb)
  replace zr := Nat.lt_of_lt_of_le zr hb.size
  replace HB := hide (bl_trans HB.out hb)
  clear hb
  rw [ok_fits]
  cases e2 : fits q with
  | false =>
    have HE : Hid (ftT p q = false) := hide (by unfold ftT; rw [e2, Bool.and_false])
    clear e2
    go_wp2
    refine bodyPost_ret (v := (.tuple #[.agg #[.bool false, .slice none 0 0, .bool false, .slice none 0 0], .bool false])) (by simp [results, Try.results27, go_sem, kr0, kr1, kr2, kr3]) rfl ?_
    exact ⟨by unfold ftV; rw [HE.out]; rfl, by first | exact HB.out | exact set_four (N := w.heap.size + 1) (by omega) HB.out _ _ _ _⟩
  | true =>
  have HE : Hid (ftT p q = true) := hide (by unfold ftT; rw [E1.out, e2]; rfl)
  clear e2
  go_wp2
  refine bodyPost_ret (v := (.tuple #[Value.agg #[Value.bool (sgn p), Value.slice a (lms p).length c, Value.bool (sgn q), Value.slice b (lms q).length d], .bool true])) (by simp [results, Try.results27, go_sem, kr0, kr1, kr2, kr3]) rfl ?_
  exact ⟨by unfold ftV; rw [HE.out]; rfl, by first | exact HB.out | exact set_four (N := w.heap.size + 1) (by omega) HB.out _ _ _ _⟩


end Go.Proofs.Ytpjckilmbidbgaa
