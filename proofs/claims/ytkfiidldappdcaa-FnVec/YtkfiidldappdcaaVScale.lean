/- The walk of the program's VecScale. -/
import Derived.Test.YtkfiidldappdcaaVMakeS
import Derived.Test.YtkfiidldappdcaaVecCmpS
namespace Go.Proofs.Ytkfiidldappdcaa
open Go.RowKit
set_option linter.unusedVariables false

/-- VecScale takes its arguments -/
def scT (d1 : Int) (xs : List Int) (p q : Int) : Bool := vokB d1 xs && decide (-1000000000 ≤ p ∧ p ≤ 1000000000) && decide (-1000000000 ≤ q ∧ q ≤ 1000000000) && decide (¬ q = 0)
/-- the answer of VecScale -/
def scB (d1 : Int) (xs : List Int) (p q : Int) : Bool := scT d1 xs p q && tlB (d1 * q) (fun j => pwF xs j * p)
def scD (d1 : Int) (xs : List Int) (p q : Int) : Int := if scT d1 xs p q = true then tlD (d1 * q) (fun j => pwF xs j * p) else 0
def scL (d1 : Int) (xs : List Int) (p q : Int) : List Int := if scT d1 xs p q = true then tlL xs.length (d1 * q) (fun j => pwF xs j * p) else []
theorem sc_no {d1 : Int} {xs : List Int} {p q : Int} (h : scT d1 xs p q = false) : Hid (scD d1 xs p q = 0) ∧ Hid (scL d1 xs p q = []) ∧ Hid (scB d1 xs p q = false) :=
  ⟨by unfold scD Hid; rw [h]; rfl, by unfold scL Hid; rw [h]; rfl, by unfold scB Hid; rw [h]; rfl⟩
theorem sc_yes {d1 : Int} {xs : List Int} {p q : Int} (h : scT d1 xs p q = true) : Hid (scD d1 xs p q = tlD (d1 * q) (fun j => pwF xs j * p)) ∧ Hid (scL d1 xs p q = tlL xs.length (d1 * q) (fun j => pwF xs j * p)) ∧ Hid (scB d1 xs p q = tlB (d1 * q) (fun j => pwF xs j * p)) :=
  ⟨by unfold scD Hid; rw [h]; rfl, by unfold scL Hid; rw [h]; rfl, by unfold scB Hid; rw [h]; rfl⟩

set_option maxHeartbeats 4000000 in
theorem vecScaleI (d1 : Int) (a : Option Addr) (cap : Nat) (xs : List Int) (p q : Int) (w : World) (hs : Seg w a xs.length cap xs) :
    Calls Try.prog 26 #[.agg #[.int .i64 d1, .slice a xs.length cap], .int .i64 p, .int .i64 q] w fun e w' => ∃ a' c', e = .returned (.tuple #[.agg #[.int .i64 (scD d1 xs p q), .slice a' (scL d1 xs p q).length c'], .bool (scB d1 xs p q)]) ∧ Own w' w.heap.size a' (scL d1 xs p q).length c' (scL d1 xs p q) ∧ Below w.heap.size w w' := by
  have kr0 : ((w.alloc (Obj.cells #[Value.int .i64 d1, Value.slice a xs.length cap] 29)).alloc (Obj.cells #[Value.int .i64 0, Value.slice none 0 0] 29)).cell? ⟨w.heap.size + 1, 0, none⟩ = some (Value.int .i64 0) := by go_simp
  have fr0 : ((w.alloc (Obj.cells #[Value.int .i64 d1, Value.slice a xs.length cap] 29)).alloc (Obj.cells #[Value.int .i64 0, Value.slice none 0 0] 29)).frozen? ⟨w.heap.size + 1, 0, none⟩ = false := by go_simp
  have kr1 : ((w.alloc (Obj.cells #[Value.int .i64 d1, Value.slice a xs.length cap] 29)).alloc (Obj.cells #[Value.int .i64 0, Value.slice none 0 0] 29)).cell? ⟨w.heap.size + 1, 1, none⟩ = some (Value.slice none 0 0) := by go_simp
  have fr1 : ((w.alloc (Obj.cells #[Value.int .i64 d1, Value.slice a xs.length cap] 29)).alloc (Obj.cells #[Value.int .i64 0, Value.slice none 0 0] 29)).frozen? ⟨w.heap.size + 1, 1, none⟩ = false := by go_simp
  have zr : w.heap.size + 1 < ((w.alloc (Obj.cells #[Value.int .i64 d1, Value.slice a xs.length cap] 29)).alloc (Obj.cells #[Value.int .i64 0, Value.slice none 0 0] 29)).heap.size := by simp only [World.size_alloc]; omega
  have HB := hide (bl_alloc (bl_alloc (bl_refl w) (Obj.cells #[Value.int .i64 d1, Value.slice a xs.length cap] 29)) (Obj.cells #[Value.int .i64 0, Value.slice none 0 0] 29))
  have HS := hide (hs.below HB.out)
  clear hs
  go_enter Try.func26, Try.ntmps26
  go_wp2_with fail
  generalize ((w.alloc (Obj.cells #[Value.int .i64 d1, Value.slice a xs.length cap] 29)).alloc (Obj.cells #[Value.int .i64 0, Value.slice none 0 0] 29)) = w1 at *
  refine (powersOf d1 a cap xs _ HS.out).mono ?_
  rintro e w2 ⟨rfl, hb⟩
  replace kr0 := (hb.cell (p := ⟨w.heap.size + 1, 0, none⟩) zr).trans kr0
  replace fr0 := (hb.frozen (p := ⟨w.heap.size + 1, 0, none⟩) zr).trans fr0
  replace kr1 := (hb.cell (p := ⟨w.heap.size + 1, 1, none⟩) zr).trans kr1
  replace fr1 := (hb.frozen (p := ⟨w.heap.size + 1, 1, none⟩) zr).trans fr1
  replace zr := Nat.lt_of_lt_of_le zr hb.size
  replace HB := hide (bl_trans HB.out hb)
  clear hb
  clear HS
  cases hv : vokB d1 xs with
  | false =>
    obtain ⟨N1, N2, N3⟩ := sc_no (d1 := d1) (xs := xs) (p := p) (q := q) (by unfold scT; rw [hv]; rfl)
    clear hv
    go_wp2
    rw [N1.out, N2.out, N3.out]
    exact bodyPost_ret (v := .tuple #[.agg #[.int .i64 0, .slice none 0 0], .bool false]) (by simp [results, Try.results26, go_sem, *]) rfl ⟨none, 0, rfl, Own.nil _ _, bl_alloc ((HB.out.setCell (p := ⟨w.heap.size + 1, 0, none⟩) (Nat.le_succ _) _).setCell (p := ⟨w.heap.size + 1, 1, none⟩) (Nat.le_succ _) _) _⟩
  | true =>
  have HV := hide hv
  clear hv
  go_wp2_with fail
  have hb := bl_alloc (bl_refl w2) (Obj.cells #[Value.int .i64 (pwN xs), Value.int .i64 (pwF xs 0), Value.int .i64 (pwF xs 1), Value.int .i64 (pwF xs 2), Value.int .i64 (pwF xs 3), Value.int .i64 (pwF xs 4), Value.int .i64 (pwF xs 5), Value.int .i64 (pwF xs 6), Value.int .i64 (pwF xs 7), Value.int .i64 d1] 67)
  have kx0 : (w2.alloc (Obj.cells #[Value.int .i64 (pwN xs), Value.int .i64 (pwF xs 0), Value.int .i64 (pwF xs 1), Value.int .i64 (pwF xs 2), Value.int .i64 (pwF xs 3), Value.int .i64 (pwF xs 4), Value.int .i64 (pwF xs 5), Value.int .i64 (pwF xs 6), Value.int .i64 (pwF xs 7), Value.int .i64 d1] 67)).cell? ⟨w2.heap.size, 0, none⟩ = some (Value.int .i64 (pwN xs)) := by go_simp
  have kx1 : (w2.alloc (Obj.cells #[Value.int .i64 (pwN xs), Value.int .i64 (pwF xs 0), Value.int .i64 (pwF xs 1), Value.int .i64 (pwF xs 2), Value.int .i64 (pwF xs 3), Value.int .i64 (pwF xs 4), Value.int .i64 (pwF xs 5), Value.int .i64 (pwF xs 6), Value.int .i64 (pwF xs 7), Value.int .i64 d1] 67)).cell? ⟨w2.heap.size, 1, none⟩ = some (Value.int .i64 (pwF xs 0)) := by go_simp
  have kx2 : (w2.alloc (Obj.cells #[Value.int .i64 (pwN xs), Value.int .i64 (pwF xs 0), Value.int .i64 (pwF xs 1), Value.int .i64 (pwF xs 2), Value.int .i64 (pwF xs 3), Value.int .i64 (pwF xs 4), Value.int .i64 (pwF xs 5), Value.int .i64 (pwF xs 6), Value.int .i64 (pwF xs 7), Value.int .i64 d1] 67)).cell? ⟨w2.heap.size, 2, none⟩ = some (Value.int .i64 (pwF xs 1)) := by go_simp
  have kx3 : (w2.alloc (Obj.cells #[Value.int .i64 (pwN xs), Value.int .i64 (pwF xs 0), Value.int .i64 (pwF xs 1), Value.int .i64 (pwF xs 2), Value.int .i64 (pwF xs 3), Value.int .i64 (pwF xs 4), Value.int .i64 (pwF xs 5), Value.int .i64 (pwF xs 6), Value.int .i64 (pwF xs 7), Value.int .i64 d1] 67)).cell? ⟨w2.heap.size, 3, none⟩ = some (Value.int .i64 (pwF xs 2)) := by go_simp
  have kx4 : (w2.alloc (Obj.cells #[Value.int .i64 (pwN xs), Value.int .i64 (pwF xs 0), Value.int .i64 (pwF xs 1), Value.int .i64 (pwF xs 2), Value.int .i64 (pwF xs 3), Value.int .i64 (pwF xs 4), Value.int .i64 (pwF xs 5), Value.int .i64 (pwF xs 6), Value.int .i64 (pwF xs 7), Value.int .i64 d1] 67)).cell? ⟨w2.heap.size, 4, none⟩ = some (Value.int .i64 (pwF xs 3)) := by go_simp
  have kx5 : (w2.alloc (Obj.cells #[Value.int .i64 (pwN xs), Value.int .i64 (pwF xs 0), Value.int .i64 (pwF xs 1), Value.int .i64 (pwF xs 2), Value.int .i64 (pwF xs 3), Value.int .i64 (pwF xs 4), Value.int .i64 (pwF xs 5), Value.int .i64 (pwF xs 6), Value.int .i64 (pwF xs 7), Value.int .i64 d1] 67)).cell? ⟨w2.heap.size, 5, none⟩ = some (Value.int .i64 (pwF xs 4)) := by go_simp
  have kx6 : (w2.alloc (Obj.cells #[Value.int .i64 (pwN xs), Value.int .i64 (pwF xs 0), Value.int .i64 (pwF xs 1), Value.int .i64 (pwF xs 2), Value.int .i64 (pwF xs 3), Value.int .i64 (pwF xs 4), Value.int .i64 (pwF xs 5), Value.int .i64 (pwF xs 6), Value.int .i64 (pwF xs 7), Value.int .i64 d1] 67)).cell? ⟨w2.heap.size, 6, none⟩ = some (Value.int .i64 (pwF xs 5)) := by go_simp
  have kx7 : (w2.alloc (Obj.cells #[Value.int .i64 (pwN xs), Value.int .i64 (pwF xs 0), Value.int .i64 (pwF xs 1), Value.int .i64 (pwF xs 2), Value.int .i64 (pwF xs 3), Value.int .i64 (pwF xs 4), Value.int .i64 (pwF xs 5), Value.int .i64 (pwF xs 6), Value.int .i64 (pwF xs 7), Value.int .i64 d1] 67)).cell? ⟨w2.heap.size, 7, none⟩ = some (Value.int .i64 (pwF xs 6)) := by go_simp
  have kx8 : (w2.alloc (Obj.cells #[Value.int .i64 (pwN xs), Value.int .i64 (pwF xs 0), Value.int .i64 (pwF xs 1), Value.int .i64 (pwF xs 2), Value.int .i64 (pwF xs 3), Value.int .i64 (pwF xs 4), Value.int .i64 (pwF xs 5), Value.int .i64 (pwF xs 6), Value.int .i64 (pwF xs 7), Value.int .i64 d1] 67)).cell? ⟨w2.heap.size, 8, none⟩ = some (Value.int .i64 (pwF xs 7)) := by go_simp
  have kx9 : (w2.alloc (Obj.cells #[Value.int .i64 (pwN xs), Value.int .i64 (pwF xs 0), Value.int .i64 (pwF xs 1), Value.int .i64 (pwF xs 2), Value.int .i64 (pwF xs 3), Value.int .i64 (pwF xs 4), Value.int .i64 (pwF xs 5), Value.int .i64 (pwF xs 6), Value.int .i64 (pwF xs 7), Value.int .i64 d1] 67)).cell? ⟨w2.heap.size, 9, none⟩ = some (Value.int .i64 d1) := by go_simp
  have zx : w2.heap.size < (w2.alloc (Obj.cells #[Value.int .i64 (pwN xs), Value.int .i64 (pwF xs 0), Value.int .i64 (pwF xs 1), Value.int .i64 (pwF xs 2), Value.int .i64 (pwF xs 3), Value.int .i64 (pwF xs 4), Value.int .i64 (pwF xs 5), Value.int .i64 (pwF xs 6), Value.int .i64 (pwF xs 7), Value.int .i64 d1] 67)).heap.size := by simp only [World.size_alloc]; omega
  generalize w2.alloc (Obj.cells #[Value.int .i64 (pwN xs), Value.int .i64 (pwF xs 0), Value.int .i64 (pwF xs 1), Value.int .i64 (pwF xs 2), Value.int .i64 (pwF xs 3), Value.int .i64 (pwF xs 4), Value.int .i64 (pwF xs 5), Value.int .i64 (pwF xs 6), Value.int .i64 (pwF xs 7), Value.int .i64 d1] 67) = w3 at *
  replace kr0 := (hb.cell (p := ⟨w.heap.size + 1, 0, none⟩) zr).trans kr0
  replace fr0 := (hb.frozen (p := ⟨w.heap.size + 1, 0, none⟩) zr).trans fr0
  replace kr1 := (hb.cell (p := ⟨w.heap.size + 1, 1, none⟩) zr).trans kr1
  replace fr1 := (hb.frozen (p := ⟨w.heap.size + 1, 1, none⟩) zr).trans fr1
  replace zr := Nat.lt_of_lt_of_le zr hb.size
  replace HB := hide (bl_trans HB.out hb)
  clear hb
  rcases far_or p with hfar | ⟨hp1, hp2⟩
  · obtain ⟨N1, N2, N3⟩ := sc_no (d1 := d1) (xs := xs) (p := p) (q := q) (by unfold scT; rw [decide_eq_false (p := -1000000000 ≤ p ∧ p ≤ 1000000000) (by unfold Far at hfar; omega)]; simp)
    have HFA := hide hfar
    clear hfar
    refine (smallI_out _ _ HFA.out).mono ?_
    rintro e w5 ⟨rfl, hw⟩
    subst w5
    go_wp2
    rw [N1.out, N2.out, N3.out]
    exact bodyPost_ret (v := .tuple #[.agg #[.int .i64 0, .slice none 0 0], .bool false]) (by simp [results, Try.results26, go_sem, *]) rfl ⟨none, 0, rfl, Own.nil _ _, (HB.out.setCell (p := ⟨w.heap.size + 1, 0, none⟩) (Nat.le_succ _) _).setCell (p := ⟨w.heap.size + 1, 1, none⟩) (Nat.le_succ _) _⟩
  refine (smallI_in _ _ hp1 hp2).mono ?_
  rintro e w5 ⟨rfl, hw⟩
  subst w5
  go_wp2_with fail
  rcases far_or q with hfar | ⟨hq1, hq2⟩
  · obtain ⟨N1, N2, N3⟩ := sc_no (d1 := d1) (xs := xs) (p := p) (q := q) (by unfold scT; rw [decide_eq_false (p := -1000000000 ≤ q ∧ q ≤ 1000000000) (by unfold Far at hfar; omega)]; simp)
    have HFA := hide hfar
    clear hfar
    refine (smallI_out _ _ HFA.out).mono ?_
    rintro e w5 ⟨rfl, hw⟩
    subst w5
    go_wp2
    rw [N1.out, N2.out, N3.out]
    exact bodyPost_ret (v := .tuple #[.agg #[.int .i64 0, .slice none 0 0], .bool false]) (by simp [results, Try.results26, go_sem, *]) rfl ⟨none, 0, rfl, Own.nil _ _, (HB.out.setCell (p := ⟨w.heap.size + 1, 0, none⟩) (Nat.le_succ _) _).setCell (p := ⟨w.heap.size + 1, 1, none⟩) (Nat.le_succ _) _⟩
  refine (smallI_in _ _ hq1 hq2).mono ?_
  rintro e w5 ⟨rfl, hw⟩
  subst w5
  by_cases hz : q = 0
  · obtain ⟨N1, N2, N3⟩ := sc_no (d1 := d1) (xs := xs) (p := p) (q := q) (by unfold scT; rw [decide_eq_false (p := ¬ q = 0) (by omega)]; simp)
    have hzb : (q == 0) = true := by simp [hz]
    clear hz
    go_wp2
    rw [N1.out, N2.out, N3.out]
    exact bodyPost_ret (v := .tuple #[.agg #[.int .i64 0, .slice none 0 0], .bool false]) (by simp [results, Try.results26, go_sem, *]) rfl ⟨none, 0, rfl, Own.nil _ _, (HB.out.setCell (p := ⟨w.heap.size + 1, 0, none⟩) (Nat.le_succ _) _).setCell (p := ⟨w.heap.size + 1, 1, none⟩) (Nat.le_succ _) _⟩
  have hzb : (q == 0) = false := by simp [hz]
  obtain ⟨N1, N2, N3⟩ := sc_yes (d1 := d1) (xs := xs) (p := p) (q := q) (by unfold scT; rw [HV.out, decide_eq_true (p := -1000000000 ≤ p ∧ p ≤ 1000000000) ⟨hp1, hp2⟩, decide_eq_true (p := -1000000000 ≤ q ∧ q ≤ 1000000000) ⟨hq1, hq2⟩, decide_eq_true (p := ¬ q = 0) hz]; rfl)
  have hpn : pwN xs = (xs.length : Int) := if_pos (vok_len HV.out)
  obtain ⟨⟨g1, g2⟩, HFf⟩ := vok_facts HV.out
  have HF := hide HFf
  clear HFf
  obtain ⟨m1, m2⟩ := mul_bd d1 q 720 1000000000 (by omega) (by omega)
  have hdq : ¬ d1 * q = 0 := fun h => by rcases Int.mul_eq_zero.1 h with h | h <;> omega
  have hwr : IntKind.i64.wrap (d1 * q) = d1 * q := by rw [IntKind.wrap_i64]; omega
  have HTI := hide (fun w => times8 (pwN xs) p (pwF xs) w (by omega) HF.out)
  have HTO := hide (fun w => told8 xs.length (d1 * q) (fun j => pwF xs j * p) w (vok_len HV.out) hdq (by omega) (fun j hj => by have := mul_bd (pwF xs j) p 100000 1000000000 (HF.out j hj) (by omega); omega))
  clear hz hdq
  rw [hpn] at HTI
  rw [hpn] at kx0
  go_wp2_with fail
  have KP : Hid (∀ w', Below w3.heap.size w3 w' → (w'.cell? ⟨w.heap.size + 1, 0, none⟩ = some (Value.int .i64 0) ∧ w'.cell? ⟨w.heap.size + 1, 1, none⟩ = some (Value.slice none 0 0) ∧ w'.frozen? ⟨w.heap.size + 1, 0, none⟩ = false ∧ w'.frozen? ⟨w.heap.size + 1, 1, none⟩ = false ∧ w'.cell? ⟨w2.heap.size, 0, none⟩ = some (Value.int .i64 (xs.length : Int)) ∧ w'.cell? ⟨w2.heap.size, 1, none⟩ = some (Value.int .i64 (pwF xs 0)) ∧ w'.cell? ⟨w2.heap.size, 2, none⟩ = some (Value.int .i64 (pwF xs 1)) ∧ w'.cell? ⟨w2.heap.size, 3, none⟩ = some (Value.int .i64 (pwF xs 2)) ∧ w'.cell? ⟨w2.heap.size, 4, none⟩ = some (Value.int .i64 (pwF xs 3)) ∧ w'.cell? ⟨w2.heap.size, 5, none⟩ = some (Value.int .i64 (pwF xs 4)) ∧ w'.cell? ⟨w2.heap.size, 6, none⟩ = some (Value.int .i64 (pwF xs 5)) ∧ w'.cell? ⟨w2.heap.size, 7, none⟩ = some (Value.int .i64 (pwF xs 6)) ∧ w'.cell? ⟨w2.heap.size, 8, none⟩ = some (Value.int .i64 (pwF xs 7)) ∧ w'.cell? ⟨w2.heap.size, 9, none⟩ = some (Value.int .i64 d1) ∧ Hid (Below w.heap.size w w'))) := hide (fun w' hb => ⟨(hb.cell (p := ⟨w.heap.size + 1, 0, none⟩) zr).trans kr0, (hb.cell (p := ⟨w.heap.size + 1, 1, none⟩) zr).trans kr1, (hb.frozen (p := ⟨w.heap.size + 1, 0, none⟩) zr).trans fr0, (hb.frozen (p := ⟨w.heap.size + 1, 1, none⟩) zr).trans fr1, (hb.cell (p := ⟨w2.heap.size, 0, none⟩) zx).trans kx0, (hb.cell (p := ⟨w2.heap.size, 1, none⟩) zx).trans kx1, (hb.cell (p := ⟨w2.heap.size, 2, none⟩) zx).trans kx2, (hb.cell (p := ⟨w2.heap.size, 3, none⟩) zx).trans kx3, (hb.cell (p := ⟨w2.heap.size, 4, none⟩) zx).trans kx4, (hb.cell (p := ⟨w2.heap.size, 5, none⟩) zx).trans kx5, (hb.cell (p := ⟨w2.heap.size, 6, none⟩) zx).trans kx6, (hb.cell (p := ⟨w2.heap.size, 7, none⟩) zx).trans kx7, (hb.cell (p := ⟨w2.heap.size, 8, none⟩) zx).trans kx8, (hb.cell (p := ⟨w2.heap.size, 9, none⟩) zx).trans kx9, hide (bl_trans HB.out hb)⟩)
  have y4 := zr
  go_region_with (first | (go_at_call 58; refine (HTI.out _).mono ?_; rintro e wA ⟨rfl, hbAr⟩; have hbA : Below w3.heap.size w3 wA := bl_trans (bl_refl w3).drew hbAr; obtain ⟨qA0, qA1, qA2, qA3, xA0, xA1, xA2, xA3, xA4, xA5, xA6, xA7, xA8, xA9, HZA⟩ := KP.out wA hbA; clear hbAr) | (go_at_call 60; refine (HTO.out _).mono ?_; rintro e wB ⟨a', c', rfl, hoB, hbBr⟩; have hbB : Below w3.heap.size w3 wB := bl_trans hbA hbBr; obtain ⟨qB0, qB1, qB2, qB3, xB0, xB1, xB2, xB3, xB4, xB5, xB6, xB7, xB8, xB9, HZB⟩ := KP.out wB hbB; have HOB := hide (hoB.mono (base' := w3.heap.size) hbA.size); clear hbBr hbB hoB))
  all_goals
    generalize tlD (d1 * q) (fun j => pwF xs j * p) = D at *
    generalize tlL xs.length (d1 * q) (fun j => pwF xs j * p) = M at *
    generalize tlB (d1 * q) (fun j => pwF xs j * p) = bb at *
    go_wp2
    rw [N1.out, N2.out, N3.out]
    refine bodyPost_ret (v := .tuple #[.agg #[.int .i64 D, .slice a' M.length c'], .bool bb]) (by simp [results, Try.results26, go_sem, *]) rfl ⟨a', c', rfl, ?_, ?_⟩
    · exact ((HOB.out.setCell (p := ⟨w.heap.size + 1, 0, none⟩) y4 _).setCell (p := ⟨w.heap.size + 1, 1, none⟩) y4 _).mono (by omega)
    · exact (HZB.out.setCell (p := ⟨w.heap.size + 1, 0, none⟩) (Nat.le_succ _) _).setCell (p := ⟨w.heap.size + 1, 1, none⟩) (Nat.le_succ _) _
end Go.Proofs.Ytkfiidldappdcaa
