/- RatRoot: what is told, and the walks of both. -/
import Derived.Test.YtbnjgfaojaimlaaRootF
import Derived.Test.YtbnjgfaojaimlaaRatOkI
import Derived.Test.YtbnjgfaojaimlaaRatOkS
import Derived.Test.YtbnjgfaojaimlaaRatH
import Derived.Test.YtbnjgfaojaimlaaRes4
import Derived.Deep.RegionHeld3
namespace Go.Proofs.Ytbnjgfaojaimlaa
open Go.RowKit
set_option linter.unusedVariables false

/-- whether both parts have a root -/
def epB (n1 : Bool) (xs1 : List Nat) (m1 : Bool) (ys1 : List Nat) (k : Int) : Prop := rtE n1 xs1 k = true ∧ rtE m1 ys1 k = true
noncomputable def rrB (n1 : Bool) (xs1 : List Nat) (m1 : Bool) (ys1 : List Nat) (k : Int) : Bool := ratB n1 xs1 m1 ys1 && decide (xs1.length ≠ 0) && (rtE n1 xs1 k && rtE m1 ys1 k)
noncomputable def rrN (n1 : Bool) (xs1 : List Nat) (m1 : Bool) (ys1 : List Nat) (k : Int) : Int := if rrB n1 xs1 m1 ys1 k = true then rtZ n1 xs1 k else 0
noncomputable def rrD (n1 : Bool) (xs1 : List Nat) (m1 : Bool) (ys1 : List Nat) (k : Int) : Int := if rrB n1 xs1 m1 ys1 k = true then rtZ m1 ys1 k else 0
/-- a fraction and a flag, in memory of their own -/
def RrAns (t : Bool) (P Q : Int) (w w' : World) (e : Ending) : Prop :=
  ∃ a1 c1 a2 c2, e = .returned (.tuple #[.agg #[.bool (sgn P), .slice a1 (lms P).length c1, .bool (sgn Q), .slice a2 (lms Q).length c2], .bool t]) ∧ Own w' w.heap.size a1 (lms P).length c1 (lms P) ∧ Own w' w.heap.size a2 (lms Q).length c2 (lms Q) ∧ Apart a1 a2 ∧ Below w.heap.size w w'
theorem rr_none {w w' : World} (hb : Below w.heap.size w w') : RrAns false 0 0 w w' (.returned (.tuple #[.agg #[.bool false, .slice none 0 0, .bool false, .slice none 0 0], .bool false])) := by
  refine ⟨none, 0, none, 0, by rw [zero_lms]; rfl, by rw [zero_lms]; exact Own.nil _ _, by rw [zero_lms]; exact Own.nil _ _, ?_, hb⟩
  exact Apart.none _
theorem rr_f {n1 : Bool} {xs1 : List Nat} {m1 : Bool} {ys1 : List Nat} {k : Int} (h : rrB n1 xs1 m1 ys1 k = false) : rrN n1 xs1 m1 ys1 k = 0 ∧ rrD n1 xs1 m1 ys1 k = 0 := by
  unfold rrN rrD; rw [h]; exact ⟨rfl, rfl⟩
theorem rr_t {n1 : Bool} {xs1 : List Nat} {m1 : Bool} {ys1 : List Nat} {k : Int} (h : rrB n1 xs1 m1 ys1 k = true) : rrN n1 xs1 m1 ys1 k = rtZ n1 xs1 k ∧ rrD n1 xs1 m1 ys1 k = rtZ m1 ys1 k := by
  unfold rrN rrD; rw [h]; exact ⟨rfl, rfl⟩

set_option maxHeartbeats 4000000 in
set_option maxRecDepth 20000 in
theorem eachR (n1 : Bool) (xs1 : List Nat) (m1 : Bool) (ys1 : List Nat) (k : Int) (a1 : Option Addr) (c1 : Nat) (b1 : Option Addr) (e1 : Nat) (w : World) (s1 : Seg w a1 xs1.length c1 xs1) (t1 : Seg w b1 ys1.length e1 ys1) (hi1 : -9223372036854775808 ≤ k) (hi2 : k ≤ 9223372036854775807) :
    Calls Try.prog 36 #[Value.agg #[Value.bool n1, Value.slice a1 xs1.length c1, Value.bool m1, Value.slice b1 ys1.length e1], .func (.func 8) #[] #[], .int .i64 k] w fun e w' => RrAns (rtE n1 xs1 k && rtE m1 ys1 k) (if (rtE n1 xs1 k && rtE m1 ys1 k) = true then rtZ n1 xs1 k else 0) (if (rtE n1 xs1 k && rtE m1 ys1 k) = true then rtZ m1 ys1 k else 0) w w' e := by
  have ka0 : ((w.alloc (Obj.cells #[Value.bool n1, Value.slice a1 xs1.length c1, Value.bool m1, Value.slice b1 ys1.length e1] 37)).alloc (Obj.cells #[Value.bool false, Value.slice none 0 0, Value.bool false, Value.slice none 0 0] 37)).cell? ⟨w.heap.size, 0, none⟩ = some (Value.bool n1) := by go_simp
  have ka1 : ((w.alloc (Obj.cells #[Value.bool n1, Value.slice a1 xs1.length c1, Value.bool m1, Value.slice b1 ys1.length e1] 37)).alloc (Obj.cells #[Value.bool false, Value.slice none 0 0, Value.bool false, Value.slice none 0 0] 37)).cell? ⟨w.heap.size, 1, none⟩ = some (Value.slice a1 xs1.length c1) := by go_simp
  have ka2 : ((w.alloc (Obj.cells #[Value.bool n1, Value.slice a1 xs1.length c1, Value.bool m1, Value.slice b1 ys1.length e1] 37)).alloc (Obj.cells #[Value.bool false, Value.slice none 0 0, Value.bool false, Value.slice none 0 0] 37)).cell? ⟨w.heap.size, 2, none⟩ = some (Value.bool m1) := by go_simp
  have ka3 : ((w.alloc (Obj.cells #[Value.bool n1, Value.slice a1 xs1.length c1, Value.bool m1, Value.slice b1 ys1.length e1] 37)).alloc (Obj.cells #[Value.bool false, Value.slice none 0 0, Value.bool false, Value.slice none 0 0] 37)).cell? ⟨w.heap.size, 3, none⟩ = some (Value.slice b1 ys1.length e1) := by go_simp
  have kr0 : ((w.alloc (Obj.cells #[Value.bool n1, Value.slice a1 xs1.length c1, Value.bool m1, Value.slice b1 ys1.length e1] 37)).alloc (Obj.cells #[Value.bool false, Value.slice none 0 0, Value.bool false, Value.slice none 0 0] 37)).cell? ⟨w.heap.size + 1, 0, none⟩ = some (Value.bool false) := by go_simp
  have fr0 : ((w.alloc (Obj.cells #[Value.bool n1, Value.slice a1 xs1.length c1, Value.bool m1, Value.slice b1 ys1.length e1] 37)).alloc (Obj.cells #[Value.bool false, Value.slice none 0 0, Value.bool false, Value.slice none 0 0] 37)).frozen? ⟨w.heap.size + 1, 0, none⟩ = false := by go_simp
  have kr1 : ((w.alloc (Obj.cells #[Value.bool n1, Value.slice a1 xs1.length c1, Value.bool m1, Value.slice b1 ys1.length e1] 37)).alloc (Obj.cells #[Value.bool false, Value.slice none 0 0, Value.bool false, Value.slice none 0 0] 37)).cell? ⟨w.heap.size + 1, 1, none⟩ = some (Value.slice none 0 0) := by go_simp
  have fr1 : ((w.alloc (Obj.cells #[Value.bool n1, Value.slice a1 xs1.length c1, Value.bool m1, Value.slice b1 ys1.length e1] 37)).alloc (Obj.cells #[Value.bool false, Value.slice none 0 0, Value.bool false, Value.slice none 0 0] 37)).frozen? ⟨w.heap.size + 1, 1, none⟩ = false := by go_simp
  have kr2 : ((w.alloc (Obj.cells #[Value.bool n1, Value.slice a1 xs1.length c1, Value.bool m1, Value.slice b1 ys1.length e1] 37)).alloc (Obj.cells #[Value.bool false, Value.slice none 0 0, Value.bool false, Value.slice none 0 0] 37)).cell? ⟨w.heap.size + 1, 2, none⟩ = some (Value.bool false) := by go_simp
  have fr2 : ((w.alloc (Obj.cells #[Value.bool n1, Value.slice a1 xs1.length c1, Value.bool m1, Value.slice b1 ys1.length e1] 37)).alloc (Obj.cells #[Value.bool false, Value.slice none 0 0, Value.bool false, Value.slice none 0 0] 37)).frozen? ⟨w.heap.size + 1, 2, none⟩ = false := by go_simp
  have kr3 : ((w.alloc (Obj.cells #[Value.bool n1, Value.slice a1 xs1.length c1, Value.bool m1, Value.slice b1 ys1.length e1] 37)).alloc (Obj.cells #[Value.bool false, Value.slice none 0 0, Value.bool false, Value.slice none 0 0] 37)).cell? ⟨w.heap.size + 1, 3, none⟩ = some (Value.slice none 0 0) := by go_simp
  have fr3 : ((w.alloc (Obj.cells #[Value.bool n1, Value.slice a1 xs1.length c1, Value.bool m1, Value.slice b1 ys1.length e1] 37)).alloc (Obj.cells #[Value.bool false, Value.slice none 0 0, Value.bool false, Value.slice none 0 0] 37)).frozen? ⟨w.heap.size + 1, 3, none⟩ = false := by go_simp
  have zr : w.heap.size + 1 < ((w.alloc (Obj.cells #[Value.bool n1, Value.slice a1 xs1.length c1, Value.bool m1, Value.slice b1 ys1.length e1] 37)).alloc (Obj.cells #[Value.bool false, Value.slice none 0 0, Value.bool false, Value.slice none 0 0] 37)).heap.size := by simp only [World.size_alloc]; omega
  have HB := hide (bl_alloc (bl_alloc (bl_refl w) (Obj.cells #[Value.bool n1, Value.slice a1 xs1.length c1, Value.bool m1, Value.slice b1 ys1.length e1] 37)) (Obj.cells #[Value.bool false, Value.slice none 0 0, Value.bool false, Value.slice none 0 0] 37))
  have S1 := hide (s1.below HB.out)
  have T1 := hide (t1.below HB.out)
  clear s1
  clear t1
  go_enter Try.func36, Try.ntmps36
  go_wp2_with fail
  generalize ((w.alloc (Obj.cells #[Value.bool n1, Value.slice a1 xs1.length c1, Value.bool m1, Value.slice b1 ys1.length e1] 37)).alloc (Obj.cells #[Value.bool false, Value.slice none 0 0, Value.bool false, Value.slice none 0 0] 37)) = w1 at *
  have z0 := zr
  refine (rootP n1 xs1 k a1 c1 _ S1.out hi1 hi2).mono ?_
  rintro e w2 ⟨u1, v1, rfl, ho, hb⟩
  have yw2 := hb.size
  replace ka0 := (hb.cell (p := ⟨w.heap.size, 0, none⟩) (by dsimp only; omega)).trans ka0
  replace ka1 := (hb.cell (p := ⟨w.heap.size, 1, none⟩) (by dsimp only; omega)).trans ka1
  replace ka2 := (hb.cell (p := ⟨w.heap.size, 2, none⟩) (by dsimp only; omega)).trans ka2
  replace ka3 := (hb.cell (p := ⟨w.heap.size, 3, none⟩) (by dsimp only; omega)).trans ka3
  replace kr0 := (hb.cell (p := ⟨w.heap.size + 1, 0, none⟩) (by dsimp only; omega)).trans kr0
  replace fr0 := (hb.frozen (p := ⟨w.heap.size + 1, 0, none⟩) (by dsimp only; omega)).trans fr0
  replace kr1 := (hb.cell (p := ⟨w.heap.size + 1, 1, none⟩) (by dsimp only; omega)).trans kr1
  replace fr1 := (hb.frozen (p := ⟨w.heap.size + 1, 1, none⟩) (by dsimp only; omega)).trans fr1
  replace kr2 := (hb.cell (p := ⟨w.heap.size + 1, 2, none⟩) (by dsimp only; omega)).trans kr2
  replace fr2 := (hb.frozen (p := ⟨w.heap.size + 1, 2, none⟩) (by dsimp only; omega)).trans fr2
  replace kr3 := (hb.cell (p := ⟨w.heap.size + 1, 3, none⟩) (by dsimp only; omega)).trans kr3
  replace fr3 := (hb.frozen (p := ⟨w.heap.size + 1, 3, none⟩) (by dsimp only; omega)).trans fr3
  replace S1 := hide (S1.out.below hb)
  replace T1 := hide (T1.out.below hb)
  replace zr := Nat.lt_of_lt_of_le zr hb.size
  replace HB := hide (bl_trans HB.out hb)
  clear hb
  have O1 := hide ho
  clear ho
  obtain ⟨Px, hPx⟩ : ∃ P, rtZ n1 xs1 k = P := ⟨_, rfl⟩
  rw [hPx] at O1 ⊢
  have HPx := hide hPx
  clear hPx
  have yw3 : w2.heap.size + 1 ≤ (w2.alloc (Obj.cells #[Value.bool (sgn Px), Value.slice u1 (lms Px).length v1] 26)).heap.size := by simp only [World.size_alloc]; omega
  have kp0 : (w2.alloc (Obj.cells #[Value.bool (sgn Px), Value.slice u1 (lms Px).length v1] 26)).cell? ⟨w2.heap.size, 0, none⟩ = some (Value.bool (sgn Px)) := by go_simp
  have kp1 : (w2.alloc (Obj.cells #[Value.bool (sgn Px), Value.slice u1 (lms Px).length v1] 26)).cell? ⟨w2.heap.size, 1, none⟩ = some (Value.slice u1 (lms Px).length v1) := by go_simp
  have hbn := (bl_alloc (bl_refl w2) (Obj.cells #[Value.bool (sgn Px), Value.slice u1 (lms Px).length v1] 26))
  replace ka0 := (hbn.cell (p := ⟨w.heap.size, 0, none⟩) (by dsimp only; omega)).trans ka0
  replace ka1 := (hbn.cell (p := ⟨w.heap.size, 1, none⟩) (by dsimp only; omega)).trans ka1
  replace ka2 := (hbn.cell (p := ⟨w.heap.size, 2, none⟩) (by dsimp only; omega)).trans ka2
  replace ka3 := (hbn.cell (p := ⟨w.heap.size, 3, none⟩) (by dsimp only; omega)).trans ka3
  replace kr0 := (hbn.cell (p := ⟨w.heap.size + 1, 0, none⟩) (by dsimp only; omega)).trans kr0
  replace fr0 := (hbn.frozen (p := ⟨w.heap.size + 1, 0, none⟩) (by dsimp only; omega)).trans fr0
  replace kr1 := (hbn.cell (p := ⟨w.heap.size + 1, 1, none⟩) (by dsimp only; omega)).trans kr1
  replace fr1 := (hbn.frozen (p := ⟨w.heap.size + 1, 1, none⟩) (by dsimp only; omega)).trans fr1
  replace kr2 := (hbn.cell (p := ⟨w.heap.size + 1, 2, none⟩) (by dsimp only; omega)).trans kr2
  replace fr2 := (hbn.frozen (p := ⟨w.heap.size + 1, 2, none⟩) (by dsimp only; omega)).trans fr2
  replace kr3 := (hbn.cell (p := ⟨w.heap.size + 1, 3, none⟩) (by dsimp only; omega)).trans kr3
  replace fr3 := (hbn.frozen (p := ⟨w.heap.size + 1, 3, none⟩) (by dsimp only; omega)).trans fr3
  replace S1 := hide (S1.out.below hbn)
  replace T1 := hide (T1.out.below hbn)
  replace O1 := hide (O1.out.below hbn)
  replace zr := Nat.lt_of_lt_of_le zr hbn.size
  replace HB := hide (bl_trans HB.out hbn)
  clear hbn
  go_wp2_with fail
  generalize (w2.alloc (Obj.cells #[Value.bool (sgn Px), Value.slice u1 (lms Px).length v1] 26)) = w3 at *
  have OS := O1
  refine (rootP m1 ys1 k b1 e1 _ T1.out hi1 hi2).mono ?_
  rintro e w4 ⟨u2, v2, rfl, ho, hb⟩
  have yw4 := hb.size
  replace ka0 := (hb.cell (p := ⟨w.heap.size, 0, none⟩) (by dsimp only; omega)).trans ka0
  replace ka1 := (hb.cell (p := ⟨w.heap.size, 1, none⟩) (by dsimp only; omega)).trans ka1
  replace ka2 := (hb.cell (p := ⟨w.heap.size, 2, none⟩) (by dsimp only; omega)).trans ka2
  replace ka3 := (hb.cell (p := ⟨w.heap.size, 3, none⟩) (by dsimp only; omega)).trans ka3
  replace kr0 := (hb.cell (p := ⟨w.heap.size + 1, 0, none⟩) (by dsimp only; omega)).trans kr0
  replace fr0 := (hb.frozen (p := ⟨w.heap.size + 1, 0, none⟩) (by dsimp only; omega)).trans fr0
  replace kr1 := (hb.cell (p := ⟨w.heap.size + 1, 1, none⟩) (by dsimp only; omega)).trans kr1
  replace fr1 := (hb.frozen (p := ⟨w.heap.size + 1, 1, none⟩) (by dsimp only; omega)).trans fr1
  replace kr2 := (hb.cell (p := ⟨w.heap.size + 1, 2, none⟩) (by dsimp only; omega)).trans kr2
  replace fr2 := (hb.frozen (p := ⟨w.heap.size + 1, 2, none⟩) (by dsimp only; omega)).trans fr2
  replace kr3 := (hb.cell (p := ⟨w.heap.size + 1, 3, none⟩) (by dsimp only; omega)).trans kr3
  replace fr3 := (hb.frozen (p := ⟨w.heap.size + 1, 3, none⟩) (by dsimp only; omega)).trans fr3
  replace kp0 := (hb.cell (p := ⟨w2.heap.size, 0, none⟩) (by dsimp only; omega)).trans kp0
  replace kp1 := (hb.cell (p := ⟨w2.heap.size, 1, none⟩) (by dsimp only; omega)).trans kp1
  replace S1 := hide (S1.out.below hb)
  replace T1 := hide (T1.out.below hb)
  replace O1 := hide (O1.out.below hb)
  replace zr := Nat.lt_of_lt_of_le zr hb.size
  replace HB := hide (bl_trans HB.out hb)
  clear hb
  have O2 := hide ho
  have HAP := hide (apart_two OS.out ho)
  clear OS
  clear ho
  obtain ⟨Py, hPy⟩ : ∃ P, rtZ m1 ys1 k = P := ⟨_, rfl⟩
  rw [hPy] at O2 ⊢
  have HPy := hide hPy
  clear hPy
  cases g1 : rtE n1 xs1 k with
  | false =>
    have yw5 : w4.heap.size + 1 ≤ (w4.alloc (Obj.cells #[Value.bool (sgn Py), Value.slice u2 (lms Py).length v2] 26)).heap.size := by simp only [World.size_alloc]; omega
    have kq0 : (w4.alloc (Obj.cells #[Value.bool (sgn Py), Value.slice u2 (lms Py).length v2] 26)).cell? ⟨w4.heap.size, 0, none⟩ = some (Value.bool (sgn Py)) := by go_simp
    have kq1 : (w4.alloc (Obj.cells #[Value.bool (sgn Py), Value.slice u2 (lms Py).length v2] 26)).cell? ⟨w4.heap.size, 1, none⟩ = some (Value.slice u2 (lms Py).length v2) := by go_simp
    have hbn := (bl_alloc (bl_refl w4) (Obj.cells #[Value.bool (sgn Py), Value.slice u2 (lms Py).length v2] 26))
    replace ka0 := (hbn.cell (p := ⟨w.heap.size, 0, none⟩) (by dsimp only; omega)).trans ka0
    replace ka1 := (hbn.cell (p := ⟨w.heap.size, 1, none⟩) (by dsimp only; omega)).trans ka1
    replace ka2 := (hbn.cell (p := ⟨w.heap.size, 2, none⟩) (by dsimp only; omega)).trans ka2
    replace ka3 := (hbn.cell (p := ⟨w.heap.size, 3, none⟩) (by dsimp only; omega)).trans ka3
    replace kr0 := (hbn.cell (p := ⟨w.heap.size + 1, 0, none⟩) (by dsimp only; omega)).trans kr0
    replace fr0 := (hbn.frozen (p := ⟨w.heap.size + 1, 0, none⟩) (by dsimp only; omega)).trans fr0
    replace kr1 := (hbn.cell (p := ⟨w.heap.size + 1, 1, none⟩) (by dsimp only; omega)).trans kr1
    replace fr1 := (hbn.frozen (p := ⟨w.heap.size + 1, 1, none⟩) (by dsimp only; omega)).trans fr1
    replace kr2 := (hbn.cell (p := ⟨w.heap.size + 1, 2, none⟩) (by dsimp only; omega)).trans kr2
    replace fr2 := (hbn.frozen (p := ⟨w.heap.size + 1, 2, none⟩) (by dsimp only; omega)).trans fr2
    replace kr3 := (hbn.cell (p := ⟨w.heap.size + 1, 3, none⟩) (by dsimp only; omega)).trans kr3
    replace fr3 := (hbn.frozen (p := ⟨w.heap.size + 1, 3, none⟩) (by dsimp only; omega)).trans fr3
    replace kp0 := (hbn.cell (p := ⟨w2.heap.size, 0, none⟩) (by dsimp only; omega)).trans kp0
    replace kp1 := (hbn.cell (p := ⟨w2.heap.size, 1, none⟩) (by dsimp only; omega)).trans kp1
    replace S1 := hide (S1.out.below hbn)
    replace T1 := hide (T1.out.below hbn)
    replace O1 := hide (O1.out.below hbn)
    replace O2 := hide (O2.out.below hbn)
    replace zr := Nat.lt_of_lt_of_le zr hbn.size
    replace HB := hide (bl_trans HB.out hbn)
    clear hbn
    go_wp2
    generalize (w4.alloc (Obj.cells #[Value.bool (sgn Py), Value.slice u2 (lms Py).length v2] 26)) = w5 at *
    all_goals refine bodyPost_ret (v := (.tuple #[.agg #[.bool false, .slice none 0 0, .bool false, .slice none 0 0], .bool false])) (by simp [results, Try.results36, go_sem, kr0, kr1, kr2, kr3]) rfl ?_
    all_goals exact rr_none (by first | exact HB.out | exact set_four (N := w.heap.size + 1) (by omega) HB.out _ _ _ _)
  | true =>
    cases g2 : rtE m1 ys1 k with
    | false =>
      have yw5 : w4.heap.size + 1 ≤ (w4.alloc (Obj.cells #[Value.bool (sgn Py), Value.slice u2 (lms Py).length v2] 26)).heap.size := by simp only [World.size_alloc]; omega
      have kq0 : (w4.alloc (Obj.cells #[Value.bool (sgn Py), Value.slice u2 (lms Py).length v2] 26)).cell? ⟨w4.heap.size, 0, none⟩ = some (Value.bool (sgn Py)) := by go_simp
      have kq1 : (w4.alloc (Obj.cells #[Value.bool (sgn Py), Value.slice u2 (lms Py).length v2] 26)).cell? ⟨w4.heap.size, 1, none⟩ = some (Value.slice u2 (lms Py).length v2) := by go_simp
      have hbn := (bl_alloc (bl_refl w4) (Obj.cells #[Value.bool (sgn Py), Value.slice u2 (lms Py).length v2] 26))
      replace ka0 := (hbn.cell (p := ⟨w.heap.size, 0, none⟩) (by dsimp only; omega)).trans ka0
      replace ka1 := (hbn.cell (p := ⟨w.heap.size, 1, none⟩) (by dsimp only; omega)).trans ka1
      replace ka2 := (hbn.cell (p := ⟨w.heap.size, 2, none⟩) (by dsimp only; omega)).trans ka2
      replace ka3 := (hbn.cell (p := ⟨w.heap.size, 3, none⟩) (by dsimp only; omega)).trans ka3
      replace kr0 := (hbn.cell (p := ⟨w.heap.size + 1, 0, none⟩) (by dsimp only; omega)).trans kr0
      replace fr0 := (hbn.frozen (p := ⟨w.heap.size + 1, 0, none⟩) (by dsimp only; omega)).trans fr0
      replace kr1 := (hbn.cell (p := ⟨w.heap.size + 1, 1, none⟩) (by dsimp only; omega)).trans kr1
      replace fr1 := (hbn.frozen (p := ⟨w.heap.size + 1, 1, none⟩) (by dsimp only; omega)).trans fr1
      replace kr2 := (hbn.cell (p := ⟨w.heap.size + 1, 2, none⟩) (by dsimp only; omega)).trans kr2
      replace fr2 := (hbn.frozen (p := ⟨w.heap.size + 1, 2, none⟩) (by dsimp only; omega)).trans fr2
      replace kr3 := (hbn.cell (p := ⟨w.heap.size + 1, 3, none⟩) (by dsimp only; omega)).trans kr3
      replace fr3 := (hbn.frozen (p := ⟨w.heap.size + 1, 3, none⟩) (by dsimp only; omega)).trans fr3
      replace kp0 := (hbn.cell (p := ⟨w2.heap.size, 0, none⟩) (by dsimp only; omega)).trans kp0
      replace kp1 := (hbn.cell (p := ⟨w2.heap.size, 1, none⟩) (by dsimp only; omega)).trans kp1
      replace S1 := hide (S1.out.below hbn)
      replace T1 := hide (T1.out.below hbn)
      replace O1 := hide (O1.out.below hbn)
      replace O2 := hide (O2.out.below hbn)
      replace zr := Nat.lt_of_lt_of_le zr hbn.size
      replace HB := hide (bl_trans HB.out hbn)
      clear hbn
      go_wp2
      generalize (w4.alloc (Obj.cells #[Value.bool (sgn Py), Value.slice u2 (lms Py).length v2] 26)) = w5 at *
      all_goals refine bodyPost_ret (v := (.tuple #[.agg #[.bool false, .slice none 0 0, .bool false, .slice none 0 0], .bool false])) (by simp [results, Try.results36, go_sem, kr0, kr1, kr2, kr3]) rfl ?_
      all_goals exact rr_none (by first | exact HB.out | exact set_four (N := w.heap.size + 1) (by omega) HB.out _ _ _ _)
    | true =>
      have yw5 : w4.heap.size + 1 ≤ (w4.alloc (Obj.cells #[Value.bool (sgn Py), Value.slice u2 (lms Py).length v2] 26)).heap.size := by simp only [World.size_alloc]; omega
      have kq0 : (w4.alloc (Obj.cells #[Value.bool (sgn Py), Value.slice u2 (lms Py).length v2] 26)).cell? ⟨w4.heap.size, 0, none⟩ = some (Value.bool (sgn Py)) := by go_simp
      have kq1 : (w4.alloc (Obj.cells #[Value.bool (sgn Py), Value.slice u2 (lms Py).length v2] 26)).cell? ⟨w4.heap.size, 1, none⟩ = some (Value.slice u2 (lms Py).length v2) := by go_simp
      have hbn := (bl_alloc (bl_refl w4) (Obj.cells #[Value.bool (sgn Py), Value.slice u2 (lms Py).length v2] 26))
      replace ka0 := (hbn.cell (p := ⟨w.heap.size, 0, none⟩) (by dsimp only; omega)).trans ka0
      replace ka1 := (hbn.cell (p := ⟨w.heap.size, 1, none⟩) (by dsimp only; omega)).trans ka1
      replace ka2 := (hbn.cell (p := ⟨w.heap.size, 2, none⟩) (by dsimp only; omega)).trans ka2
      replace ka3 := (hbn.cell (p := ⟨w.heap.size, 3, none⟩) (by dsimp only; omega)).trans ka3
      replace kr0 := (hbn.cell (p := ⟨w.heap.size + 1, 0, none⟩) (by dsimp only; omega)).trans kr0
      replace fr0 := (hbn.frozen (p := ⟨w.heap.size + 1, 0, none⟩) (by dsimp only; omega)).trans fr0
      replace kr1 := (hbn.cell (p := ⟨w.heap.size + 1, 1, none⟩) (by dsimp only; omega)).trans kr1
      replace fr1 := (hbn.frozen (p := ⟨w.heap.size + 1, 1, none⟩) (by dsimp only; omega)).trans fr1
      replace kr2 := (hbn.cell (p := ⟨w.heap.size + 1, 2, none⟩) (by dsimp only; omega)).trans kr2
      replace fr2 := (hbn.frozen (p := ⟨w.heap.size + 1, 2, none⟩) (by dsimp only; omega)).trans fr2
      replace kr3 := (hbn.cell (p := ⟨w.heap.size + 1, 3, none⟩) (by dsimp only; omega)).trans kr3
      replace fr3 := (hbn.frozen (p := ⟨w.heap.size + 1, 3, none⟩) (by dsimp only; omega)).trans fr3
      replace kp0 := (hbn.cell (p := ⟨w2.heap.size, 0, none⟩) (by dsimp only; omega)).trans kp0
      replace kp1 := (hbn.cell (p := ⟨w2.heap.size, 1, none⟩) (by dsimp only; omega)).trans kp1
      replace S1 := hide (S1.out.below hbn)
      replace T1 := hide (T1.out.below hbn)
      replace O1 := hide (O1.out.below hbn)
      replace O2 := hide (O2.out.below hbn)
      replace zr := Nat.lt_of_lt_of_le zr hbn.size
      replace HB := hide (bl_trans HB.out hbn)
      clear hbn
      go_wp2
      generalize (w4.alloc (Obj.cells #[Value.bool (sgn Py), Value.slice u2 (lms Py).length v2] 26)) = w5 at *
      all_goals refine bodyPost_ret (v := (.tuple #[Value.agg #[Value.bool (sgn Px), Value.slice u1 (lms Px).length v1, Value.bool (sgn Py), Value.slice u2 (lms Py).length v2], .bool true])) (by simp [results, Try.results36, go_sem, kr0, kr1, kr2, kr3]) rfl ?_
      all_goals first | rw [HPx.out, HPy.out] | (simp only [Bool.and_self, if_true]; rw [HPx.out, HPy.out])
      all_goals exact ⟨u1, v1, u2, v2, rfl, (fin_four (N := w.heap.size + 1) O1.out O2.out (by omega) (by omega) (by omega) HB.out _ _ _ _).1, (fin_four (N := w.heap.size + 1) O1.out O2.out (by omega) (by omega) (by omega) HB.out _ _ _ _).2.1, HAP.out, (fin_four (N := w.heap.size + 1) O1.out O2.out (by omega) (by omega) (by omega) HB.out _ _ _ _).2.2⟩

set_option maxHeartbeats 4000000 in
set_option maxRecDepth 20000 in
theorem ratRootP (n1 : Bool) (xs1 : List Nat) (m1 : Bool) (ys1 : List Nat) (k : Int) (a1 : Option Addr) (c1 : Nat) (b1 : Option Addr) (e1 : Nat) (w : World) (s1 : Seg w a1 xs1.length c1 xs1) (t1 : Seg w b1 ys1.length e1 ys1) (hi1 : -9223372036854775808 ≤ k) (hi2 : k ≤ 9223372036854775807) :
    Calls Try.prog 15 #[Value.agg #[Value.bool n1, Value.slice a1 xs1.length c1, Value.bool m1, Value.slice b1 ys1.length e1], .int .i64 k] w fun e w' => RrAns (rrB n1 xs1 m1 ys1 k) (rrN n1 xs1 m1 ys1 k) (rrD n1 xs1 m1 ys1 k) w w' e := by
  have ka0 : ((w.alloc (Obj.cells #[Value.bool n1, Value.slice a1 xs1.length c1, Value.bool m1, Value.slice b1 ys1.length e1] 37)).alloc (Obj.cells #[Value.bool false, Value.slice none 0 0, Value.bool false, Value.slice none 0 0] 37)).cell? ⟨w.heap.size, 0, none⟩ = some (Value.bool n1) := by go_simp
  have ka1 : ((w.alloc (Obj.cells #[Value.bool n1, Value.slice a1 xs1.length c1, Value.bool m1, Value.slice b1 ys1.length e1] 37)).alloc (Obj.cells #[Value.bool false, Value.slice none 0 0, Value.bool false, Value.slice none 0 0] 37)).cell? ⟨w.heap.size, 1, none⟩ = some (Value.slice a1 xs1.length c1) := by go_simp
  have ka2 : ((w.alloc (Obj.cells #[Value.bool n1, Value.slice a1 xs1.length c1, Value.bool m1, Value.slice b1 ys1.length e1] 37)).alloc (Obj.cells #[Value.bool false, Value.slice none 0 0, Value.bool false, Value.slice none 0 0] 37)).cell? ⟨w.heap.size, 2, none⟩ = some (Value.bool m1) := by go_simp
  have ka3 : ((w.alloc (Obj.cells #[Value.bool n1, Value.slice a1 xs1.length c1, Value.bool m1, Value.slice b1 ys1.length e1] 37)).alloc (Obj.cells #[Value.bool false, Value.slice none 0 0, Value.bool false, Value.slice none 0 0] 37)).cell? ⟨w.heap.size, 3, none⟩ = some (Value.slice b1 ys1.length e1) := by go_simp
  have kr0 : ((w.alloc (Obj.cells #[Value.bool n1, Value.slice a1 xs1.length c1, Value.bool m1, Value.slice b1 ys1.length e1] 37)).alloc (Obj.cells #[Value.bool false, Value.slice none 0 0, Value.bool false, Value.slice none 0 0] 37)).cell? ⟨w.heap.size + 1, 0, none⟩ = some (Value.bool false) := by go_simp
  have fr0 : ((w.alloc (Obj.cells #[Value.bool n1, Value.slice a1 xs1.length c1, Value.bool m1, Value.slice b1 ys1.length e1] 37)).alloc (Obj.cells #[Value.bool false, Value.slice none 0 0, Value.bool false, Value.slice none 0 0] 37)).frozen? ⟨w.heap.size + 1, 0, none⟩ = false := by go_simp
  have kr1 : ((w.alloc (Obj.cells #[Value.bool n1, Value.slice a1 xs1.length c1, Value.bool m1, Value.slice b1 ys1.length e1] 37)).alloc (Obj.cells #[Value.bool false, Value.slice none 0 0, Value.bool false, Value.slice none 0 0] 37)).cell? ⟨w.heap.size + 1, 1, none⟩ = some (Value.slice none 0 0) := by go_simp
  have fr1 : ((w.alloc (Obj.cells #[Value.bool n1, Value.slice a1 xs1.length c1, Value.bool m1, Value.slice b1 ys1.length e1] 37)).alloc (Obj.cells #[Value.bool false, Value.slice none 0 0, Value.bool false, Value.slice none 0 0] 37)).frozen? ⟨w.heap.size + 1, 1, none⟩ = false := by go_simp
  have kr2 : ((w.alloc (Obj.cells #[Value.bool n1, Value.slice a1 xs1.length c1, Value.bool m1, Value.slice b1 ys1.length e1] 37)).alloc (Obj.cells #[Value.bool false, Value.slice none 0 0, Value.bool false, Value.slice none 0 0] 37)).cell? ⟨w.heap.size + 1, 2, none⟩ = some (Value.bool false) := by go_simp
  have fr2 : ((w.alloc (Obj.cells #[Value.bool n1, Value.slice a1 xs1.length c1, Value.bool m1, Value.slice b1 ys1.length e1] 37)).alloc (Obj.cells #[Value.bool false, Value.slice none 0 0, Value.bool false, Value.slice none 0 0] 37)).frozen? ⟨w.heap.size + 1, 2, none⟩ = false := by go_simp
  have kr3 : ((w.alloc (Obj.cells #[Value.bool n1, Value.slice a1 xs1.length c1, Value.bool m1, Value.slice b1 ys1.length e1] 37)).alloc (Obj.cells #[Value.bool false, Value.slice none 0 0, Value.bool false, Value.slice none 0 0] 37)).cell? ⟨w.heap.size + 1, 3, none⟩ = some (Value.slice none 0 0) := by go_simp
  have fr3 : ((w.alloc (Obj.cells #[Value.bool n1, Value.slice a1 xs1.length c1, Value.bool m1, Value.slice b1 ys1.length e1] 37)).alloc (Obj.cells #[Value.bool false, Value.slice none 0 0, Value.bool false, Value.slice none 0 0] 37)).frozen? ⟨w.heap.size + 1, 3, none⟩ = false := by go_simp
  have zr : w.heap.size + 1 < ((w.alloc (Obj.cells #[Value.bool n1, Value.slice a1 xs1.length c1, Value.bool m1, Value.slice b1 ys1.length e1] 37)).alloc (Obj.cells #[Value.bool false, Value.slice none 0 0, Value.bool false, Value.slice none 0 0] 37)).heap.size := by simp only [World.size_alloc]; omega
  have HB := hide (bl_alloc (bl_alloc (bl_refl w) (Obj.cells #[Value.bool n1, Value.slice a1 xs1.length c1, Value.bool m1, Value.slice b1 ys1.length e1] 37)) (Obj.cells #[Value.bool false, Value.slice none 0 0, Value.bool false, Value.slice none 0 0] 37))
  have S1 := hide (s1.below HB.out)
  have T1 := hide (t1.below HB.out)
  clear s1
  clear t1
  go_enter Try.func15, Try.ntmps15
  go_wp2_with fail
  generalize ((w.alloc (Obj.cells #[Value.bool n1, Value.slice a1 xs1.length c1, Value.bool m1, Value.slice b1 ys1.length e1] 37)).alloc (Obj.cells #[Value.bool false, Value.slice none 0 0, Value.bool false, Value.slice none 0 0] 37)) = w1 at *
  have z0 := zr
  refine (rightI n1 xs1 m1 ys1 a1 c1 b1 e1 _ S1.out T1.out).mono ?_
  rintro e w2 ⟨rfl, hb⟩
  have yw2 := hb.size
  replace ka0 := (hb.cell (p := ⟨w.heap.size, 0, none⟩) (by dsimp only; omega)).trans ka0
  replace ka1 := (hb.cell (p := ⟨w.heap.size, 1, none⟩) (by dsimp only; omega)).trans ka1
  replace ka2 := (hb.cell (p := ⟨w.heap.size, 2, none⟩) (by dsimp only; omega)).trans ka2
  replace ka3 := (hb.cell (p := ⟨w.heap.size, 3, none⟩) (by dsimp only; omega)).trans ka3
  replace kr0 := (hb.cell (p := ⟨w.heap.size + 1, 0, none⟩) (by dsimp only; omega)).trans kr0
  replace fr0 := (hb.frozen (p := ⟨w.heap.size + 1, 0, none⟩) (by dsimp only; omega)).trans fr0
  replace kr1 := (hb.cell (p := ⟨w.heap.size + 1, 1, none⟩) (by dsimp only; omega)).trans kr1
  replace fr1 := (hb.frozen (p := ⟨w.heap.size + 1, 1, none⟩) (by dsimp only; omega)).trans fr1
  replace kr2 := (hb.cell (p := ⟨w.heap.size + 1, 2, none⟩) (by dsimp only; omega)).trans kr2
  replace fr2 := (hb.frozen (p := ⟨w.heap.size + 1, 2, none⟩) (by dsimp only; omega)).trans fr2
  replace kr3 := (hb.cell (p := ⟨w.heap.size + 1, 3, none⟩) (by dsimp only; omega)).trans kr3
  replace fr3 := (hb.frozen (p := ⟨w.heap.size + 1, 3, none⟩) (by dsimp only; omega)).trans fr3
  replace S1 := hide (S1.out.below hb)
  replace T1 := hide (T1.out.below hb)
  replace zr := Nat.lt_of_lt_of_le zr hb.size
  replace HB := hide (bl_trans HB.out hb)
  clear hb
  cases h1 : ratB n1 xs1 m1 ys1 with
  | false =>
    have HE : rrB n1 xs1 m1 ys1 k = false := by unfold rrB; rw [h1]; first | rfl | simp
    obtain ⟨q1, q2⟩ := rr_f HE
    have HE1 := hide HE
    have HQ1 := hide q1
    have HQ2 := hide q2
    clear HE q1 q2
    go_wp2
    all_goals refine bodyPost_ret (v := (.tuple #[.agg #[.bool false, .slice none 0 0, .bool false, .slice none 0 0], .bool false])) (by simp [results, Try.results15, go_sem, kr0, kr1, kr2, kr3]) rfl ?_
    all_goals rw [HE1.out, HQ1.out, HQ2.out]
    all_goals exact rr_none (by first | exact HB.out | exact set_four (N := w.heap.size + 1) (by omega) HB.out _ _ _ _)
  | true =>
    go_wp2_with fail
    refine (noughtI _ n1 xs1 _ ⟨a1, c1, rfl, S1.out⟩).mono ?_
    rintro e w3 ⟨rfl, hb⟩
    have yw3 := hb.size
    replace ka0 := (hb.cell (p := ⟨w.heap.size, 0, none⟩) (by dsimp only; omega)).trans ka0
    replace ka1 := (hb.cell (p := ⟨w.heap.size, 1, none⟩) (by dsimp only; omega)).trans ka1
    replace ka2 := (hb.cell (p := ⟨w.heap.size, 2, none⟩) (by dsimp only; omega)).trans ka2
    replace ka3 := (hb.cell (p := ⟨w.heap.size, 3, none⟩) (by dsimp only; omega)).trans ka3
    replace kr0 := (hb.cell (p := ⟨w.heap.size + 1, 0, none⟩) (by dsimp only; omega)).trans kr0
    replace fr0 := (hb.frozen (p := ⟨w.heap.size + 1, 0, none⟩) (by dsimp only; omega)).trans fr0
    replace kr1 := (hb.cell (p := ⟨w.heap.size + 1, 1, none⟩) (by dsimp only; omega)).trans kr1
    replace fr1 := (hb.frozen (p := ⟨w.heap.size + 1, 1, none⟩) (by dsimp only; omega)).trans fr1
    replace kr2 := (hb.cell (p := ⟨w.heap.size + 1, 2, none⟩) (by dsimp only; omega)).trans kr2
    replace fr2 := (hb.frozen (p := ⟨w.heap.size + 1, 2, none⟩) (by dsimp only; omega)).trans fr2
    replace kr3 := (hb.cell (p := ⟨w.heap.size + 1, 3, none⟩) (by dsimp only; omega)).trans kr3
    replace fr3 := (hb.frozen (p := ⟨w.heap.size + 1, 3, none⟩) (by dsimp only; omega)).trans fr3
    replace S1 := hide (S1.out.below hb)
    replace T1 := hide (T1.out.below hb)
    replace zr := Nat.lt_of_lt_of_le zr hb.size
    replace HB := hide (bl_trans HB.out hb)
    clear hb
    by_cases h0 : xs1.length = 0
    · have h0' : decide (xs1.length ≠ 0) = false := decide_eq_false (fun h => h h0)
      rw [decide_eq_true h0]
      have HE : rrB n1 xs1 m1 ys1 k = false := by unfold rrB; rw [h1, h0']; first | rfl | simp
      obtain ⟨q1, q2⟩ := rr_f HE
      have HE1 := hide HE
      have HQ1 := hide q1
      have HQ2 := hide q2
      clear HE q1 q2
      go_wp2
      all_goals refine bodyPost_ret (v := (.tuple #[.agg #[.bool false, .slice none 0 0, .bool false, .slice none 0 0], .bool false])) (by simp [results, Try.results15, go_sem, kr0, kr1, kr2, kr3]) rfl ?_
      all_goals rw [HE1.out, HQ1.out, HQ2.out]
      all_goals exact rr_none (by first | exact HB.out | exact set_four (N := w.heap.size + 1) (by omega) HB.out _ _ _ _)
    · have h0' : decide (xs1.length ≠ 0) = true := decide_eq_true h0
      rw [decide_eq_false h0]
      go_wp2_with fail
      have hE : rrB n1 xs1 m1 ys1 k = (rtE n1 xs1 k && rtE m1 ys1 k) := by unfold rrB; rw [h1, h0']; simp
      have HEE := hide hE
      clear hE
      refine (eachR n1 xs1 m1 ys1 k a1 c1 b1 e1 _ S1.out T1.out hi1 hi2).mono ?_
      rintro e w4 ⟨u1, v1, u2, v2, rfl, ho1, ho2, hap, hb⟩
      have yw4 := hb.size
      replace ka0 := (hb.cell (p := ⟨w.heap.size, 0, none⟩) (by dsimp only; omega)).trans ka0
      replace ka1 := (hb.cell (p := ⟨w.heap.size, 1, none⟩) (by dsimp only; omega)).trans ka1
      replace ka2 := (hb.cell (p := ⟨w.heap.size, 2, none⟩) (by dsimp only; omega)).trans ka2
      replace ka3 := (hb.cell (p := ⟨w.heap.size, 3, none⟩) (by dsimp only; omega)).trans ka3
      replace kr0 := (hb.cell (p := ⟨w.heap.size + 1, 0, none⟩) (by dsimp only; omega)).trans kr0
      replace fr0 := (hb.frozen (p := ⟨w.heap.size + 1, 0, none⟩) (by dsimp only; omega)).trans fr0
      replace kr1 := (hb.cell (p := ⟨w.heap.size + 1, 1, none⟩) (by dsimp only; omega)).trans kr1
      replace fr1 := (hb.frozen (p := ⟨w.heap.size + 1, 1, none⟩) (by dsimp only; omega)).trans fr1
      replace kr2 := (hb.cell (p := ⟨w.heap.size + 1, 2, none⟩) (by dsimp only; omega)).trans kr2
      replace fr2 := (hb.frozen (p := ⟨w.heap.size + 1, 2, none⟩) (by dsimp only; omega)).trans fr2
      replace kr3 := (hb.cell (p := ⟨w.heap.size + 1, 3, none⟩) (by dsimp only; omega)).trans kr3
      replace fr3 := (hb.frozen (p := ⟨w.heap.size + 1, 3, none⟩) (by dsimp only; omega)).trans fr3
      replace S1 := hide (S1.out.below hb)
      replace T1 := hide (T1.out.below hb)
      replace zr := Nat.lt_of_lt_of_le zr hb.size
      replace HB := hide (bl_trans HB.out hb)
      clear hb
      have O1 := hide ho1
      have O2 := hide ho2
      have HAP := hide hap
      clear ho1 ho2 hap
      have hN : rrN n1 xs1 m1 ys1 k = (if (rtE n1 xs1 k && rtE m1 ys1 k) = true then rtZ n1 xs1 k else 0) := by unfold rrN; rw [HEE.out]
      have hD : rrD n1 xs1 m1 ys1 k = (if (rtE n1 xs1 k && rtE m1 ys1 k) = true then rtZ m1 ys1 k else 0) := by unfold rrD; rw [HEE.out]
      have HN := hide hN
      have HD := hide hD
      clear hN hD
      obtain ⟨PP, hPP⟩ : ∃ P, (if (rtE n1 xs1 k && rtE m1 ys1 k) = true then rtZ n1 xs1 k else 0) = P := ⟨_, rfl⟩
      obtain ⟨QQ, hQQ⟩ : ∃ P, (if (rtE n1 xs1 k && rtE m1 ys1 k) = true then rtZ m1 ys1 k else 0) = P := ⟨_, rfl⟩
      obtain ⟨TT, hTT⟩ : ∃ P, (rtE n1 xs1 k && rtE m1 ys1 k) = P := ⟨_, rfl⟩
      rw [hPP] at O1 HN ⊢
      rw [hQQ] at O2 HD ⊢
      rw [hTT] at HEE ⊢
      clear hPP hQQ hTT
      go_wp2
      all_goals refine bodyPost_ret (v := (.tuple #[Value.agg #[Value.bool (sgn PP), Value.slice u1 (lms PP).length v1, Value.bool (sgn QQ), Value.slice u2 (lms QQ).length v2], .bool TT])) (by simp [results, Try.results15, go_sem, kr0, kr1, kr2, kr3]) rfl ?_
      obtain ⟨h1, h2, h3⟩ := fin_four (N := w.heap.size + 1) O1.out O2.out (by omega) (by omega) (by omega) HB.out (Value.bool (sgn PP)) (Value.slice u1 (lms PP).length v1) (Value.bool (sgn QQ)) (Value.slice u2 (lms QQ).length v2)
      rw [HEE.out, HN.out, HD.out]
      exact ⟨u1, v1, u2, v2, rfl, h1, h2, HAP.out, h3⟩

set_option maxHeartbeats 4000000 in
set_option maxRecDepth 20000 in
theorem ratRootQ (n1 : Bool) (xs1 : List Nat) (m1 : Bool) (ys1 : List Nat) (k : Int) (a1 : Option Addr) (c1 : Nat) (b1 : Option Addr) (e1 : Nat) (w : World) (s1 : Seg w a1 xs1.length c1 xs1) (t1 : Seg w b1 ys1.length e1 ys1) (hi1 : -9223372036854775808 ≤ k) (hi2 : k ≤ 9223372036854775807) :
    Calls Try.prog 13 #[Value.agg #[Value.bool n1, Value.slice a1 xs1.length c1, Value.bool m1, Value.slice b1 ys1.length e1], .int .i64 k] w fun e w' => RrAns (rrB n1 xs1 m1 ys1 k) (rrN n1 xs1 m1 ys1 k) (rrD n1 xs1 m1 ys1 k) w w' e := by
  have ka0 : ((w.alloc (Obj.cells #[Value.bool n1, Value.slice a1 xs1.length c1, Value.bool m1, Value.slice b1 ys1.length e1] 37)).alloc (Obj.cells #[Value.bool false, Value.slice none 0 0, Value.bool false, Value.slice none 0 0] 37)).cell? ⟨w.heap.size, 0, none⟩ = some (Value.bool n1) := by go_simp
  have ka1 : ((w.alloc (Obj.cells #[Value.bool n1, Value.slice a1 xs1.length c1, Value.bool m1, Value.slice b1 ys1.length e1] 37)).alloc (Obj.cells #[Value.bool false, Value.slice none 0 0, Value.bool false, Value.slice none 0 0] 37)).cell? ⟨w.heap.size, 1, none⟩ = some (Value.slice a1 xs1.length c1) := by go_simp
  have ka2 : ((w.alloc (Obj.cells #[Value.bool n1, Value.slice a1 xs1.length c1, Value.bool m1, Value.slice b1 ys1.length e1] 37)).alloc (Obj.cells #[Value.bool false, Value.slice none 0 0, Value.bool false, Value.slice none 0 0] 37)).cell? ⟨w.heap.size, 2, none⟩ = some (Value.bool m1) := by go_simp
  have ka3 : ((w.alloc (Obj.cells #[Value.bool n1, Value.slice a1 xs1.length c1, Value.bool m1, Value.slice b1 ys1.length e1] 37)).alloc (Obj.cells #[Value.bool false, Value.slice none 0 0, Value.bool false, Value.slice none 0 0] 37)).cell? ⟨w.heap.size, 3, none⟩ = some (Value.slice b1 ys1.length e1) := by go_simp
  have kr0 : ((w.alloc (Obj.cells #[Value.bool n1, Value.slice a1 xs1.length c1, Value.bool m1, Value.slice b1 ys1.length e1] 37)).alloc (Obj.cells #[Value.bool false, Value.slice none 0 0, Value.bool false, Value.slice none 0 0] 37)).cell? ⟨w.heap.size + 1, 0, none⟩ = some (Value.bool false) := by go_simp
  have fr0 : ((w.alloc (Obj.cells #[Value.bool n1, Value.slice a1 xs1.length c1, Value.bool m1, Value.slice b1 ys1.length e1] 37)).alloc (Obj.cells #[Value.bool false, Value.slice none 0 0, Value.bool false, Value.slice none 0 0] 37)).frozen? ⟨w.heap.size + 1, 0, none⟩ = false := by go_simp
  have kr1 : ((w.alloc (Obj.cells #[Value.bool n1, Value.slice a1 xs1.length c1, Value.bool m1, Value.slice b1 ys1.length e1] 37)).alloc (Obj.cells #[Value.bool false, Value.slice none 0 0, Value.bool false, Value.slice none 0 0] 37)).cell? ⟨w.heap.size + 1, 1, none⟩ = some (Value.slice none 0 0) := by go_simp
  have fr1 : ((w.alloc (Obj.cells #[Value.bool n1, Value.slice a1 xs1.length c1, Value.bool m1, Value.slice b1 ys1.length e1] 37)).alloc (Obj.cells #[Value.bool false, Value.slice none 0 0, Value.bool false, Value.slice none 0 0] 37)).frozen? ⟨w.heap.size + 1, 1, none⟩ = false := by go_simp
  have kr2 : ((w.alloc (Obj.cells #[Value.bool n1, Value.slice a1 xs1.length c1, Value.bool m1, Value.slice b1 ys1.length e1] 37)).alloc (Obj.cells #[Value.bool false, Value.slice none 0 0, Value.bool false, Value.slice none 0 0] 37)).cell? ⟨w.heap.size + 1, 2, none⟩ = some (Value.bool false) := by go_simp
  have fr2 : ((w.alloc (Obj.cells #[Value.bool n1, Value.slice a1 xs1.length c1, Value.bool m1, Value.slice b1 ys1.length e1] 37)).alloc (Obj.cells #[Value.bool false, Value.slice none 0 0, Value.bool false, Value.slice none 0 0] 37)).frozen? ⟨w.heap.size + 1, 2, none⟩ = false := by go_simp
  have kr3 : ((w.alloc (Obj.cells #[Value.bool n1, Value.slice a1 xs1.length c1, Value.bool m1, Value.slice b1 ys1.length e1] 37)).alloc (Obj.cells #[Value.bool false, Value.slice none 0 0, Value.bool false, Value.slice none 0 0] 37)).cell? ⟨w.heap.size + 1, 3, none⟩ = some (Value.slice none 0 0) := by go_simp
  have fr3 : ((w.alloc (Obj.cells #[Value.bool n1, Value.slice a1 xs1.length c1, Value.bool m1, Value.slice b1 ys1.length e1] 37)).alloc (Obj.cells #[Value.bool false, Value.slice none 0 0, Value.bool false, Value.slice none 0 0] 37)).frozen? ⟨w.heap.size + 1, 3, none⟩ = false := by go_simp
  have zr : w.heap.size + 1 < ((w.alloc (Obj.cells #[Value.bool n1, Value.slice a1 xs1.length c1, Value.bool m1, Value.slice b1 ys1.length e1] 37)).alloc (Obj.cells #[Value.bool false, Value.slice none 0 0, Value.bool false, Value.slice none 0 0] 37)).heap.size := by simp only [World.size_alloc]; omega
  have HB := hide (bl_alloc (bl_alloc (bl_refl w) (Obj.cells #[Value.bool n1, Value.slice a1 xs1.length c1, Value.bool m1, Value.slice b1 ys1.length e1] 37)) (Obj.cells #[Value.bool false, Value.slice none 0 0, Value.bool false, Value.slice none 0 0] 37))
  have S1 := hide (s1.below HB.out)
  have T1 := hide (t1.below HB.out)
  clear s1
  clear t1
  go_enter Try.func13, Try.ntmps13
  go_wp2_with fail
  generalize ((w.alloc (Obj.cells #[Value.bool n1, Value.slice a1 xs1.length c1, Value.bool m1, Value.slice b1 ys1.length e1] 37)).alloc (Obj.cells #[Value.bool false, Value.slice none 0 0, Value.bool false, Value.slice none 0 0] 37)) = w1 at *
  have z0 := zr
  refine (RatOkQ n1 xs1 m1 ys1 a1 c1 b1 e1 _ S1.out T1.out).mono ?_
  rintro e w2 ⟨rfl, hb⟩
  have yw2 := hb.size
  replace ka0 := (hb.cell (p := ⟨w.heap.size, 0, none⟩) (by dsimp only; omega)).trans ka0
  replace ka1 := (hb.cell (p := ⟨w.heap.size, 1, none⟩) (by dsimp only; omega)).trans ka1
  replace ka2 := (hb.cell (p := ⟨w.heap.size, 2, none⟩) (by dsimp only; omega)).trans ka2
  replace ka3 := (hb.cell (p := ⟨w.heap.size, 3, none⟩) (by dsimp only; omega)).trans ka3
  replace kr0 := (hb.cell (p := ⟨w.heap.size + 1, 0, none⟩) (by dsimp only; omega)).trans kr0
  replace fr0 := (hb.frozen (p := ⟨w.heap.size + 1, 0, none⟩) (by dsimp only; omega)).trans fr0
  replace kr1 := (hb.cell (p := ⟨w.heap.size + 1, 1, none⟩) (by dsimp only; omega)).trans kr1
  replace fr1 := (hb.frozen (p := ⟨w.heap.size + 1, 1, none⟩) (by dsimp only; omega)).trans fr1
  replace kr2 := (hb.cell (p := ⟨w.heap.size + 1, 2, none⟩) (by dsimp only; omega)).trans kr2
  replace fr2 := (hb.frozen (p := ⟨w.heap.size + 1, 2, none⟩) (by dsimp only; omega)).trans fr2
  replace kr3 := (hb.cell (p := ⟨w.heap.size + 1, 3, none⟩) (by dsimp only; omega)).trans kr3
  replace fr3 := (hb.frozen (p := ⟨w.heap.size + 1, 3, none⟩) (by dsimp only; omega)).trans fr3
  replace S1 := hide (S1.out.below hb)
  replace T1 := hide (T1.out.below hb)
  replace zr := Nat.lt_of_lt_of_le zr hb.size
  replace HB := hide (bl_trans HB.out hb)
  clear hb
  cases h1 : ratB n1 xs1 m1 ys1 with
  | false =>
    have HE : rrB n1 xs1 m1 ys1 k = false := by unfold rrB; rw [h1]; first | rfl | simp
    obtain ⟨q1, q2⟩ := rr_f HE
    have HE1 := hide HE
    have HQ1 := hide q1
    have HQ2 := hide q2
    clear HE q1 q2
    go_wp2
    all_goals refine bodyPost_ret (v := (.tuple #[.agg #[.bool false, .slice none 0 0, .bool false, .slice none 0 0], .bool false])) (by simp [results, Try.results13, go_sem, kr0, kr1, kr2, kr3]) rfl ?_
    all_goals rw [HE1.out, HQ1.out, HQ2.out]
    all_goals exact rr_none (by first | exact HB.out | exact set_four (N := w.heap.size + 1) (by omega) HB.out _ _ _ _)
  | true =>
    cases hn : n1 with
    | true =>
      have hf : rtE n1 xs1 k = false := by have hb : rtB n1 xs1 k = false := (by unfold rtB; rw [hn]; simp); exact (rt_no hb).2
      rw [hn] at ka0
      have HE : rrB n1 xs1 m1 ys1 k = false := by unfold rrB; rw [hf]; first | rfl | simp
      obtain ⟨q1, q2⟩ := rr_f HE
      have HE1 := hide HE
      have HQ1 := hide q1
      have HQ2 := hide q2
      clear HE q1 q2
      go_wp2
      all_goals refine bodyPost_ret (v := (.tuple #[.agg #[.bool false, .slice none 0 0, .bool false, .slice none 0 0], .bool false])) (by simp [results, Try.results13, go_sem, kr0, kr1, kr2, kr3]) rfl ?_
      all_goals rw [HE1.out, HQ1.out, HQ2.out]
      all_goals exact rr_none (by first | exact HB.out | exact set_four (N := w.heap.size + 1) (by omega) HB.out _ _ _ _)
    | false =>
      rw [hn] at ka0
      by_cases h0 : xs1.length = 0
      · have h0' : decide (xs1.length ≠ 0) = false := decide_eq_false (fun h => h h0)
        have h0i : ((xs1.length : Nat) : Int) = 0 := by omega
        have HE : rrB n1 xs1 m1 ys1 k = false := by unfold rrB; rw [h1, h0']; first | rfl | simp
        obtain ⟨q1, q2⟩ := rr_f HE
        have HE1 := hide HE
        have HQ1 := hide q1
        have HQ2 := hide q2
        clear HE q1 q2
        go_wp2
        all_goals refine bodyPost_ret (v := (.tuple #[.agg #[.bool false, .slice none 0 0, .bool false, .slice none 0 0], .bool false])) (by simp [results, Try.results13, go_sem, kr0, kr1, kr2, kr3]) rfl ?_
        all_goals rw [HE1.out, HQ1.out, HQ2.out]
        all_goals exact rr_none (by first | exact HB.out | exact set_four (N := w.heap.size + 1) (by omega) HB.out _ _ _ _)
      · have h0' : decide (xs1.length ≠ 0) = true := decide_eq_true h0
        have h0i : ¬ ((xs1.length : Nat) : Int) = 0 := by omega
        have h0j : (((xs1.length : Nat) : Int) == 0) = false := by rw [beq_eq_false_iff_ne]; omega
        go_wp2_with fail
        have hE : rrB n1 xs1 m1 ys1 k = (rtE false xs1 k && rtE m1 ys1 k) := by unfold rrB; rw [h1, h0', hn]; simp
        have hN : rrN n1 xs1 m1 ys1 k = (if (rtE false xs1 k && rtE m1 ys1 k) = true then rtZ false xs1 k else 0) := by unfold rrN; rw [hE, hn]
        have hD : rrD n1 xs1 m1 ys1 k = (if (rtE false xs1 k && rtE m1 ys1 k) = true then rtZ m1 ys1 k else 0) := by unfold rrD; rw [hE]
        have HEE := hide hE
        have HN := hide hN
        have HD := hide hD
        clear hE hN hD
        refine (rootQ false xs1 k a1 c1 _ S1.out hi1 hi2).mono ?_
        rintro e w3 ⟨u1, v1, rfl, ho, hb⟩
        have yw3 := hb.size
        replace ka0 := (hb.cell (p := ⟨w.heap.size, 0, none⟩) (by dsimp only; omega)).trans ka0
        replace ka1 := (hb.cell (p := ⟨w.heap.size, 1, none⟩) (by dsimp only; omega)).trans ka1
        replace ka2 := (hb.cell (p := ⟨w.heap.size, 2, none⟩) (by dsimp only; omega)).trans ka2
        replace ka3 := (hb.cell (p := ⟨w.heap.size, 3, none⟩) (by dsimp only; omega)).trans ka3
        replace kr0 := (hb.cell (p := ⟨w.heap.size + 1, 0, none⟩) (by dsimp only; omega)).trans kr0
        replace fr0 := (hb.frozen (p := ⟨w.heap.size + 1, 0, none⟩) (by dsimp only; omega)).trans fr0
        replace kr1 := (hb.cell (p := ⟨w.heap.size + 1, 1, none⟩) (by dsimp only; omega)).trans kr1
        replace fr1 := (hb.frozen (p := ⟨w.heap.size + 1, 1, none⟩) (by dsimp only; omega)).trans fr1
        replace kr2 := (hb.cell (p := ⟨w.heap.size + 1, 2, none⟩) (by dsimp only; omega)).trans kr2
        replace fr2 := (hb.frozen (p := ⟨w.heap.size + 1, 2, none⟩) (by dsimp only; omega)).trans fr2
        replace kr3 := (hb.cell (p := ⟨w.heap.size + 1, 3, none⟩) (by dsimp only; omega)).trans kr3
        replace fr3 := (hb.frozen (p := ⟨w.heap.size + 1, 3, none⟩) (by dsimp only; omega)).trans fr3
        replace S1 := hide (S1.out.below hb)
        replace T1 := hide (T1.out.below hb)
        replace zr := Nat.lt_of_lt_of_le zr hb.size
        replace HB := hide (bl_trans HB.out hb)
        clear hb
        have O1 := hide ho
        clear ho
        obtain ⟨Px, hPx⟩ : ∃ P, rtZ false xs1 k = P := ⟨_, rfl⟩
        rw [hPx] at O1 ⊢
        rw [hPx] at HN
        clear hPx
        have yw4 : w3.heap.size + 1 ≤ (w3.alloc (Obj.cells #[Value.bool (sgn Px), Value.slice u1 (lms Px).length v1] 26)).heap.size := by simp only [World.size_alloc]; omega
        have kp0 : (w3.alloc (Obj.cells #[Value.bool (sgn Px), Value.slice u1 (lms Px).length v1] 26)).cell? ⟨w3.heap.size, 0, none⟩ = some (Value.bool (sgn Px)) := by go_simp
        have kp1 : (w3.alloc (Obj.cells #[Value.bool (sgn Px), Value.slice u1 (lms Px).length v1] 26)).cell? ⟨w3.heap.size, 1, none⟩ = some (Value.slice u1 (lms Px).length v1) := by go_simp
        have hbn := (bl_alloc (bl_refl w3) (Obj.cells #[Value.bool (sgn Px), Value.slice u1 (lms Px).length v1] 26))
        replace ka0 := (hbn.cell (p := ⟨w.heap.size, 0, none⟩) (by dsimp only; omega)).trans ka0
        replace ka1 := (hbn.cell (p := ⟨w.heap.size, 1, none⟩) (by dsimp only; omega)).trans ka1
        replace ka2 := (hbn.cell (p := ⟨w.heap.size, 2, none⟩) (by dsimp only; omega)).trans ka2
        replace ka3 := (hbn.cell (p := ⟨w.heap.size, 3, none⟩) (by dsimp only; omega)).trans ka3
        replace kr0 := (hbn.cell (p := ⟨w.heap.size + 1, 0, none⟩) (by dsimp only; omega)).trans kr0
        replace fr0 := (hbn.frozen (p := ⟨w.heap.size + 1, 0, none⟩) (by dsimp only; omega)).trans fr0
        replace kr1 := (hbn.cell (p := ⟨w.heap.size + 1, 1, none⟩) (by dsimp only; omega)).trans kr1
        replace fr1 := (hbn.frozen (p := ⟨w.heap.size + 1, 1, none⟩) (by dsimp only; omega)).trans fr1
        replace kr2 := (hbn.cell (p := ⟨w.heap.size + 1, 2, none⟩) (by dsimp only; omega)).trans kr2
        replace fr2 := (hbn.frozen (p := ⟨w.heap.size + 1, 2, none⟩) (by dsimp only; omega)).trans fr2
        replace kr3 := (hbn.cell (p := ⟨w.heap.size + 1, 3, none⟩) (by dsimp only; omega)).trans kr3
        replace fr3 := (hbn.frozen (p := ⟨w.heap.size + 1, 3, none⟩) (by dsimp only; omega)).trans fr3
        replace S1 := hide (S1.out.below hbn)
        replace T1 := hide (T1.out.below hbn)
        replace O1 := hide (O1.out.below hbn)
        replace zr := Nat.lt_of_lt_of_le zr hbn.size
        replace HB := hide (bl_trans HB.out hbn)
        clear hbn
        go_wp2_with fail
        generalize (w3.alloc (Obj.cells #[Value.bool (sgn Px), Value.slice u1 (lms Px).length v1] 26)) = w4 at *
        have OS := O1
        refine (rootQ m1 ys1 k b1 e1 _ T1.out hi1 hi2).mono ?_
        rintro e w5 ⟨u2, v2, rfl, ho, hb⟩
        have yw5 := hb.size
        replace ka0 := (hb.cell (p := ⟨w.heap.size, 0, none⟩) (by dsimp only; omega)).trans ka0
        replace ka1 := (hb.cell (p := ⟨w.heap.size, 1, none⟩) (by dsimp only; omega)).trans ka1
        replace ka2 := (hb.cell (p := ⟨w.heap.size, 2, none⟩) (by dsimp only; omega)).trans ka2
        replace ka3 := (hb.cell (p := ⟨w.heap.size, 3, none⟩) (by dsimp only; omega)).trans ka3
        replace kr0 := (hb.cell (p := ⟨w.heap.size + 1, 0, none⟩) (by dsimp only; omega)).trans kr0
        replace fr0 := (hb.frozen (p := ⟨w.heap.size + 1, 0, none⟩) (by dsimp only; omega)).trans fr0
        replace kr1 := (hb.cell (p := ⟨w.heap.size + 1, 1, none⟩) (by dsimp only; omega)).trans kr1
        replace fr1 := (hb.frozen (p := ⟨w.heap.size + 1, 1, none⟩) (by dsimp only; omega)).trans fr1
        replace kr2 := (hb.cell (p := ⟨w.heap.size + 1, 2, none⟩) (by dsimp only; omega)).trans kr2
        replace fr2 := (hb.frozen (p := ⟨w.heap.size + 1, 2, none⟩) (by dsimp only; omega)).trans fr2
        replace kr3 := (hb.cell (p := ⟨w.heap.size + 1, 3, none⟩) (by dsimp only; omega)).trans kr3
        replace fr3 := (hb.frozen (p := ⟨w.heap.size + 1, 3, none⟩) (by dsimp only; omega)).trans fr3
        replace kp0 := (hb.cell (p := ⟨w3.heap.size, 0, none⟩) (by dsimp only; omega)).trans kp0
        replace kp1 := (hb.cell (p := ⟨w3.heap.size, 1, none⟩) (by dsimp only; omega)).trans kp1
        replace S1 := hide (S1.out.below hb)
        replace T1 := hide (T1.out.below hb)
        replace O1 := hide (O1.out.below hb)
        replace zr := Nat.lt_of_lt_of_le zr hb.size
        replace HB := hide (bl_trans HB.out hb)
        clear hb
        have O2 := hide ho
        have HAP := hide (apart_two OS.out ho)
        clear OS
        clear ho
        obtain ⟨Py, hPy⟩ : ∃ P, rtZ m1 ys1 k = P := ⟨_, rfl⟩
        rw [hPy] at O2 ⊢
        rw [hPy] at HD
        clear hPy
        cases g1 : rtE false xs1 k with
        | false =>
          rw [g1, Bool.false_and] at HEE HN HD
          have yw6 : w5.heap.size + 1 ≤ (w5.alloc (Obj.cells #[Value.bool (sgn Py), Value.slice u2 (lms Py).length v2] 26)).heap.size := by simp only [World.size_alloc]; omega
          have kq0 : (w5.alloc (Obj.cells #[Value.bool (sgn Py), Value.slice u2 (lms Py).length v2] 26)).cell? ⟨w5.heap.size, 0, none⟩ = some (Value.bool (sgn Py)) := by go_simp
          have kq1 : (w5.alloc (Obj.cells #[Value.bool (sgn Py), Value.slice u2 (lms Py).length v2] 26)).cell? ⟨w5.heap.size, 1, none⟩ = some (Value.slice u2 (lms Py).length v2) := by go_simp
          have hbn := (bl_alloc (bl_refl w5) (Obj.cells #[Value.bool (sgn Py), Value.slice u2 (lms Py).length v2] 26))
          replace ka0 := (hbn.cell (p := ⟨w.heap.size, 0, none⟩) (by dsimp only; omega)).trans ka0
          replace ka1 := (hbn.cell (p := ⟨w.heap.size, 1, none⟩) (by dsimp only; omega)).trans ka1
          replace ka2 := (hbn.cell (p := ⟨w.heap.size, 2, none⟩) (by dsimp only; omega)).trans ka2
          replace ka3 := (hbn.cell (p := ⟨w.heap.size, 3, none⟩) (by dsimp only; omega)).trans ka3
          replace kr0 := (hbn.cell (p := ⟨w.heap.size + 1, 0, none⟩) (by dsimp only; omega)).trans kr0
          replace fr0 := (hbn.frozen (p := ⟨w.heap.size + 1, 0, none⟩) (by dsimp only; omega)).trans fr0
          replace kr1 := (hbn.cell (p := ⟨w.heap.size + 1, 1, none⟩) (by dsimp only; omega)).trans kr1
          replace fr1 := (hbn.frozen (p := ⟨w.heap.size + 1, 1, none⟩) (by dsimp only; omega)).trans fr1
          replace kr2 := (hbn.cell (p := ⟨w.heap.size + 1, 2, none⟩) (by dsimp only; omega)).trans kr2
          replace fr2 := (hbn.frozen (p := ⟨w.heap.size + 1, 2, none⟩) (by dsimp only; omega)).trans fr2
          replace kr3 := (hbn.cell (p := ⟨w.heap.size + 1, 3, none⟩) (by dsimp only; omega)).trans kr3
          replace fr3 := (hbn.frozen (p := ⟨w.heap.size + 1, 3, none⟩) (by dsimp only; omega)).trans fr3
          replace kp0 := (hbn.cell (p := ⟨w3.heap.size, 0, none⟩) (by dsimp only; omega)).trans kp0
          replace kp1 := (hbn.cell (p := ⟨w3.heap.size, 1, none⟩) (by dsimp only; omega)).trans kp1
          replace S1 := hide (S1.out.below hbn)
          replace T1 := hide (T1.out.below hbn)
          replace O1 := hide (O1.out.below hbn)
          replace O2 := hide (O2.out.below hbn)
          replace zr := Nat.lt_of_lt_of_le zr hbn.size
          replace HB := hide (bl_trans HB.out hbn)
          clear hbn
          go_wp2
          generalize (w5.alloc (Obj.cells #[Value.bool (sgn Py), Value.slice u2 (lms Py).length v2] 26)) = w6 at *
          all_goals refine bodyPost_ret (v := (.tuple #[.agg #[.bool false, .slice none 0 0, .bool false, .slice none 0 0], .bool false])) (by simp [results, Try.results13, go_sem, kr0, kr1, kr2, kr3]) rfl ?_
          all_goals rw [HEE.out, HN.out, HD.out]
          all_goals exact rr_none (by first | exact HB.out | exact set_four (N := w.heap.size + 1) (by omega) HB.out _ _ _ _)
        | true =>
          cases g2 : rtE m1 ys1 k with
          | false =>
            rw [g2, Bool.and_false] at HEE HN HD
            have yw6 : w5.heap.size + 1 ≤ (w5.alloc (Obj.cells #[Value.bool (sgn Py), Value.slice u2 (lms Py).length v2] 26)).heap.size := by simp only [World.size_alloc]; omega
            have kq0 : (w5.alloc (Obj.cells #[Value.bool (sgn Py), Value.slice u2 (lms Py).length v2] 26)).cell? ⟨w5.heap.size, 0, none⟩ = some (Value.bool (sgn Py)) := by go_simp
            have kq1 : (w5.alloc (Obj.cells #[Value.bool (sgn Py), Value.slice u2 (lms Py).length v2] 26)).cell? ⟨w5.heap.size, 1, none⟩ = some (Value.slice u2 (lms Py).length v2) := by go_simp
            have hbn := (bl_alloc (bl_refl w5) (Obj.cells #[Value.bool (sgn Py), Value.slice u2 (lms Py).length v2] 26))
            replace ka0 := (hbn.cell (p := ⟨w.heap.size, 0, none⟩) (by dsimp only; omega)).trans ka0
            replace ka1 := (hbn.cell (p := ⟨w.heap.size, 1, none⟩) (by dsimp only; omega)).trans ka1
            replace ka2 := (hbn.cell (p := ⟨w.heap.size, 2, none⟩) (by dsimp only; omega)).trans ka2
            replace ka3 := (hbn.cell (p := ⟨w.heap.size, 3, none⟩) (by dsimp only; omega)).trans ka3
            replace kr0 := (hbn.cell (p := ⟨w.heap.size + 1, 0, none⟩) (by dsimp only; omega)).trans kr0
            replace fr0 := (hbn.frozen (p := ⟨w.heap.size + 1, 0, none⟩) (by dsimp only; omega)).trans fr0
            replace kr1 := (hbn.cell (p := ⟨w.heap.size + 1, 1, none⟩) (by dsimp only; omega)).trans kr1
            replace fr1 := (hbn.frozen (p := ⟨w.heap.size + 1, 1, none⟩) (by dsimp only; omega)).trans fr1
            replace kr2 := (hbn.cell (p := ⟨w.heap.size + 1, 2, none⟩) (by dsimp only; omega)).trans kr2
            replace fr2 := (hbn.frozen (p := ⟨w.heap.size + 1, 2, none⟩) (by dsimp only; omega)).trans fr2
            replace kr3 := (hbn.cell (p := ⟨w.heap.size + 1, 3, none⟩) (by dsimp only; omega)).trans kr3
            replace fr3 := (hbn.frozen (p := ⟨w.heap.size + 1, 3, none⟩) (by dsimp only; omega)).trans fr3
            replace kp0 := (hbn.cell (p := ⟨w3.heap.size, 0, none⟩) (by dsimp only; omega)).trans kp0
            replace kp1 := (hbn.cell (p := ⟨w3.heap.size, 1, none⟩) (by dsimp only; omega)).trans kp1
            replace S1 := hide (S1.out.below hbn)
            replace T1 := hide (T1.out.below hbn)
            replace O1 := hide (O1.out.below hbn)
            replace O2 := hide (O2.out.below hbn)
            replace zr := Nat.lt_of_lt_of_le zr hbn.size
            replace HB := hide (bl_trans HB.out hbn)
            clear hbn
            go_wp2
            generalize (w5.alloc (Obj.cells #[Value.bool (sgn Py), Value.slice u2 (lms Py).length v2] 26)) = w6 at *
            all_goals refine bodyPost_ret (v := (.tuple #[.agg #[.bool false, .slice none 0 0, .bool false, .slice none 0 0], .bool false])) (by simp [results, Try.results13, go_sem, kr0, kr1, kr2, kr3]) rfl ?_
            all_goals rw [HEE.out, HN.out, HD.out]
            all_goals exact rr_none (by first | exact HB.out | exact set_four (N := w.heap.size + 1) (by omega) HB.out _ _ _ _)
          | true =>
            rw [g1, g2, Bool.and_self] at HEE HN HD
            have yw6 : w5.heap.size + 1 ≤ (w5.alloc (Obj.cells #[Value.bool (sgn Py), Value.slice u2 (lms Py).length v2] 26)).heap.size := by simp only [World.size_alloc]; omega
            have kq0 : (w5.alloc (Obj.cells #[Value.bool (sgn Py), Value.slice u2 (lms Py).length v2] 26)).cell? ⟨w5.heap.size, 0, none⟩ = some (Value.bool (sgn Py)) := by go_simp
            have kq1 : (w5.alloc (Obj.cells #[Value.bool (sgn Py), Value.slice u2 (lms Py).length v2] 26)).cell? ⟨w5.heap.size, 1, none⟩ = some (Value.slice u2 (lms Py).length v2) := by go_simp
            have hbn := (bl_alloc (bl_refl w5) (Obj.cells #[Value.bool (sgn Py), Value.slice u2 (lms Py).length v2] 26))
            replace ka0 := (hbn.cell (p := ⟨w.heap.size, 0, none⟩) (by dsimp only; omega)).trans ka0
            replace ka1 := (hbn.cell (p := ⟨w.heap.size, 1, none⟩) (by dsimp only; omega)).trans ka1
            replace ka2 := (hbn.cell (p := ⟨w.heap.size, 2, none⟩) (by dsimp only; omega)).trans ka2
            replace ka3 := (hbn.cell (p := ⟨w.heap.size, 3, none⟩) (by dsimp only; omega)).trans ka3
            replace kr0 := (hbn.cell (p := ⟨w.heap.size + 1, 0, none⟩) (by dsimp only; omega)).trans kr0
            replace fr0 := (hbn.frozen (p := ⟨w.heap.size + 1, 0, none⟩) (by dsimp only; omega)).trans fr0
            replace kr1 := (hbn.cell (p := ⟨w.heap.size + 1, 1, none⟩) (by dsimp only; omega)).trans kr1
            replace fr1 := (hbn.frozen (p := ⟨w.heap.size + 1, 1, none⟩) (by dsimp only; omega)).trans fr1
            replace kr2 := (hbn.cell (p := ⟨w.heap.size + 1, 2, none⟩) (by dsimp only; omega)).trans kr2
            replace fr2 := (hbn.frozen (p := ⟨w.heap.size + 1, 2, none⟩) (by dsimp only; omega)).trans fr2
            replace kr3 := (hbn.cell (p := ⟨w.heap.size + 1, 3, none⟩) (by dsimp only; omega)).trans kr3
            replace fr3 := (hbn.frozen (p := ⟨w.heap.size + 1, 3, none⟩) (by dsimp only; omega)).trans fr3
            replace kp0 := (hbn.cell (p := ⟨w3.heap.size, 0, none⟩) (by dsimp only; omega)).trans kp0
            replace kp1 := (hbn.cell (p := ⟨w3.heap.size, 1, none⟩) (by dsimp only; omega)).trans kp1
            replace S1 := hide (S1.out.below hbn)
            replace T1 := hide (T1.out.below hbn)
            replace O1 := hide (O1.out.below hbn)
            replace O2 := hide (O2.out.below hbn)
            replace zr := Nat.lt_of_lt_of_le zr hbn.size
            replace HB := hide (bl_trans HB.out hbn)
            clear hbn
            go_wp2
            generalize (w5.alloc (Obj.cells #[Value.bool (sgn Py), Value.slice u2 (lms Py).length v2] 26)) = w6 at *
            all_goals refine bodyPost_ret (v := (.tuple #[Value.agg #[Value.bool (sgn Px), Value.slice u1 (lms Px).length v1, Value.bool (sgn Py), Value.slice u2 (lms Py).length v2], .bool true])) (by simp [results, Try.results13, go_sem, kr0, kr1, kr2, kr3]) rfl ?_
            all_goals rw [HEE.out, HN.out, HD.out]
            all_goals exact (show RrAns true Px Py w _ _ from ⟨u1, v1, u2, v2, rfl, (fin_four (N := w.heap.size + 1) O1.out O2.out (by omega) (by omega) (by omega) HB.out _ _ _ _).1, (fin_four (N := w.heap.size + 1) O1.out O2.out (by omega) (by omega) (by omega) HB.out _ _ _ _).2.1, HAP.out, (fin_four (N := w.heap.size + 1) O1.out O2.out (by omega) (by omega) (by omega) HB.out _ _ _ _).2.2⟩)

end Go.Proofs.Ytbnjgfaojaimlaa
