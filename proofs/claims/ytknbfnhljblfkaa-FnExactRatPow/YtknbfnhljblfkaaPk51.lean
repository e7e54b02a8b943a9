/- My texts Pw1, Pw2, PwL, in this order. -/
import Derived.Test.YtknbfnhljblfkaaPk50
import Derived.Test.YtknbfnhljblfkaaPk43
/- The specification's powers of fractions. -/
namespace Go.Proofs.Ytknbfnhljblfkaa
open Go.RowKit
set_option linter.unusedVariables false

theorem turn_fits {x y : Int} (hx : x.natAbs < 4294967296 ^ 40) (hy : y.natAbs < 4294967296 ^ 40) (hg : Int.gcd x y = 1) (hz : x ≠ 0) : (y / sgG y x).natAbs < 4294967296 ^ 40 ∧ (x / sgG y x).natAbs < 4294967296 ^ 40 := by
  rcases turn_one hg hz with ⟨h1, h2⟩ | ⟨h1, h2⟩ <;> rw [h1, h2]
  · exact ⟨hy, hx⟩
  · rw [Int.natAbs_neg, Int.natAbs_neg]; exact ⟨hy, hx⟩
theorem turn_sign {x y : Int} (hp : 0 < y) (hg : Int.gcd x y = 1) (hz : x ≠ 0) : sgn (y / sgG y x) = sgn x ∧ lms (y / sgG y x) = lms y ∧ x / sgG y x = (x.natAbs : Int) := by
  have hg' : Int.gcd y x = 1 := by rw [Int.gcd_comm]; exact hg
  unfold sgG; rw [hg']
  by_cases h : x < 0
  · rw [if_pos h]
    have e1 : y / -((1 : Nat) : Int) = -y := by simp
    have e2 : x / -((1 : Nat) : Int) = -x := by simp
    rw [e1, e2]
    refine ⟨?_, ?_, by omega⟩
    · unfold sgn; rw [decide_eq_true h, decide_eq_true (by omega)]
    · unfold lms; rw [Int.natAbs_neg]
  · rw [if_neg h]
    have e1 : y / ((1 : Nat) : Int) = y := by simp
    have e2 : x / ((1 : Nat) : Int) = x := by simp
    rw [e1, e2]
    refine ⟨?_, rfl, by omega⟩
    unfold sgn; rw [decide_eq_false h, decide_eq_false (by omega)]
/-- a fraction like a power, in memory of its own -/
def LkAns (x y : Int) (k : Nat) (w w' : World) (e : Ending) : Prop :=
  ∃ p q a1 c1 a2 c2, e = .returned (.agg #[.bool (sgn p), .slice a1 (lms p).length c1, .bool (sgn q), .slice a2 (lms q).length c2]) ∧ PowLike x k p ∧ PowLike y k q ∧ Own w' w.heap.size a1 (lms p).length c1 (lms p) ∧ Own w' w.heap.size a2 (lms q).length c2 (lms q) ∧ Apart a1 a2 ∧ Below w.heap.size w w'

set_option maxHeartbeats 4000000 in
theorem powRS (x y : Int) (a1 : Option Addr) (c1 : Nat) (b1 : Option Addr) (e1 : Nat) (w : World) (s1 : Seg w a1 (lms x).length c1 (lms x)) (t1 : Seg w b1 (lms y).length e1 (lms y)) (k : Nat) (hk : k ≤ 1000) (hx : x.natAbs < 4294967296 ^ 40) (hy : y.natAbs < 4294967296 ^ 40) :
    Calls Try.prog 43 #[Value.agg #[Value.bool (sgn x), Value.slice a1 (lms x).length c1, Value.bool (sgn y), Value.slice b1 (lms y).length e1], .int .i64 k] w fun e w' => LkAns x y k w w' e := by
  have HX := hide hx
  have HY := hide hy
  clear hx hy
  have ka0 : ((w.alloc (Obj.cells #[Value.bool (sgn x), Value.slice a1 (lms x).length c1, Value.bool (sgn y), Value.slice b1 (lms y).length e1] 37)).alloc (Obj.cells #[Value.bool false, Value.slice none 0 0, Value.bool false, Value.slice none 0 0] 37)).cell? ⟨w.heap.size, 0, none⟩ = some (Value.bool (sgn x)) := by go_simp
  have ka1 : ((w.alloc (Obj.cells #[Value.bool (sgn x), Value.slice a1 (lms x).length c1, Value.bool (sgn y), Value.slice b1 (lms y).length e1] 37)).alloc (Obj.cells #[Value.bool false, Value.slice none 0 0, Value.bool false, Value.slice none 0 0] 37)).cell? ⟨w.heap.size, 1, none⟩ = some (Value.slice a1 (lms x).length c1) := by go_simp
  have ka2 : ((w.alloc (Obj.cells #[Value.bool (sgn x), Value.slice a1 (lms x).length c1, Value.bool (sgn y), Value.slice b1 (lms y).length e1] 37)).alloc (Obj.cells #[Value.bool false, Value.slice none 0 0, Value.bool false, Value.slice none 0 0] 37)).cell? ⟨w.heap.size, 2, none⟩ = some (Value.bool (sgn y)) := by go_simp
  have ka3 : ((w.alloc (Obj.cells #[Value.bool (sgn x), Value.slice a1 (lms x).length c1, Value.bool (sgn y), Value.slice b1 (lms y).length e1] 37)).alloc (Obj.cells #[Value.bool false, Value.slice none 0 0, Value.bool false, Value.slice none 0 0] 37)).cell? ⟨w.heap.size, 3, none⟩ = some (Value.slice b1 (lms y).length e1) := by go_simp
  have kr0 : ((w.alloc (Obj.cells #[Value.bool (sgn x), Value.slice a1 (lms x).length c1, Value.bool (sgn y), Value.slice b1 (lms y).length e1] 37)).alloc (Obj.cells #[Value.bool false, Value.slice none 0 0, Value.bool false, Value.slice none 0 0] 37)).cell? ⟨w.heap.size + 1, 0, none⟩ = some (Value.bool false) := by go_simp
  have fr0 : ((w.alloc (Obj.cells #[Value.bool (sgn x), Value.slice a1 (lms x).length c1, Value.bool (sgn y), Value.slice b1 (lms y).length e1] 37)).alloc (Obj.cells #[Value.bool false, Value.slice none 0 0, Value.bool false, Value.slice none 0 0] 37)).frozen? ⟨w.heap.size + 1, 0, none⟩ = false := by go_simp
  have kr1 : ((w.alloc (Obj.cells #[Value.bool (sgn x), Value.slice a1 (lms x).length c1, Value.bool (sgn y), Value.slice b1 (lms y).length e1] 37)).alloc (Obj.cells #[Value.bool false, Value.slice none 0 0, Value.bool false, Value.slice none 0 0] 37)).cell? ⟨w.heap.size + 1, 1, none⟩ = some (Value.slice none 0 0) := by go_simp
  have fr1 : ((w.alloc (Obj.cells #[Value.bool (sgn x), Value.slice a1 (lms x).length c1, Value.bool (sgn y), Value.slice b1 (lms y).length e1] 37)).alloc (Obj.cells #[Value.bool false, Value.slice none 0 0, Value.bool false, Value.slice none 0 0] 37)).frozen? ⟨w.heap.size + 1, 1, none⟩ = false := by go_simp
  have kr2 : ((w.alloc (Obj.cells #[Value.bool (sgn x), Value.slice a1 (lms x).length c1, Value.bool (sgn y), Value.slice b1 (lms y).length e1] 37)).alloc (Obj.cells #[Value.bool false, Value.slice none 0 0, Value.bool false, Value.slice none 0 0] 37)).cell? ⟨w.heap.size + 1, 2, none⟩ = some (Value.bool false) := by go_simp
  have fr2 : ((w.alloc (Obj.cells #[Value.bool (sgn x), Value.slice a1 (lms x).length c1, Value.bool (sgn y), Value.slice b1 (lms y).length e1] 37)).alloc (Obj.cells #[Value.bool false, Value.slice none 0 0, Value.bool false, Value.slice none 0 0] 37)).frozen? ⟨w.heap.size + 1, 2, none⟩ = false := by go_simp
  have kr3 : ((w.alloc (Obj.cells #[Value.bool (sgn x), Value.slice a1 (lms x).length c1, Value.bool (sgn y), Value.slice b1 (lms y).length e1] 37)).alloc (Obj.cells #[Value.bool false, Value.slice none 0 0, Value.bool false, Value.slice none 0 0] 37)).cell? ⟨w.heap.size + 1, 3, none⟩ = some (Value.slice none 0 0) := by go_simp
  have fr3 : ((w.alloc (Obj.cells #[Value.bool (sgn x), Value.slice a1 (lms x).length c1, Value.bool (sgn y), Value.slice b1 (lms y).length e1] 37)).alloc (Obj.cells #[Value.bool false, Value.slice none 0 0, Value.bool false, Value.slice none 0 0] 37)).frozen? ⟨w.heap.size + 1, 3, none⟩ = false := by go_simp
  have zr : w.heap.size + 1 < ((w.alloc (Obj.cells #[Value.bool (sgn x), Value.slice a1 (lms x).length c1, Value.bool (sgn y), Value.slice b1 (lms y).length e1] 37)).alloc (Obj.cells #[Value.bool false, Value.slice none 0 0, Value.bool false, Value.slice none 0 0] 37)).heap.size := by simp only [World.size_alloc]; omega
  have HB := hide (bl_alloc (bl_alloc (bl_refl w) (Obj.cells #[Value.bool (sgn x), Value.slice a1 (lms x).length c1, Value.bool (sgn y), Value.slice b1 (lms y).length e1] 37)) (Obj.cells #[Value.bool false, Value.slice none 0 0, Value.bool false, Value.slice none 0 0] 37))
  have S1 := hide (s1.below HB.out)
  have T1 := hide (t1.below HB.out)
  clear s1
  clear t1
  go_enter Try.func43, Try.ntmps43
  go_wp2_with fail
  generalize ((w.alloc (Obj.cells #[Value.bool (sgn x), Value.slice a1 (lms x).length c1, Value.bool (sgn y), Value.slice b1 (lms y).length e1] 37)).alloc (Obj.cells #[Value.bool false, Value.slice none 0 0, Value.bool false, Value.slice none 0 0] 37)) = w1 at *
  have z0 := zr
  have KP : Hid (∀ w', Below w1.heap.size w1 w' → (w'.cell? ⟨w.heap.size, 0, none⟩ = some (Value.bool (sgn x)) ∧ w'.cell? ⟨w.heap.size, 1, none⟩ = some (Value.slice a1 (lms x).length c1) ∧ w'.cell? ⟨w.heap.size, 2, none⟩ = some (Value.bool (sgn y)) ∧ w'.cell? ⟨w.heap.size, 3, none⟩ = some (Value.slice b1 (lms y).length e1))) := hide (fun w' hb => ⟨(hb.cell (p := ⟨w.heap.size, 0, none⟩) (by dsimp only; omega)).trans ka0, (hb.cell (p := ⟨w.heap.size, 1, none⟩) (by dsimp only; omega)).trans ka1, (hb.cell (p := ⟨w.heap.size, 2, none⟩) (by dsimp only; omega)).trans ka2, (hb.cell (p := ⟨w.heap.size, 3, none⟩) (by dsimp only; omega)).trans ka3⟩)
  have KP4 : Hid (∀ w', Below w1.heap.size w1 w' → ∀ q0 q1 q2 q3, (((((w'.setCell ⟨w.heap.size + 1, 0, none⟩ q0).setCell ⟨w.heap.size + 1, 1, none⟩ q1).setCell ⟨w.heap.size + 1, 2, none⟩ q2).setCell ⟨w.heap.size + 1, 3, none⟩ q3).cell? ⟨w.heap.size, 0, none⟩ = some (Value.bool (sgn x)) ∧ ((((w'.setCell ⟨w.heap.size + 1, 0, none⟩ q0).setCell ⟨w.heap.size + 1, 1, none⟩ q1).setCell ⟨w.heap.size + 1, 2, none⟩ q2).setCell ⟨w.heap.size + 1, 3, none⟩ q3).cell? ⟨w.heap.size, 1, none⟩ = some (Value.slice a1 (lms x).length c1) ∧ ((((w'.setCell ⟨w.heap.size + 1, 0, none⟩ q0).setCell ⟨w.heap.size + 1, 1, none⟩ q1).setCell ⟨w.heap.size + 1, 2, none⟩ q2).setCell ⟨w.heap.size + 1, 3, none⟩ q3).cell? ⟨w.heap.size, 2, none⟩ = some (Value.bool (sgn y)) ∧ ((((w'.setCell ⟨w.heap.size + 1, 0, none⟩ q0).setCell ⟨w.heap.size + 1, 1, none⟩ q1).setCell ⟨w.heap.size + 1, 2, none⟩ q2).setCell ⟨w.heap.size + 1, 3, none⟩ q3).cell? ⟨w.heap.size, 3, none⟩ = some (Value.slice b1 (lms y).length e1))) := hide (fun w' hb q0 q1 q2 q3 => ⟨(cell_four (p := ⟨w.heap.size, 0, none⟩) (by dsimp only; omega)).trans ((hb.cell (p := ⟨w.heap.size, 0, none⟩) (by dsimp only; omega)).trans ka0), (cell_four (p := ⟨w.heap.size, 1, none⟩) (by dsimp only; omega)).trans ((hb.cell (p := ⟨w.heap.size, 1, none⟩) (by dsimp only; omega)).trans ka1), (cell_four (p := ⟨w.heap.size, 2, none⟩) (by dsimp only; omega)).trans ((hb.cell (p := ⟨w.heap.size, 2, none⟩) (by dsimp only; omega)).trans ka2), (cell_four (p := ⟨w.heap.size, 3, none⟩) (by dsimp only; omega)).trans ((hb.cell (p := ⟨w.heap.size, 3, none⟩) (by dsimp only; omega)).trans ka3)⟩)
  go_region_held3 (fun w' => w'.cell? ⟨w.heap.size, 0, none⟩ = some (Value.bool (sgn x)) ∧ w'.cell? ⟨w.heap.size, 1, none⟩ = some (Value.slice a1 (lms x).length c1) ∧ w'.cell? ⟨w.heap.size, 2, none⟩ = some (Value.bool (sgn y)) ∧ w'.cell? ⟨w.heap.size, 3, none⟩ = some (Value.slice b1 (lms y).length e1))
    (first | with_reducible exact KP.out _ (bl_refl w1).drew | with_reducible exact KP4.out _ hbB _ _ _ _ | with_reducible exact KP.out _ hbB | with_reducible exact KP.out _ hbA)
    (first
      | (have hq := hbA; go_at_call 61; refine (powS _ y k _ ⟨b1, e1, rfl, T1.out.below hbA⟩ hk HY.out).mono ?_; rintro e wB ⟨_, pB, rfl, ⟨uB, vB, rfl, hoB⟩, hlB, hbBr⟩; have hbB : Below w1.heap.size w1 wB := bl_trans hbA hbBr; have qA := hbA.size; have qB := hbB.size; have kr0 := (hbB.cell (p := ⟨w.heap.size + 1, 0, none⟩) (by dsimp only; omega)).trans kr0; have fr0 := (hbB.frozen (p := ⟨w.heap.size + 1, 0, none⟩) (by dsimp only; omega)).trans fr0; have kr1 := (hbB.cell (p := ⟨w.heap.size + 1, 1, none⟩) (by dsimp only; omega)).trans kr1; have fr1 := (hbB.frozen (p := ⟨w.heap.size + 1, 1, none⟩) (by dsimp only; omega)).trans fr1; have kr2 := (hbB.cell (p := ⟨w.heap.size + 1, 2, none⟩) (by dsimp only; omega)).trans kr2; have fr2 := (hbB.frozen (p := ⟨w.heap.size + 1, 2, none⟩) (by dsimp only; omega)).trans fr2; have kr3 := (hbB.cell (p := ⟨w.heap.size + 1, 3, none⟩) (by dsimp only; omega)).trans kr3; have fr3 := (hbB.frozen (p := ⟨w.heap.size + 1, 3, none⟩) (by dsimp only; omega)).trans fr3; have HAP := hide (apart_two hoA hoB); have HO1 := hide ((hoA.below hbBr).mono (base' := w1.heap.size) (Nat.le_of_eq (by first | rfl | (simp only [World.size_drew])))); have HO2 := hide (hoB.mono (base' := w1.heap.size) qA); clear hoA hoB hq)
      | (go_at_call 61; refine (powS _ x k _ ⟨a1, c1, rfl, S1.out.below (bl_refl w1).drew⟩ hk HX.out).mono ?_; rintro e wA ⟨_, pA, rfl, ⟨uA, vA, rfl, hoA⟩, hlA, hbAr⟩; have hbA : Below w1.heap.size w1 wA := (bl_refl w1).drew.trans hbAr))
  replace HB := hide (bl_trans HB.out hbB)
  clear KP KP4 hbA hbAr hbB hbBr
  go_wp2
  refine bodyPost_ret (v := (Value.agg #[Value.bool (sgn pA), Value.slice uA (lms pA).length vA, Value.bool (sgn pB), Value.slice uB (lms pB).length vB])) (by simp [results, Try.results43, go_sem, kr0, kr1, kr2, kr3]) rfl ?_
  obtain ⟨h1, h2, h3⟩ := fin_four (N := w.heap.size + 1) HO1.out HO2.out (by omega) (by omega) (by omega) HB.out (Value.bool (sgn pA)) (Value.slice uA (lms pA).length vA) (Value.bool (sgn pB)) (Value.slice uB (lms pB).length vB)
  exact ⟨pA, pB, uA, vA, uB, vB, rfl, hlA, hlB, h1, h2, HAP.out, h3⟩

set_option maxHeartbeats 4000000 in
theorem powNS (x y : Int) (a1 : Option Addr) (c1 : Nat) (b1 : Option Addr) (e1 : Nat) (w : World) (s1 : Seg w a1 (lms x).length c1 (lms x)) (t1 : Seg w b1 (lms y).length e1 (lms y)) (k : Nat) (hk : k ≤ 1000) (h0 : 0 < k) (hx : x.natAbs < 4294967296 ^ 40) (hy : y.natAbs < 4294967296 ^ 40) (hz : x ≠ 0) (hg : Int.gcd x y = 1) :
    Calls Try.prog 43 #[Value.agg #[Value.bool (sgn x), Value.slice a1 (lms x).length c1, Value.bool (sgn y), Value.slice b1 (lms y).length e1], .int .i64 (-(k : Int))] w fun e w' => LkAns (y / sgG y x) (x / sgG y x) k w w' e := by
  have HL := hide (turn_fits hx hy hg hz)
  have m1 : (lms x).length ≤ 1000 := Nat.le_trans (Num.limbs_len.2 hx) (by decide)
  have m2 : (lms y).length ≤ 1000 := Nat.le_trans (Num.limbs_len.2 hy) (by decide)
  have HZ := hide hz
  clear hx hy hz hg
  have hk1 : -(k : Int) < 0 := by omega
  have ka0 : ((w.alloc (Obj.cells #[Value.bool (sgn x), Value.slice a1 (lms x).length c1, Value.bool (sgn y), Value.slice b1 (lms y).length e1] 37)).alloc (Obj.cells #[Value.bool false, Value.slice none 0 0, Value.bool false, Value.slice none 0 0] 37)).cell? ⟨w.heap.size, 0, none⟩ = some (Value.bool (sgn x)) := by go_simp
  have ka1 : ((w.alloc (Obj.cells #[Value.bool (sgn x), Value.slice a1 (lms x).length c1, Value.bool (sgn y), Value.slice b1 (lms y).length e1] 37)).alloc (Obj.cells #[Value.bool false, Value.slice none 0 0, Value.bool false, Value.slice none 0 0] 37)).cell? ⟨w.heap.size, 1, none⟩ = some (Value.slice a1 (lms x).length c1) := by go_simp
  have ka2 : ((w.alloc (Obj.cells #[Value.bool (sgn x), Value.slice a1 (lms x).length c1, Value.bool (sgn y), Value.slice b1 (lms y).length e1] 37)).alloc (Obj.cells #[Value.bool false, Value.slice none 0 0, Value.bool false, Value.slice none 0 0] 37)).cell? ⟨w.heap.size, 2, none⟩ = some (Value.bool (sgn y)) := by go_simp
  have ka3 : ((w.alloc (Obj.cells #[Value.bool (sgn x), Value.slice a1 (lms x).length c1, Value.bool (sgn y), Value.slice b1 (lms y).length e1] 37)).alloc (Obj.cells #[Value.bool false, Value.slice none 0 0, Value.bool false, Value.slice none 0 0] 37)).cell? ⟨w.heap.size, 3, none⟩ = some (Value.slice b1 (lms y).length e1) := by go_simp
  have kr0 : ((w.alloc (Obj.cells #[Value.bool (sgn x), Value.slice a1 (lms x).length c1, Value.bool (sgn y), Value.slice b1 (lms y).length e1] 37)).alloc (Obj.cells #[Value.bool false, Value.slice none 0 0, Value.bool false, Value.slice none 0 0] 37)).cell? ⟨w.heap.size + 1, 0, none⟩ = some (Value.bool false) := by go_simp
  have fr0 : ((w.alloc (Obj.cells #[Value.bool (sgn x), Value.slice a1 (lms x).length c1, Value.bool (sgn y), Value.slice b1 (lms y).length e1] 37)).alloc (Obj.cells #[Value.bool false, Value.slice none 0 0, Value.bool false, Value.slice none 0 0] 37)).frozen? ⟨w.heap.size + 1, 0, none⟩ = false := by go_simp
  have kr1 : ((w.alloc (Obj.cells #[Value.bool (sgn x), Value.slice a1 (lms x).length c1, Value.bool (sgn y), Value.slice b1 (lms y).length e1] 37)).alloc (Obj.cells #[Value.bool false, Value.slice none 0 0, Value.bool false, Value.slice none 0 0] 37)).cell? ⟨w.heap.size + 1, 1, none⟩ = some (Value.slice none 0 0) := by go_simp
  have fr1 : ((w.alloc (Obj.cells #[Value.bool (sgn x), Value.slice a1 (lms x).length c1, Value.bool (sgn y), Value.slice b1 (lms y).length e1] 37)).alloc (Obj.cells #[Value.bool false, Value.slice none 0 0, Value.bool false, Value.slice none 0 0] 37)).frozen? ⟨w.heap.size + 1, 1, none⟩ = false := by go_simp
  have kr2 : ((w.alloc (Obj.cells #[Value.bool (sgn x), Value.slice a1 (lms x).length c1, Value.bool (sgn y), Value.slice b1 (lms y).length e1] 37)).alloc (Obj.cells #[Value.bool false, Value.slice none 0 0, Value.bool false, Value.slice none 0 0] 37)).cell? ⟨w.heap.size + 1, 2, none⟩ = some (Value.bool false) := by go_simp
  have fr2 : ((w.alloc (Obj.cells #[Value.bool (sgn x), Value.slice a1 (lms x).length c1, Value.bool (sgn y), Value.slice b1 (lms y).length e1] 37)).alloc (Obj.cells #[Value.bool false, Value.slice none 0 0, Value.bool false, Value.slice none 0 0] 37)).frozen? ⟨w.heap.size + 1, 2, none⟩ = false := by go_simp
  have kr3 : ((w.alloc (Obj.cells #[Value.bool (sgn x), Value.slice a1 (lms x).length c1, Value.bool (sgn y), Value.slice b1 (lms y).length e1] 37)).alloc (Obj.cells #[Value.bool false, Value.slice none 0 0, Value.bool false, Value.slice none 0 0] 37)).cell? ⟨w.heap.size + 1, 3, none⟩ = some (Value.slice none 0 0) := by go_simp
  have fr3 : ((w.alloc (Obj.cells #[Value.bool (sgn x), Value.slice a1 (lms x).length c1, Value.bool (sgn y), Value.slice b1 (lms y).length e1] 37)).alloc (Obj.cells #[Value.bool false, Value.slice none 0 0, Value.bool false, Value.slice none 0 0] 37)).frozen? ⟨w.heap.size + 1, 3, none⟩ = false := by go_simp
  have zr : w.heap.size + 1 < ((w.alloc (Obj.cells #[Value.bool (sgn x), Value.slice a1 (lms x).length c1, Value.bool (sgn y), Value.slice b1 (lms y).length e1] 37)).alloc (Obj.cells #[Value.bool false, Value.slice none 0 0, Value.bool false, Value.slice none 0 0] 37)).heap.size := by simp only [World.size_alloc]; omega
  have HB := hide (bl_alloc (bl_alloc (bl_refl w) (Obj.cells #[Value.bool (sgn x), Value.slice a1 (lms x).length c1, Value.bool (sgn y), Value.slice b1 (lms y).length e1] 37)) (Obj.cells #[Value.bool false, Value.slice none 0 0, Value.bool false, Value.slice none 0 0] 37))
  have S1 := hide (s1.below HB.out)
  have T1 := hide (t1.below HB.out)
  clear s1
  clear t1
  go_enter Try.func43, Try.ntmps43
  go_wp2_with fail
  generalize ((w.alloc (Obj.cells #[Value.bool (sgn x), Value.slice a1 (lms x).length c1, Value.bool (sgn y), Value.slice b1 (lms y).length e1] 37)).alloc (Obj.cells #[Value.bool false, Value.slice none 0 0, Value.bool false, Value.slice none 0 0] 37)) = w1 at *
  have z0 := zr
  refine (turnRS x y a1 c1 b1 e1 _ m1 m2 S1.out T1.out HZ.out).mono ?_
  rintro e w2 ⟨d1, f1, d2, f2, rfl, ho1, ho2, hap, hb⟩
  have yw2 := hb.size
  replace ka0 := (hb.cell (p := ⟨w.heap.size, 0, none⟩) (by dsimp only; omega)).trans ka0
  replace ka1 := (hb.cell (p := ⟨w.heap.size, 1, none⟩) (by dsimp only; omega)).trans ka1
  replace ka2 := (hb.cell (p := ⟨w.heap.size, 2, none⟩) (by dsimp only; omega)).trans ka2
  replace ka3 := (hb.cell (p := ⟨w.heap.size, 3, none⟩) (by dsimp only; omega)).trans ka3
  replace kr0 := (hb.cell (p := ⟨w.heap.size + 1, 0, none⟩) (by dsimp only; omega)).trans kr0
  replace fr0 := (hb.frozen (p := ⟨w.heap.size + 1, 0, none⟩) (by dsimp only; omega)).trans fr0
  replace kr1 := (hb.cell (p := ⟨w.heap.size + 1, 1, none⟩) (by dsimp only; omega)).trans kr1
  replace fr1 := (hb.frozen (p := ⟨w.heap.size + 1, 1, none⟩) (by dsimp only; omega)).trans fr1
  replace kr2 := (hb.cell (p := ⟨w.heap.size + 1, 2, none⟩) (by dsimp only; omega)).trans kr2
  replace fr2 := (hb.frozen (p := ⟨w.heap.size + 1, 2, none⟩) (by dsimp only; omega)).trans fr2
  replace kr3 := (hb.cell (p := ⟨w.heap.size + 1, 3, none⟩) (by dsimp only; omega)).trans kr3
  replace fr3 := (hb.frozen (p := ⟨w.heap.size + 1, 3, none⟩) (by dsimp only; omega)).trans fr3
  replace S1 := hide (S1.out.below hb)
  replace T1 := hide (T1.out.below hb)
  replace zr := Nat.lt_of_lt_of_le zr hb.size
  replace HB := hide (bl_trans HB.out hb)
  clear hb
  have O1 := hide ho1.seg
  have O2 := hide ho2.seg
  clear ho1 ho2 hap
  go_wp2_with fail
  refine (powRS (y / sgG y x) (x / sgG y x) d1 f1 d2 f2 _ O1.out O2.out k hk HL.out.1 HL.out.2).mono ?_
  rintro e w3 ⟨p, q, u1, v1, u2, v2, rfl, hl1, hl2, ho1, ho2, hap, hb⟩
  have yw3 := hb.size
  replace ka0 := (hb.cell (p := ⟨w.heap.size, 0, none⟩) (by dsimp only; omega)).trans ka0
  replace ka1 := (hb.cell (p := ⟨w.heap.size, 1, none⟩) (by dsimp only; omega)).trans ka1
  replace ka2 := (hb.cell (p := ⟨w.heap.size, 2, none⟩) (by dsimp only; omega)).trans ka2
  replace ka3 := (hb.cell (p := ⟨w.heap.size, 3, none⟩) (by dsimp only; omega)).trans ka3
  replace kr0 := (hb.cell (p := ⟨w.heap.size + 1, 0, none⟩) (by dsimp only; omega)).trans kr0
  replace fr0 := (hb.frozen (p := ⟨w.heap.size + 1, 0, none⟩) (by dsimp only; omega)).trans fr0
  replace kr1 := (hb.cell (p := ⟨w.heap.size + 1, 1, none⟩) (by dsimp only; omega)).trans kr1
  replace fr1 := (hb.frozen (p := ⟨w.heap.size + 1, 1, none⟩) (by dsimp only; omega)).trans fr1
  replace kr2 := (hb.cell (p := ⟨w.heap.size + 1, 2, none⟩) (by dsimp only; omega)).trans kr2
  replace fr2 := (hb.frozen (p := ⟨w.heap.size + 1, 2, none⟩) (by dsimp only; omega)).trans fr2
  replace kr3 := (hb.cell (p := ⟨w.heap.size + 1, 3, none⟩) (by dsimp only; omega)).trans kr3
  replace fr3 := (hb.frozen (p := ⟨w.heap.size + 1, 3, none⟩) (by dsimp only; omega)).trans fr3
  replace S1 := hide (S1.out.below hb)
  replace T1 := hide (T1.out.below hb)
  replace O1 := hide (O1.out.below hb)
  replace O2 := hide (O2.out.below hb)
  replace zr := Nat.lt_of_lt_of_le zr hb.size
  replace HB := hide (bl_trans HB.out hb)
  clear hb
  have P1 := hide ho1
  have P2 := hide ho2
  have HAP := hide hap
  clear ho1 ho2 hap
  go_wp2
  refine bodyPost_ret (v := (Value.agg #[Value.bool (sgn p), Value.slice u1 (lms p).length v1, Value.bool (sgn q), Value.slice u2 (lms q).length v2])) (by simp [results, Try.results43, go_sem, kr0, kr1, kr2, kr3]) rfl ?_
  obtain ⟨h1, h2, h3⟩ := fin_four (N := w.heap.size + 1) P1.out P2.out (by omega) (by omega) (by omega) HB.out (Value.bool (sgn p)) (Value.slice u1 (lms p).length v1) (Value.bool (sgn q)) (Value.slice u2 (lms q).length v2)
  exact ⟨p, q, u1, v1, u2, v2, rfl, hl1, hl2, h1, h2, HAP.out, h3⟩


end Go.Proofs.Ytknbfnhljblfkaa

/- The program's fraction turned. -/
namespace Go.Proofs.Ytknbfnhljblfkaa
open Go.RowKit
set_option linter.unusedVariables false

theorem tres_b {W0 wC : World} {b n c : Nat} {a : Option Addr} {xs : List Nat} {g : Bool} (h : Own wC b a n c xs) (hb : W0.heap.size ≤ b) (bC : Below W0.heap.size W0 wC) :
    W0.heap.size ≤ wC.heap.size ∧ wC.heap.size < (wC.alloc (Obj.cells #[Value.bool g, Value.slice a n c] 26)).heap.size ∧ (wC.alloc (Obj.cells #[Value.bool g, Value.slice a n c] 26)).cell? ⟨wC.heap.size, 0, none⟩ = some (Value.bool g) ∧ (wC.alloc (Obj.cells #[Value.bool g, Value.slice a n c] 26)).cell? ⟨wC.heap.size, 1, none⟩ = some (Value.slice a n c) ∧
      Own (wC.alloc (Obj.cells #[Value.bool g, Value.slice a n c] 26)) W0.heap.size a n c xs ∧ Below W0.heap.size W0 (wC.alloc (Obj.cells #[Value.bool g, Value.slice a n c] 26)) :=
  ⟨bC.size, by simp only [World.size_alloc]; omega, by go_simp, by go_simp, (h.below (bl_alloc (bl_refl wC) _)).mono hb, bl_alloc bC _⟩
theorem tres_a {W0 wC : World} {N b n c : Nat} {a : Option Addr} {xs : List Nat} {g : Bool} (h : Own wC b a n c xs) (hb : W0.heap.size ≤ b) (bC : Below W0.heap.size W0 wC) (hz : Zr wC N) (hN : W0.heap.size ≤ N) (hp : N < b) :
    W0.heap.size ≤ N ∧ N < ((wC.setCell ⟨N, 0, none⟩ (Value.bool g)).setCell ⟨N, 1, none⟩ (Value.slice a n c)).heap.size ∧ ((wC.setCell ⟨N, 0, none⟩ (Value.bool g)).setCell ⟨N, 1, none⟩ (Value.slice a n c)).cell? ⟨N, 0, none⟩ = some (Value.bool g) ∧ ((wC.setCell ⟨N, 0, none⟩ (Value.bool g)).setCell ⟨N, 1, none⟩ (Value.slice a n c)).cell? ⟨N, 1, none⟩ = some (Value.slice a n c) ∧
      Own ((wC.setCell ⟨N, 0, none⟩ (Value.bool g)).setCell ⟨N, 1, none⟩ (Value.slice a n c)) W0.heap.size a n c xs ∧ Below W0.heap.size W0 ((wC.setCell ⟨N, 0, none⟩ (Value.bool g)).setCell ⟨N, 1, none⟩ (Value.slice a n c)) := by
  obtain ⟨q, c0, c1, f0, f1⟩ := hz
  exact ⟨hN, by simp; omega, by go_simp, by go_simp, ((h.setCell (p := ⟨N, 0, none⟩) hp _).setCell (p := ⟨N, 1, none⟩) hp _).mono hb, (bC.setCell (p := ⟨N, 0, none⟩) hN _).setCell (p := ⟨N, 1, none⟩) hN _⟩

set_option maxHeartbeats 4000000 in
theorem turnI (x y : Int) (a1 : Option Addr) (c1 : Nat) (b1 : Option Addr) (e1 : Nat) (w : World) (s1 : Seg w a1 (lms x).length c1 (lms x)) (t1 : Seg w b1 (lms y).length e1 (lms y)) (m1 : (lms x).length ≤ 1000) (m2 : (lms y).length ≤ 1000) :
    Calls Try.prog 45 #[Value.agg #[Value.bool (sgn x), Value.slice a1 (lms x).length c1, Value.bool (sgn y), Value.slice b1 (lms y).length e1]] w fun e w' => ∃ u1 v1 u2 v2, e = .returned (.agg #[.bool (sgn x), .slice u1 (lms y).length v1, .bool (sgn (x.natAbs : Int)), .slice u2 (lms (x.natAbs : Int)).length v2]) ∧ Own w' w.heap.size u1 (lms y).length v1 (lms y) ∧ Own w' w.heap.size u2 (lms (x.natAbs : Int)).length v2 (lms (x.natAbs : Int)) ∧ Apart u1 u2 ∧ Below w.heap.size w w' := by
  have ka0 : ((w.alloc (Obj.cells #[Value.bool (sgn x), Value.slice a1 (lms x).length c1, Value.bool (sgn y), Value.slice b1 (lms y).length e1] 37)).alloc (Obj.cells #[Value.bool false, Value.slice none 0 0, Value.bool false, Value.slice none 0 0] 37)).cell? ⟨w.heap.size, 0, none⟩ = some (Value.bool (sgn x)) := by go_simp
  have ka1 : ((w.alloc (Obj.cells #[Value.bool (sgn x), Value.slice a1 (lms x).length c1, Value.bool (sgn y), Value.slice b1 (lms y).length e1] 37)).alloc (Obj.cells #[Value.bool false, Value.slice none 0 0, Value.bool false, Value.slice none 0 0] 37)).cell? ⟨w.heap.size, 1, none⟩ = some (Value.slice a1 (lms x).length c1) := by go_simp
  have ka2 : ((w.alloc (Obj.cells #[Value.bool (sgn x), Value.slice a1 (lms x).length c1, Value.bool (sgn y), Value.slice b1 (lms y).length e1] 37)).alloc (Obj.cells #[Value.bool false, Value.slice none 0 0, Value.bool false, Value.slice none 0 0] 37)).cell? ⟨w.heap.size, 2, none⟩ = some (Value.bool (sgn y)) := by go_simp
  have ka3 : ((w.alloc (Obj.cells #[Value.bool (sgn x), Value.slice a1 (lms x).length c1, Value.bool (sgn y), Value.slice b1 (lms y).length e1] 37)).alloc (Obj.cells #[Value.bool false, Value.slice none 0 0, Value.bool false, Value.slice none 0 0] 37)).cell? ⟨w.heap.size, 3, none⟩ = some (Value.slice b1 (lms y).length e1) := by go_simp
  have kr0 : ((w.alloc (Obj.cells #[Value.bool (sgn x), Value.slice a1 (lms x).length c1, Value.bool (sgn y), Value.slice b1 (lms y).length e1] 37)).alloc (Obj.cells #[Value.bool false, Value.slice none 0 0, Value.bool false, Value.slice none 0 0] 37)).cell? ⟨w.heap.size + 1, 0, none⟩ = some (Value.bool false) := by go_simp
  have fr0 : ((w.alloc (Obj.cells #[Value.bool (sgn x), Value.slice a1 (lms x).length c1, Value.bool (sgn y), Value.slice b1 (lms y).length e1] 37)).alloc (Obj.cells #[Value.bool false, Value.slice none 0 0, Value.bool false, Value.slice none 0 0] 37)).frozen? ⟨w.heap.size + 1, 0, none⟩ = false := by go_simp
  have kr1 : ((w.alloc (Obj.cells #[Value.bool (sgn x), Value.slice a1 (lms x).length c1, Value.bool (sgn y), Value.slice b1 (lms y).length e1] 37)).alloc (Obj.cells #[Value.bool false, Value.slice none 0 0, Value.bool false, Value.slice none 0 0] 37)).cell? ⟨w.heap.size + 1, 1, none⟩ = some (Value.slice none 0 0) := by go_simp
  have fr1 : ((w.alloc (Obj.cells #[Value.bool (sgn x), Value.slice a1 (lms x).length c1, Value.bool (sgn y), Value.slice b1 (lms y).length e1] 37)).alloc (Obj.cells #[Value.bool false, Value.slice none 0 0, Value.bool false, Value.slice none 0 0] 37)).frozen? ⟨w.heap.size + 1, 1, none⟩ = false := by go_simp
  have kr2 : ((w.alloc (Obj.cells #[Value.bool (sgn x), Value.slice a1 (lms x).length c1, Value.bool (sgn y), Value.slice b1 (lms y).length e1] 37)).alloc (Obj.cells #[Value.bool false, Value.slice none 0 0, Value.bool false, Value.slice none 0 0] 37)).cell? ⟨w.heap.size + 1, 2, none⟩ = some (Value.bool false) := by go_simp
  have fr2 : ((w.alloc (Obj.cells #[Value.bool (sgn x), Value.slice a1 (lms x).length c1, Value.bool (sgn y), Value.slice b1 (lms y).length e1] 37)).alloc (Obj.cells #[Value.bool false, Value.slice none 0 0, Value.bool false, Value.slice none 0 0] 37)).frozen? ⟨w.heap.size + 1, 2, none⟩ = false := by go_simp
  have kr3 : ((w.alloc (Obj.cells #[Value.bool (sgn x), Value.slice a1 (lms x).length c1, Value.bool (sgn y), Value.slice b1 (lms y).length e1] 37)).alloc (Obj.cells #[Value.bool false, Value.slice none 0 0, Value.bool false, Value.slice none 0 0] 37)).cell? ⟨w.heap.size + 1, 3, none⟩ = some (Value.slice none 0 0) := by go_simp
  have fr3 : ((w.alloc (Obj.cells #[Value.bool (sgn x), Value.slice a1 (lms x).length c1, Value.bool (sgn y), Value.slice b1 (lms y).length e1] 37)).alloc (Obj.cells #[Value.bool false, Value.slice none 0 0, Value.bool false, Value.slice none 0 0] 37)).frozen? ⟨w.heap.size + 1, 3, none⟩ = false := by go_simp
  have zr : w.heap.size + 1 < ((w.alloc (Obj.cells #[Value.bool (sgn x), Value.slice a1 (lms x).length c1, Value.bool (sgn y), Value.slice b1 (lms y).length e1] 37)).alloc (Obj.cells #[Value.bool false, Value.slice none 0 0, Value.bool false, Value.slice none 0 0] 37)).heap.size := by simp only [World.size_alloc]; omega
  have HB := hide (bl_alloc (bl_alloc (bl_refl w) (Obj.cells #[Value.bool (sgn x), Value.slice a1 (lms x).length c1, Value.bool (sgn y), Value.slice b1 (lms y).length e1] 37)) (Obj.cells #[Value.bool false, Value.slice none 0 0, Value.bool false, Value.slice none 0 0] 37))
  have S1 := hide (s1.below HB.out)
  have T1 := hide (t1.below HB.out)
  clear s1
  clear t1
  go_enter Try.func45, Try.ntmps45
  go_wp2_with fail
  generalize ((w.alloc (Obj.cells #[Value.bool (sgn x), Value.slice a1 (lms x).length c1, Value.bool (sgn y), Value.slice b1 (lms y).length e1] 37)).alloc (Obj.cells #[Value.bool false, Value.slice none 0 0, Value.bool false, Value.slice none 0 0] 37)) = w1 at *
  have z0 := zr
  go_upto_region 1 with fail
  go_cut [3] (fun s0 wc => ∃ (N0 : Nat) (aC : Option Addr) (cC : Nat), s0 = .pointer (some ⟨N0, 0, none⟩) ∧ Hid (w1.heap.size ≤ N0 ∧ N0 < wc.heap.size ∧ wc.cell? ⟨N0, 0, none⟩ = some (Value.bool (sgn x)) ∧ wc.cell? ⟨N0, 1, none⟩ = some (Value.slice aC (lms y).length cC) ∧ Own wc w1.heap.size aC (lms y).length cC (lms y) ∧ Below w1.heap.size w1 wc))
  case first =>
    have KP : Hid (∀ w', Below w1.heap.size w1 w' → (w'.cell? ⟨w.heap.size, 0, none⟩ = some (Value.bool (sgn x)) ∧ w'.cell? ⟨w.heap.size, 1, none⟩ = some (Value.slice a1 (lms x).length c1) ∧ w'.cell? ⟨w.heap.size, 2, none⟩ = some (Value.bool (sgn y)) ∧ w'.cell? ⟨w.heap.size, 3, none⟩ = some (Value.slice b1 (lms y).length e1) ∧ Hid (Below w1.heap.size w1 w'))) := hide (fun w' hb => ⟨(hb.cell (p := ⟨w.heap.size, 0, none⟩) (by dsimp only; omega)).trans ka0, (hb.cell (p := ⟨w.heap.size, 1, none⟩) (by dsimp only; omega)).trans ka1, (hb.cell (p := ⟨w.heap.size, 2, none⟩) (by dsimp only; omega)).trans ka2, (hb.cell (p := ⟨w.heap.size, 3, none⟩) (by dsimp only; omega)).trans ka3, hide hb⟩)
    go_region_held3 (fun w' => w'.cell? ⟨w.heap.size, 0, none⟩ = some (Value.bool (sgn x)) ∧ w'.cell? ⟨w.heap.size, 1, none⟩ = some (Value.slice a1 (lms x).length c1) ∧ w'.cell? ⟨w.heap.size, 2, none⟩ = some (Value.bool (sgn y)) ∧ w'.cell? ⟨w.heap.size, 3, none⟩ = some (Value.slice b1 (lms y).length e1) ∧ Hid (Below w1.heap.size w1 w'))
      (first | with_reducible exact KP.out _ (bl_refl w1).drew | with_reducible exact KP.out _ bA | exact KP.out _ (by repeat first | with_reducible exact bA | with_reducible exact (bl_refl w1).drew | with_reducible exact bl_refl w1 | refine bl_alloc ?_ _ | refine bl_trans ?_ (bl_refl _).drew | refine Below.setCell ?_ (by first | omega | (dsimp only; omega) | (dsimp only; rw [World.size_drew]; omega)) _))
      (first | (go_at_call 55; refine (cloneI b1 (lms y).length e1 (lms y) _ (T1.out.below (Hid.out (And.right (And.right (And.right (And.right (by assumption))))))) (by omega)).mono ?_; rintro e wA ⟨aC, cC, rfl, hoA, hbA⟩; have bA : Below w1.heap.size w1 wA := bl_trans (Hid.out (And.right (And.right (And.right (And.right (by assumption)))))) hbA; have yA := bA.size; have HOA := hide hoA; clear hoA; (first | have HZa0 := hide (show Zr wA w1.heap.size from born1 hbA) | have HZa0 := hide (show Zr wA w1.heap.size from born1 (bl_trans (bl_refl (w1.alloc (Obj.cells #[Value.bool false, Value.slice none 0 0] 26))).drew hbA)) | skip); (try have Qa0 := HZa0.out); (try obtain ⟨za0, ka0_0, ka0_1, fa0_0, fa0_1⟩ := HZa0.out); (try simp only [World.size_drew] at HOA); (try simp only [World.size_alloc] at HOA); clear hbA))
    all_goals (go_wp2_with fail; go_meet)
    · exact ⟨_, aC, cC, rfl, hide (tres_b HOA.out (by omega) bA)⟩
    · exact ⟨_, aC, cC, rfl, hide (tres_a HOA.out (by omega) bA Qa0 (by omega) (by omega))⟩
  case rest =>
  obtain ⟨N0, aC, cC, rfl, hres⟩ := hcut
  obtain ⟨nN, mN, kn0, kn1, gC, hb⟩ := hres.out
  clear hres
  rename World => w2
  have yw2 := hb.size
  replace ka0 := (hb.cell (p := ⟨w.heap.size, 0, none⟩) (by dsimp only; omega)).trans ka0
  replace ka1 := (hb.cell (p := ⟨w.heap.size, 1, none⟩) (by dsimp only; omega)).trans ka1
  replace ka2 := (hb.cell (p := ⟨w.heap.size, 2, none⟩) (by dsimp only; omega)).trans ka2
  replace ka3 := (hb.cell (p := ⟨w.heap.size, 3, none⟩) (by dsimp only; omega)).trans ka3
  replace kr0 := (hb.cell (p := ⟨w.heap.size + 1, 0, none⟩) (by dsimp only; omega)).trans kr0
  replace fr0 := (hb.frozen (p := ⟨w.heap.size + 1, 0, none⟩) (by dsimp only; omega)).trans fr0
  replace kr1 := (hb.cell (p := ⟨w.heap.size + 1, 1, none⟩) (by dsimp only; omega)).trans kr1
  replace fr1 := (hb.frozen (p := ⟨w.heap.size + 1, 1, none⟩) (by dsimp only; omega)).trans fr1
  replace kr2 := (hb.cell (p := ⟨w.heap.size + 1, 2, none⟩) (by dsimp only; omega)).trans kr2
  replace fr2 := (hb.frozen (p := ⟨w.heap.size + 1, 2, none⟩) (by dsimp only; omega)).trans fr2
  replace kr3 := (hb.cell (p := ⟨w.heap.size + 1, 3, none⟩) (by dsimp only; omega)).trans kr3
  replace fr3 := (hb.frozen (p := ⟨w.heap.size + 1, 3, none⟩) (by dsimp only; omega)).trans fr3
  replace S1 := hide (S1.out.below hb)
  replace T1 := hide (T1.out.below hb)
  replace zr := Nat.lt_of_lt_of_le zr hb.size
  replace HB := hide (bl_trans HB.out hb)
  clear hb
  have HO1 := hide gC
  clear gC
  go_wp2_with fail
  have KP : Hid (∀ w', Below w2.heap.size w2 w' → (w'.cell? ⟨w.heap.size, 0, none⟩ = some (Value.bool (sgn x)) ∧ w'.cell? ⟨w.heap.size, 1, none⟩ = some (Value.slice a1 (lms x).length c1) ∧ w'.cell? ⟨w.heap.size, 2, none⟩ = some (Value.bool (sgn y)) ∧ w'.cell? ⟨w.heap.size, 3, none⟩ = some (Value.slice b1 (lms y).length e1) ∧ w'.cell? ⟨N0, 0, none⟩ = some (Value.bool (sgn x)) ∧ w'.cell? ⟨N0, 1, none⟩ = some (Value.slice aC (lms y).length cC))) := hide (fun w' hb => ⟨(hb.cell (p := ⟨w.heap.size, 0, none⟩) (by dsimp only; omega)).trans ka0, (hb.cell (p := ⟨w.heap.size, 1, none⟩) (by dsimp only; omega)).trans ka1, (hb.cell (p := ⟨w.heap.size, 2, none⟩) (by dsimp only; omega)).trans ka2, (hb.cell (p := ⟨w.heap.size, 3, none⟩) (by dsimp only; omega)).trans ka3, (hb.cell (p := ⟨N0, 0, none⟩) (by dsimp only; omega)).trans kn0, (hb.cell (p := ⟨N0, 1, none⟩) (by dsimp only; omega)).trans kn1⟩)
  have KP4 : Hid (∀ w', Below w2.heap.size w2 w' → ∀ q0 q1 q2 q3, (((((w'.setCell ⟨w.heap.size + 1, 0, none⟩ q0).setCell ⟨w.heap.size + 1, 1, none⟩ q1).setCell ⟨w.heap.size + 1, 2, none⟩ q2).setCell ⟨w.heap.size + 1, 3, none⟩ q3).cell? ⟨w.heap.size, 0, none⟩ = some (Value.bool (sgn x)) ∧ ((((w'.setCell ⟨w.heap.size + 1, 0, none⟩ q0).setCell ⟨w.heap.size + 1, 1, none⟩ q1).setCell ⟨w.heap.size + 1, 2, none⟩ q2).setCell ⟨w.heap.size + 1, 3, none⟩ q3).cell? ⟨w.heap.size, 1, none⟩ = some (Value.slice a1 (lms x).length c1) ∧ ((((w'.setCell ⟨w.heap.size + 1, 0, none⟩ q0).setCell ⟨w.heap.size + 1, 1, none⟩ q1).setCell ⟨w.heap.size + 1, 2, none⟩ q2).setCell ⟨w.heap.size + 1, 3, none⟩ q3).cell? ⟨w.heap.size, 2, none⟩ = some (Value.bool (sgn y)) ∧ ((((w'.setCell ⟨w.heap.size + 1, 0, none⟩ q0).setCell ⟨w.heap.size + 1, 1, none⟩ q1).setCell ⟨w.heap.size + 1, 2, none⟩ q2).setCell ⟨w.heap.size + 1, 3, none⟩ q3).cell? ⟨w.heap.size, 3, none⟩ = some (Value.slice b1 (lms y).length e1) ∧ ((((w'.setCell ⟨w.heap.size + 1, 0, none⟩ q0).setCell ⟨w.heap.size + 1, 1, none⟩ q1).setCell ⟨w.heap.size + 1, 2, none⟩ q2).setCell ⟨w.heap.size + 1, 3, none⟩ q3).cell? ⟨N0, 0, none⟩ = some (Value.bool (sgn x)) ∧ ((((w'.setCell ⟨w.heap.size + 1, 0, none⟩ q0).setCell ⟨w.heap.size + 1, 1, none⟩ q1).setCell ⟨w.heap.size + 1, 2, none⟩ q2).setCell ⟨w.heap.size + 1, 3, none⟩ q3).cell? ⟨N0, 1, none⟩ = some (Value.slice aC (lms y).length cC))) := hide (fun w' hb q0 q1 q2 q3 => ⟨(cell_four (p := ⟨w.heap.size, 0, none⟩) (by dsimp only; omega)).trans ((hb.cell (p := ⟨w.heap.size, 0, none⟩) (by dsimp only; omega)).trans ka0), (cell_four (p := ⟨w.heap.size, 1, none⟩) (by dsimp only; omega)).trans ((hb.cell (p := ⟨w.heap.size, 1, none⟩) (by dsimp only; omega)).trans ka1), (cell_four (p := ⟨w.heap.size, 2, none⟩) (by dsimp only; omega)).trans ((hb.cell (p := ⟨w.heap.size, 2, none⟩) (by dsimp only; omega)).trans ka2), (cell_four (p := ⟨w.heap.size, 3, none⟩) (by dsimp only; omega)).trans ((hb.cell (p := ⟨w.heap.size, 3, none⟩) (by dsimp only; omega)).trans ka3), (cell_four (p := ⟨N0, 0, none⟩) (by dsimp only; omega)).trans ((hb.cell (p := ⟨N0, 0, none⟩) (by dsimp only; omega)).trans kn0), (cell_four (p := ⟨N0, 1, none⟩) (by dsimp only; omega)).trans ((hb.cell (p := ⟨N0, 1, none⟩) (by dsimp only; omega)).trans kn1)⟩)
  go_region_held3 (fun w' => w'.cell? ⟨w.heap.size, 0, none⟩ = some (Value.bool (sgn x)) ∧ w'.cell? ⟨w.heap.size, 1, none⟩ = some (Value.slice a1 (lms x).length c1) ∧ w'.cell? ⟨w.heap.size, 2, none⟩ = some (Value.bool (sgn y)) ∧ w'.cell? ⟨w.heap.size, 3, none⟩ = some (Value.slice b1 (lms y).length e1) ∧ w'.cell? ⟨N0, 0, none⟩ = some (Value.bool (sgn x)) ∧ w'.cell? ⟨N0, 1, none⟩ = some (Value.slice aC (lms y).length cC))
    (first | with_reducible exact KP.out _ (bl_refl w2).drew | with_reducible exact KP4.out _ hbB _ _ _ _ | with_reducible exact KP.out _ hbB)
    (first | (go_at_call 30; refine (sizeI _ x _ ⟨a1, c1, rfl, S1.out.below (bl_refl w2).drew⟩ (by omega)).mono ?_; rintro e wB ⟨_, rfl, ⟨uB, vB, rfl, hoB⟩, hbBr⟩; have hbB : Below w2.heap.size w2 wB := (bl_refl w2).drew.trans hbBr; have qB := hbB.size; have HO2 := hide (hoB.mono (base' := w2.heap.size) (Nat.le_of_eq (by first | rfl | (simp only [World.size_drew])))); have HAP := hide (apart_two HO1.out HO2.out); clear hoB; have kr0 := (hbB.cell (p := ⟨w.heap.size + 1, 0, none⟩) (by dsimp only; omega)).trans kr0; have fr0 := (hbB.frozen (p := ⟨w.heap.size + 1, 0, none⟩) (by dsimp only; omega)).trans fr0; have kr1 := (hbB.cell (p := ⟨w.heap.size + 1, 1, none⟩) (by dsimp only; omega)).trans kr1; have fr1 := (hbB.frozen (p := ⟨w.heap.size + 1, 1, none⟩) (by dsimp only; omega)).trans fr1; have kr2 := (hbB.cell (p := ⟨w.heap.size + 1, 2, none⟩) (by dsimp only; omega)).trans kr2; have fr2 := (hbB.frozen (p := ⟨w.heap.size + 1, 2, none⟩) (by dsimp only; omega)).trans fr2; have kr3 := (hbB.cell (p := ⟨w.heap.size + 1, 3, none⟩) (by dsimp only; omega)).trans kr3; have fr3 := (hbB.frozen (p := ⟨w.heap.size + 1, 3, none⟩) (by dsimp only; omega)).trans fr3))
  replace HO1 := hide (HO1.out.below hbB)
  replace HB := hide (bl_trans HB.out hbB)
  clear KP KP4 hbB hbBr
  go_wp2
  refine bodyPost_ret (v := (Value.agg #[Value.bool (sgn x), Value.slice aC (lms y).length cC, Value.bool (sgn (x.natAbs : Int)), Value.slice uB (lms (x.natAbs : Int)).length vB])) (by simp [results, Try.results45, go_sem, kr0, kr1, kr2, kr3]) rfl ?_
  obtain ⟨h1, h2, h3⟩ := fin_four (N := w.heap.size + 1) HO1.out HO2.out (by omega) (by omega) (by omega) HB.out (Value.bool (sgn x)) (Value.slice aC (lms y).length cC) (Value.bool (sgn (x.natAbs : Int))) (Value.slice uB (lms (x.natAbs : Int)).length vB)
  exact ⟨aC, cC, uB, vB, rfl, h1, h2, HAP.out, h3⟩


end Go.Proofs.Ytknbfnhljblfkaa

/- What a power of a fraction is, by its arguments. -/
namespace Go.Proofs.Ytknbfnhljblfkaa
open Go.RowKit
set_option linter.unusedVariables false

/-- when a power is asked at all, and of which fraction -/
def pwG (x n : Int) : Bool := decide (-1000 ≤ n ∧ n ≤ 1000) && (decide (0 ≤ n) || decide (x ≠ 0))
def pwX (x y n : Int) : Int := if n < 0 then y / sgG y x else x
def pwY (x y n : Int) : Int := if n < 0 then x / sgG y x else y
theorem pwG_out {x n : Int} (h : ¬ (-1000 ≤ n ∧ n ≤ 1000)) : pwG x n = false := by unfold pwG; rw [decide_eq_false h]; rfl
theorem pwG_zero {x n : Int} (h : n < 0) (hz : x = 0) : pwG x n = false := by unfold pwG; rw [decide_eq_false (p := 0 ≤ n) (by omega), decide_eq_false (p := x ≠ 0) (by omega)]; simp
theorem pwG_neg {x n : Int} (h : n < 0) (hr : -1000 ≤ n) (hz : x ≠ 0) : pwG x n = true := by unfold pwG; rw [decide_eq_true (p := -1000 ≤ n ∧ n ≤ 1000) ⟨hr, by omega⟩, decide_eq_true (p := x ≠ 0) hz]; simp
theorem pwG_pos {x n : Int} (h : 0 ≤ n) : pwG x n = decide (n ≤ 1000) := by
  unfold pwG; rw [decide_eq_true (p := 0 ≤ n) h]
  simp only [Bool.true_or, Bool.and_true]
  exact decide_eq_decide.2 ⟨fun h => h.2, fun h' => ⟨by omega, h'⟩⟩
theorem pw_neg {t : Bool} {x y n : Int} {w w' : World} {e : Ending} (ht : t = true) (h : n < 0) (hr : -1000 ≤ n) (hz : x ≠ 0) (k : Nat) (hk : n = -(k : Int)) (H : PrAns true (y / sgG y x) (x / sgG y x) k w w' e) : PrAns (t && pwG x n) (pwX x y n) (pwY x y n) (Int.natAbs n) w w' e := by
  have e1 : (t && pwG x n) = true := by rw [ht, pwG_neg h hr hz]; rfl
  have e2 : pwX x y n = y / sgG y x := if_pos h
  have e3 : pwY x y n = x / sgG y x := if_pos h
  have e4 : Int.natAbs n = k := by omega
  rw [e1, e2, e3, e4]; exact H
theorem pw_pos {t : Bool} {x y n : Int} {w w' : World} {e : Ending} (ht : t = true) (h : 0 ≤ n) (k : Nat) (hk : n = (k : Int)) (H : PrAns (decide (n ≤ 1000)) x y k w w' e) : PrAns (t && pwG x n) (pwX x y n) (pwY x y n) (Int.natAbs n) w w' e := by
  have e1 : (t && pwG x n) = decide (n ≤ 1000) := by rw [ht, pwG_pos h]; rfl
  have e2 : pwX x y n = x := if_neg (by omega)
  have e3 : pwY x y n = y := if_neg (by omega)
  have e4 : Int.natAbs n = k := by omega
  rw [e1, e2, e3, e4]; exact H
theorem like_eq {z : Int} {n : Nat} {q : Int} (h : PowLike z n q) (hf : fits q = true) : q = z ^ n := by
  rcases h with h | ⟨h1, _, _⟩
  · exact h
  · unfold fits at hf; rw [decide_eq_true_eq] at hf; omega
theorem like_ft {x y : Int} {k : Nat} {p q : Int} (h1 : PowLike x k p) (h2 : PowLike y k q) : prT true x y k = ftT p q := by
  unfold prT ftT; rw [h1.fitsE, h2.fitsE]; rfl
theorem inL (n a b : Int) (w : World) : Calls Try.prog 41 #[.int .i64 n, .int .i64 a, .int .i64 b] w fun e w' => e = .returned (.bool (decide (a ≤ n ∧ n ≤ b))) ∧ Below w.heap.size w w' :=
  (inS n a b w).mono fun e w' h => ⟨h.1, h.2 ▸ bl_refl w⟩
theorem turnJ (x y : Int) (a1 : Option Addr) (c1 : Nat) (b1 : Option Addr) (e1 : Nat) (w : World) (s1 : Seg w a1 (lms x).length c1 (lms x)) (t1 : Seg w b1 (lms y).length e1 (lms y)) (m1 : (lms x).length ≤ 1000) (m2 : (lms y).length ≤ 1000) (hp : 0 < y) (hg : Int.gcd x y = 1) (hz : x ≠ 0) :
    Calls Try.prog 45 #[Value.agg #[Value.bool (sgn x), Value.slice a1 (lms x).length c1, Value.bool (sgn y), Value.slice b1 (lms y).length e1]] w fun e w' => StAns y x w w' e := by
  refine (turnI x y a1 c1 b1 e1 w s1 t1 m1 m2).mono ?_
  rintro e w' ⟨u1, v1, u2, v2, rfl, o1, o2, ap, hb⟩
  obtain ⟨h1, h2, h3⟩ := turn_sign hp hg hz
  exact ⟨u1, v1, u2, v2, by rw [h1, h2, h3], by rw [h2]; exact o1, by rw [h3]; exact o2, ap, hb⟩

end Go.Proofs.Ytknbfnhljblfkaa
