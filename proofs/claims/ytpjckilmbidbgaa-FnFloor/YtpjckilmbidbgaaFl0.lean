/- A fraction to the 0, and a byte of the code. -/
import Derived.Test.YtpjckilmbidbgaaPk49
import Derived.Test.YtpjckilmbidbgaaPk47
import Derived.Test.YtpjckilmbidbgaaFloor
import Derived.Test.YtpjckilmbidbgaaPk36
import Derived.Test.YtpjckilmbidbgaaPk41
namespace Go.Proofs.Ytpjckilmbidbgaa
open Go.RowKit
set_option linter.unusedVariables false

theorem atG (i : Nat) (hi : i ≤ 100) (a : Option Addr) (len cap : Nat) (w : World) (hr : Row a len cap w) (hl : len ≤ 1048576) :
    Calls Try.prog 43 #[.slice a len cap, .int .i64 i] w fun e w' => ∃ x : Int, (0 ≤ x ∧ x ≤ 255) ∧ e = .returned (.int .i64 x) ∧ w' = w := by
  have hcp := hr.2.1
  have hcm := hr.2.2
  by_cases h : (i : Int) < len
  · rcases hr.1 with h0 | ⟨b, off, rfl, hb, hc⟩
    · omega
    obtain ⟨z, hz, hcz⟩ := hc i (by omega)
    clear hc hr
    go_enter Try.func43, Try.ntmps43
    go_wp2
    go_ret
    exact ⟨z, by omega, rfl, rfl⟩
  · clear hr
    go_enter Try.func43, Try.ntmps43
    go_wp2
    go_ret
    exact ⟨_, by omega, rfl, rfl⟩
theorem pow0 {z q : Int} (h : PowLike z 0 q) : q = 1 := by
  rcases h with h | ⟨h1, h2, _⟩
  · rw [h, Int.pow_zero]
  · exfalso
    have e : (z ^ 0).natAbs = 1 := by rw [Int.pow_zero]; rfl
    rw [e] at h2
    have : (4294967296 : Nat) ^ 40 ≤ 1 := Nat.le_trans h1 h2
    exact absurd this (by decide)

set_option maxHeartbeats 2000000 in
theorem lpow0 (x y : Int) (a : Option Addr) (c : Nat) (b : Option Addr) (d : Nat) (w : World) (hx : x.natAbs < 4294967296 ^ 40) (hy : y.natAbs < 4294967296 ^ 40) (s1 : Seg w a (lms x).length c (lms x)) (s2 : Seg w b (lms y).length d (lms y)) :
    Calls Try.prog 64 #[Value.agg #[Value.bool (sgn x), Value.slice a (lms x).length c, Value.bool (sgn y), Value.slice b (lms y).length d], .int .i64 0] w fun e w' => ∃ a1 c1 a2 c2, e = .returned (.agg #[.bool (sgn 1), .slice a1 (lms 1).length c1, .bool (sgn 1), .slice a2 (lms 1).length c2]) ∧ Own w' w.heap.size a1 (lms 1).length c1 (lms 1) ∧ Own w' w.heap.size a2 (lms 1).length c2 (lms 1) ∧ Below w.heap.size w w' := by
  have HX := hide hx
  have HY := hide hy
  clear hx hy
  have ka0 : ((w.alloc (Obj.cells #[Value.bool (sgn x), Value.slice a (lms x).length c, Value.bool (sgn y), Value.slice b (lms y).length d] 28)).alloc (Obj.cells #[Value.bool false, Value.slice none 0 0, Value.bool false, Value.slice none 0 0] 28)).cell? ⟨w.heap.size, 0, none⟩ = some (Value.bool (sgn x)) := by go_simp
  have ka1 : ((w.alloc (Obj.cells #[Value.bool (sgn x), Value.slice a (lms x).length c, Value.bool (sgn y), Value.slice b (lms y).length d] 28)).alloc (Obj.cells #[Value.bool false, Value.slice none 0 0, Value.bool false, Value.slice none 0 0] 28)).cell? ⟨w.heap.size, 1, none⟩ = some (Value.slice a (lms x).length c) := by go_simp
  have ka2 : ((w.alloc (Obj.cells #[Value.bool (sgn x), Value.slice a (lms x).length c, Value.bool (sgn y), Value.slice b (lms y).length d] 28)).alloc (Obj.cells #[Value.bool false, Value.slice none 0 0, Value.bool false, Value.slice none 0 0] 28)).cell? ⟨w.heap.size, 2, none⟩ = some (Value.bool (sgn y)) := by go_simp
  have ka3 : ((w.alloc (Obj.cells #[Value.bool (sgn x), Value.slice a (lms x).length c, Value.bool (sgn y), Value.slice b (lms y).length d] 28)).alloc (Obj.cells #[Value.bool false, Value.slice none 0 0, Value.bool false, Value.slice none 0 0] 28)).cell? ⟨w.heap.size, 3, none⟩ = some (Value.slice b (lms y).length d) := by go_simp
  have kr0 : ((w.alloc (Obj.cells #[Value.bool (sgn x), Value.slice a (lms x).length c, Value.bool (sgn y), Value.slice b (lms y).length d] 28)).alloc (Obj.cells #[Value.bool false, Value.slice none 0 0, Value.bool false, Value.slice none 0 0] 28)).cell? ⟨w.heap.size + 1, 0, none⟩ = some (Value.bool false) := by go_simp
  have fr0 : ((w.alloc (Obj.cells #[Value.bool (sgn x), Value.slice a (lms x).length c, Value.bool (sgn y), Value.slice b (lms y).length d] 28)).alloc (Obj.cells #[Value.bool false, Value.slice none 0 0, Value.bool false, Value.slice none 0 0] 28)).frozen? ⟨w.heap.size + 1, 0, none⟩ = false := by go_simp
  have kr1 : ((w.alloc (Obj.cells #[Value.bool (sgn x), Value.slice a (lms x).length c, Value.bool (sgn y), Value.slice b (lms y).length d] 28)).alloc (Obj.cells #[Value.bool false, Value.slice none 0 0, Value.bool false, Value.slice none 0 0] 28)).cell? ⟨w.heap.size + 1, 1, none⟩ = some (Value.slice none 0 0) := by go_simp
  have fr1 : ((w.alloc (Obj.cells #[Value.bool (sgn x), Value.slice a (lms x).length c, Value.bool (sgn y), Value.slice b (lms y).length d] 28)).alloc (Obj.cells #[Value.bool false, Value.slice none 0 0, Value.bool false, Value.slice none 0 0] 28)).frozen? ⟨w.heap.size + 1, 1, none⟩ = false := by go_simp
  have kr2 : ((w.alloc (Obj.cells #[Value.bool (sgn x), Value.slice a (lms x).length c, Value.bool (sgn y), Value.slice b (lms y).length d] 28)).alloc (Obj.cells #[Value.bool false, Value.slice none 0 0, Value.bool false, Value.slice none 0 0] 28)).cell? ⟨w.heap.size + 1, 2, none⟩ = some (Value.bool false) := by go_simp
  have fr2 : ((w.alloc (Obj.cells #[Value.bool (sgn x), Value.slice a (lms x).length c, Value.bool (sgn y), Value.slice b (lms y).length d] 28)).alloc (Obj.cells #[Value.bool false, Value.slice none 0 0, Value.bool false, Value.slice none 0 0] 28)).frozen? ⟨w.heap.size + 1, 2, none⟩ = false := by go_simp
  have kr3 : ((w.alloc (Obj.cells #[Value.bool (sgn x), Value.slice a (lms x).length c, Value.bool (sgn y), Value.slice b (lms y).length d] 28)).alloc (Obj.cells #[Value.bool false, Value.slice none 0 0, Value.bool false, Value.slice none 0 0] 28)).cell? ⟨w.heap.size + 1, 3, none⟩ = some (Value.slice none 0 0) := by go_simp
  have fr3 : ((w.alloc (Obj.cells #[Value.bool (sgn x), Value.slice a (lms x).length c, Value.bool (sgn y), Value.slice b (lms y).length d] 28)).alloc (Obj.cells #[Value.bool false, Value.slice none 0 0, Value.bool false, Value.slice none 0 0] 28)).frozen? ⟨w.heap.size + 1, 3, none⟩ = false := by go_simp
  have zr : w.heap.size + 1 < ((w.alloc (Obj.cells #[Value.bool (sgn x), Value.slice a (lms x).length c, Value.bool (sgn y), Value.slice b (lms y).length d] 28)).alloc (Obj.cells #[Value.bool false, Value.slice none 0 0, Value.bool false, Value.slice none 0 0] 28)).heap.size := by simp only [World.size_alloc]; omega
  have HB := hide (bl_alloc (bl_alloc (bl_refl w) (Obj.cells #[Value.bool (sgn x), Value.slice a (lms x).length c, Value.bool (sgn y), Value.slice b (lms y).length d] 28)) (Obj.cells #[Value.bool false, Value.slice none 0 0, Value.bool false, Value.slice none 0 0] 28))
  have S1 := hide (s1.below HB.out)
  have S2 := hide (s2.below HB.out)
  clear s1
  clear s2
  go_enter Try.func64, Try.ntmps64
  go_upto_region 3 with fail
  generalize ((w.alloc (Obj.cells #[Value.bool (sgn x), Value.slice a (lms x).length c, Value.bool (sgn y), Value.slice b (lms y).length d] 28)).alloc (Obj.cells #[Value.bool false, Value.slice none 0 0, Value.bool false, Value.slice none 0 0] 28)) = w1 at *
  have z0 := zr
  have KP : Hid (∀ w', Below w1.heap.size w1 w' → (w'.cell? ⟨w.heap.size, 0, none⟩ = some (Value.bool (sgn x)) ∧ w'.cell? ⟨w.heap.size, 1, none⟩ = some (Value.slice a (lms x).length c) ∧ w'.cell? ⟨w.heap.size, 2, none⟩ = some (Value.bool (sgn y)) ∧ w'.cell? ⟨w.heap.size, 3, none⟩ = some (Value.slice b (lms y).length d))) := hide (fun w' hb => ⟨(hb.cell (p := ⟨w.heap.size, 0, none⟩) (by dsimp only; omega)).trans ka0, (hb.cell (p := ⟨w.heap.size, 1, none⟩) (by dsimp only; omega)).trans ka1, (hb.cell (p := ⟨w.heap.size, 2, none⟩) (by dsimp only; omega)).trans ka2, (hb.cell (p := ⟨w.heap.size, 3, none⟩) (by dsimp only; omega)).trans ka3⟩)
  have KP4 : Hid (∀ w', Below w1.heap.size w1 w' → ∀ q0 q1 q2 q3, (((((w'.setCell ⟨w.heap.size + 1, 0, none⟩ q0).setCell ⟨w.heap.size + 1, 1, none⟩ q1).setCell ⟨w.heap.size + 1, 2, none⟩ q2).setCell ⟨w.heap.size + 1, 3, none⟩ q3).cell? ⟨w.heap.size, 0, none⟩ = some (Value.bool (sgn x)) ∧ ((((w'.setCell ⟨w.heap.size + 1, 0, none⟩ q0).setCell ⟨w.heap.size + 1, 1, none⟩ q1).setCell ⟨w.heap.size + 1, 2, none⟩ q2).setCell ⟨w.heap.size + 1, 3, none⟩ q3).cell? ⟨w.heap.size, 1, none⟩ = some (Value.slice a (lms x).length c) ∧ ((((w'.setCell ⟨w.heap.size + 1, 0, none⟩ q0).setCell ⟨w.heap.size + 1, 1, none⟩ q1).setCell ⟨w.heap.size + 1, 2, none⟩ q2).setCell ⟨w.heap.size + 1, 3, none⟩ q3).cell? ⟨w.heap.size, 2, none⟩ = some (Value.bool (sgn y)) ∧ ((((w'.setCell ⟨w.heap.size + 1, 0, none⟩ q0).setCell ⟨w.heap.size + 1, 1, none⟩ q1).setCell ⟨w.heap.size + 1, 2, none⟩ q2).setCell ⟨w.heap.size + 1, 3, none⟩ q3).cell? ⟨w.heap.size, 3, none⟩ = some (Value.slice b (lms y).length d))) := hide (fun w' hb q0 q1 q2 q3 => ⟨(cell_four (p := ⟨w.heap.size, 0, none⟩) (by dsimp only; omega)).trans ((hb.cell (p := ⟨w.heap.size, 0, none⟩) (by dsimp only; omega)).trans ka0), (cell_four (p := ⟨w.heap.size, 1, none⟩) (by dsimp only; omega)).trans ((hb.cell (p := ⟨w.heap.size, 1, none⟩) (by dsimp only; omega)).trans ka1), (cell_four (p := ⟨w.heap.size, 2, none⟩) (by dsimp only; omega)).trans ((hb.cell (p := ⟨w.heap.size, 2, none⟩) (by dsimp only; omega)).trans ka2), (cell_four (p := ⟨w.heap.size, 3, none⟩) (by dsimp only; omega)).trans ((hb.cell (p := ⟨w.heap.size, 3, none⟩) (by dsimp only; omega)).trans ka3)⟩)
  go_region_held3 (fun w' => w'.cell? ⟨w.heap.size, 0, none⟩ = some (Value.bool (sgn x)) ∧ w'.cell? ⟨w.heap.size, 1, none⟩ = some (Value.slice a (lms x).length c) ∧ w'.cell? ⟨w.heap.size, 2, none⟩ = some (Value.bool (sgn y)) ∧ w'.cell? ⟨w.heap.size, 3, none⟩ = some (Value.slice b (lms y).length d))
    (first | with_reducible exact KP.out _ (bl_refl w1).drew | with_reducible exact KP4.out _ hbB _ _ _ _ | with_reducible exact KP.out _ hbB | with_reducible exact KP.out _ hbA)
    (first
      | (have hq := hbA; go_at_call 85; refine (powS _ y 0 _ ⟨b, d, rfl, S2.out.below hbA⟩ (by omega) HY.out).mono ?_; rintro e wB ⟨_, q2, rfl, ⟨uB, vB, rfl, hoB⟩, hp2, hbBr⟩; obtain rfl := pow0 hp2; have hbB : Below w1.heap.size w1 wB := bl_trans hbA hbBr; have qB := hbB.size; have qA := hbA.size; have kr0 := (hbB.cell (p := ⟨w.heap.size + 1, 0, none⟩) (by dsimp only; omega)).trans kr0; have fr0 := (hbB.frozen (p := ⟨w.heap.size + 1, 0, none⟩) (by dsimp only; omega)).trans fr0; have kr1 := (hbB.cell (p := ⟨w.heap.size + 1, 1, none⟩) (by dsimp only; omega)).trans kr1; have fr1 := (hbB.frozen (p := ⟨w.heap.size + 1, 1, none⟩) (by dsimp only; omega)).trans fr1; have kr2 := (hbB.cell (p := ⟨w.heap.size + 1, 2, none⟩) (by dsimp only; omega)).trans kr2; have fr2 := (hbB.frozen (p := ⟨w.heap.size + 1, 2, none⟩) (by dsimp only; omega)).trans fr2; have kr3 := (hbB.cell (p := ⟨w.heap.size + 1, 3, none⟩) (by dsimp only; omega)).trans kr3; have fr3 := (hbB.frozen (p := ⟨w.heap.size + 1, 3, none⟩) (by dsimp only; omega)).trans fr3; have P1 := hide ((hoA.mono (base' := w1.heap.size) (Nat.le_of_eq (by first | rfl | (simp only [World.size_drew])))).below hbBr); have P2 := hide hoB; clear hq)
      | (go_at_call 85; refine (powS _ x 0 _ ⟨a, c, rfl, S1.out.below (bl_refl w1).drew⟩ (by omega) HX.out).mono ?_; rintro e wA ⟨_, q1, rfl, ⟨uA, vA, rfl, hoA⟩, hp1, hbAr⟩; obtain rfl := pow0 hp1; have hbA : Below w1.heap.size w1 wA := (bl_refl w1).drew.trans hbAr))
  replace HB := hide (bl_trans HB.out hbB)
  clear KP KP4 hbA hbAr hbB hbBr hoA hoB hp1 hp2
  go_wp2
  refine bodyPost_ret (v := (Value.agg #[Value.bool (sgn 1), Value.slice uA (lms 1).length vA, Value.bool (sgn 1), Value.slice uB (lms 1).length vB])) (by simp [results, Try.results64, go_sem, kr0, kr1, kr2, kr3]) rfl ?_
  obtain ⟨h1, h2, h3⟩ := fin_four (N := w.heap.size + 1) P1.out P2.out (by omega) (by omega) (by omega) HB.out (Value.bool (sgn 1)) (Value.slice uA (lms 1).length vA) (Value.bool (sgn 1)) (Value.slice uB (lms 1).length vB)
  exact ⟨uA, vA, uB, vB, rfl, h1, h2, h3⟩

set_option maxHeartbeats 2000000 in
theorem ratPow0 (x y : Int) (a : Option Addr) (c : Nat) (b : Option Addr) (d : Nat) (w : World) (hx : x.natAbs < 4294967296 ^ 40) (hy : y.natAbs < 4294967296 ^ 40) (hr : ratB (sgn x) (lms x) (sgn y) (lms y) = true) (s1 : Seg w a (lms x).length c (lms x)) (s2 : Seg w b (lms y).length d (lms y)) :
    Calls Try.prog 44 #[Value.agg #[Value.bool (sgn x), Value.slice a (lms x).length c, Value.bool (sgn y), Value.slice b (lms y).length d], .int .i64 0] w fun e w' => ∃ a1 c1 a2 c2, e = .returned (.tuple #[.agg #[.bool (sgn 1), .slice a1 (lms 1).length c1, .bool (sgn 1), .slice a2 (lms 1).length c2], .bool true]) ∧ Own w' w.heap.size a1 (lms 1).length c1 (lms 1) ∧ Own w' w.heap.size a2 (lms 1).length c2 (lms 1) ∧ Below w.heap.size w w' := by
  have HX := hide hx
  have HY := hide hy
  have HR := hide hr
  clear hx hy hr
  have ka0 : ((w.alloc (Obj.cells #[Value.bool (sgn x), Value.slice a (lms x).length c, Value.bool (sgn y), Value.slice b (lms y).length d] 28)).alloc (Obj.cells #[Value.bool false, Value.slice none 0 0, Value.bool false, Value.slice none 0 0] 28)).cell? ⟨w.heap.size, 0, none⟩ = some (Value.bool (sgn x)) := by go_simp
  have ka1 : ((w.alloc (Obj.cells #[Value.bool (sgn x), Value.slice a (lms x).length c, Value.bool (sgn y), Value.slice b (lms y).length d] 28)).alloc (Obj.cells #[Value.bool false, Value.slice none 0 0, Value.bool false, Value.slice none 0 0] 28)).cell? ⟨w.heap.size, 1, none⟩ = some (Value.slice a (lms x).length c) := by go_simp
  have ka2 : ((w.alloc (Obj.cells #[Value.bool (sgn x), Value.slice a (lms x).length c, Value.bool (sgn y), Value.slice b (lms y).length d] 28)).alloc (Obj.cells #[Value.bool false, Value.slice none 0 0, Value.bool false, Value.slice none 0 0] 28)).cell? ⟨w.heap.size, 2, none⟩ = some (Value.bool (sgn y)) := by go_simp
  have ka3 : ((w.alloc (Obj.cells #[Value.bool (sgn x), Value.slice a (lms x).length c, Value.bool (sgn y), Value.slice b (lms y).length d] 28)).alloc (Obj.cells #[Value.bool false, Value.slice none 0 0, Value.bool false, Value.slice none 0 0] 28)).cell? ⟨w.heap.size, 3, none⟩ = some (Value.slice b (lms y).length d) := by go_simp
  have kr0 : ((w.alloc (Obj.cells #[Value.bool (sgn x), Value.slice a (lms x).length c, Value.bool (sgn y), Value.slice b (lms y).length d] 28)).alloc (Obj.cells #[Value.bool false, Value.slice none 0 0, Value.bool false, Value.slice none 0 0] 28)).cell? ⟨w.heap.size + 1, 0, none⟩ = some (Value.bool false) := by go_simp
  have fr0 : ((w.alloc (Obj.cells #[Value.bool (sgn x), Value.slice a (lms x).length c, Value.bool (sgn y), Value.slice b (lms y).length d] 28)).alloc (Obj.cells #[Value.bool false, Value.slice none 0 0, Value.bool false, Value.slice none 0 0] 28)).frozen? ⟨w.heap.size + 1, 0, none⟩ = false := by go_simp
  have kr1 : ((w.alloc (Obj.cells #[Value.bool (sgn x), Value.slice a (lms x).length c, Value.bool (sgn y), Value.slice b (lms y).length d] 28)).alloc (Obj.cells #[Value.bool false, Value.slice none 0 0, Value.bool false, Value.slice none 0 0] 28)).cell? ⟨w.heap.size + 1, 1, none⟩ = some (Value.slice none 0 0) := by go_simp
  have fr1 : ((w.alloc (Obj.cells #[Value.bool (sgn x), Value.slice a (lms x).length c, Value.bool (sgn y), Value.slice b (lms y).length d] 28)).alloc (Obj.cells #[Value.bool false, Value.slice none 0 0, Value.bool false, Value.slice none 0 0] 28)).frozen? ⟨w.heap.size + 1, 1, none⟩ = false := by go_simp
  have kr2 : ((w.alloc (Obj.cells #[Value.bool (sgn x), Value.slice a (lms x).length c, Value.bool (sgn y), Value.slice b (lms y).length d] 28)).alloc (Obj.cells #[Value.bool false, Value.slice none 0 0, Value.bool false, Value.slice none 0 0] 28)).cell? ⟨w.heap.size + 1, 2, none⟩ = some (Value.bool false) := by go_simp
  have fr2 : ((w.alloc (Obj.cells #[Value.bool (sgn x), Value.slice a (lms x).length c, Value.bool (sgn y), Value.slice b (lms y).length d] 28)).alloc (Obj.cells #[Value.bool false, Value.slice none 0 0, Value.bool false, Value.slice none 0 0] 28)).frozen? ⟨w.heap.size + 1, 2, none⟩ = false := by go_simp
  have kr3 : ((w.alloc (Obj.cells #[Value.bool (sgn x), Value.slice a (lms x).length c, Value.bool (sgn y), Value.slice b (lms y).length d] 28)).alloc (Obj.cells #[Value.bool false, Value.slice none 0 0, Value.bool false, Value.slice none 0 0] 28)).cell? ⟨w.heap.size + 1, 3, none⟩ = some (Value.slice none 0 0) := by go_simp
  have fr3 : ((w.alloc (Obj.cells #[Value.bool (sgn x), Value.slice a (lms x).length c, Value.bool (sgn y), Value.slice b (lms y).length d] 28)).alloc (Obj.cells #[Value.bool false, Value.slice none 0 0, Value.bool false, Value.slice none 0 0] 28)).frozen? ⟨w.heap.size + 1, 3, none⟩ = false := by go_simp
  have zr : w.heap.size + 1 < ((w.alloc (Obj.cells #[Value.bool (sgn x), Value.slice a (lms x).length c, Value.bool (sgn y), Value.slice b (lms y).length d] 28)).alloc (Obj.cells #[Value.bool false, Value.slice none 0 0, Value.bool false, Value.slice none 0 0] 28)).heap.size := by simp only [World.size_alloc]; omega
  have HB := hide (bl_alloc (bl_alloc (bl_refl w) (Obj.cells #[Value.bool (sgn x), Value.slice a (lms x).length c, Value.bool (sgn y), Value.slice b (lms y).length d] 28)) (Obj.cells #[Value.bool false, Value.slice none 0 0, Value.bool false, Value.slice none 0 0] 28))
  have S1 := hide (s1.below HB.out)
  have S2 := hide (s2.below HB.out)
  clear s1
  clear s2
  go_enter Try.func44, Try.ntmps44
  go_wp2_with fail
  generalize ((w.alloc (Obj.cells #[Value.bool (sgn x), Value.slice a (lms x).length c, Value.bool (sgn y), Value.slice b (lms y).length d] 28)).alloc (Obj.cells #[Value.bool false, Value.slice none 0 0, Value.bool false, Value.slice none 0 0] 28)) = w1 at *
  have z0 := zr
  refine (RatOkQ (sgn x) (lms x) (sgn y) (lms y) a c b d _ S1.out S2.out).mono ?_
  rintro e w2 ⟨rfl, hb⟩
  have yw2 := hb.size
  replace ka0 := (hb.cell (p := ⟨w.heap.size, 0, none⟩) (by dsimp only; omega)).trans ka0
  replace ka1 := (hb.cell (p := ⟨w.heap.size, 1, none⟩) (by dsimp only; omega)).trans ka1
  replace ka2 := (hb.cell (p := ⟨w.heap.size, 2, none⟩) (by dsimp only; omega)).trans ka2
  replace ka3 := (hb.cell (p := ⟨w.heap.size, 3, none⟩) (by dsimp only; omega)).trans ka3
  replace kr0 := (hb.cell (p := ⟨w.heap.size + 1, 0, none⟩) (by dsimp only; omega)).trans kr0
  replace fr0 := (hb.frozen (p := ⟨w.heap.size + 1, 0, none⟩) (by dsimp only; omega)).trans fr0
  replace kr1 := (hb.cell (p := ⟨w.heap.size + 1, 1, none⟩) (by dsimp only; omega)).trans kr1
  replace fr1 := (hb.frozen (p := ⟨w.heap.size + 1, 1, none⟩) (by dsimp only; omega)).trans fr1
  replace kr2 := (hb.cell (p := ⟨w.heap.size + 1, 2, none⟩) (by dsimp only; omega)).trans kr2
  replace fr2 := (hb.frozen (p := ⟨w.heap.size + 1, 2, none⟩) (by dsimp only; omega)).trans fr2
  replace kr3 := (hb.cell (p := ⟨w.heap.size + 1, 3, none⟩) (by dsimp only; omega)).trans kr3
  replace fr3 := (hb.frozen (p := ⟨w.heap.size + 1, 3, none⟩) (by dsimp only; omega)).trans fr3
  replace S1 := hide (S1.out.below hb)
  replace S2 := hide (S2.out.below hb)
  replace zr := Nat.lt_of_lt_of_le zr hb.size
  replace HB := hide (bl_trans HB.out hb)
  clear hb
  rw [HR.out]
  go_wp2_with fail
  refine (inS 0 (-1000) 1000 _).mono ?_
  rintro e wi ⟨rfl, hw⟩
  subst wi
  rw [decide_eq_true (by omega)]
  go_wp2_with fail
  refine (lpow0 x y a c b d _ HX.out HY.out S1.out S2.out).mono ?_
  rintro e w3 ⟨a1, c1, a2, c2, rfl, ho1, ho2, hb⟩
  have yw3 := hb.size
  replace ka0 := (hb.cell (p := ⟨w.heap.size, 0, none⟩) (by dsimp only; omega)).trans ka0
  replace ka1 := (hb.cell (p := ⟨w.heap.size, 1, none⟩) (by dsimp only; omega)).trans ka1
  replace ka2 := (hb.cell (p := ⟨w.heap.size, 2, none⟩) (by dsimp only; omega)).trans ka2
  replace ka3 := (hb.cell (p := ⟨w.heap.size, 3, none⟩) (by dsimp only; omega)).trans ka3
  replace kr0 := (hb.cell (p := ⟨w.heap.size + 1, 0, none⟩) (by dsimp only; omega)).trans kr0
  replace fr0 := (hb.frozen (p := ⟨w.heap.size + 1, 0, none⟩) (by dsimp only; omega)).trans fr0
  replace kr1 := (hb.cell (p := ⟨w.heap.size + 1, 1, none⟩) (by dsimp only; omega)).trans kr1
  replace fr1 := (hb.frozen (p := ⟨w.heap.size + 1, 1, none⟩) (by dsimp only; omega)).trans fr1
  replace kr2 := (hb.cell (p := ⟨w.heap.size + 1, 2, none⟩) (by dsimp only; omega)).trans kr2
  replace fr2 := (hb.frozen (p := ⟨w.heap.size + 1, 2, none⟩) (by dsimp only; omega)).trans fr2
  replace kr3 := (hb.cell (p := ⟨w.heap.size + 1, 3, none⟩) (by dsimp only; omega)).trans kr3
  replace fr3 := (hb.frozen (p := ⟨w.heap.size + 1, 3, none⟩) (by dsimp only; omega)).trans fr3
  replace S1 := hide (S1.out.below hb)
  replace S2 := hide (S2.out.below hb)
  replace zr := Nat.lt_of_lt_of_le zr hb.size
  replace HB := hide (bl_trans HB.out hb)
  clear hb
  have O1 := hide ho1
  have O2 := hide ho2
  clear ho1 ho2
  go_wp2_with fail
  refine (fitS_t 1 1 a1 c1 a2 c2 _ O1.out.seg O2.out.seg (by decide)).mono ?_
  rintro e w4 ⟨rfl, hb⟩
  have yw4 := hb.size
  replace ka0 := (hb.cell (p := ⟨w.heap.size, 0, none⟩) (by dsimp only; omega)).trans ka0
  replace ka1 := (hb.cell (p := ⟨w.heap.size, 1, none⟩) (by dsimp only; omega)).trans ka1
  replace ka2 := (hb.cell (p := ⟨w.heap.size, 2, none⟩) (by dsimp only; omega)).trans ka2
  replace ka3 := (hb.cell (p := ⟨w.heap.size, 3, none⟩) (by dsimp only; omega)).trans ka3
  replace kr0 := (hb.cell (p := ⟨w.heap.size + 1, 0, none⟩) (by dsimp only; omega)).trans kr0
  replace fr0 := (hb.frozen (p := ⟨w.heap.size + 1, 0, none⟩) (by dsimp only; omega)).trans fr0
  replace kr1 := (hb.cell (p := ⟨w.heap.size + 1, 1, none⟩) (by dsimp only; omega)).trans kr1
  replace fr1 := (hb.frozen (p := ⟨w.heap.size + 1, 1, none⟩) (by dsimp only; omega)).trans fr1
  replace kr2 := (hb.cell (p := ⟨w.heap.size + 1, 2, none⟩) (by dsimp only; omega)).trans kr2
  replace fr2 := (hb.frozen (p := ⟨w.heap.size + 1, 2, none⟩) (by dsimp only; omega)).trans fr2
  replace kr3 := (hb.cell (p := ⟨w.heap.size + 1, 3, none⟩) (by dsimp only; omega)).trans kr3
  replace fr3 := (hb.frozen (p := ⟨w.heap.size + 1, 3, none⟩) (by dsimp only; omega)).trans fr3
  replace S1 := hide (S1.out.below hb)
  replace S2 := hide (S2.out.below hb)
  replace O1 := hide (O1.out.below hb)
  replace O2 := hide (O2.out.below hb)
  replace zr := Nat.lt_of_lt_of_le zr hb.size
  replace HB := hide (bl_trans HB.out hb)
  clear hb
  go_wp2
  refine bodyPost_ret (v := (.tuple #[Value.agg #[Value.bool (sgn 1), Value.slice a1 (lms 1).length c1, Value.bool (sgn 1), Value.slice a2 (lms 1).length c2], .bool true])) (by simp [results, Try.results44, go_sem, kr0, kr1, kr2, kr3]) rfl ?_
  obtain ⟨h1, h2, h3⟩ := fin_four (N := w.heap.size + 1) O1.out O2.out (by omega) (by omega) (by omega) HB.out (Value.bool (sgn 1)) (Value.slice a1 (lms 1).length c1) (Value.bool (sgn 1)) (Value.slice a2 (lms 1).length c2)
  exact ⟨a1, c1, a2, c2, rfl, h1, h2, h3⟩


end Go.Proofs.Ytpjckilmbidbgaa
