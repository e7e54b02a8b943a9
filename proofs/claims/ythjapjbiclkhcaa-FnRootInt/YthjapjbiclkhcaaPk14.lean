/- My texts RootB, DivS, in this order. -/
import Derived.Test.YthjapjbiclkhcaaPk13
import Derived.Test.YthjapjbiclkhcaaPk12
/- The same by a letter for the greatest power of 2 that bounds a root. -/
namespace Go.Proofs.Ythjapjbiclkhcaa
open Go.RowKit
set_option linter.unusedVariables false

/-- T is 2 to 1280 -/
def IsTop (T : Nat) : Prop := ∃ E : Nat, E = 1280 ∧ T = 2 ^ E
theorem top_ex : ∃ T : Nat, IsTop T := ⟨_, 1280, rfl, rfl⟩
theorem len_top {T p K : Nat} (hT : IsTop T) (h : p ≤ T) (hK : K ≤ 64) : (lms ((p ^ K : Nat) : Int)).length ≤ 250000 := by
  obtain ⟨E, hE, rfl⟩ := hT
  have h1 : p ^ K ≤ 2 ^ (E * K) := by rw [Nat.pow_mul]; exact Nat.pow_le_pow_left h K
  have h2 : E * K ≤ E * 64 := Nat.mul_le_mul (Nat.le_refl E) hK
  exact len_pow h1 (by omega)
theorem powT (T : Nat) (v1 : Value) (y K : Nat) (w : World) (hT : IsTop T) (h1 : Is w v1 (y : Int)) (hy : y ≤ T) (hK : K ≤ 64) :
    Calls Try.prog 33 #[v1, .int .i64 K] w fun e w' => ∃ v, e = .returned v ∧ New w' w.heap.size v ((y ^ K : Nat) : Int) ∧ Below w.heap.size w w' := by
  have := powI v1 (y : Int) K w h1 (by omega) (fun j hj => by
    have := len_top hT hy (K := j) (by omega)
    rwa [Int.natCast_pow] at this)
  rwa [show (y : Int) ^ K = ((y ^ K : Nat) : Int) from (Int.natCast_pow y K).symm] at this
theorem top_pow {T Q : Nat} (hT : IsTop T) (h : Q ≤ 1280) : 2 ^ Q ≤ T := by
  obtain ⟨E, hE, rfl⟩ := hT
  exact Nat.pow_le_pow_right (by decide) (by omega)
theorem powTP (T : Nat) (v1 : Value) (y K P : Nat) (w : World) (hP : y ^ K = P) (hT : IsTop T) (h1 : Is w v1 (y : Int)) (hy : y ≤ T) (hK : K ≤ 64) :
    Calls Try.prog 33 #[v1, .int .i64 K] w fun e w' => ∃ v, e = .returned v ∧ New w' w.heap.size v (P : Int) ∧ Below w.heap.size w w' := by
  subst hP; exact powT T v1 y K w hT h1 hy hK
theorem divD (v1 v2 : Value) (x y D M : Nat) (w : World) (hD : x / y = D) (hM : x % y = M) (h1 : Is w v1 (x : Int)) (h2 : Is w v2 (y : Int)) (hy : 0 < y) (l1 : (lms (x : Int)).length ≤ 300000) (l2 : (lms (y : Int)).length ≤ 300000) :
    Calls Try.prog 59 #[v1, v2] w fun e w' => ∃ a1 c1 a2 c2, e = .returned (.tuple #[.agg #[.bool (sgn (D : Int)), .slice a1 (lms (D : Int)).length c1], .agg #[.bool (sgn (M : Int)), .slice a2 (lms (M : Int)).length c2]]) ∧ Own w' w.heap.size a1 (lms (D : Int)).length c1 (lms (D : Int)) ∧ Own w' w.heap.size a2 (lms (M : Int)).length c2 (lms (M : Int)) ∧ Apart a1 a2 ∧ Below w.heap.size w w' := by
  subst hD hM; exact divNN v1 v2 x y w h1 h2 hy l1 l2
theorem len_le {m n b : Nat} (h : m ≤ n) (l : (lms (n : Int)).length ≤ b) : (lms (m : Int)).length ≤ b := by
  unfold lms at *
  rw [Int.natAbs_natCast] at *
  exact Num.limbs_len.2 (Nat.lt_of_le_of_lt h (Num.limbs_len.1 l))
theorem len_pow2 {y b : Nat} (h : y ≤ 2 ^ b) (hb : b ≤ 100000) : (lms (y : Int)).length ≤ 250000 := len_pow h hb
theorem len_top1 {T p : Nat} (hT : IsTop T) (h : p ≤ T) : (lms (p : Int)).length ≤ 250000 := by
  have := len_top hT h (K := 1) (by omega)
  rwa [Nat.pow_one] at this
theorem mul_top {T p K : Nat} (hT : IsTop T) (h : p ≤ T) (hK : K ≤ 64) : ∃ E : Nat, E ≤ 1286 ∧ p * K ≤ 2 ^ E := by
  obtain ⟨E, hE, rfl⟩ := hT
  refine ⟨E + 6, by omega, ?_⟩
  rw [Nat.pow_add]
  exact Nat.mul_le_mul h hK
theorem len_mulT {T p K : Nat} (hT : IsTop T) (h : p ≤ T) (hK : K ≤ 64) : (lms ((p * K : Nat) : Int)).length ≤ 250000 := by
  obtain ⟨E, hE, h1⟩ := mul_top hT h hK
  exact len_pow h1 (by omega)
theorem len_sumT {T p K D x : Nat} (hT : IsTop T) (h : p ≤ T) (hK : K ≤ 64) (hD : D ≤ x) (hx : x < 4294967296 ^ 40) : (lms ((p * K + D : Nat) : Int)).length ≤ 250000 := by
  obtain ⟨E, hE, h1⟩ := mul_top hT h hK
  obtain ⟨m, hm⟩ : ∃ m : Nat, m = 40 := ⟨_, rfl⟩
  rw [← hm] at hx
  have h2 : x ≤ 2 ^ (32 * m) := by rw [Nat.pow_mul]; exact Nat.le_of_lt hx
  have e1 : 2 ^ E ≤ 2 ^ (E + 32 * m) := Nat.pow_le_pow_right (by decide) (by omega)
  have e2 : 2 ^ (32 * m) ≤ 2 ^ (E + 32 * m) := Nat.pow_le_pow_right (by decide) (by omega)
  refine len_pow (b := E + 32 * m + 1) ?_ (by omega)
  rw [Nat.pow_succ]
  omega
theorem len_int {K : Nat} (hK : K ≤ 64) : (lms (K : Int)).length ≤ 300000 := by
  have h : ((K : Int)).natAbs < 4294967296 ^ 1 := by rw [Int.natAbs_natCast]; omega
  exact Nat.le_trans (Num.limbs_len.2 h) (by decide)
theorem prodP (v1 v2 : Value) (x y P : Nat) (w : World) (hP : x * y = P) (h1 : Is w v1 (x : Int)) (h2 : Is w v2 (y : Int)) (l1 : (lms (x : Int)).length ≤ 300000) (l2 : (lms (y : Int)).length ≤ 300000) :
    Calls Try.prog 60 #[v1, v2] w fun e w' => ∃ v, e = .returned v ∧ New w' w.heap.size v (P : Int) ∧ Below w.heap.size w w' := by subst hP; exact prodNN v1 v2 x y w h1 h2 l1 l2
theorem sumP (v1 v2 : Value) (x y P : Nat) (w : World) (hP : x + y = P) (h1 : Is w v1 (x : Int)) (h2 : Is w v2 (y : Int)) (l1 : (lms (x : Int)).length ≤ 300000) (l2 : (lms (y : Int)).length ≤ 300000) :
    Calls Try.prog 36 #[v1, v2] w fun e w' => ∃ v, e = .returned v ∧ New w' w.heap.size v (P : Int) ∧ Below w.heap.size w w' := by subst hP; exact sumNN v1 v2 x y w h1 h2 l1 l2
end Go.Proofs.Ythjapjbiclkhcaa

/- The walk of l02DivMod. -/
namespace Go.Proofs.Ythjapjbiclkhcaa
open Go.RowKit
set_option linter.unusedVariables false

theorem own_lit1 (w : World) : Own (w.alloc (Obj.cells #[Value.int .u32 1] 56)) w.heap.size (some ⟨w.heap.size, 0, none⟩) 1 1 [1] := own_one w 1 (by decide)
theorem frozen_two {w : World} {N : Nat} {x y : Value} {p : Addr} (h : p.block ≠ N) : ((w.setCell ⟨N, 0, none⟩ x).setCell ⟨N, 1, none⟩ y).frozen? p = w.frozen? p := by
  rw [World.frozen?_setCell, World.frozen?_setCell]
theorem fin_two'' {w w1 : World} {N M base n1 c1 n2 c2 : Nat} {a1 a2 : Option Addr} {xs1 xs2 : List Nat} (h1 : Own w1 base a1 n1 c1 xs1) (h2 : Own w1 base a2 n2 c2 xs2) (hN : N < base) (hM : M < base) (wN : w.heap.size ≤ N) (wM : w.heap.size ≤ M) (hb : Below w.heap.size w w1) (x y z t : Value) :
    Own ((((w1.setCell ⟨N, 0, none⟩ x).setCell ⟨N, 1, none⟩ y).setCell ⟨M, 0, none⟩ z).setCell ⟨M, 1, none⟩ t) w.heap.size a1 n1 c1 xs1 ∧ Own ((((w1.setCell ⟨N, 0, none⟩ x).setCell ⟨N, 1, none⟩ y).setCell ⟨M, 0, none⟩ z).setCell ⟨M, 1, none⟩ t) w.heap.size a2 n2 c2 xs2 ∧
      Below w.heap.size w ((((w1.setCell ⟨N, 0, none⟩ x).setCell ⟨N, 1, none⟩ y).setCell ⟨M, 0, none⟩ z).setCell ⟨M, 1, none⟩ t) :=
  ⟨((((h1.setCell (p := ⟨N, 0, none⟩) hN x).setCell (p := ⟨N, 1, none⟩) hN y).setCell (p := ⟨M, 0, none⟩) hM z).setCell (p := ⟨M, 1, none⟩) hM t).mono (by omega),
   ((((h2.setCell (p := ⟨N, 0, none⟩) hN x).setCell (p := ⟨N, 1, none⟩) hN y).setCell (p := ⟨M, 0, none⟩) hM z).setCell (p := ⟨M, 1, none⟩) hM t).mono (by omega),
   (((hb.setCell (p := ⟨N, 0, none⟩) wN x).setCell (p := ⟨N, 1, none⟩) wN y).setCell (p := ⟨M, 0, none⟩) wM z).setCell (p := ⟨M, 1, none⟩) wM t⟩
theorem fin_drew' {w W : World} {b n1 c1 n2 c2 : Nat} {a1 a2 : Option Addr} {xs1 xs2 : List Nat} (h : Own W b a1 n1 c1 xs1 ∧ Own W b a2 n2 c2 xs2 ∧ Below w.heap.size w W) : Own W.drew b a1 n1 c1 xs1 ∧ Own W.drew b a2 n2 c2 xs2 ∧ Below w.heap.size w W.drew :=
  ⟨h.1.below (bl_refl _).drew, h.2.1.below (bl_refl _).drew, bl_trans h.2.2 (bl_refl _).drew⟩

set_option maxHeartbeats 4000000 in
set_option maxRecDepth 20000 in
theorem divS (v1 v2 : Value) (x y : Int) (w : World) (h1 : Is w v1 x) (h2 : Is w v2 y) (hy : y ≠ 0) (l1 : (lms x).length ≤ 100000) (l2 : (lms y).length ≤ 100000) :
    Calls Try.prog 71 #[v1, v2] w fun e w' => ∃ a1 c1 a2 c2, e = .returned (.tuple #[.agg #[.bool (sgn (x / y)), .slice a1 (lms (x / y)).length c1], .agg #[.bool (sgn (x % y)), .slice a2 (lms (x % y)).length c2]]) ∧ Own w' w.heap.size a1 (lms (x / y)).length c1 (lms (x / y)) ∧ Own w' w.heap.size a2 (lms (x % y)).length c2 (lms (x % y)) ∧ Below w.heap.size w w' := by
  obtain ⟨a, ca, rfl, ha⟩ := h1
  obtain ⟨b, cb, rfl, hb⟩ := h2
  have HA := hide ha
  have HBB := hide hb
  clear ha hb
  have kA0 : ((((w.alloc (Obj.cells #[Value.bool (sgn x), Value.slice a (lms x).length ca] 26)).alloc (Obj.cells #[Value.bool (sgn y), Value.slice b (lms y).length cb] 26)).alloc (Obj.cells #[Value.bool false, Value.slice none 0 0] 26)).alloc (Obj.cells #[Value.bool false, Value.slice none 0 0] 26)).cell? ⟨w.heap.size, 0, none⟩ = some (Value.bool (sgn x)) := by go_simp
  have kA1 : ((((w.alloc (Obj.cells #[Value.bool (sgn x), Value.slice a (lms x).length ca] 26)).alloc (Obj.cells #[Value.bool (sgn y), Value.slice b (lms y).length cb] 26)).alloc (Obj.cells #[Value.bool false, Value.slice none 0 0] 26)).alloc (Obj.cells #[Value.bool false, Value.slice none 0 0] 26)).cell? ⟨w.heap.size, 1, none⟩ = some (Value.slice a (lms x).length ca) := by go_simp
  have zA : w.heap.size < ((((w.alloc (Obj.cells #[Value.bool (sgn x), Value.slice a (lms x).length ca] 26)).alloc (Obj.cells #[Value.bool (sgn y), Value.slice b (lms y).length cb] 26)).alloc (Obj.cells #[Value.bool false, Value.slice none 0 0] 26)).alloc (Obj.cells #[Value.bool false, Value.slice none 0 0] 26)).heap.size := by simp only [World.size_alloc]; omega
  have kB0 : ((((w.alloc (Obj.cells #[Value.bool (sgn x), Value.slice a (lms x).length ca] 26)).alloc (Obj.cells #[Value.bool (sgn y), Value.slice b (lms y).length cb] 26)).alloc (Obj.cells #[Value.bool false, Value.slice none 0 0] 26)).alloc (Obj.cells #[Value.bool false, Value.slice none 0 0] 26)).cell? ⟨w.heap.size + 1, 0, none⟩ = some (Value.bool (sgn y)) := by go_simp
  have kB1 : ((((w.alloc (Obj.cells #[Value.bool (sgn x), Value.slice a (lms x).length ca] 26)).alloc (Obj.cells #[Value.bool (sgn y), Value.slice b (lms y).length cb] 26)).alloc (Obj.cells #[Value.bool false, Value.slice none 0 0] 26)).alloc (Obj.cells #[Value.bool false, Value.slice none 0 0] 26)).cell? ⟨w.heap.size + 1, 1, none⟩ = some (Value.slice b (lms y).length cb) := by go_simp
  have zB : w.heap.size + 1 < ((((w.alloc (Obj.cells #[Value.bool (sgn x), Value.slice a (lms x).length ca] 26)).alloc (Obj.cells #[Value.bool (sgn y), Value.slice b (lms y).length cb] 26)).alloc (Obj.cells #[Value.bool false, Value.slice none 0 0] 26)).alloc (Obj.cells #[Value.bool false, Value.slice none 0 0] 26)).heap.size := by simp only [World.size_alloc]; omega
  have kR0 : ((((w.alloc (Obj.cells #[Value.bool (sgn x), Value.slice a (lms x).length ca] 26)).alloc (Obj.cells #[Value.bool (sgn y), Value.slice b (lms y).length cb] 26)).alloc (Obj.cells #[Value.bool false, Value.slice none 0 0] 26)).alloc (Obj.cells #[Value.bool false, Value.slice none 0 0] 26)).cell? ⟨w.heap.size + 1 + 1, 0, none⟩ = some (Value.bool false) := by go_simp
  have fR0 : ((((w.alloc (Obj.cells #[Value.bool (sgn x), Value.slice a (lms x).length ca] 26)).alloc (Obj.cells #[Value.bool (sgn y), Value.slice b (lms y).length cb] 26)).alloc (Obj.cells #[Value.bool false, Value.slice none 0 0] 26)).alloc (Obj.cells #[Value.bool false, Value.slice none 0 0] 26)).frozen? ⟨w.heap.size + 1 + 1, 0, none⟩ = false := by go_simp
  have kR1 : ((((w.alloc (Obj.cells #[Value.bool (sgn x), Value.slice a (lms x).length ca] 26)).alloc (Obj.cells #[Value.bool (sgn y), Value.slice b (lms y).length cb] 26)).alloc (Obj.cells #[Value.bool false, Value.slice none 0 0] 26)).alloc (Obj.cells #[Value.bool false, Value.slice none 0 0] 26)).cell? ⟨w.heap.size + 1 + 1, 1, none⟩ = some (Value.slice none 0 0) := by go_simp
  have fR1 : ((((w.alloc (Obj.cells #[Value.bool (sgn x), Value.slice a (lms x).length ca] 26)).alloc (Obj.cells #[Value.bool (sgn y), Value.slice b (lms y).length cb] 26)).alloc (Obj.cells #[Value.bool false, Value.slice none 0 0] 26)).alloc (Obj.cells #[Value.bool false, Value.slice none 0 0] 26)).frozen? ⟨w.heap.size + 1 + 1, 1, none⟩ = false := by go_simp
  have zR : w.heap.size + 1 + 1 < ((((w.alloc (Obj.cells #[Value.bool (sgn x), Value.slice a (lms x).length ca] 26)).alloc (Obj.cells #[Value.bool (sgn y), Value.slice b (lms y).length cb] 26)).alloc (Obj.cells #[Value.bool false, Value.slice none 0 0] 26)).alloc (Obj.cells #[Value.bool false, Value.slice none 0 0] 26)).heap.size := by simp only [World.size_alloc]; omega
  have kT0 : ((((w.alloc (Obj.cells #[Value.bool (sgn x), Value.slice a (lms x).length ca] 26)).alloc (Obj.cells #[Value.bool (sgn y), Value.slice b (lms y).length cb] 26)).alloc (Obj.cells #[Value.bool false, Value.slice none 0 0] 26)).alloc (Obj.cells #[Value.bool false, Value.slice none 0 0] 26)).cell? ⟨w.heap.size + 1 + 1 + 1, 0, none⟩ = some (Value.bool false) := by go_simp
  have fT0 : ((((w.alloc (Obj.cells #[Value.bool (sgn x), Value.slice a (lms x).length ca] 26)).alloc (Obj.cells #[Value.bool (sgn y), Value.slice b (lms y).length cb] 26)).alloc (Obj.cells #[Value.bool false, Value.slice none 0 0] 26)).alloc (Obj.cells #[Value.bool false, Value.slice none 0 0] 26)).frozen? ⟨w.heap.size + 1 + 1 + 1, 0, none⟩ = false := by go_simp
  have kT1 : ((((w.alloc (Obj.cells #[Value.bool (sgn x), Value.slice a (lms x).length ca] 26)).alloc (Obj.cells #[Value.bool (sgn y), Value.slice b (lms y).length cb] 26)).alloc (Obj.cells #[Value.bool false, Value.slice none 0 0] 26)).alloc (Obj.cells #[Value.bool false, Value.slice none 0 0] 26)).cell? ⟨w.heap.size + 1 + 1 + 1, 1, none⟩ = some (Value.slice none 0 0) := by go_simp
  have fT1 : ((((w.alloc (Obj.cells #[Value.bool (sgn x), Value.slice a (lms x).length ca] 26)).alloc (Obj.cells #[Value.bool (sgn y), Value.slice b (lms y).length cb] 26)).alloc (Obj.cells #[Value.bool false, Value.slice none 0 0] 26)).alloc (Obj.cells #[Value.bool false, Value.slice none 0 0] 26)).frozen? ⟨w.heap.size + 1 + 1 + 1, 1, none⟩ = false := by go_simp
  have zT : w.heap.size + 1 + 1 + 1 < ((((w.alloc (Obj.cells #[Value.bool (sgn x), Value.slice a (lms x).length ca] 26)).alloc (Obj.cells #[Value.bool (sgn y), Value.slice b (lms y).length cb] 26)).alloc (Obj.cells #[Value.bool false, Value.slice none 0 0] 26)).alloc (Obj.cells #[Value.bool false, Value.slice none 0 0] 26)).heap.size := by simp only [World.size_alloc]; omega
  have HB := hide (bl_alloc (bl_alloc (bl_alloc (bl_alloc (bl_refl w) (Obj.cells #[Value.bool (sgn x), Value.slice a (lms x).length ca] 26)) (Obj.cells #[Value.bool (sgn y), Value.slice b (lms y).length cb] 26)) (Obj.cells #[Value.bool false, Value.slice none 0 0] 26)) (Obj.cells #[Value.bool false, Value.slice none 0 0] 26))
  replace HA := hide (HA.out.below HB.out)
  replace HBB := hide (HBB.out.below HB.out)
  have y0 : w.heap.size + 4 ≤ ((((w.alloc (Obj.cells #[Value.bool (sgn x), Value.slice a (lms x).length ca] 26)).alloc (Obj.cells #[Value.bool (sgn y), Value.slice b (lms y).length cb] 26)).alloc (Obj.cells #[Value.bool false, Value.slice none 0 0] 26)).alloc (Obj.cells #[Value.bool false, Value.slice none 0 0] 26)).heap.size := by simp only [World.size_alloc]; omega
  go_enter Try.func71, Try.ntmps71
  go_wp2_with fail
  generalize ((((w.alloc (Obj.cells #[Value.bool (sgn x), Value.slice a (lms x).length ca] 26)).alloc (Obj.cells #[Value.bool (sgn y), Value.slice b (lms y).length cb] 26)).alloc (Obj.cells #[Value.bool false, Value.slice none 0 0] 26)).alloc (Obj.cells #[Value.bool false, Value.slice none 0 0] 26)) = w1 at *
  refine (longS a b _ _ ca cb x.natAbs y.natAbs _ HA.out HBB.out (by omega) l1 l2).mono ?_
  rintro e w2 ⟨aq, nq, cq, qs, ar, nr, cr, rs, rfl, hoq, hor, hnq, hnr, hvq, hvr, hbw2⟩
  have yw2 := hbw2.size
  replace kA0 := (hbw2.cell (p := ⟨w.heap.size, 0, none⟩) zA).trans kA0
  replace kA1 := (hbw2.cell (p := ⟨w.heap.size, 1, none⟩) zA).trans kA1
  replace zA := Nat.lt_of_lt_of_le zA hbw2.size
  replace kB0 := (hbw2.cell (p := ⟨w.heap.size + 1, 0, none⟩) zB).trans kB0
  replace kB1 := (hbw2.cell (p := ⟨w.heap.size + 1, 1, none⟩) zB).trans kB1
  replace zB := Nat.lt_of_lt_of_le zB hbw2.size
  replace kR0 := (hbw2.cell (p := ⟨w.heap.size + 1 + 1, 0, none⟩) zR).trans kR0
  replace fR0 := (hbw2.frozen (p := ⟨w.heap.size + 1 + 1, 0, none⟩) zR).trans fR0
  replace kR1 := (hbw2.cell (p := ⟨w.heap.size + 1 + 1, 1, none⟩) zR).trans kR1
  replace fR1 := (hbw2.frozen (p := ⟨w.heap.size + 1 + 1, 1, none⟩) zR).trans fR1
  replace zR := Nat.lt_of_lt_of_le zR hbw2.size
  replace kT0 := (hbw2.cell (p := ⟨w.heap.size + 1 + 1 + 1, 0, none⟩) zT).trans kT0
  replace fT0 := (hbw2.frozen (p := ⟨w.heap.size + 1 + 1 + 1, 0, none⟩) zT).trans fT0
  replace kT1 := (hbw2.cell (p := ⟨w.heap.size + 1 + 1 + 1, 1, none⟩) zT).trans kT1
  replace fT1 := (hbw2.frozen (p := ⟨w.heap.size + 1 + 1 + 1, 1, none⟩) zT).trans fT1
  replace zT := Nat.lt_of_lt_of_le zT hbw2.size
  replace HA := hide (HA.out.below hbw2)
  replace HBB := hide (HBB.out.below hbw2)
  replace HB := hide (bl_trans HB.out hbw2)
  clear hbw2
  have HQ := hide hoq
  have HR := hide hor
  have HVQ := hide hvq
  have HVR := hide hvr
  clear hoq hor hvq hvr
  go_wp2_with fail
  refine (makeS (!sgn x == sgn y) aq nq cq qs _ HQ.out.seg (by omega)).mono ?_
  rintro e w3 ⟨v3, rfl, hn3, hbw3⟩
  have yw3 := hbw3.size
  rw [HVQ.out] at hn3
  obtain ⟨a3, c3, rfl, ho3⟩ := hn3
  have H3 := hide (ho3.mono (base' := w1.heap.size) (by omega))
  clear ho3
  replace kA0 := (hbw3.cell (p := ⟨w.heap.size, 0, none⟩) zA).trans kA0
  replace kA1 := (hbw3.cell (p := ⟨w.heap.size, 1, none⟩) zA).trans kA1
  replace zA := Nat.lt_of_lt_of_le zA hbw3.size
  replace kB0 := (hbw3.cell (p := ⟨w.heap.size + 1, 0, none⟩) zB).trans kB0
  replace kB1 := (hbw3.cell (p := ⟨w.heap.size + 1, 1, none⟩) zB).trans kB1
  replace zB := Nat.lt_of_lt_of_le zB hbw3.size
  replace kR0 := (hbw3.cell (p := ⟨w.heap.size + 1 + 1, 0, none⟩) zR).trans kR0
  replace fR0 := (hbw3.frozen (p := ⟨w.heap.size + 1 + 1, 0, none⟩) zR).trans fR0
  replace kR1 := (hbw3.cell (p := ⟨w.heap.size + 1 + 1, 1, none⟩) zR).trans kR1
  replace fR1 := (hbw3.frozen (p := ⟨w.heap.size + 1 + 1, 1, none⟩) zR).trans fR1
  replace zR := Nat.lt_of_lt_of_le zR hbw3.size
  replace kT0 := (hbw3.cell (p := ⟨w.heap.size + 1 + 1 + 1, 0, none⟩) zT).trans kT0
  replace fT0 := (hbw3.frozen (p := ⟨w.heap.size + 1 + 1 + 1, 0, none⟩) zT).trans fT0
  replace kT1 := (hbw3.cell (p := ⟨w.heap.size + 1 + 1 + 1, 1, none⟩) zT).trans kT1
  replace fT1 := (hbw3.frozen (p := ⟨w.heap.size + 1 + 1 + 1, 1, none⟩) zT).trans fT1
  replace zT := Nat.lt_of_lt_of_le zT hbw3.size
  replace HA := hide (HA.out.below hbw3)
  replace HBB := hide (HBB.out.below hbw3)
  replace HQ := hide (HQ.out.below hbw3)
  replace HR := hide (HR.out.below hbw3)
  replace HB := hide (bl_trans HB.out hbw3)
  clear hbw3
  go_wp2_with fail
  refine (makeS false ar nr cr rs _ HR.out.seg (by omega)).mono ?_
  rintro e w4 ⟨v4, rfl, hn4, hbw4⟩
  have yw4 := hbw4.size
  rw [HVR.out] at hn4
  obtain ⟨a4, c4, rfl, ho4⟩ := hn4
  have H4 := hide (ho4.mono (base' := w1.heap.size) (by omega))
  clear ho4
  replace kA0 := (hbw4.cell (p := ⟨w.heap.size, 0, none⟩) zA).trans kA0
  replace kA1 := (hbw4.cell (p := ⟨w.heap.size, 1, none⟩) zA).trans kA1
  replace zA := Nat.lt_of_lt_of_le zA hbw4.size
  replace kB0 := (hbw4.cell (p := ⟨w.heap.size + 1, 0, none⟩) zB).trans kB0
  replace kB1 := (hbw4.cell (p := ⟨w.heap.size + 1, 1, none⟩) zB).trans kB1
  replace zB := Nat.lt_of_lt_of_le zB hbw4.size
  replace kR0 := (hbw4.cell (p := ⟨w.heap.size + 1 + 1, 0, none⟩) zR).trans kR0
  replace fR0 := (hbw4.frozen (p := ⟨w.heap.size + 1 + 1, 0, none⟩) zR).trans fR0
  replace kR1 := (hbw4.cell (p := ⟨w.heap.size + 1 + 1, 1, none⟩) zR).trans kR1
  replace fR1 := (hbw4.frozen (p := ⟨w.heap.size + 1 + 1, 1, none⟩) zR).trans fR1
  replace zR := Nat.lt_of_lt_of_le zR hbw4.size
  replace kT0 := (hbw4.cell (p := ⟨w.heap.size + 1 + 1 + 1, 0, none⟩) zT).trans kT0
  replace fT0 := (hbw4.frozen (p := ⟨w.heap.size + 1 + 1 + 1, 0, none⟩) zT).trans fT0
  replace kT1 := (hbw4.cell (p := ⟨w.heap.size + 1 + 1 + 1, 1, none⟩) zT).trans kT1
  replace fT1 := (hbw4.frozen (p := ⟨w.heap.size + 1 + 1 + 1, 1, none⟩) zT).trans fT1
  replace zT := Nat.lt_of_lt_of_le zT hbw4.size
  replace HA := hide (HA.out.below hbw4)
  replace HBB := hide (HBB.out.below hbw4)
  replace HQ := hide (HQ.out.below hbw4)
  replace HR := hide (HR.out.below hbw4)
  replace H3 := hide (H3.out.below hbw4)
  replace HB := hide (bl_trans HB.out hbw4)
  clear hbw4
  go_upto_region 3 with fail
  have HQ4 := HQ
  have H44 := H4
  have HBB4 := HBB
  have HB4 := HB
  have kQ0 : ((w4.alloc (Obj.cells #[Value.bool (sgn (mk (!sgn x == sgn y) (x.natAbs / y.natAbs))), Value.slice a3 (lms (mk (!sgn x == sgn y) (x.natAbs / y.natAbs))).length c3] 26)).alloc (Obj.cells #[Value.bool (sgn (mk false (x.natAbs % y.natAbs))), Value.slice a4 (lms (mk false (x.natAbs % y.natAbs))).length c4] 26)).cell? ⟨w4.heap.size, 0, none⟩ = some (Value.bool (sgn (mk (!sgn x == sgn y) (x.natAbs / y.natAbs)))) := by go_simp
  have fQ0 : ((w4.alloc (Obj.cells #[Value.bool (sgn (mk (!sgn x == sgn y) (x.natAbs / y.natAbs))), Value.slice a3 (lms (mk (!sgn x == sgn y) (x.natAbs / y.natAbs))).length c3] 26)).alloc (Obj.cells #[Value.bool (sgn (mk false (x.natAbs % y.natAbs))), Value.slice a4 (lms (mk false (x.natAbs % y.natAbs))).length c4] 26)).frozen? ⟨w4.heap.size, 0, none⟩ = false := by go_simp
  have kQ1 : ((w4.alloc (Obj.cells #[Value.bool (sgn (mk (!sgn x == sgn y) (x.natAbs / y.natAbs))), Value.slice a3 (lms (mk (!sgn x == sgn y) (x.natAbs / y.natAbs))).length c3] 26)).alloc (Obj.cells #[Value.bool (sgn (mk false (x.natAbs % y.natAbs))), Value.slice a4 (lms (mk false (x.natAbs % y.natAbs))).length c4] 26)).cell? ⟨w4.heap.size, 1, none⟩ = some (Value.slice a3 (lms (mk (!sgn x == sgn y) (x.natAbs / y.natAbs))).length c3) := by go_simp
  have fQ1 : ((w4.alloc (Obj.cells #[Value.bool (sgn (mk (!sgn x == sgn y) (x.natAbs / y.natAbs))), Value.slice a3 (lms (mk (!sgn x == sgn y) (x.natAbs / y.natAbs))).length c3] 26)).alloc (Obj.cells #[Value.bool (sgn (mk false (x.natAbs % y.natAbs))), Value.slice a4 (lms (mk false (x.natAbs % y.natAbs))).length c4] 26)).frozen? ⟨w4.heap.size, 1, none⟩ = false := by go_simp
  have zQ : w4.heap.size < ((w4.alloc (Obj.cells #[Value.bool (sgn (mk (!sgn x == sgn y) (x.natAbs / y.natAbs))), Value.slice a3 (lms (mk (!sgn x == sgn y) (x.natAbs / y.natAbs))).length c3] 26)).alloc (Obj.cells #[Value.bool (sgn (mk false (x.natAbs % y.natAbs))), Value.slice a4 (lms (mk false (x.natAbs % y.natAbs))).length c4] 26)).heap.size := by simp only [World.size_alloc]; omega
  have kS0 : ((w4.alloc (Obj.cells #[Value.bool (sgn (mk (!sgn x == sgn y) (x.natAbs / y.natAbs))), Value.slice a3 (lms (mk (!sgn x == sgn y) (x.natAbs / y.natAbs))).length c3] 26)).alloc (Obj.cells #[Value.bool (sgn (mk false (x.natAbs % y.natAbs))), Value.slice a4 (lms (mk false (x.natAbs % y.natAbs))).length c4] 26)).cell? ⟨w4.heap.size + 1, 0, none⟩ = some (Value.bool (sgn (mk false (x.natAbs % y.natAbs)))) := by go_simp
  have fS0 : ((w4.alloc (Obj.cells #[Value.bool (sgn (mk (!sgn x == sgn y) (x.natAbs / y.natAbs))), Value.slice a3 (lms (mk (!sgn x == sgn y) (x.natAbs / y.natAbs))).length c3] 26)).alloc (Obj.cells #[Value.bool (sgn (mk false (x.natAbs % y.natAbs))), Value.slice a4 (lms (mk false (x.natAbs % y.natAbs))).length c4] 26)).frozen? ⟨w4.heap.size + 1, 0, none⟩ = false := by go_simp
  have kS1 : ((w4.alloc (Obj.cells #[Value.bool (sgn (mk (!sgn x == sgn y) (x.natAbs / y.natAbs))), Value.slice a3 (lms (mk (!sgn x == sgn y) (x.natAbs / y.natAbs))).length c3] 26)).alloc (Obj.cells #[Value.bool (sgn (mk false (x.natAbs % y.natAbs))), Value.slice a4 (lms (mk false (x.natAbs % y.natAbs))).length c4] 26)).cell? ⟨w4.heap.size + 1, 1, none⟩ = some (Value.slice a4 (lms (mk false (x.natAbs % y.natAbs))).length c4) := by go_simp
  have fS1 : ((w4.alloc (Obj.cells #[Value.bool (sgn (mk (!sgn x == sgn y) (x.natAbs / y.natAbs))), Value.slice a3 (lms (mk (!sgn x == sgn y) (x.natAbs / y.natAbs))).length c3] 26)).alloc (Obj.cells #[Value.bool (sgn (mk false (x.natAbs % y.natAbs))), Value.slice a4 (lms (mk false (x.natAbs % y.natAbs))).length c4] 26)).frozen? ⟨w4.heap.size + 1, 1, none⟩ = false := by go_simp
  have zS : w4.heap.size + 1 < ((w4.alloc (Obj.cells #[Value.bool (sgn (mk (!sgn x == sgn y) (x.natAbs / y.natAbs))), Value.slice a3 (lms (mk (!sgn x == sgn y) (x.natAbs / y.natAbs))).length c3] 26)).alloc (Obj.cells #[Value.bool (sgn (mk false (x.natAbs % y.natAbs))), Value.slice a4 (lms (mk false (x.natAbs % y.natAbs))).length c4] 26)).heap.size := by simp only [World.size_alloc]; omega
  have yw5 : w4.heap.size + 2 ≤ ((w4.alloc (Obj.cells #[Value.bool (sgn (mk (!sgn x == sgn y) (x.natAbs / y.natAbs))), Value.slice a3 (lms (mk (!sgn x == sgn y) (x.natAbs / y.natAbs))).length c3] 26)).alloc (Obj.cells #[Value.bool (sgn (mk false (x.natAbs % y.natAbs))), Value.slice a4 (lms (mk false (x.natAbs % y.natAbs))).length c4] 26)).heap.size := by simp only [World.size_alloc]; omega
  have hbw5 := (bl_alloc (bl_alloc (bl_refl w4) (Obj.cells #[Value.bool (sgn (mk (!sgn x == sgn y) (x.natAbs / y.natAbs))), Value.slice a3 (lms (mk (!sgn x == sgn y) (x.natAbs / y.natAbs))).length c3] 26)) (Obj.cells #[Value.bool (sgn (mk false (x.natAbs % y.natAbs))), Value.slice a4 (lms (mk false (x.natAbs % y.natAbs))).length c4] 26))
  generalize ((w4.alloc (Obj.cells #[Value.bool (sgn (mk (!sgn x == sgn y) (x.natAbs / y.natAbs))), Value.slice a3 (lms (mk (!sgn x == sgn y) (x.natAbs / y.natAbs))).length c3] 26)).alloc (Obj.cells #[Value.bool (sgn (mk false (x.natAbs % y.natAbs))), Value.slice a4 (lms (mk false (x.natAbs % y.natAbs))).length c4] 26)) = w5 at *
  have BW := hide hbw5
  replace kA0 := (hbw5.cell (p := ⟨w.heap.size, 0, none⟩) zA).trans kA0
  replace kA1 := (hbw5.cell (p := ⟨w.heap.size, 1, none⟩) zA).trans kA1
  replace zA := Nat.lt_of_lt_of_le zA hbw5.size
  replace kB0 := (hbw5.cell (p := ⟨w.heap.size + 1, 0, none⟩) zB).trans kB0
  replace kB1 := (hbw5.cell (p := ⟨w.heap.size + 1, 1, none⟩) zB).trans kB1
  replace zB := Nat.lt_of_lt_of_le zB hbw5.size
  replace kR0 := (hbw5.cell (p := ⟨w.heap.size + 1 + 1, 0, none⟩) zR).trans kR0
  replace fR0 := (hbw5.frozen (p := ⟨w.heap.size + 1 + 1, 0, none⟩) zR).trans fR0
  replace kR1 := (hbw5.cell (p := ⟨w.heap.size + 1 + 1, 1, none⟩) zR).trans kR1
  replace fR1 := (hbw5.frozen (p := ⟨w.heap.size + 1 + 1, 1, none⟩) zR).trans fR1
  replace zR := Nat.lt_of_lt_of_le zR hbw5.size
  replace kT0 := (hbw5.cell (p := ⟨w.heap.size + 1 + 1 + 1, 0, none⟩) zT).trans kT0
  replace fT0 := (hbw5.frozen (p := ⟨w.heap.size + 1 + 1 + 1, 0, none⟩) zT).trans fT0
  replace kT1 := (hbw5.cell (p := ⟨w.heap.size + 1 + 1 + 1, 1, none⟩) zT).trans kT1
  replace fT1 := (hbw5.frozen (p := ⟨w.heap.size + 1 + 1 + 1, 1, none⟩) zT).trans fT1
  replace zT := Nat.lt_of_lt_of_le zT hbw5.size
  replace HA := hide (HA.out.below hbw5)
  replace HBB := hide (HBB.out.below hbw5)
  replace HQ := hide (HQ.out.below hbw5)
  replace HR := hide (HR.out.below hbw5)
  replace H3 := hide (H3.out.below hbw5)
  replace H4 := hide (H4.out.below hbw5)
  replace HB := hide (bl_trans HB.out hbw5)
  clear hbw5
  by_cases hx : x < 0
  · have hsx : sgn x = true := decide_eq_true hx
    by_cases hm : x.natAbs % y.natAbs = 0
    · obtain ⟨e1, e2⟩ := div_same x y hy (.inr hm)
      have e3 : mk false (x.natAbs % y.natAbs) = x % y := e2.symm
      have hl0 : ¬ (0 : Int) < ((lms (mk false (x.natAbs % y.natAbs))).length : Int) := by rw [mk_lms, hm, Num.limbs_zero]; simp
      have HE1 := hide e1
      have HE2 := hide e3
      clear e1 e2 e3
      generalize mk (!sgn x == sgn y) (x.natAbs / y.natAbs) = q at *
      generalize mk false (x.natAbs % y.natAbs) = r at *
      go_upto_region 6 with fail
      clear hsx
      have hq' := HE2.out; subst hq'
      have hq' := HE1.out.symm; subst hq'
      clear HE1 HE2
      go_region_held3 (fun w' => w'.cell? ⟨w4.heap.size, 0, none⟩ = some (Value.bool (sgn (x / y))) ∧ w'.cell? ⟨w4.heap.size, 1, none⟩ = some (Value.slice a3 (lms (x / y)).length c3) ∧ w'.cell? ⟨w4.heap.size + 1, 0, none⟩ = some (Value.bool (sgn (x % y))) ∧ w'.cell? ⟨w4.heap.size + 1, 1, none⟩ = some (Value.slice a4 (lms (x % y)).length c4))
        (first
          | exact ⟨(by (try rw [World.cell?_drew]); first | with_reducible assumption | (rw [cell_two (N := w.heap.size + 1 + 1) (p := ⟨w4.heap.size, 0, none⟩) (by dsimp only; omega)]; with_reducible assumption) | (rw [cell_two (N := w.heap.size + 1 + 1 + 1) (p := ⟨w4.heap.size, 0, none⟩) (by dsimp only; omega)]; with_reducible assumption) | (rw [cell_two (N := w.heap.size + 1 + 1) (p := ⟨w4.heap.size, 0, none⟩) (by dsimp only; omega), cell_two (N := w.heap.size + 1 + 1 + 1) (p := ⟨w4.heap.size, 0, none⟩) (by dsimp only; omega)]; with_reducible assumption) | (rw [cell_two (N := w.heap.size + 1 + 1 + 1) (p := ⟨w4.heap.size, 0, none⟩) (by dsimp only; omega), cell_two (N := w.heap.size + 1 + 1) (p := ⟨w4.heap.size, 0, none⟩) (by dsimp only; omega)]; with_reducible assumption)), (by (try rw [World.cell?_drew]); first | with_reducible assumption | (rw [cell_two (N := w.heap.size + 1 + 1) (p := ⟨w4.heap.size, 1, none⟩) (by dsimp only; omega)]; with_reducible assumption) | (rw [cell_two (N := w.heap.size + 1 + 1 + 1) (p := ⟨w4.heap.size, 1, none⟩) (by dsimp only; omega)]; with_reducible assumption) | (rw [cell_two (N := w.heap.size + 1 + 1) (p := ⟨w4.heap.size, 1, none⟩) (by dsimp only; omega), cell_two (N := w.heap.size + 1 + 1 + 1) (p := ⟨w4.heap.size, 1, none⟩) (by dsimp only; omega)]; with_reducible assumption) | (rw [cell_two (N := w.heap.size + 1 + 1 + 1) (p := ⟨w4.heap.size, 1, none⟩) (by dsimp only; omega), cell_two (N := w.heap.size + 1 + 1) (p := ⟨w4.heap.size, 1, none⟩) (by dsimp only; omega)]; with_reducible assumption)), (by (try rw [World.cell?_drew]); first | with_reducible assumption | (rw [cell_two (N := w.heap.size + 1 + 1) (p := ⟨w4.heap.size + 1, 0, none⟩) (by dsimp only; omega)]; with_reducible assumption) | (rw [cell_two (N := w.heap.size + 1 + 1 + 1) (p := ⟨w4.heap.size + 1, 0, none⟩) (by dsimp only; omega)]; with_reducible assumption) | (rw [cell_two (N := w.heap.size + 1 + 1) (p := ⟨w4.heap.size + 1, 0, none⟩) (by dsimp only; omega), cell_two (N := w.heap.size + 1 + 1 + 1) (p := ⟨w4.heap.size + 1, 0, none⟩) (by dsimp only; omega)]; with_reducible assumption) | (rw [cell_two (N := w.heap.size + 1 + 1 + 1) (p := ⟨w4.heap.size + 1, 0, none⟩) (by dsimp only; omega), cell_two (N := w.heap.size + 1 + 1) (p := ⟨w4.heap.size + 1, 0, none⟩) (by dsimp only; omega)]; with_reducible assumption)), (by (try rw [World.cell?_drew]); first | with_reducible assumption | (rw [cell_two (N := w.heap.size + 1 + 1) (p := ⟨w4.heap.size + 1, 1, none⟩) (by dsimp only; omega)]; with_reducible assumption) | (rw [cell_two (N := w.heap.size + 1 + 1 + 1) (p := ⟨w4.heap.size + 1, 1, none⟩) (by dsimp only; omega)]; with_reducible assumption) | (rw [cell_two (N := w.heap.size + 1 + 1) (p := ⟨w4.heap.size + 1, 1, none⟩) (by dsimp only; omega), cell_two (N := w.heap.size + 1 + 1 + 1) (p := ⟨w4.heap.size + 1, 1, none⟩) (by dsimp only; omega)]; with_reducible assumption) | (rw [cell_two (N := w.heap.size + 1 + 1 + 1) (p := ⟨w4.heap.size + 1, 1, none⟩) (by dsimp only; omega), cell_two (N := w.heap.size + 1 + 1) (p := ⟨w4.heap.size + 1, 1, none⟩) (by dsimp only; omega)]; with_reducible assumption))⟩)
        (fail)
      all_goals go_wp2_with fail
      all_goals refine bodyPost_ret (v := .tuple #[.agg #[.bool (sgn (x / y)), .slice a3 (lms (x / y)).length c3], .agg #[.bool (sgn (x % y)), .slice a4 (lms (x % y)).length c4]]) (by simp [results, Try.results71, go_sem, kR0, kR1, kT0, kT1]) rfl ?_
      all_goals refine ⟨a3, c3, a4, c4, rfl, ?_⟩
      all_goals first | exact fin_two'' (N := w.heap.size + 1 + 1) (M := w.heap.size + 1 + 1 + 1) (base := w1.heap.size) H3.out H4.out (by omega) (by omega) (by omega) (by omega) HB.out _ _ _ _ | exact fin_drew' (fin_two'' (N := w.heap.size + 1 + 1) (M := w.heap.size + 1 + 1 + 1) (base := w1.heap.size) H3.out H4.out (by omega) (by omega) (by omega) (by omega) HB.out _ _ _ _)
    · obtain ⟨e1, e2⟩ := div_more x y hy hx hm
      have hl0 : (0 : Int) < ((lms (mk false (x.natAbs % y.natAbs))).length : Int) := by rw [mk_lms]; have : Num.limbs (x.natAbs % y.natAbs) ≠ [] := fun e => hm (Num.limbs_eq_nil.1 e); have := List.length_pos_iff.2 this; omega
      have HLR : Hid ((lms (mk false (x.natAbs % y.natAbs))).length ≤ (lms y).length) := hide (by rw [mk_lms]; exact Nat.le_of_not_lt fun hc => by have := Num.len_lt hc; have := Nat.mod_lt x.natAbs (show 0 < y.natAbs by omega); omega)
      have HLE : Hid (Num.nat (lms (mk false (x.natAbs % y.natAbs))) ≤ Num.nat (lms y)) := hide (by rw [mk_lms, Num.nat_limbs, nat_lms]; exact Nat.le_of_lt (Nat.mod_lt _ (by omega)))
      have HE1 : Hid (mk (!sgn x == sgn y) (Num.nat qs + Num.nat [1]) = x / y) := hide (by rw [e1, HVQ.out]; rfl)
      have HE2 : Hid (mk false (Num.nat (lms y) - Num.nat (lms (mk false (x.natAbs % y.natAbs)))) = x % y) := hide (by rw [e2, nat_lms, mk_lms, Num.nat_limbs]; rfl)
      clear e1 e2 hm hx
      generalize mk (!sgn x == sgn y) (x.natAbs / y.natAbs) = q at *
      generalize mk false (x.natAbs % y.natAbs) = r at *
      go_upto_region 4 with fail
      clear hsx hl0
      rename (0 : Nat) < _ => hlr0
      clear hlr0
      have KP : Hid (∀ w', Below w5.heap.size w5 w' → (w'.cell? ⟨w.heap.size, 0, none⟩ = some (Value.bool (sgn x)) ∧ w'.cell? ⟨w.heap.size + 1, 0, none⟩ = some (Value.bool (sgn y)) ∧ Hid (Below w4.heap.size w4 w'))) := hide (fun w' hb => ⟨(hb.cell (p := ⟨w.heap.size, 0, none⟩) zA).trans kA0, (hb.cell (p := ⟨w.heap.size + 1, 0, none⟩) zB).trans kB0, bl_trans BW.out hb⟩)
      go_region_held3 (fun w' => w'.cell? ⟨w.heap.size, 0, none⟩ = some (Value.bool (sgn x)) ∧ w'.cell? ⟨w.heap.size + 1, 0, none⟩ = some (Value.bool (sgn y)) ∧ Hid (Below w4.heap.size w4 w'))
        (first
          | exact KP.out _ (bl_refl w5).drew
          | exact KP.out _ bB
          | exact KP.out _ bA
          | exact KP.out _ (bl_alloc (bl_refl w5).drew _)
          | exact KP.out _ (bl_alloc (bl_refl w5) _)
          | exact ⟨(cell_two (N := w4.heap.size) (p := ⟨w.heap.size, 0, none⟩) (by dsimp only; omega)).trans ((bB.cell (p := ⟨w.heap.size, 0, none⟩) zA).trans kA0), (cell_two (N := w4.heap.size) (p := ⟨w.heap.size + 1, 0, none⟩) (by dsimp only; omega)).trans ((bB.cell (p := ⟨w.heap.size + 1, 0, none⟩) zB).trans kB0), hide (Below.setCell (Below.setCell (bl_trans BW.out bB) (Nat.le_refl _) _) (Nat.le_refl _) _)⟩)
        (first
          | (go_at_call 54; refine (plusS aq (some ⟨_, 0, none⟩) nq 1 cq 1 qs [1] _ (HQ4.out.seg.below (Hid.out (And.right (And.right (by assumption))))) (by first | exact (own_lit1 _).seg | exact (own_lit1 _).seg.below (bl_refl _).drew) (by omega) (by decide)).mono ?_; rintro e wA ⟨ao, ko, co, zs, rfl, hoA, hkA, hvA, hbA⟩; have bA : Below w5.heap.size w5 wA := (by first | exact bl_trans (bl_alloc (bl_refl w5).drew _) hbA | exact bl_trans (bl_alloc (bl_refl w5) _) hbA | exact bl_trans (bl_trans (bl_alloc (bl_refl w5) _) (bl_refl _).drew) hbA); have yA := bA.size; have HOA := hide hoA.seg; have HVA := hide hvA; clear hoA hvA hbA)
          | (go_at_call 25; refine (makeS (!sgn x == sgn y) ao ko co zs _ HOA.out (by omega)).mono ?_; rintro e wB ⟨vB, rfl, hnB, hbB⟩; have bB : Below w5.heap.size w5 wB := bl_trans bA hbB; have yB := hbB.size; rw [HVA.out, HE1.out] at hnB; obtain ⟨aB, cB, rfl, hoB⟩ := hnB; have HOB := hide (hoB.mono (base' := w5.heap.size) yA); have kQ0 := (bB.cell (p := ⟨w4.heap.size, 0, none⟩) zQ).trans kQ0; have kQ1 := (bB.cell (p := ⟨w4.heap.size, 1, none⟩) zQ).trans kQ1; have fQ0 := (bB.frozen (p := ⟨w4.heap.size, 0, none⟩) zQ).trans fQ0; have fQ1 := (bB.frozen (p := ⟨w4.heap.size, 1, none⟩) zQ).trans fQ1; clear hoB hbB))
      clear KP kA0 kA1 zA HA HQ HR H3
      replace kB0 := (cell_two (N := w4.heap.size) (x := (Value.bool (sgn (x / y)))) (y := (Value.slice aB (lms (x / y)).length cB)) (p := ⟨w.heap.size + 1, 0, none⟩) (by dsimp only; omega)).trans ((bB.cell (p := ⟨w.heap.size + 1, 0, none⟩) zB).trans kB0)
      replace kB1 := (cell_two (N := w4.heap.size) (x := (Value.bool (sgn (x / y)))) (y := (Value.slice aB (lms (x / y)).length cB)) (p := ⟨w.heap.size + 1, 1, none⟩) (by dsimp only; omega)).trans ((bB.cell (p := ⟨w.heap.size + 1, 1, none⟩) zB).trans kB1)
      replace kR0 := (cell_two (N := w4.heap.size) (x := (Value.bool (sgn (x / y)))) (y := (Value.slice aB (lms (x / y)).length cB)) (p := ⟨w.heap.size + 1 + 1, 0, none⟩) (by dsimp only; omega)).trans ((bB.cell (p := ⟨w.heap.size + 1 + 1, 0, none⟩) zR).trans kR0)
      replace fR0 := (frozen_two (N := w4.heap.size) (x := (Value.bool (sgn (x / y)))) (y := (Value.slice aB (lms (x / y)).length cB)) (p := ⟨w.heap.size + 1 + 1, 0, none⟩) (by dsimp only; omega)).trans ((bB.frozen (p := ⟨w.heap.size + 1 + 1, 0, none⟩) zR).trans fR0)
      replace kR1 := (cell_two (N := w4.heap.size) (x := (Value.bool (sgn (x / y)))) (y := (Value.slice aB (lms (x / y)).length cB)) (p := ⟨w.heap.size + 1 + 1, 1, none⟩) (by dsimp only; omega)).trans ((bB.cell (p := ⟨w.heap.size + 1 + 1, 1, none⟩) zR).trans kR1)
      replace fR1 := (frozen_two (N := w4.heap.size) (x := (Value.bool (sgn (x / y)))) (y := (Value.slice aB (lms (x / y)).length cB)) (p := ⟨w.heap.size + 1 + 1, 1, none⟩) (by dsimp only; omega)).trans ((bB.frozen (p := ⟨w.heap.size + 1 + 1, 1, none⟩) zR).trans fR1)
      replace kT0 := (cell_two (N := w4.heap.size) (x := (Value.bool (sgn (x / y)))) (y := (Value.slice aB (lms (x / y)).length cB)) (p := ⟨w.heap.size + 1 + 1 + 1, 0, none⟩) (by dsimp only; omega)).trans ((bB.cell (p := ⟨w.heap.size + 1 + 1 + 1, 0, none⟩) zT).trans kT0)
      replace fT0 := (frozen_two (N := w4.heap.size) (x := (Value.bool (sgn (x / y)))) (y := (Value.slice aB (lms (x / y)).length cB)) (p := ⟨w.heap.size + 1 + 1 + 1, 0, none⟩) (by dsimp only; omega)).trans ((bB.frozen (p := ⟨w.heap.size + 1 + 1 + 1, 0, none⟩) zT).trans fT0)
      replace kT1 := (cell_two (N := w4.heap.size) (x := (Value.bool (sgn (x / y)))) (y := (Value.slice aB (lms (x / y)).length cB)) (p := ⟨w.heap.size + 1 + 1 + 1, 1, none⟩) (by dsimp only; omega)).trans ((bB.cell (p := ⟨w.heap.size + 1 + 1 + 1, 1, none⟩) zT).trans kT1)
      replace fT1 := (frozen_two (N := w4.heap.size) (x := (Value.bool (sgn (x / y)))) (y := (Value.slice aB (lms (x / y)).length cB)) (p := ⟨w.heap.size + 1 + 1 + 1, 1, none⟩) (by dsimp only; omega)).trans ((bB.frozen (p := ⟨w.heap.size + 1 + 1 + 1, 1, none⟩) zT).trans fT1)
      replace kS0 := (cell_two (N := w4.heap.size) (x := (Value.bool (sgn (x / y)))) (y := (Value.slice aB (lms (x / y)).length cB)) (p := ⟨w4.heap.size + 1, 0, none⟩) (by dsimp only; omega)).trans ((bB.cell (p := ⟨w4.heap.size + 1, 0, none⟩) zS).trans kS0)
      replace fS0 := (frozen_two (N := w4.heap.size) (x := (Value.bool (sgn (x / y)))) (y := (Value.slice aB (lms (x / y)).length cB)) (p := ⟨w4.heap.size + 1, 0, none⟩) (by dsimp only; omega)).trans ((bB.frozen (p := ⟨w4.heap.size + 1, 0, none⟩) zS).trans fS0)
      replace kS1 := (cell_two (N := w4.heap.size) (x := (Value.bool (sgn (x / y)))) (y := (Value.slice aB (lms (x / y)).length cB)) (p := ⟨w4.heap.size + 1, 1, none⟩) (by dsimp only; omega)).trans ((bB.cell (p := ⟨w4.heap.size + 1, 1, none⟩) zS).trans kS1)
      replace fS1 := (frozen_two (N := w4.heap.size) (x := (Value.bool (sgn (x / y)))) (y := (Value.slice aB (lms (x / y)).length cB)) (p := ⟨w4.heap.size + 1, 1, none⟩) (by dsimp only; omega)).trans ((bB.frozen (p := ⟨w4.heap.size + 1, 1, none⟩) zS).trans fS1)
      have m0 : ((wB.setCell ⟨w4.heap.size, 0, none⟩ (Value.bool (sgn (x / y)))).setCell ⟨w4.heap.size, 1, none⟩ (Value.slice aB (lms (x / y)).length cB)).cell? ⟨w4.heap.size, 0, none⟩ = some (Value.bool (sgn (x / y))) := by go_simp
      have m1 : ((wB.setCell ⟨w4.heap.size, 0, none⟩ (Value.bool (sgn (x / y)))).setCell ⟨w4.heap.size, 1, none⟩ (Value.slice aB (lms (x / y)).length cB)).cell? ⟨w4.heap.size, 1, none⟩ = some (Value.slice aB (lms (x / y)).length cB) := by go_simp
      clear kQ0 kQ1 fQ0 fQ1
      replace HOB := hide ((HOB.out.setCell (p := ⟨w4.heap.size, 0, none⟩) (by dsimp only; omega) (Value.bool (sgn (x / y)))).setCell (p := ⟨w4.heap.size, 1, none⟩) (by dsimp only; omega) (Value.slice aB (lms (x / y)).length cB))
      have B8 := hide (Below.setCell (Below.setCell (bl_trans BW.out bB) (p := ⟨w4.heap.size, 0, none⟩) (Nat.le_refl _) (Value.bool (sgn (x / y)))) (p := ⟨w4.heap.size, 1, none⟩) (Nat.le_refl _) (Value.slice aB (lms (x / y)).length cB))
      have y8 : wB.heap.size ≤ ((wB.setCell ⟨w4.heap.size, 0, none⟩ (Value.bool (sgn (x / y)))).setCell ⟨w4.heap.size, 1, none⟩ (Value.slice aB (lms (x / y)).length cB)).heap.size := by simp
      clear bA BW
      go_wp2_with fail
      generalize ((wB.setCell ⟨w4.heap.size, 0, none⟩ (Value.bool (sgn (x / y)))).setCell ⟨w4.heap.size, 1, none⟩ (Value.slice aB (lms (x / y)).length cB)) = w8 at *
      clear kB0 kB1 HBB HB H4
      refine (lessS b a4 _ _ cb c4 (lms y) (lms r) _ (HBB4.out.below B8.out) (H44.out.seg.below B8.out) (by omega) (by have := HLR.out; omega) HLE.out HLR.out).mono ?_
      rintro e w9 ⟨a9, n9, c9, zs9, rfl, ho9, hn9, hv9, hb9⟩
      have HO9 := hide ho9.seg
      have HV9 := hide hv9
      have y9 := hb9.size
      have HLR' := HLR.out
      go_wp2_with fail
      refine (makeS false a9 n9 c9 zs9 _ HO9.out (by omega)).mono ?_
      rintro e w10 ⟨v10, rfl, hn10, hb10⟩
      rw [HV9.out, HE2.out] at hn10
      obtain ⟨a10, c10, rfl, ho10⟩ := hn10
      have y10 := hb10.size
      have hb := bl_trans hb9 hb10
      have B10 := hide (bl_trans B8.out hb)
      replace HOB := hide (HOB.out.below hb)
      have HO10 := hide (ho10.mono (base' := w5.heap.size) (by omega))
      have z8 := hb.size
      replace zR : w.heap.size + 1 + 1 < w8.heap.size := by omega
      replace zT : w.heap.size + 1 + 1 + 1 < w8.heap.size := by omega
      replace zS : w4.heap.size + 1 < w8.heap.size := by omega
      have zQ8 : w4.heap.size < w8.heap.size := by omega
      have kQ0 := m0
      have kQ1 := m1
      replace zQ := zQ8
      clear m0 m1 zQ8
      have s0 := (hb.cell (p := ⟨w4.heap.size + 1, 0, none⟩) zS).trans kS0
      have s1 := (hb.cell (p := ⟨w4.heap.size + 1, 1, none⟩) zS).trans kS1
      have t0 := (hb.frozen (p := ⟨w4.heap.size + 1, 0, none⟩) zS).trans fS0
      have t1 := (hb.frozen (p := ⟨w4.heap.size + 1, 1, none⟩) zS).trans fS1
      go_upto_region 6 with fail
      replace kR0 := (cell_two (N := w4.heap.size + 1) (x := (Value.bool (sgn (x % y)))) (y := (Value.slice a10 (lms (x % y)).length c10)) (p := ⟨w.heap.size + 1 + 1, 0, none⟩) (by dsimp only; omega)).trans ((hb.cell (p := ⟨w.heap.size + 1 + 1, 0, none⟩) zR).trans kR0)
      replace fR0 := (frozen_two (N := w4.heap.size + 1) (x := (Value.bool (sgn (x % y)))) (y := (Value.slice a10 (lms (x % y)).length c10)) (p := ⟨w.heap.size + 1 + 1, 0, none⟩) (by dsimp only; omega)).trans ((hb.frozen (p := ⟨w.heap.size + 1 + 1, 0, none⟩) zR).trans fR0)
      replace kR1 := (cell_two (N := w4.heap.size + 1) (x := (Value.bool (sgn (x % y)))) (y := (Value.slice a10 (lms (x % y)).length c10)) (p := ⟨w.heap.size + 1 + 1, 1, none⟩) (by dsimp only; omega)).trans ((hb.cell (p := ⟨w.heap.size + 1 + 1, 1, none⟩) zR).trans kR1)
      replace fR1 := (frozen_two (N := w4.heap.size + 1) (x := (Value.bool (sgn (x % y)))) (y := (Value.slice a10 (lms (x % y)).length c10)) (p := ⟨w.heap.size + 1 + 1, 1, none⟩) (by dsimp only; omega)).trans ((hb.frozen (p := ⟨w.heap.size + 1 + 1, 1, none⟩) zR).trans fR1)
      replace kT0 := (cell_two (N := w4.heap.size + 1) (x := (Value.bool (sgn (x % y)))) (y := (Value.slice a10 (lms (x % y)).length c10)) (p := ⟨w.heap.size + 1 + 1 + 1, 0, none⟩) (by dsimp only; omega)).trans ((hb.cell (p := ⟨w.heap.size + 1 + 1 + 1, 0, none⟩) zT).trans kT0)
      replace fT0 := (frozen_two (N := w4.heap.size + 1) (x := (Value.bool (sgn (x % y)))) (y := (Value.slice a10 (lms (x % y)).length c10)) (p := ⟨w.heap.size + 1 + 1 + 1, 0, none⟩) (by dsimp only; omega)).trans ((hb.frozen (p := ⟨w.heap.size + 1 + 1 + 1, 0, none⟩) zT).trans fT0)
      replace kT1 := (cell_two (N := w4.heap.size + 1) (x := (Value.bool (sgn (x % y)))) (y := (Value.slice a10 (lms (x % y)).length c10)) (p := ⟨w.heap.size + 1 + 1 + 1, 1, none⟩) (by dsimp only; omega)).trans ((hb.cell (p := ⟨w.heap.size + 1 + 1 + 1, 1, none⟩) zT).trans kT1)
      replace fT1 := (frozen_two (N := w4.heap.size + 1) (x := (Value.bool (sgn (x % y)))) (y := (Value.slice a10 (lms (x % y)).length c10)) (p := ⟨w.heap.size + 1 + 1 + 1, 1, none⟩) (by dsimp only; omega)).trans ((hb.frozen (p := ⟨w.heap.size + 1 + 1 + 1, 1, none⟩) zT).trans fT1)
      replace kQ0 := (cell_two (N := w4.heap.size + 1) (x := (Value.bool (sgn (x % y)))) (y := (Value.slice a10 (lms (x % y)).length c10)) (p := ⟨w4.heap.size, 0, none⟩) (by dsimp only; omega)).trans ((hb.cell (p := ⟨w4.heap.size, 0, none⟩) zQ).trans kQ0)
      replace kQ1 := (cell_two (N := w4.heap.size + 1) (x := (Value.bool (sgn (x % y)))) (y := (Value.slice a10 (lms (x % y)).length c10)) (p := ⟨w4.heap.size, 1, none⟩) (by dsimp only; omega)).trans ((hb.cell (p := ⟨w4.heap.size, 1, none⟩) zQ).trans kQ1)
      have m0 : ((w10.setCell ⟨w4.heap.size + 1, 0, none⟩ (Value.bool (sgn (x % y)))).setCell ⟨w4.heap.size + 1, 1, none⟩ (Value.slice a10 (lms (x % y)).length c10)).cell? ⟨w4.heap.size + 1, 0, none⟩ = some (Value.bool (sgn (x % y))) := by go_simp
      have m1 : ((w10.setCell ⟨w4.heap.size + 1, 0, none⟩ (Value.bool (sgn (x % y)))).setCell ⟨w4.heap.size + 1, 1, none⟩ (Value.slice a10 (lms (x % y)).length c10)).cell? ⟨w4.heap.size + 1, 1, none⟩ = some (Value.slice a10 (lms (x % y)).length c10) := by go_simp
      replace HOB := hide ((HOB.out.setCell (p := ⟨w4.heap.size + 1, 0, none⟩) (by dsimp only; omega) (Value.bool (sgn (x % y)))).setCell (p := ⟨w4.heap.size + 1, 1, none⟩) (by dsimp only; omega) (Value.slice a10 (lms (x % y)).length c10))
      replace HO10 := hide ((HO10.out.setCell (p := ⟨w4.heap.size + 1, 0, none⟩) (by dsimp only; omega) (Value.bool (sgn (x % y)))).setCell (p := ⟨w4.heap.size + 1, 1, none⟩) (by dsimp only; omega) (Value.slice a10 (lms (x % y)).length c10))
      replace B10 := hide (Below.setCell (Below.setCell B10.out (p := ⟨w4.heap.size + 1, 0, none⟩) (by dsimp only; omega) (Value.bool (sgn (x % y)))) (p := ⟨w4.heap.size + 1, 1, none⟩) (by dsimp only; omega) (Value.slice a10 (lms (x % y)).length c10))
      clear s0 s1 t0 t1 kS0 kS1 fS0 fS1 ho9 hv9 ho10 hb9 hb10 hb HO9 HV9
      generalize ((w10.setCell ⟨w4.heap.size + 1, 0, none⟩ (Value.bool (sgn (x % y)))).setCell ⟨w4.heap.size + 1, 1, none⟩ (Value.slice a10 (lms (x % y)).length c10)) = w11 at *
      have kS0 := m0
      have kS1 := m1
      clear m0 m1
      have HB := hide (bl_trans HB4.out B10.out)
      go_region_held3 (fun w' => w'.cell? ⟨w4.heap.size, 0, none⟩ = some (Value.bool (sgn (x / y))) ∧ w'.cell? ⟨w4.heap.size, 1, none⟩ = some (Value.slice aB (lms (x / y)).length cB) ∧ w'.cell? ⟨w4.heap.size + 1, 0, none⟩ = some ((Value.bool (sgn (x % y)))) ∧ w'.cell? ⟨w4.heap.size + 1, 1, none⟩ = some ((Value.slice a10 (lms (x % y)).length c10)))
        (first
          | exact ⟨(by (try rw [World.cell?_drew]); first | with_reducible assumption | (rw [cell_two (N := w.heap.size + 1 + 1) (p := ⟨w4.heap.size, 0, none⟩) (by dsimp only; omega)]; with_reducible assumption) | (rw [cell_two (N := w.heap.size + 1 + 1 + 1) (p := ⟨w4.heap.size, 0, none⟩) (by dsimp only; omega)]; with_reducible assumption) | (rw [cell_two (N := w.heap.size + 1 + 1) (p := ⟨w4.heap.size, 0, none⟩) (by dsimp only; omega), cell_two (N := w.heap.size + 1 + 1 + 1) (p := ⟨w4.heap.size, 0, none⟩) (by dsimp only; omega)]; with_reducible assumption) | (rw [cell_two (N := w.heap.size + 1 + 1 + 1) (p := ⟨w4.heap.size, 0, none⟩) (by dsimp only; omega), cell_two (N := w.heap.size + 1 + 1) (p := ⟨w4.heap.size, 0, none⟩) (by dsimp only; omega)]; with_reducible assumption)), (by (try rw [World.cell?_drew]); first | with_reducible assumption | (rw [cell_two (N := w.heap.size + 1 + 1) (p := ⟨w4.heap.size, 1, none⟩) (by dsimp only; omega)]; with_reducible assumption) | (rw [cell_two (N := w.heap.size + 1 + 1 + 1) (p := ⟨w4.heap.size, 1, none⟩) (by dsimp only; omega)]; with_reducible assumption) | (rw [cell_two (N := w.heap.size + 1 + 1) (p := ⟨w4.heap.size, 1, none⟩) (by dsimp only; omega), cell_two (N := w.heap.size + 1 + 1 + 1) (p := ⟨w4.heap.size, 1, none⟩) (by dsimp only; omega)]; with_reducible assumption) | (rw [cell_two (N := w.heap.size + 1 + 1 + 1) (p := ⟨w4.heap.size, 1, none⟩) (by dsimp only; omega), cell_two (N := w.heap.size + 1 + 1) (p := ⟨w4.heap.size, 1, none⟩) (by dsimp only; omega)]; with_reducible assumption)), (by (try rw [World.cell?_drew]); first | with_reducible assumption | (rw [cell_two (N := w.heap.size + 1 + 1) (p := ⟨w4.heap.size + 1, 0, none⟩) (by dsimp only; omega)]; with_reducible assumption) | (rw [cell_two (N := w.heap.size + 1 + 1 + 1) (p := ⟨w4.heap.size + 1, 0, none⟩) (by dsimp only; omega)]; with_reducible assumption) | (rw [cell_two (N := w.heap.size + 1 + 1) (p := ⟨w4.heap.size + 1, 0, none⟩) (by dsimp only; omega), cell_two (N := w.heap.size + 1 + 1 + 1) (p := ⟨w4.heap.size + 1, 0, none⟩) (by dsimp only; omega)]; with_reducible assumption) | (rw [cell_two (N := w.heap.size + 1 + 1 + 1) (p := ⟨w4.heap.size + 1, 0, none⟩) (by dsimp only; omega), cell_two (N := w.heap.size + 1 + 1) (p := ⟨w4.heap.size + 1, 0, none⟩) (by dsimp only; omega)]; with_reducible assumption)), (by (try rw [World.cell?_drew]); first | with_reducible assumption | (rw [cell_two (N := w.heap.size + 1 + 1) (p := ⟨w4.heap.size + 1, 1, none⟩) (by dsimp only; omega)]; with_reducible assumption) | (rw [cell_two (N := w.heap.size + 1 + 1 + 1) (p := ⟨w4.heap.size + 1, 1, none⟩) (by dsimp only; omega)]; with_reducible assumption) | (rw [cell_two (N := w.heap.size + 1 + 1) (p := ⟨w4.heap.size + 1, 1, none⟩) (by dsimp only; omega), cell_two (N := w.heap.size + 1 + 1 + 1) (p := ⟨w4.heap.size + 1, 1, none⟩) (by dsimp only; omega)]; with_reducible assumption) | (rw [cell_two (N := w.heap.size + 1 + 1 + 1) (p := ⟨w4.heap.size + 1, 1, none⟩) (by dsimp only; omega), cell_two (N := w.heap.size + 1 + 1) (p := ⟨w4.heap.size + 1, 1, none⟩) (by dsimp only; omega)]; with_reducible assumption))⟩)
        (fail)
      all_goals go_wp2_with fail
      all_goals refine bodyPost_ret (v := .tuple #[.agg #[.bool (sgn (x / y)), .slice aB (lms (x / y)).length cB], .agg #[.bool (sgn (x % y)), .slice a10 (lms (x % y)).length c10]]) (by simp [results, Try.results71, go_sem, kR0, kR1, kT0, kT1]) rfl ?_
      all_goals refine ⟨aB, cB, a10, c10, rfl, ?_⟩
      all_goals first | exact fin_two'' (N := w.heap.size + 1 + 1) (M := w.heap.size + 1 + 1 + 1) (base := w1.heap.size) (HOB.out.mono (base' := w1.heap.size) (by omega)) (HO10.out.mono (base' := w1.heap.size) (by omega)) (by omega) (by omega) (by omega) (by omega) HB.out _ _ _ _ | exact fin_drew' (fin_two'' (N := w.heap.size + 1 + 1) (M := w.heap.size + 1 + 1 + 1) (base := w1.heap.size) (HOB.out.mono (base' := w1.heap.size) (by omega)) (HO10.out.mono (base' := w1.heap.size) (by omega)) (by omega) (by omega) (by omega) (by omega) HB.out _ _ _ _)
  · have hsx : sgn x = false := decide_eq_false hx
    obtain ⟨e1, e2⟩ := div_same x y hy (.inl (by omega))
    have e3 : mk false (x.natAbs % y.natAbs) = x % y := e2.symm
    have HE1 := hide e1
    have HE2 := hide e3
    clear e1 e2 e3
    generalize mk (!sgn x == sgn y) (x.natAbs / y.natAbs) = q at *
    generalize mk false (x.natAbs % y.natAbs) = r at *
    go_upto_region 6 with fail
    clear hsx
    have hq' := HE2.out; subst hq'
    have hq' := HE1.out.symm; subst hq'
    clear HE1 HE2
    go_region_held3 (fun w' => w'.cell? ⟨w4.heap.size, 0, none⟩ = some (Value.bool (sgn (x / y))) ∧ w'.cell? ⟨w4.heap.size, 1, none⟩ = some (Value.slice a3 (lms (x / y)).length c3) ∧ w'.cell? ⟨w4.heap.size + 1, 0, none⟩ = some (Value.bool (sgn (x % y))) ∧ w'.cell? ⟨w4.heap.size + 1, 1, none⟩ = some (Value.slice a4 (lms (x % y)).length c4))
      (first
        | exact ⟨(by (try rw [World.cell?_drew]); first | with_reducible assumption | (rw [cell_two (N := w.heap.size + 1 + 1) (p := ⟨w4.heap.size, 0, none⟩) (by dsimp only; omega)]; with_reducible assumption) | (rw [cell_two (N := w.heap.size + 1 + 1 + 1) (p := ⟨w4.heap.size, 0, none⟩) (by dsimp only; omega)]; with_reducible assumption) | (rw [cell_two (N := w.heap.size + 1 + 1) (p := ⟨w4.heap.size, 0, none⟩) (by dsimp only; omega), cell_two (N := w.heap.size + 1 + 1 + 1) (p := ⟨w4.heap.size, 0, none⟩) (by dsimp only; omega)]; with_reducible assumption) | (rw [cell_two (N := w.heap.size + 1 + 1 + 1) (p := ⟨w4.heap.size, 0, none⟩) (by dsimp only; omega), cell_two (N := w.heap.size + 1 + 1) (p := ⟨w4.heap.size, 0, none⟩) (by dsimp only; omega)]; with_reducible assumption)), (by (try rw [World.cell?_drew]); first | with_reducible assumption | (rw [cell_two (N := w.heap.size + 1 + 1) (p := ⟨w4.heap.size, 1, none⟩) (by dsimp only; omega)]; with_reducible assumption) | (rw [cell_two (N := w.heap.size + 1 + 1 + 1) (p := ⟨w4.heap.size, 1, none⟩) (by dsimp only; omega)]; with_reducible assumption) | (rw [cell_two (N := w.heap.size + 1 + 1) (p := ⟨w4.heap.size, 1, none⟩) (by dsimp only; omega), cell_two (N := w.heap.size + 1 + 1 + 1) (p := ⟨w4.heap.size, 1, none⟩) (by dsimp only; omega)]; with_reducible assumption) | (rw [cell_two (N := w.heap.size + 1 + 1 + 1) (p := ⟨w4.heap.size, 1, none⟩) (by dsimp only; omega), cell_two (N := w.heap.size + 1 + 1) (p := ⟨w4.heap.size, 1, none⟩) (by dsimp only; omega)]; with_reducible assumption)), (by (try rw [World.cell?_drew]); first | with_reducible assumption | (rw [cell_two (N := w.heap.size + 1 + 1) (p := ⟨w4.heap.size + 1, 0, none⟩) (by dsimp only; omega)]; with_reducible assumption) | (rw [cell_two (N := w.heap.size + 1 + 1 + 1) (p := ⟨w4.heap.size + 1, 0, none⟩) (by dsimp only; omega)]; with_reducible assumption) | (rw [cell_two (N := w.heap.size + 1 + 1) (p := ⟨w4.heap.size + 1, 0, none⟩) (by dsimp only; omega), cell_two (N := w.heap.size + 1 + 1 + 1) (p := ⟨w4.heap.size + 1, 0, none⟩) (by dsimp only; omega)]; with_reducible assumption) | (rw [cell_two (N := w.heap.size + 1 + 1 + 1) (p := ⟨w4.heap.size + 1, 0, none⟩) (by dsimp only; omega), cell_two (N := w.heap.size + 1 + 1) (p := ⟨w4.heap.size + 1, 0, none⟩) (by dsimp only; omega)]; with_reducible assumption)), (by (try rw [World.cell?_drew]); first | with_reducible assumption | (rw [cell_two (N := w.heap.size + 1 + 1) (p := ⟨w4.heap.size + 1, 1, none⟩) (by dsimp only; omega)]; with_reducible assumption) | (rw [cell_two (N := w.heap.size + 1 + 1 + 1) (p := ⟨w4.heap.size + 1, 1, none⟩) (by dsimp only; omega)]; with_reducible assumption) | (rw [cell_two (N := w.heap.size + 1 + 1) (p := ⟨w4.heap.size + 1, 1, none⟩) (by dsimp only; omega), cell_two (N := w.heap.size + 1 + 1 + 1) (p := ⟨w4.heap.size + 1, 1, none⟩) (by dsimp only; omega)]; with_reducible assumption) | (rw [cell_two (N := w.heap.size + 1 + 1 + 1) (p := ⟨w4.heap.size + 1, 1, none⟩) (by dsimp only; omega), cell_two (N := w.heap.size + 1 + 1) (p := ⟨w4.heap.size + 1, 1, none⟩) (by dsimp only; omega)]; with_reducible assumption))⟩)
      (fail)
    all_goals go_wp2_with fail
    all_goals refine bodyPost_ret (v := .tuple #[.agg #[.bool (sgn (x / y)), .slice a3 (lms (x / y)).length c3], .agg #[.bool (sgn (x % y)), .slice a4 (lms (x % y)).length c4]]) (by simp [results, Try.results71, go_sem, kR0, kR1, kT0, kT1]) rfl ?_
    all_goals refine ⟨a3, c3, a4, c4, rfl, ?_⟩
    all_goals first | exact fin_two'' (N := w.heap.size + 1 + 1) (M := w.heap.size + 1 + 1 + 1) (base := w1.heap.size) H3.out H4.out (by omega) (by omega) (by omega) (by omega) HB.out _ _ _ _ | exact fin_drew' (fin_two'' (N := w.heap.size + 1 + 1) (M := w.heap.size + 1 + 1 + 1) (base := w1.heap.size) H3.out H4.out (by omega) (by omega) (by omega) (by omega) HB.out _ _ _ _)
end Go.Proofs.Ythjapjbiclkhcaa
