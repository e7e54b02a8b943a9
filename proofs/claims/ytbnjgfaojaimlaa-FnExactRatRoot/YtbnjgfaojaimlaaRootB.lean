/- The same by a letter for the greatest power of 2 that bounds a root. -/
import Derived.Test.YtbnjgfaojaimlaaRootA
namespace Go.Proofs.Ytbnjgfaojaimlaa
open Go.RowKit
set_option linter.unusedVariables false

/-- T is 2 to 1280 -/
def IsTop (T : Nat) : Prop := ∃ E : Nat, E = 1280 ∧ T = 2 ^ E
theorem top_ex : ∃ T : Nat, IsTop T := ⟨_, 1280, rfl, rfl⟩
theorem len_top {T p K : Nat} (hT : IsTop T) (h : p ≤ T) (hK : K ≤ 64) : (lms ((p ^ K : Nat) : Int)).length ≤ 250000 := by
  obtain ⟨E, hE, rfl⟩ := hT
  have h1 : p ^ K ≤ 2 ^ (E * K) := by rw [Nat.pow_mul]; exact Nat.pow_le_pow_left h K
  have h2 : E * K ≤ E * 64 := Nat.mul_le_mul (Nat.le_refl E) hK
  exact len_pow h1 (by omega)
theorem powT (T : Nat) (v1 : Value) (y K : Nat) (w : World) (hT : IsTop T) (h1 : Is w v1 (y : Int)) (hy : y ≤ T) (hK : K ≤ 64) :
    Calls Try.prog 29 #[v1, .int .i64 K] w fun e w' => ∃ v, e = .returned v ∧ New w' w.heap.size v ((y ^ K : Nat) : Int) ∧ Below w.heap.size w w' := by
  have := powI v1 (y : Int) K w h1 (by omega) (fun j hj => by
    have := len_top hT hy (K := j) (by omega)
    rwa [Int.natCast_pow] at this)
  rwa [show (y : Int) ^ K = ((y ^ K : Nat) : Int) from (Int.natCast_pow y K).symm] at this
theorem top_pow {T Q : Nat} (hT : IsTop T) (h : Q ≤ 1280) : 2 ^ Q ≤ T := by
  obtain ⟨E, hE, rfl⟩ := hT
  exact Nat.pow_le_pow_right (by decide) (by omega)
theorem powTP (T : Nat) (v1 : Value) (y K P : Nat) (w : World) (hP : y ^ K = P) (hT : IsTop T) (h1 : Is w v1 (y : Int)) (hy : y ≤ T) (hK : K ≤ 64) :
    Calls Try.prog 29 #[v1, .int .i64 K] w fun e w' => ∃ v, e = .returned v ∧ New w' w.heap.size v (P : Int) ∧ Below w.heap.size w w' := by
  subst hP; exact powT T v1 y K w hT h1 hy hK
theorem divD (v1 v2 : Value) (x y D M : Nat) (w : World) (hD : x / y = D) (hM : x % y = M) (h1 : Is w v1 (x : Int)) (h2 : Is w v2 (y : Int)) (hy : 0 < y) (l1 : (lms (x : Int)).length ≤ 300000) (l2 : (lms (y : Int)).length ≤ 300000) :
    Calls Try.prog 46 #[v1, v2] w fun e w' => ∃ a1 c1 a2 c2, e = .returned (.tuple #[.agg #[.bool (sgn (D : Int)), .slice a1 (lms (D : Int)).length c1], .agg #[.bool (sgn (M : Int)), .slice a2 (lms (M : Int)).length c2]]) ∧ Own w' w.heap.size a1 (lms (D : Int)).length c1 (lms (D : Int)) ∧ Own w' w.heap.size a2 (lms (M : Int)).length c2 (lms (M : Int)) ∧ Apart a1 a2 ∧ Below w.heap.size w w' := by
  subst hD hM; exact divNN v1 v2 x y w h1 h2 hy l1 l2
theorem len_le {m n b : Nat} (h : m ≤ n) (l : (lms (n : Int)).length ≤ b) : (lms (m : Int)).length ≤ b := by
  unfold lms at *
  rw [Int.natAbs_natCast] at *
  exact Num.limbs_len.2 (Nat.lt_of_le_of_lt h (Num.limbs_len.1 l))
theorem len_pow2 {y b : Nat} (h : y ≤ 2 ^ b) (hb : b ≤ 100000) : (lms (y : Int)).length ≤ 250000 := len_pow h hb
theorem len_top1 {T p : Nat} (hT : IsTop T) (h : p ≤ T) : (lms (p : Int)).length ≤ 250000 := by
  have := len_top hT h (K := 1) (by omega)
  rwa [Nat.pow_one] at this
theorem mul_top {T p K : Nat} (hT : IsTop T) (h : p ≤ T) (hK : K ≤ 64) : ∃ E : Nat, E ≤ 1286 ∧ p * K ≤ 2 ^ E := by
  obtain ⟨E, hE, rfl⟩ := hT
  refine ⟨E + 6, by omega, ?_⟩
  rw [Nat.pow_add]
  exact Nat.mul_le_mul h hK
theorem len_mulT {T p K : Nat} (hT : IsTop T) (h : p ≤ T) (hK : K ≤ 64) : (lms ((p * K : Nat) : Int)).length ≤ 250000 := by
  obtain ⟨E, hE, h1⟩ := mul_top hT h hK
  exact len_pow h1 (by omega)
theorem len_sumT {T p K D x : Nat} (hT : IsTop T) (h : p ≤ T) (hK : K ≤ 64) (hD : D ≤ x) (hx : x < 4294967296 ^ 40) : (lms ((p * K + D : Nat) : Int)).length ≤ 250000 := by
  obtain ⟨E, hE, h1⟩ := mul_top hT h hK
  obtain ⟨m, hm⟩ : ∃ m : Nat, m = 40 := ⟨_, rfl⟩
  rw [← hm] at hx
  have h2 : x ≤ 2 ^ (32 * m) := by rw [Nat.pow_mul]; exact Nat.le_of_lt hx
  have e1 : 2 ^ E ≤ 2 ^ (E + 32 * m) := Nat.pow_le_pow_right (by decide) (by omega)
  have e2 : 2 ^ (32 * m) ≤ 2 ^ (E + 32 * m) := Nat.pow_le_pow_right (by decide) (by omega)
  refine len_pow (b := E + 32 * m + 1) ?_ (by omega)
  rw [Nat.pow_succ]
  omega
theorem len_int {K : Nat} (hK : K ≤ 64) : (lms (K : Int)).length ≤ 300000 := by
  have h : ((K : Int)).natAbs < 4294967296 ^ 1 := by rw [Int.natAbs_natCast]; omega
  exact Nat.le_trans (Num.limbs_len.2 h) (by decide)
theorem prodP (v1 v2 : Value) (x y P : Nat) (w : World) (hP : x * y = P) (h1 : Is w v1 (x : Int)) (h2 : Is w v2 (y : Int)) (l1 : (lms (x : Int)).length ≤ 300000) (l2 : (lms (y : Int)).length ≤ 300000) :
    Calls Try.prog 48 #[v1, v2] w fun e w' => ∃ v, e = .returned v ∧ New w' w.heap.size v (P : Int) ∧ Below w.heap.size w w' := by subst hP; exact prodNN v1 v2 x y w h1 h2 l1 l2
theorem sumP (v1 v2 : Value) (x y P : Nat) (w : World) (hP : x + y = P) (h1 : Is w v1 (x : Int)) (h2 : Is w v2 (y : Int)) (l1 : (lms (x : Int)).length ≤ 300000) (l2 : (lms (y : Int)).length ≤ 300000) :
    Calls Try.prog 47 #[v1, v2] w fun e w' => ∃ v, e = .returned v ∧ New w' w.heap.size v (P : Int) ∧ Below w.heap.size w w' := by subst hP; exact sumNN v1 v2 x y w h1 h2 l1 l2
end Go.Proofs.Ytbnjgfaojaimlaa
