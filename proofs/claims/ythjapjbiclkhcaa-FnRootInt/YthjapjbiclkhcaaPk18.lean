/- My texts RootA, RootB, in this order. -/
import Derived.Test.YthjapjbiclkhcaaPk08
import Derived.Test.YthjapjbiclkhcaaPk16
import Derived.Test.YthjapjbiclkhcaaPk14
import Derived.Test.YthjapjbiclkhcaaPk17
/- What bigRoot's steps call, by whole numbers of 0 or more; and a variable's box, made ahead or behind. -/
namespace Go.Proofs.Ythjapjbiclkhcaa
open Go.RowKit
set_option linter.unusedVariables false

theorem bits_nat {x : Nat} (h0 : x ≠ 0) (hx : x < 4294967296 ^ 40) : ∃ B : Nat, bitsN (lms (x : Int)) = (B : Int) ∧ x < 2 ^ B ∧ 1 ≤ B ∧ B ≤ 1280 := by
  have hl0 : (lms (x : Int)).length ≠ 0 := fun e => h0 (by have := sgn_lms_nil e; omega)
  obtain ⟨b, h1, h2, h3, h4⟩ := bits_bounds (lms (x : Int)) (lms_small _) hl0 (lms_last _ hl0)
  rw [nat_lms, Int.natAbs_natCast] at h2 h3
  have l : (lms (x : Int)).length ≤ 40 := Num.limbs_len.2 (by rw [Int.natAbs_natCast]; exact hx)
  exact ⟨b + 1, by rw [h1]; rfl, h3, by omega, by omega⟩
theorem len_pow {y b : Nat} (h : y ≤ 2 ^ b) (hb : b ≤ 100000) : (lms (y : Int)).length ≤ 250000 := by
  have := pow_len (z := (y : Int)) (b := b) (j := 1) (by rw [Int.natAbs_natCast]; exact h) (by omega)
  rw [Int.pow_succ, Int.pow_zero, Int.one_mul] at this
  exact this
theorem pow2I (v1 : Value) (Q : Nat) (w : World) (h1 : Is w v1 2) (hQ : Q ≤ 2000) :
    Calls Try.prog 33 #[v1, .int .i64 Q] w fun e w' => ∃ v, e = .returned v ∧ New w' w.heap.size v ((2 ^ Q : Nat) : Int) ∧ Below w.heap.size w w' := by
  have := powI v1 2 Q w h1 (by omega) (fun j hj => pow_len (b := 1) (by decide) (by omega))
  rw [show (2 : Int) ^ Q = ((2 ^ Q : Nat) : Int) from (Int.natCast_pow 2 Q).symm] at this
  exact this
theorem powN (v1 : Value) (y K : Nat) (w : World) (h1 : Is w v1 (y : Int)) (hy : y ≤ 2 ^ 1280) (hK : K ≤ 64) :
    Calls Try.prog 33 #[v1, .int .i64 K] w fun e w' => ∃ v, e = .returned v ∧ New w' w.heap.size v ((y ^ K : Nat) : Int) ∧ Below w.heap.size w w' := by
  have := powI v1 y K w h1 (by omega) (fun j hj => pow_len (b := 1280) (by rw [Int.natAbs_natCast]; exact hy) (by omega))
  rw [show (y : Int) ^ K = ((y ^ K : Nat) : Int) from (Int.natCast_pow y K).symm] at this
  exact this
theorem divNN (v1 v2 : Value) (x y : Nat) (w : World) (h1 : Is w v1 (x : Int)) (h2 : Is w v2 (y : Int)) (hy : 0 < y) (l1 : (lms (x : Int)).length ≤ 300000) (l2 : (lms (y : Int)).length ≤ 300000) :
    Calls Try.prog 59 #[v1, v2] w fun e w' => ∃ a1 c1 a2 c2, e = .returned (.tuple #[.agg #[.bool (sgn ((x / y : Nat) : Int)), .slice a1 (lms ((x / y : Nat) : Int)).length c1], .agg #[.bool (sgn ((x % y : Nat) : Int)), .slice a2 (lms ((x % y : Nat) : Int)).length c2]]) ∧ Own w' w.heap.size a1 (lms ((x / y : Nat) : Int)).length c1 (lms ((x / y : Nat) : Int)) ∧ Own w' w.heap.size a2 (lms ((x % y : Nat) : Int)).length c2 (lms ((x % y : Nat) : Int)) ∧ Apart a1 a2 ∧ Below w.heap.size w w' :=
  divI v1 v2 x y w h1 h2 (by omega) (by omega) (by omega)
theorem prodNN (v1 v2 : Value) (x y : Nat) (w : World) (h1 : Is w v1 (x : Int)) (h2 : Is w v2 (y : Int)) (l1 : (lms (x : Int)).length ≤ 300000) (l2 : (lms (y : Int)).length ≤ 300000) :
    Calls Try.prog 60 #[v1, v2] w fun e w' => ∃ v, e = .returned v ∧ New w' w.heap.size v ((x * y : Nat) : Int) ∧ Below w.heap.size w w' := by
  have := prodI v1 v2 (sgn (x : Int)) (sgn (y : Int)) (x : Int).natAbs (y : Int).natAbs w h1 h2 (Nat.le_trans l1 (by decide)) (Nat.le_trans l2 (by decide))
  rw [mk_self, mk_self, show (x : Int) * (y : Int) = ((x * y : Nat) : Int) from (Int.natCast_mul x y).symm] at this
  exact this
theorem sumNN (v1 v2 : Value) (x y : Nat) (w : World) (h1 : Is w v1 (x : Int)) (h2 : Is w v2 (y : Int)) (l1 : (lms (x : Int)).length ≤ 300000) (l2 : (lms (y : Int)).length ≤ 300000) :
    Calls Try.prog 36 #[v1, v2] w fun e w' => ∃ v, e = .returned v ∧ New w' w.heap.size v ((x + y : Nat) : Int) ∧ Below w.heap.size w w' := by
  have := sumI v1 v2 (sgn (x : Int)) (sgn (y : Int)) (x : Int).natAbs (y : Int).natAbs w h1 h2 (Nat.le_trans l1 (by decide)) (Nat.le_trans l2 (by decide))
  rw [mk_self, mk_self, show (x : Int) + (y : Int) = ((x + y : Nat) : Int) from (Int.natCast_add x y).symm] at this
  exact this
theorem tresf_b {W0 wC : World} {b n c : Nat} {a : Option Addr} {xs : List Nat} {g : Bool} (h : Own wC b a n c xs) (hb : W0.heap.size ≤ b) (bC : Below W0.heap.size W0 wC) :
    W0.heap.size ≤ wC.heap.size ∧ wC.heap.size < (wC.alloc (Obj.cells #[Value.bool g, Value.slice a n c] 26)).heap.size ∧ (wC.alloc (Obj.cells #[Value.bool g, Value.slice a n c] 26)).cell? ⟨wC.heap.size, 0, none⟩ = some (Value.bool g) ∧ (wC.alloc (Obj.cells #[Value.bool g, Value.slice a n c] 26)).cell? ⟨wC.heap.size, 1, none⟩ = some (Value.slice a n c) ∧
      (wC.alloc (Obj.cells #[Value.bool g, Value.slice a n c] 26)).frozen? ⟨wC.heap.size, 0, none⟩ = false ∧ (wC.alloc (Obj.cells #[Value.bool g, Value.slice a n c] 26)).frozen? ⟨wC.heap.size, 1, none⟩ = false ∧
      Own (wC.alloc (Obj.cells #[Value.bool g, Value.slice a n c] 26)) W0.heap.size a n c xs ∧ Below W0.heap.size W0 (wC.alloc (Obj.cells #[Value.bool g, Value.slice a n c] 26)) :=
  ⟨bC.size, by simp only [World.size_alloc]; omega, by go_simp, by go_simp, by go_simp, by go_simp, (h.below (bl_alloc (bl_refl wC) _)).mono hb, bl_alloc bC _⟩
theorem tresf_a {W0 wC : World} {N b n c : Nat} {a : Option Addr} {xs : List Nat} {g : Bool} (h : Own wC b a n c xs) (hb : W0.heap.size ≤ b) (bC : Below W0.heap.size W0 wC) (hz : Zr wC N) (hN : W0.heap.size ≤ N) (hp : N < b) :
    W0.heap.size ≤ N ∧ N < ((wC.setCell ⟨N, 0, none⟩ (Value.bool g)).setCell ⟨N, 1, none⟩ (Value.slice a n c)).heap.size ∧ ((wC.setCell ⟨N, 0, none⟩ (Value.bool g)).setCell ⟨N, 1, none⟩ (Value.slice a n c)).cell? ⟨N, 0, none⟩ = some (Value.bool g) ∧ ((wC.setCell ⟨N, 0, none⟩ (Value.bool g)).setCell ⟨N, 1, none⟩ (Value.slice a n c)).cell? ⟨N, 1, none⟩ = some (Value.slice a n c) ∧
      ((wC.setCell ⟨N, 0, none⟩ (Value.bool g)).setCell ⟨N, 1, none⟩ (Value.slice a n c)).frozen? ⟨N, 0, none⟩ = false ∧ ((wC.setCell ⟨N, 0, none⟩ (Value.bool g)).setCell ⟨N, 1, none⟩ (Value.slice a n c)).frozen? ⟨N, 1, none⟩ = false ∧
      Own ((wC.setCell ⟨N, 0, none⟩ (Value.bool g)).setCell ⟨N, 1, none⟩ (Value.slice a n c)) W0.heap.size a n c xs ∧ Below W0.heap.size W0 ((wC.setCell ⟨N, 0, none⟩ (Value.bool g)).setCell ⟨N, 1, none⟩ (Value.slice a n c)) := by
  obtain ⟨q, c0, c1, f0, f1⟩ := hz
  exact ⟨hN, by simp; omega, by go_simp, by go_simp, by go_simp, by go_simp, ((h.setCell (p := ⟨N, 0, none⟩) hp _).setCell (p := ⟨N, 1, none⟩) hp _).mono hb, (bC.setCell (p := ⟨N, 0, none⟩) hN _).setCell (p := ⟨N, 1, none⟩) hN _⟩
end Go.Proofs.Ythjapjbiclkhcaa

/- The same by a letter for the greatest power of 2 that bounds a root. -/
namespace Go.Proofs.Ythjapjbiclkhcaa
open Go.RowKit
set_option linter.unusedVariables false

/-- T is 2 to 1280 -/
def IsTop (T : Nat) : Prop := ∃ E : Nat, E = 1280 ∧ T = 2 ^ E
theorem top_ex : ∃ T : Nat, IsTop T := ⟨_, 1280, rfl, rfl⟩
theorem len_top {T p K : Nat} (hT : IsTop T) (h : p ≤ T) (hK : K ≤ 64) : (lms ((p ^ K : Nat) : Int)).length ≤ 250000 := by
  obtain ⟨E, hE, rfl⟩ := hT
  have h1 : p ^ K ≤ 2 ^ (E * K) := by rw [Nat.pow_mul]; exact Nat.pow_le_pow_left h K
  have h2 : E * K ≤ E * 64 := Nat.mul_le_mul (Nat.le_refl E) hK
  exact len_pow h1 (by omega)
theorem powT (T : Nat) (v1 : Value) (y K : Nat) (w : World) (hT : IsTop T) (h1 : Is w v1 (y : Int)) (hy : y ≤ T) (hK : K ≤ 64) :
    Calls Try.prog 33 #[v1, .int .i64 K] w fun e w' => ∃ v, e = .returned v ∧ New w' w.heap.size v ((y ^ K : Nat) : Int) ∧ Below w.heap.size w w' := by
  have := powI v1 (y : Int) K w h1 (by omega) (fun j hj => by
    have := len_top hT hy (K := j) (by omega)
    rwa [Int.natCast_pow] at this)
  rwa [show (y : Int) ^ K = ((y ^ K : Nat) : Int) from (Int.natCast_pow y K).symm] at this
theorem top_pow {T Q : Nat} (hT : IsTop T) (h : Q ≤ 1280) : 2 ^ Q ≤ T := by
  obtain ⟨E, hE, rfl⟩ := hT
  exact Nat.pow_le_pow_right (by decide) (by omega)
theorem powTP (T : Nat) (v1 : Value) (y K P : Nat) (w : World) (hP : y ^ K = P) (hT : IsTop T) (h1 : Is w v1 (y : Int)) (hy : y ≤ T) (hK : K ≤ 64) :
    Calls Try.prog 33 #[v1, .int .i64 K] w fun e w' => ∃ v, e = .returned v ∧ New w' w.heap.size v (P : Int) ∧ Below w.heap.size w w' := by
  subst hP; exact powT T v1 y K w hT h1 hy hK
theorem divD (v1 v2 : Value) (x y D M : Nat) (w : World) (hD : x / y = D) (hM : x % y = M) (h1 : Is w v1 (x : Int)) (h2 : Is w v2 (y : Int)) (hy : 0 < y) (l1 : (lms (x : Int)).length ≤ 300000) (l2 : (lms (y : Int)).length ≤ 300000) :
    Calls Try.prog 59 #[v1, v2] w fun e w' => ∃ a1 c1 a2 c2, e = .returned (.tuple #[.agg #[.bool (sgn (D : Int)), .slice a1 (lms (D : Int)).length c1], .agg #[.bool (sgn (M : Int)), .slice a2 (lms (M : Int)).length c2]]) ∧ Own w' w.heap.size a1 (lms (D : Int)).length c1 (lms (D : Int)) ∧ Own w' w.heap.size a2 (lms (M : Int)).length c2 (lms (M : Int)) ∧ Apart a1 a2 ∧ Below w.heap.size w w' := by
  subst hD hM; exact divNN v1 v2 x y w h1 h2 hy l1 l2
theorem len_le {m n b : Nat} (h : m ≤ n) (l : (lms (n : Int)).length ≤ b) : (lms (m : Int)).length ≤ b := by
  unfold lms at *
  rw [Int.natAbs_natCast] at *
  exact Num.limbs_len.2 (Nat.lt_of_le_of_lt h (Num.limbs_len.1 l))
theorem len_pow2 {y b : Nat} (h : y ≤ 2 ^ b) (hb : b ≤ 100000) : (lms (y : Int)).length ≤ 250000 := len_pow h hb
theorem len_top1 {T p : Nat} (hT : IsTop T) (h : p ≤ T) : (lms (p : Int)).length ≤ 250000 := by
  have := len_top hT h (K := 1) (by omega)
  rwa [Nat.pow_one] at this
theorem mul_top {T p K : Nat} (hT : IsTop T) (h : p ≤ T) (hK : K ≤ 64) : ∃ E : Nat, E ≤ 1286 ∧ p * K ≤ 2 ^ E := by
  obtain ⟨E, hE, rfl⟩ := hT
  refine ⟨E + 6, by omega, ?_⟩
  rw [Nat.pow_add]
  exact Nat.mul_le_mul h hK
theorem len_mulT {T p K : Nat} (hT : IsTop T) (h : p ≤ T) (hK : K ≤ 64) : (lms ((p * K : Nat) : Int)).length ≤ 250000 := by
  obtain ⟨E, hE, h1⟩ := mul_top hT h hK
  exact len_pow h1 (by omega)
theorem len_sumT {T p K D x : Nat} (hT : IsTop T) (h : p ≤ T) (hK : K ≤ 64) (hD : D ≤ x) (hx : x < 4294967296 ^ 40) : (lms ((p * K + D : Nat) : Int)).length ≤ 250000 := by
  obtain ⟨E, hE, h1⟩ := mul_top hT h hK
  obtain ⟨m, hm⟩ : ∃ m : Nat, m = 40 := ⟨_, rfl⟩
  rw [← hm] at hx
  have h2 : x ≤ 2 ^ (32 * m) := by rw [Nat.pow_mul]; exact Nat.le_of_lt hx
  have e1 : 2 ^ E ≤ 2 ^ (E + 32 * m) := Nat.pow_le_pow_right (by decide) (by omega)
  have e2 : 2 ^ (32 * m) ≤ 2 ^ (E + 32 * m) := Nat.pow_le_pow_right (by decide) (by omega)
  refine len_pow (b := E + 32 * m + 1) ?_ (by omega)
  rw [Nat.pow_succ]
  omega
theorem len_int {K : Nat} (hK : K ≤ 64) : (lms (K : Int)).length ≤ 300000 := by
  have h : ((K : Int)).natAbs < 4294967296 ^ 1 := by rw [Int.natAbs_natCast]; omega
  exact Nat.le_trans (Num.limbs_len.2 h) (by decide)
theorem prodP (v1 v2 : Value) (x y P : Nat) (w : World) (hP : x * y = P) (h1 : Is w v1 (x : Int)) (h2 : Is w v2 (y : Int)) (l1 : (lms (x : Int)).length ≤ 300000) (l2 : (lms (y : Int)).length ≤ 300000) :
    Calls Try.prog 60 #[v1, v2] w fun e w' => ∃ v, e = .returned v ∧ New w' w.heap.size v (P : Int) ∧ Below w.heap.size w w' := by subst hP; exact prodNN v1 v2 x y w h1 h2 l1 l2
theorem sumP (v1 v2 : Value) (x y P : Nat) (w : World) (hP : x + y = P) (h1 : Is w v1 (x : Int)) (h2 : Is w v2 (y : Int)) (l1 : (lms (x : Int)).length ≤ 300000) (l2 : (lms (y : Int)).length ≤ 300000) :
    Calls Try.prog 36 #[v1, v2] w fun e w' => ∃ v, e = .returned v ∧ New w' w.heap.size v (P : Int) ∧ Below w.heap.size w w' := by subst hP; exact sumNN v1 v2 x y w h1 h2 l1 l2
end Go.Proofs.Ythjapjbiclkhcaa
