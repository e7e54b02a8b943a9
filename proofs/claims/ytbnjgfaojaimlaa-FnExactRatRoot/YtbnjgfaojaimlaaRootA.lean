/- What bigRoot's steps call, by whole numbers of 0 or more; and a variable's box, made ahead or behind. -/
import Derived.Test.YtbnjgfaojaimlaaRootN
import Derived.Test.YtbnjgfaojaimlaaDivide
import Derived.Test.YtbnjgfaojaimlaaPk02
import Derived.Test.YtbnjgfaojaimlaaFloat
namespace Go.Proofs.Ytbnjgfaojaimlaa
open Go.RowKit
set_option linter.unusedVariables false

theorem bits_nat {x : Nat} (h0 : x ≠ 0) (hx : x < 4294967296 ^ 40) : ∃ B : Nat, bitsN (lms (x : Int)) = (B : Int) ∧ x < 2 ^ B ∧ 1 ≤ B ∧ B ≤ 1280 := by
  have hl0 : (lms (x : Int)).length ≠ 0 := fun e => h0 (by have := sgn_lms_nil e; omega)
  obtain ⟨b, h1, h2, h3, h4⟩ := bits_bounds (lms (x : Int)) (lms_small _) hl0 (lms_last _ hl0)
  rw [nat_lms, Int.natAbs_natCast] at h2 h3
  have l : (lms (x : Int)).length ≤ 40 := Num.limbs_len.2 (by rw [Int.natAbs_natCast]; exact hx)
  exact ⟨b + 1, by rw [h1]; rfl, h3, by omega, by omega⟩
theorem len_pow {y b : Nat} (h : y ≤ 2 ^ b) (hb : b ≤ 100000) : (lms (y : Int)).length ≤ 250000 := by
  have := pow_len (z := (y : Int)) (b := b) (j := 1) (by rw [Int.natAbs_natCast]; exact h) (by omega)
  rw [Int.pow_succ, Int.pow_zero, Int.one_mul] at this
  exact this
theorem pow2I (v1 : Value) (Q : Nat) (w : World) (h1 : Is w v1 2) (hQ : Q ≤ 2000) :
    Calls Try.prog 29 #[v1, .int .i64 Q] w fun e w' => ∃ v, e = .returned v ∧ New w' w.heap.size v ((2 ^ Q : Nat) : Int) ∧ Below w.heap.size w w' := by
  have := powI v1 2 Q w h1 (by omega) (fun j hj => pow_len (b := 1) (by decide) (by omega))
  rw [show (2 : Int) ^ Q = ((2 ^ Q : Nat) : Int) from (Int.natCast_pow 2 Q).symm] at this
  exact this
theorem powN (v1 : Value) (y K : Nat) (w : World) (h1 : Is w v1 (y : Int)) (hy : y ≤ 2 ^ 1280) (hK : K ≤ 64) :
    Calls Try.prog 29 #[v1, .int .i64 K] w fun e w' => ∃ v, e = .returned v ∧ New w' w.heap.size v ((y ^ K : Nat) : Int) ∧ Below w.heap.size w w' := by
  have := powI v1 y K w h1 (by omega) (fun j hj => pow_len (b := 1280) (by rw [Int.natAbs_natCast]; exact hy) (by omega))
  rw [show (y : Int) ^ K = ((y ^ K : Nat) : Int) from (Int.natCast_pow y K).symm] at this
  exact this
theorem divNN (v1 v2 : Value) (x y : Nat) (w : World) (h1 : Is w v1 (x : Int)) (h2 : Is w v2 (y : Int)) (hy : 0 < y) (l1 : (lms (x : Int)).length ≤ 300000) (l2 : (lms (y : Int)).length ≤ 300000) :
    Calls Try.prog 46 #[v1, v2] w fun e w' => ∃ a1 c1 a2 c2, e = .returned (.tuple #[.agg #[.bool (sgn ((x / y : Nat) : Int)), .slice a1 (lms ((x / y : Nat) : Int)).length c1], .agg #[.bool (sgn ((x % y : Nat) : Int)), .slice a2 (lms ((x % y : Nat) : Int)).length c2]]) ∧ Own w' w.heap.size a1 (lms ((x / y : Nat) : Int)).length c1 (lms ((x / y : Nat) : Int)) ∧ Own w' w.heap.size a2 (lms ((x % y : Nat) : Int)).length c2 (lms ((x % y : Nat) : Int)) ∧ Apart a1 a2 ∧ Below w.heap.size w w' :=
  divI v1 v2 x y w h1 h2 (by omega) (by omega) (by omega)
theorem prodNN (v1 v2 : Value) (x y : Nat) (w : World) (h1 : Is w v1 (x : Int)) (h2 : Is w v2 (y : Int)) (l1 : (lms (x : Int)).length ≤ 300000) (l2 : (lms (y : Int)).length ≤ 300000) :
    Calls Try.prog 48 #[v1, v2] w fun e w' => ∃ v, e = .returned v ∧ New w' w.heap.size v ((x * y : Nat) : Int) ∧ Below w.heap.size w w' := by
  have := prodI v1 v2 (sgn (x : Int)) (sgn (y : Int)) (x : Int).natAbs (y : Int).natAbs w h1 h2 (Nat.le_trans l1 (by decide)) (Nat.le_trans l2 (by decide))
  rw [mk_self, mk_self, show (x : Int) * (y : Int) = ((x * y : Nat) : Int) from (Int.natCast_mul x y).symm] at this
  exact this
theorem sumNN (v1 v2 : Value) (x y : Nat) (w : World) (h1 : Is w v1 (x : Int)) (h2 : Is w v2 (y : Int)) (l1 : (lms (x : Int)).length ≤ 300000) (l2 : (lms (y : Int)).length ≤ 300000) :
    Calls Try.prog 47 #[v1, v2] w fun e w' => ∃ v, e = .returned v ∧ New w' w.heap.size v ((x + y : Nat) : Int) ∧ Below w.heap.size w w' := by
  have := sumI v1 v2 (sgn (x : Int)) (sgn (y : Int)) (x : Int).natAbs (y : Int).natAbs w h1 h2 (Nat.le_trans l1 (by decide)) (Nat.le_trans l2 (by decide))
  rw [mk_self, mk_self, show (x : Int) + (y : Int) = ((x + y : Nat) : Int) from (Int.natCast_add x y).symm] at this
  exact this
theorem tresf_b {W0 wC : World} {b n c : Nat} {a : Option Addr} {xs : List Nat} {g : Bool} (h : Own wC b a n c xs) (hb : W0.heap.size ≤ b) (bC : Below W0.heap.size W0 wC) :
    W0.heap.size ≤ wC.heap.size ∧ wC.heap.size < (wC.alloc (Obj.cells #[Value.bool g, Value.slice a n c] 26)).heap.size ∧ (wC.alloc (Obj.cells #[Value.bool g, Value.slice a n c] 26)).cell? ⟨wC.heap.size, 0, none⟩ = some (Value.bool g) ∧ (wC.alloc (Obj.cells #[Value.bool g, Value.slice a n c] 26)).cell? ⟨wC.heap.size, 1, none⟩ = some (Value.slice a n c) ∧
      (wC.alloc (Obj.cells #[Value.bool g, Value.slice a n c] 26)).frozen? ⟨wC.heap.size, 0, none⟩ = false ∧ (wC.alloc (Obj.cells #[Value.bool g, Value.slice a n c] 26)).frozen? ⟨wC.heap.size, 1, none⟩ = false ∧
      Own (wC.alloc (Obj.cells #[Value.bool g, Value.slice a n c] 26)) W0.heap.size a n c xs ∧ Below W0.heap.size W0 (wC.alloc (Obj.cells #[Value.bool g, Value.slice a n c] 26)) :=
  ⟨bC.size, by simp only [World.size_alloc]; omega, by go_simp, by go_simp, by go_simp, by go_simp, (h.below (bl_alloc (bl_refl wC) _)).mono hb, bl_alloc bC _⟩
theorem tresf_a {W0 wC : World} {N b n c : Nat} {a : Option Addr} {xs : List Nat} {g : Bool} (h : Own wC b a n c xs) (hb : W0.heap.size ≤ b) (bC : Below W0.heap.size W0 wC) (hz : Zr wC N) (hN : W0.heap.size ≤ N) (hp : N < b) :
    W0.heap.size ≤ N ∧ N < ((wC.setCell ⟨N, 0, none⟩ (Value.bool g)).setCell ⟨N, 1, none⟩ (Value.slice a n c)).heap.size ∧ ((wC.setCell ⟨N, 0, none⟩ (Value.bool g)).setCell ⟨N, 1, none⟩ (Value.slice a n c)).cell? ⟨N, 0, none⟩ = some (Value.bool g) ∧ ((wC.setCell ⟨N, 0, none⟩ (Value.bool g)).setCell ⟨N, 1, none⟩ (Value.slice a n c)).cell? ⟨N, 1, none⟩ = some (Value.slice a n c) ∧
      ((wC.setCell ⟨N, 0, none⟩ (Value.bool g)).setCell ⟨N, 1, none⟩ (Value.slice a n c)).frozen? ⟨N, 0, none⟩ = false ∧ ((wC.setCell ⟨N, 0, none⟩ (Value.bool g)).setCell ⟨N, 1, none⟩ (Value.slice a n c)).frozen? ⟨N, 1, none⟩ = false ∧
      Own ((wC.setCell ⟨N, 0, none⟩ (Value.bool g)).setCell ⟨N, 1, none⟩ (Value.slice a n c)) W0.heap.size a n c xs ∧ Below W0.heap.size W0 ((wC.setCell ⟨N, 0, none⟩ (Value.bool g)).setCell ⟨N, 1, none⟩ (Value.slice a n c)) := by
  obtain ⟨q, c0, c1, f0, f1⟩ := hz
  exact ⟨hN, by simp; omega, by go_simp, by go_simp, by go_simp, by go_simp, ((h.setCell (p := ⟨N, 0, none⟩) hp _).setCell (p := ⟨N, 1, none⟩) hp _).mono hb, (bC.setCell (p := ⟨N, 0, none⟩) hN _).setCell (p := ⟨N, 1, none⟩) hN _⟩
end Go.Proofs.Ytbnjgfaojaimlaa
