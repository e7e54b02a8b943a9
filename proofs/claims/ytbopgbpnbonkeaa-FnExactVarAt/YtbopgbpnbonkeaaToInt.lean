/- The walks of the two ToInt: the int that a number is; nothing that was there turns. -/
import Derived.Test.YtbopgbpnbonkeaaMake
namespace Go.Proofs.Ytbopgbpnbonkeaa
open Go.RowKit
set_option linter.unusedVariables false

/-- the int that a sign and limbs are, and whether they are one -/
def fitsI (neg : Bool) (xs : List Nat) : Bool := okB neg xs && decide (-9223372036854775808 ≤ mk neg (Num.nat xs) ∧ mk neg (Num.nat xs) ≤ 9223372036854775807)
def toIntR (neg : Bool) (xs : List Nat) : Int := if fitsI neg xs then mk neg (Num.nat xs) else 0

theorem ret_two {a b : Int} {t : Bool} (h : a = b) : Ending.returned (.tuple #[.int .i64 a, .bool t]) = .returned (.tuple #[.int .i64 b, .bool t]) := by rw [h]
theorem or32 (m x : Int) (h0 : 0 ≤ m) (h1 : m < 4294967296) (hx : 0 ≤ x) (hx1 : x < 4294967296) : bits .or .u64 m (x * 4294967296) = m + x * 4294967296 := by
  obtain ⟨m, rfl⟩ := Int.eq_ofNat_of_zero_le h0
  obtain ⟨x, rfl⟩ := Int.eq_ofNat_of_zero_le hx
  have key : (BitVec.ofInt 64 (m : Int) ||| BitVec.ofInt 64 ((x : Int) * 4294967296)).toNat = m + x * 4294967296 := by
    rw [BitVec.toNat_or, BitVec.toNat_ofInt, BitVec.toNat_ofInt]
    have e1 : ((m : Int) % ((2 ^ 64 : Nat) : Int)).toNat = m := by omega
    have e2 : (((x : Int) * 4294967296) % ((2 ^ 64 : Nat) : Int)).toNat = 2 ^ 32 * x := by omega
    rw [e1, e2, Nat.or_comm, ← Nat.two_pow_add_eq_or_of_lt (by omega)]
    omega
  show IntKind.u64.wrap ((BitVec.ofInt 64 (m : Int) ||| BitVec.ofInt 64 ((x : Int) * 4294967296)).toNat : Nat) = _
  rw [key, IntKind.wrap_u64]
  omega
theorem or0 (x : Int) (hx : 0 ≤ x) (hx1 : x < 4294967296) : bits .or .u64 0 x = x := by
  obtain ⟨x, rfl⟩ := Int.eq_ofNat_of_zero_le hx
  have key : (BitVec.ofInt 64 (0 : Int) ||| BitVec.ofInt 64 (x : Int)).toNat = x := by
    rw [BitVec.toNat_or, BitVec.toNat_ofInt, BitVec.toNat_ofInt]
    have e2 : ((x : Int) % ((2 ^ 64 : Nat) : Int)).toNat = x := by omega
    rw [e2]; simp
  show IntKind.u64.wrap ((BitVec.ofInt 64 (0 : Int) ||| BitVec.ofInt 64 (x : Int)).toNat : Nat) = _
  rw [key, IntKind.wrap_u64]
  omega

end Go.Proofs.Ytbopgbpnbonkeaa
