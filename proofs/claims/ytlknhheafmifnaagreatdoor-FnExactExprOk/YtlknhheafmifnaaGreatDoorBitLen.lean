/- The walks of the two BitLen and of bigBits: how many bits a number has; nothing that was there turns. -/
import Derived.Test.YtlknhheafmifnaaGreatDoorPk01
import Derived.Test.YtlknhheafmifnaaGreatDoorBits
namespace Go.Proofs.YtlknhheafmifnaaGreatDoor
open Go.RowKit
set_option linter.unusedVariables false

/-- how many bits limbs have -/
def bitsN (xs : List Nat) : Int := if xs.length = 0 then 0 else 32 * ((xs.length : Int) - 1) + Lib.bitLen (xs.getD (xs.length - 1) 0)
def bitR (neg : Bool) (xs : List Nat) : Int := if okB neg xs then bitsN xs else 0

theorem getD_small {xs : List Nat} (h : Num.Small xs) (k : Nat) : xs.getD k 0 < 4294967296 := by
  by_cases hk : k < xs.length
  · have : xs.getD k 0 = xs[k] := by simp [hk]
    rw [this]; exact Num.small_at h hk
  · have : xs.getD k 0 = 0 := by simp [List.getD, List.getElem?_eq_none (Nat.le_of_not_lt hk)]
    rw [this]; decide

end Go.Proofs.YtlknhheafmifnaaGreatDoor
