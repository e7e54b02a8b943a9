/- My texts TxC, IntC, in this order. -/
import Derived.Test.YtlknhheafmifnaaGreatDoorTxN
import Derived.Test.YtlknhheafmifnaaGreatDoorPk00
import Derived.Test.YtlknhheafmifnaaGreatDoorPk01
/- Plain facts on texts: lengths, and nine digits more. -/
namespace Go.Proofs.YtlknhheafmifnaaGreatDoor
open Go.RowKit
set_option linter.unusedVariables false

def bLen : Value → Nat | .string b => b.size | _ => 0
/-- the numeral of a number -/
def decBs (m : Nat) : ByteArray := ⟨(Lib.decDigits m).toArray⟩
theorem bsize (b : ByteArray) : b.data.toList.length = b.size := by simp only [Array.length_toList]; rfl
theorem ret_str' {a b : ByteArray} (h : a.data.toList = b.data.toList) : Ending.returned (.string a) = .returned (.string b) := by
  have : a = b := ByteArray.ext (Array.ext' h)
  rw [this]
theorem dec_short' {xs : List Nat} (hs : Num.Small xs) (k : Nat) (hk : 10 * xs.length ≤ k + 1) : (Lib.decDigits (Num.nat xs)).length ≤ k + 1 := by
  refine TxN.dec_len_le k _ ?_
  have h1 := Num.nat_lt hs
  have h2 : (4294967296 : Nat) ^ xs.length ≤ (10 ^ 10) ^ xs.length := Nat.pow_le_pow_left (by decide) _
  have h3 : ((10 : Nat) ^ 10) ^ xs.length ≤ 10 ^ (k + 1) := by
    rw [← Nat.pow_mul]; exact Nat.pow_le_pow_right (by decide) hk
  exact Nat.lt_of_lt_of_le h1 (Nat.le_trans h2 h3)
theorem dec_short {xs : List Nat} (hs : Num.Small xs) (hn : xs.length ≤ 40) : (Lib.decDigits (Num.nat xs)).length ≤ 400 := dec_short' hs 399 (by omega)
theorem bsize_app (a b : ByteArray) : (a ++ b).size = a.size + b.size := by simp [ByteArray.size_append]
/-- nine digits more -/
theorem nine {M q r m : Nat} {D Z tb : ByteArray} (hE : Lib.decDigits m ++ tb.data.toList = Lib.decDigits M) (hm : m = q * 1000000000 + r) (hq : q ≠ 0) (hr : r < 1000000000) (hD : D.data.toList = Lib.decDigits r) (hZ : Z.data.toList = List.replicate (9 - D.size) 48) :
    Lib.decDigits q ++ (Z ++ D ++ tb).data.toList = Lib.decDigits M := by
  rw [hm, TxN.dec9 q r (by omega) hr, ← hD, bsize, ← hZ] at hE
  rw [← hE]; simp
/-- the numeral of a number with its sign -/
def itB (z : Int) : ByteArray := ⟨(Lib.itoa z).toArray⟩
theorem it_pos {z : Int} (h : sgn z = false) : (itB z).data.toList = Lib.decDigits z.natAbs := by
  have h' : ¬ z < 0 := of_decide_eq_false h
  have e : z.toNat = z.natAbs := by omega
  simp only [itB, Lib.itoa]; rw [if_neg h', e]
theorem it_neg {z : Int} (h : sgn z = true) : (itB z).data.toList = 45 :: Lib.decDigits z.natAbs := by
  have h' : z < 0 := of_decide_eq_true h
  simp only [itB, Lib.itoa]; rw [if_pos h']
theorem it_zero : itB 0 = ⟨#[48]⟩ := by
  simp only [itB, Lib.itoa]; rw [if_neg (by omega)]
  have : (0 : Int).toNat = 0 := rfl
  rw [this, Lib.decDigits_one (by decide)]; rfl
end Go.Proofs.YtlknhheafmifnaaGreatDoor

/- The numeral of a right number, else the empty text. -/
namespace Go.Proofs.YtlknhheafmifnaaGreatDoor
open Go.RowKit Go.Sort
set_option linter.unusedVariables false

/-- the numeral of a right number, else nothing -/
def intT (neg : Bool) (xs : List Nat) : ByteArray := if okB neg xs then itB (mk neg (Num.nat xs)) else ⟨#[]⟩
theorem intT_num (z : Int) (h : okB (sgn z) (lms z) = true) : intT (sgn z) (lms z) = itB z := by
  rw [intT, if_pos h, nat_lms, mk_self]
theorem raw_small {W : World} {v : Value} {neg : Bool} {xs : List Nat} (h : Raw W v neg xs) : Num.Small xs := by
  obtain ⟨_, _, _, hs⟩ := h; exact hs.2.2.2.1
theorem ok_len {z : Int} (h : okB (sgn z) (lms z) = true) : (lms z).length ≤ 40 := by
  refine Classical.byContradiction fun hc => ?_
  rw [ok_long hc] at h; cases h
end Go.Proofs.YtlknhheafmifnaaGreatDoor
