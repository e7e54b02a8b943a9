/- Plain facts on decimal numerals read: the number of a list of digits, and which lists are numerals; nothing of the program stands here. -/
import Derived.Lib.ItoaNum
namespace Go.Proofs.YtbcokpnhhjjedaaGreatDoor
open Go

def digitB (c : Int) : Bool := decide (48 ≤ c) && decide (c ≤ 57)
theorem digit_high (c : Int) (h : 128 ≤ c) : digitB c = false := by
  rw [Bool.eq_false_iff]; simp [digitB]; omega
theorem rev_ind {P : List UInt8 → Prop} (h0 : P []) (h1 : ∀ l c, P l → P (l ++ [c])) (l : List UInt8) : P l := by
  rw [← List.reverse_reverse l]
  induction l.reverse with
  | nil => exact h0
  | cons c r ih => rw [List.reverse_cons]; exact h1 _ _ ih

def digAll (l : List UInt8) : Bool := l.all fun c => digitB (c.toNat : Int)

theorem dig_bounds {c : UInt8} (h : digitB (c.toNat : Int) = true) : 48 ≤ c.toNat ∧ c.toNat ≤ 57 := by
  simp [digitB] at h; omega

/-- the number of a list of digits -/
def valN (l : List UInt8) : Nat := l.foldl (fun a c => 10 * a + (c.toNat - 48)) 0
theorem valN_snoc (l : List UInt8) (c : UInt8) : valN (l ++ [c]) = 10 * valN l + (c.toNat - 48) := by simp [valN, List.foldl_append]
theorem valN_lt (l : List UInt8) (h : digAll l = true) : valN l < 10 ^ l.length := by
  induction l using rev_ind with
  | h0 => simp [valN]
  | h1 l c ih =>
    simp only [digAll, List.all_append, Bool.and_eq_true, List.all_cons, List.all_nil, Bool.and_true] at h
    have hb := dig_bounds h.2
    have := ih h.1
    rw [valN_snoc, List.length_append, List.length_singleton, Nat.pow_succ]; omega
end Go.Proofs.YtbcokpnhhjjedaaGreatDoor
