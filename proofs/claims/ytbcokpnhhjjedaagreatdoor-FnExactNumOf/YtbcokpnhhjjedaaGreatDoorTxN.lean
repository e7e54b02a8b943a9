/- Plain facts on decimal numerals: a numeral cut into its first digits and nine last ones; nothing of the program stands here. -/
import Derived.Lib.ItoaNum
import Derived.Lib.Repeat
namespace Go.Proofs.YtbcokpnhhjjedaaGreatDoor.TxN
open Go.Lib

/-- the last k digits, with noughts ahead -/
def lastK : Nat → Nat → List UInt8
  | 0, _ => []
  | k + 1, p => lastK k (p / 10) ++ [UInt8.ofNat (48 + p % 10)]
theorem dec_step {u : Nat} (h : ¬ u < 10) : decDigits u = decDigits (u / 10) ++ [UInt8.ofNat (48 + u % 10)] := by rw [decDigits, dif_neg h]
theorem dec_split : ∀ (k q p : Nat), 0 < q → p < 10 ^ k → decDigits (q * 10 ^ k + p) = decDigits q ++ lastK k p
  | 0, q, p, hq, hp => by
    have e : q * 10 ^ 0 + p = q := by simp at hp ⊢; exact hp
    rw [e, lastK, List.append_nil]
  | k + 1, q, p, hq, hp => by
    have hp' : p < 10 ^ k * 10 := by rw [Nat.pow_succ] at hp; exact hp
    have hk : 1 ≤ 10 ^ k := Nat.one_le_pow _ _ (by decide)
    have hqk : 1 * 1 ≤ q * 10 ^ k := Nat.mul_le_mul hq hk
    have e : q * 10 ^ (k + 1) + p = (q * 10 ^ k) * 10 + p := by rw [Nat.pow_succ, Nat.mul_assoc]
    have e1 : ((q * 10 ^ k) * 10 + p) / 10 = q * 10 ^ k + p / 10 := by omega
    have e2 : ((q * 10 ^ k) * 10 + p) % 10 = p % 10 := by omega
    rw [e, dec_step (by omega), e1, e2, dec_split k q (p / 10) hq (by omega), lastK, List.append_assoc]
theorem lastK_zero : ∀ k, lastK k 0 = List.replicate k 48
  | 0 => rfl
  | k + 1 => by rw [lastK, Nat.zero_div, lastK_zero k, List.replicate_succ']; rfl
theorem lastK_eq : ∀ (k p : Nat), p < 10 ^ (k + 1) → lastK (k + 1) p = List.replicate (k + 1 - (decDigits p).length) 48 ++ decDigits p
  | 0, p, h => by
    have h' : p < 10 := by simpa using h
    rw [decDigits_one h', lastK, lastK, Nat.mod_eq_of_lt h']; simp
  | k + 1, p, h => by
    have h' : p < 10 ^ (k + 1) * 10 := by rw [Nat.pow_succ] at h; exact h
    by_cases h10 : p < 10
    · have e : p / 10 = 0 := by omega
      rw [lastK, e, lastK_zero, decDigits_one h10, Nat.mod_eq_of_lt h10]; rfl
    · rw [lastK, lastK_eq k (p / 10) (by omega), dec_step h10, List.length_append, List.length_singleton, List.append_assoc]
      congr 2
      omega
/-- nine digits cut off -/
theorem dec9 (q p : Nat) (hq : 0 < q) (hp : p < 1000000000) : decDigits (q * 1000000000 + p) = decDigits q ++ (List.replicate (9 - (decDigits p).length) 48 ++ decDigits p) := by
  have h := dec_split 9 q p hq (by simpa using hp)
  have e := lastK_eq 8 p (by simpa using hp)
  rw [e] at h
  exact h
end Go.Proofs.YtbcokpnhhjjedaaGreatDoor.TxN
