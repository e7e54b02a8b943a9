/- Plain facts on decimal numerals: a numeral cut into its first digits and nine last ones; nothing of the program stands here. -/
import Derived.Lib.ItoaNum
import Derived.Lib.Repeat
namespace Go.Proofs.YtlknhheafmifnaaGreatDoor.TxN
open Go.Lib

/-- the last k digits, with noughts ahead -/
def lastK : Nat → Nat → List UInt8
  | 0, _ => []
  | k + 1, p => lastK k (p / 10) ++ [UInt8.ofNat (48 + p % 10)]
theorem lastK_len : ∀ k p, (lastK k p).length = k
  | 0, _ => rfl
  | k + 1, p => by rw [lastK, List.length_append, lastK_len k]; rfl
theorem dec_step {u : Nat} (h : ¬ u < 10) : decDigits u = decDigits (u / 10) ++ [UInt8.ofNat (48 + u % 10)] := by rw [decDigits, dif_neg h]
theorem dec_split : ∀ (k q p : Nat), 0 < q → p < 10 ^ k → decDigits (q * 10 ^ k + p) = decDigits q ++ lastK k p
  | 0, q, p, hq, hp => by
    have e : q * 10 ^ 0 + p = q := by simp at hp ⊢; exact hp
    rw [e, lastK, List.append_nil]
  | k + 1, q, p, hq, hp => by
    have hp' : p < 10 ^ k * 10 := by rw [Nat.pow_succ] at hp; exact hp
    have hk : 1 ≤ 10 ^ k := Nat.one_le_pow _ _ (by decide)
    have hqk : 1 * 1 ≤ q * 10 ^ k := Nat.mul_le_mul hq hk
    have e : q * 10 ^ (k + 1) + p = (q * 10 ^ k) * 10 + p := by rw [Nat.pow_succ, Nat.mul_assoc]
    have e1 : ((q * 10 ^ k) * 10 + p) / 10 = q * 10 ^ k + p / 10 := by omega
    have e2 : ((q * 10 ^ k) * 10 + p) % 10 = p % 10 := by omega
    rw [e, dec_step (by omega), e1, e2, dec_split k q (p / 10) hq (by omega), lastK, List.append_assoc]
theorem lastK_zero : ∀ k, lastK k 0 = List.replicate k 48
  | 0 => rfl
  | k + 1 => by rw [lastK, Nat.zero_div, lastK_zero k, List.replicate_succ']; rfl
theorem lastK_eq : ∀ (k p : Nat), p < 10 ^ (k + 1) → lastK (k + 1) p = List.replicate (k + 1 - (decDigits p).length) 48 ++ decDigits p
  | 0, p, h => by
    have h' : p < 10 := by simpa using h
    rw [decDigits_one h', lastK, lastK, Nat.mod_eq_of_lt h']; simp
  | k + 1, p, h => by
    have h' : p < 10 ^ (k + 1) * 10 := by rw [Nat.pow_succ] at h; exact h
    by_cases h10 : p < 10
    · have e : p / 10 = 0 := by omega
      rw [lastK, e, lastK_zero, decDigits_one h10, Nat.mod_eq_of_lt h10]; rfl
    · rw [lastK, lastK_eq k (p / 10) (by omega), dec_step h10, List.length_append, List.length_singleton, List.append_assoc]
      congr 2
      omega
theorem dec_len9 {p : Nat} (h : p < 1000000000) : (decDigits p).length ≤ 9 := by
  rw [decDigits_length]
  by_cases h0 : nDigits p ≤ 9
  · exact h0
  · exfalso
    have key : ∀ (k u : Nat), u < 10 ^ (k + 1) → nDigits u ≤ k + 1 := by
      intro k
      induction k with
      | zero => intro u hu; rw [nDigits_small (by simpa using hu)]; exact Nat.le_refl _
      | succ k ih =>
        intro u hu
        by_cases h10 : u < 10
        · rw [nDigits_small h10]; omega
        · rw [nDigits_big h10]
          have := ih (u / 10) (by rw [Nat.pow_succ] at hu; omega)
          omega
    exact h0 (key 8 p (by simpa using h))
theorem dec_pos (p : Nat) : 1 ≤ (decDigits p).length := by rw [decDigits_length]; exact nDigits_pos p
/-- nine digits cut off -/
theorem dec9 (q p : Nat) (hq : 0 < q) (hp : p < 1000000000) : decDigits (q * 1000000000 + p) = decDigits q ++ (List.replicate (9 - (decDigits p).length) 48 ++ decDigits p) := by
  have h := dec_split 9 q p hq (by simpa using hp)
  have e := lastK_eq 8 p (by simpa using hp)
  rw [e] at h
  exact h
theorem rep_eq (n : Nat) : repeatL [48] n = List.replicate n 48 := by
  induction n with
  | zero => rfl
  | succ n ih => rw [repeatL, ih]; rfl
theorem dec_len_le : ∀ (k u : Nat), u < 10 ^ (k + 1) → (decDigits u).length ≤ k + 1
  | 0, u, hu => by rw [decDigits_length, nDigits_small (by simpa using hu)]; exact Nat.le_refl _
  | k + 1, u, hu => by
    by_cases h10 : u < 10
    · rw [decDigits_length, nDigits_small h10]; omega
    · rw [dec_step h10, List.length_append, List.length_singleton]
      have := dec_len_le k (u / 10) (by rw [Nat.pow_succ] at hu; omega)
      omega
end Go.Proofs.YtlknhheafmifnaaGreatDoor.TxN
