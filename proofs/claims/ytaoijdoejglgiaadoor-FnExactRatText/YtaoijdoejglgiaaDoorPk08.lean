/- My texts TxN, DecS, in this order. -/
import Derived.Lib.ItoaNum
import Derived.Lib.Repeat
import Derived.Test.YtaoijdoejglgiaaDoorPk01
import Derived.WalkSpells
import Derived.Lib.Strings
import Derived.Lib.ItoaLen
/- Plain facts on decimal numerals: a numeral cut into its first digits and nine last ones; nothing of the program stands here. -/
namespace Go.Proofs.YtaoijdoejglgiaaDoor.TxN
open Go.Lib

/-- the last k digits, with noughts ahead -/
def lastK : Nat → Nat → List UInt8
  | 0, _ => []
  | k + 1, p => lastK k (p / 10) ++ [UInt8.ofNat (48 + p % 10)]
theorem lastK_len : ∀ k p, (lastK k p).length = k
  | 0, _ => rfl
  | k + 1, p => by rw [lastK, List.length_append, lastK_len k]; rfl
theorem dec_step {u : Nat} (h : ¬ u < 10) : decDigits u = decDigits (u / 10) ++ [UInt8.ofNat (48 + u % 10)] := by rw [decDigits, dif_neg h]
theorem dec_split : ∀ (k q p : Nat), 0 < q → p < 10 ^ k → decDigits (q * 10 ^ k + p) = decDigits q ++ lastK k p
  | 0, q, p, hq, hp => by
    have e : q * 10 ^ 0 + p = q := by simp at hp ⊢; exact hp
    rw [e, lastK, List.append_nil]
  | k + 1, q, p, hq, hp => by
    have hp' : p < 10 ^ k * 10 := by rw [Nat.pow_succ] at hp; exact hp
    have hk : 1 ≤ 10 ^ k := Nat.one_le_pow _ _ (by decide)
    have hqk : 1 * 1 ≤ q * 10 ^ k := Nat.mul_le_mul hq hk
    have e : q * 10 ^ (k + 1) + p = (q * 10 ^ k) * 10 + p := by rw [Nat.pow_succ, Nat.mul_assoc]
    have e1 : ((q * 10 ^ k) * 10 + p) / 10 = q * 10 ^ k + p / 10 := by omega
    have e2 : ((q * 10 ^ k) * 10 + p) % 10 = p % 10 := by omega
    rw [e, dec_step (by omega), e1, e2, dec_split k q (p / 10) hq (by omega), lastK, List.append_assoc]
theorem lastK_zero : ∀ k, lastK k 0 = List.replicate k 48
  | 0 => rfl
  | k + 1 => by rw [lastK, Nat.zero_div, lastK_zero k, List.replicate_succ']; rfl
theorem lastK_eq : ∀ (k p : Nat), p < 10 ^ (k + 1) → lastK (k + 1) p = List.replicate (k + 1 - (decDigits p).length) 48 ++ decDigits p
  | 0, p, h => by
    have h' : p < 10 := by simpa using h
    rw [decDigits_one h', lastK, lastK, Nat.mod_eq_of_lt h']; simp
  | k + 1, p, h => by
    have h' : p < 10 ^ (k + 1) * 10 := by rw [Nat.pow_succ] at h; exact h
    by_cases h10 : p < 10
    · have e : p / 10 = 0 := by omega
      rw [lastK, e, lastK_zero, decDigits_one h10, Nat.mod_eq_of_lt h10]; rfl
    · rw [lastK, lastK_eq k (p / 10) (by omega), dec_step h10, List.length_append, List.length_singleton, List.append_assoc]
      congr 2
      omega
theorem dec_len9 {p : Nat} (h : p < 1000000000) : (decDigits p).length ≤ 9 := by
  rw [decDigits_length]
  by_cases h0 : nDigits p ≤ 9
  · exact h0
  · exfalso
    have key : ∀ (k u : Nat), u < 10 ^ (k + 1) → nDigits u ≤ k + 1 := by
      intro k
      induction k with
      | zero => intro u hu; rw [nDigits_small (by simpa using hu)]; exact Nat.le_refl _
      | succ k ih =>
        intro u hu
        by_cases h10 : u < 10
        · rw [nDigits_small h10]; omega
        · rw [nDigits_big h10]
          have := ih (u / 10) (by rw [Nat.pow_succ] at hu; omega)
          omega
    exact h0 (key 8 p (by simpa using h))
theorem dec_pos (p : Nat) : 1 ≤ (decDigits p).length := by rw [decDigits_length]; exact nDigits_pos p
/-- nine digits cut off -/
theorem dec9 (q p : Nat) (hq : 0 < q) (hp : p < 1000000000) : decDigits (q * 1000000000 + p) = decDigits q ++ (List.replicate (9 - (decDigits p).length) 48 ++ decDigits p) := by
  have h := dec_split 9 q p hq (by simpa using hp)
  have e := lastK_eq 8 p (by simpa using hp)
  rw [e] at h
  exact h
theorem rep_eq (n : Nat) : repeatL [48] n = List.replicate n 48 := by
  induction n with
  | zero => rfl
  | succ n ih => rw [repeatL, ih]; rfl
theorem dec_len_le : ∀ (k u : Nat), u < 10 ^ (k + 1) → (decDigits u).length ≤ k + 1
  | 0, u, hu => by rw [decDigits_length, nDigits_small (by simpa using hu)]; exact Nat.le_refl _
  | k + 1, u, hu => by
    by_cases h10 : u < 10
    · rw [decDigits_length, nDigits_small h10]; omega
    · rw [dec_step h10, List.length_append, List.length_singleton]
      have := dec_len_le k (u / 10) (by rw [Nat.pow_succ] at hu; omega)
      omega
end Go.Proofs.YtaoijdoejglgiaaDoor.TxN

/- The walk of the specification's DecText: the text of every int. -/
namespace Go.Proofs.YtaoijdoejglgiaaDoor
open Go.RowKit
set_option linter.unusedVariables false

/-- the digits of a number without its sign, none of nought -/
def digs (m : Int) : List UInt8 := if m = 0 then [] else Lib.decDigits m.natAbs

theorem digs_step (m : Int) (h : m ≠ 0) : digs (m.tdiv 10) ++ [UInt8.ofNat (48 + m.natAbs % 10)] = digs m := by
  unfold digs
  rw [if_neg h]
  have e : (m.tdiv 10).natAbs = m.natAbs / 10 := Int.natAbs_tdiv ..
  by_cases h10 : m.natAbs < 10
  · rw [if_pos (by omega), Lib.decDigits_one h10, Nat.mod_eq_of_lt h10]; rfl
  · rw [if_neg (by omega), e]
    conv => rhs; rw [Lib.decDigits, dif_neg h10]

theorem digs_len (m : Int) (h0 : -9223372036854775808 ≤ m) (h1 : m ≤ 9223372036854775807) : (digs m).length ≤ 20 := by
  unfold digs
  split
  · simp
  · rw [Lib.decDigits_length]; exact Lib.nDigits_le20 _ (by omega)

theorem ret_str {a b : ByteArray} (h : a.data.toList = b.data.toList) : Ending.returned (.string a) = .returned (.string b) := by
  have : a = b := ByteArray.ext (Array.ext' h)
  rw [this]

/-- the text of a number -/
def decB (n : Int) : ByteArray := ⟨(Lib.itoa n).toArray⟩

theorem dec_zero : decB 0 = ⟨#[48]⟩ := by
  unfold decB Lib.itoa; rw [if_neg (by omega), Lib.decDigits_one (by decide)]; rfl

theorem dec_pos (n : Int) (h : 0 < n) : (decB n).data.toList = digs n := by
  unfold decB Lib.itoa digs; rw [if_neg (by omega), if_neg (by omega)]
  have : n.toNat = n.natAbs := by omega
  simp [this]

theorem dec_neg (n : Int) (h : n < 0) : (decB n).data.toList = 45 :: digs n := by
  unfold decB Lib.itoa digs; rw [if_pos h, if_neg (by omega)]

theorem dig_fin : ∀ d : Fin 10, (({ data := #[48, 49, 50, 51, 52, 53, 54, 55, 56, 57] } : ByteArray).extract d.val (d.val + 1)).data.toList = [UInt8.ofNat (48 + d.val)] := by decide +kernel

theorem dig_one (c x y : Int) (hx : x = (c.natAbs % 10 : Nat)) (hy : y = x + 1) :
    (({ data := #[48, 49, 50, 51, 52, 53, 54, 55, 56, 57] } : ByteArray).extract x.toNat y.toNat).data.toList = [UInt8.ofNat (48 + c.natAbs % 10)] := by
  have h := dig_fin ⟨c.natAbs % 10, Nat.mod_lt _ (by omega)⟩
  have e1 : x.toNat = c.natAbs % 10 := by omega
  have e2 : y.toNat = c.natAbs % 10 + 1 := by omega
  rw [e1, e2]; exact h

theorem dec_close (n c c' : Int) (t D : ByteArray) (hdl : (digs n).length ≤ 20) (hr : digs c ++ t.data.toList = digs n) (hc : c ≠ 0)
    (hc0 : -9223372036854775808 ≤ c) (hc1 : c ≤ 9223372036854775807) (hc' : c' = c.tdiv 10) (hD : D.data.toList = [UInt8.ofNat (48 + c.natAbs % 10)]) :
    (∃ (t1 : ByteArray) (c1 : Int), Value.string (D ++ t) = .string t1 ∧ Value.int .i64 c' = .int .i64 c1 ∧ -9223372036854775808 ≤ c1 ∧ c1 ≤ 9223372036854775807 ∧ t1.size ≤ 20 ∧ Hid (digs c1 ++ t1.data.toList = digs n))
      ∧ (intOf (Value.int .i64 c')).natAbs < (intOf (Value.int .i64 c)).natAbs := by
  subst hc'
  have hqa : (c.tdiv 10).natAbs = c.natAbs / 10 := Int.natAbs_tdiv ..
  have e : digs (c.tdiv 10) ++ (D ++ t).data.toList = digs n := by
    rw [← hr, ← digs_step c hc]; simp [hD]
  have hl := congrArg List.length e
  simp only [List.length_append] at hl
  have hsz : (D ++ t).size = (D ++ t).data.toList.length := by simp only [Array.length_toList]; rfl
  refine ⟨⟨D ++ t, c.tdiv 10, rfl, rfl, by omega, by omega, by omega, e⟩, ?_⟩
  simp only [intOf]; omega

set_option maxHeartbeats 400000 in
theorem decS (n : Int) (w : World) (h0 : -9223372036854775808 ≤ n) (h1 : n ≤ 9223372036854775807) :
    Calls Tryd.prog 28 #[.int .i64 n] w fun e w' => e = .returned (.string (decB n)) ∧ w' = w := by
  by_cases hz : n = 0
  · subst hz
    have HZ := hide dec_zero
    go_enter Tryd.func28, Tryd.ntmps28
    go_wp2
    go_ret
    exact ⟨ret_str (congrArg (fun b => b.data.toList) HZ.out.symm), rfl⟩
  have hne : (n == 0) = false := by simp only [beq_eq_false_iff_ne]; exact hz
  have hdl := digs_len n h0 h1
  go_enter Tryd.func28, Tryd.ntmps28
  go_wp2
  go_loop [3, 4, 5] (fun o m _ => ∃ (t : ByteArray) (c : Int), o = .string t ∧ m = .int .i64 c ∧ -9223372036854775808 ≤ c ∧ c ≤ 9223372036854775807 ∧ t.size ≤ 20 ∧ Hid (digs c ++ t.data.toList = digs n)) (fun _ m _ => (intOf m).natAbs)
  case atStart => exact ⟨⟨#[]⟩, n, rfl, rfl, h0, h1, by decide, hide (by simp)⟩
  case round =>
    obtain ⟨t, c, rfl, rfl, hc0, hc1, ht, hr⟩ := hrel
    by_cases hc : c = 0
    · subst hc
      have hr' : t.data.toList = digs n := by have := hr.out; simpa [digs] using this
      by_cases hneg : n < 0
      · have HF : Hid (decB n = ⟨#[45]⟩ ++ t) := hide (ByteArray.ext (Array.ext' (by rw [dec_neg n hneg, ← hr']; simp)))
        clear hr hr'
        go_wp2
        go_ret
        exact ⟨ret_str (congrArg (fun b => b.data.toList) HF.out.symm), rfl⟩
      · have HF : Hid (decB n = t) := hide (ByteArray.ext (Array.ext' (by rw [dec_pos n (by omega), ← hr'])))
        clear hr hr'
        go_wp2
        go_ret
        exact ⟨ret_str (congrArg (fun b => b.data.toList) HF.out.symm), rfl⟩
    · have hcn : (c != 0) = true := by rw [bne_iff_ne]; exact hc
      have hra : (c.tmod 10).natAbs = c.natAbs % 10 := Int.natAbs_tmod ..
      by_cases hneg : c < 0
      · have hm1 : -9 ≤ c.tmod 10 := by omega
        have hm2 : c.tmod 10 ≤ 0 := by
          have h1 := Int.tmod_nonneg 10 (show 0 ≤ -c by omega)
          rw [Int.neg_tmod] at h1; omega
        have HRA := hide hra
        clear hra
        by_cases hm : c.tmod 10 < 0
        · go_wp2
          exact dec_close n c _ t _ hdl hr.out hc hc0 hc1 rfl (dig_one c _ _ (by have := HRA.out; omega) (by omega))
        · go_wp2
          exact dec_close n c _ t _ hdl hr.out hc hc0 hc1 rfl (dig_one c _ _ (by have := HRA.out; omega) (by omega))
      · have hm1 : c % 10 ≤ 9 := by omega
        have hm2 : 0 ≤ c % 10 := by omega
        have HRA := hide hra
        clear hra
        go_wp2
        exact dec_close n c _ t _ hdl hr.out hc hc0 hc1 (Int.tdiv_eq_ediv_of_nonneg (by omega)).symm (dig_one c _ _ (by omega) (by omega))

end Go.Proofs.YtaoijdoejglgiaaDoor
