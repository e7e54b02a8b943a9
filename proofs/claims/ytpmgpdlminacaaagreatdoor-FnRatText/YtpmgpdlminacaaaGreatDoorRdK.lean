/- A number comes back from its numeral. -/
import Derived.Test.YtpmgpdlminacaaaGreatDoorRdL
namespace Go.Proofs.YtpmgpdlminacaaaGreatDoor
open Go.RowKit
set_option linter.unusedVariables false

theorem dig_of (m : Nat) : (UInt8.ofNat (48 + m % 10)).toNat = 48 + m % 10 := by
  rw [UInt8.toNat_ofNat']; omega
theorem dec_digs (m : Nat) : digAll (Lib.decDigits m) = true := by
  induction m using Nat.strongRecOn with
  | ind m ih =>
    have hd (c : UInt8) (h1 : 48 ≤ c.toNat) (h2 : c.toNat ≤ 57) : digitB (c.toNat : Int) = true := by
      simp only [digitB, Bool.and_eq_true, decide_eq_true_eq]; omega
    by_cases h : m < 10
    · rw [Lib.decDigits_one h]
      have := dig_of m
      rw [Nat.mod_eq_of_lt h] at this
      simp only [digAll, List.all_cons, List.all_nil, Bool.and_true]
      exact hd _ (by omega) (by omega)
    · rw [TxN.dec_step h]
      have := ih (m / 10) (by omega)
      have e := dig_of m
      simp only [digAll, List.all_append, List.all_cons, List.all_nil, Bool.and_true, Bool.and_eq_true] at *
      exact ⟨this, hd _ (by omega) (by omega)⟩
theorem val_dec (m : Nat) : valN (Lib.decDigits m) = m := by
  induction m using Nat.strongRecOn with
  | ind m ih =>
    by_cases h : m < 10
    · rw [Lib.decDigits_one h]
      have := dig_of m
      rw [Nat.mod_eq_of_lt h] at this
      show 10 * 0 + ((UInt8.ofNat (48 + m)).toNat - 48) = m
      omega
    · rw [TxN.dec_step h, valN_snoc, ih (m / 10) (by omega), dig_of]; omega
theorem dec_len78 {n k m : Nat} (hk : k = 8 * m) (hm : 0 < m) (h : n < 4294967296 ^ k) : (Lib.decDigits n).length ≤ 78 * m := by
  obtain ⟨j, hj⟩ : ∃ j, 78 * m = j + 1 := ⟨78 * m - 1, by omega⟩
  rw [hj]
  refine TxN.dec_len_le j n ?_
  rw [← hj, Nat.pow_mul]
  subst hk
  rw [Nat.pow_mul] at h
  exact Nat.lt_of_lt_of_le h (Nat.pow_le_pow_left (by decide) m)
theorem dec_ne (m : Nat) : Lib.decDigits m ≠ [] := fun e => by
  have := TxN.dec_pos m
  rw [e] at this; simp at this
theorem rd_parts (z : Int) : rdNeg (itB z) = sgn z ∧ (rdD (itB z)).data.toList = Lib.decDigits z.natAbs := by
  have hc := rd_cut (itB z)
  cases hg : sgn z with
  | true =>
    have e := it_neg hg
    have hn : rdNeg (itB z) = true := by unfold rdNeg Lib.hasPrefix; rw [e]; simp
    rw [hn, if_pos rfl, e] at hc
    exact ⟨hn, (List.cons.inj hc).2.symm⟩
  | false =>
    have e := it_pos hg
    have hn : rdNeg (itB z) = false := by
      unfold rdNeg Lib.hasPrefix; rw [e]
      have hd := dec_digs z.natAbs
      cases hl : Lib.decDigits z.natAbs with
      | nil => rfl
      | cons c t =>
        rw [hl] at hd
        simp only [digAll, List.all_cons, Bool.and_eq_true] at hd
        have := dig_bounds hd.1
        simp only [List.isPrefixOf]
        have hne : (45 == c) = false := by
          rw [beq_eq_false_iff_ne]; intro e; rw [← e] at this; exact absurd this.1 (by decide)
        rw [hne]; rfl
    rw [hn, if_neg (by simp), e] at hc
    exact ⟨hn, hc.symm⟩
theorem rd_back {z : Int} (h : fits z = true) : rdZ (itB z) = z ∧ rdF (itB z) = true := by
  obtain ⟨h1, h2⟩ := rd_parts z
  have hv : rdV (itB z) = z := by unfold rdV; rw [h1, h2, val_dec, mk_self]
  have hd : digAll (rdD (itB z)).data.toList = true := by rw [h2]; exact dec_digs _
  have hne : (rdD (itB z)).data.toList ≠ [] := by rw [h2]; exact dec_ne _
  have hl : rdLead (itB z) = false := (text_iff hd hne).1 (by rw [hv])
  have hlen := dec_len78 (k := 40) (m := 5) rfl (by decide) (of_decide_eq_true h)
  have hsz : (itB z).size ≤ 400 := by
    rw [← bsize]
    cases hg : sgn z with
    | true => rw [it_neg hg, List.length_cons]; omega
    | false => rw [it_pos hg]; omega
  have hsd : (rdD (itB z)).size ≠ 0 := fun e => hne (List.eq_nil_of_length_eq_zero (by rw [bsize]; exact e))
  have hok : rdOk (itB z) = true := by
    unfold rdOk digOk
    rw [decide_eq_true hsz, hd, decide_eq_true hsd, hl]; rfl
  rw [(rd_yes hok).1, (rd_yes hok).2, hv, fitZ, h]; exact ⟨rfl, rfl⟩
end Go.Proofs.YtpmgpdlminacaaaGreatDoor
