/- A number of 0 .. 999999999 comes back from its text, and no other int does: first the plain facts, then the walk of the law. -/
import Derived.Test.YthjglbimkfajlaaDoorLaw
import Derived.Lib.SmallJoins
namespace Go.Proofs.YthjglbimkfajlaaDoor
open Go.RowKit Go.Sort
set_option linter.unusedVariables false

theorem dig_of (v : Nat) (h : v < 10) : digitB ((UInt8.ofNat (48 + v)).toNat : Int) = true ∧ ((UInt8.ofNat (48 + v)).toNat : Int) - 48 = v := by
  have e : (UInt8.ofNat (48 + v)).toNat = 48 + v := by
    rw [UInt8.toNat_ofNat']; omega
  rw [e]; refine ⟨?_, by omega⟩
  simp [digitB]; omega
theorem back_digits (v : Nat) : digAll (Lib.decDigits v) = true ∧ valI (Lib.decDigits v) = v := by
  induction v using Nat.strongRecOn with
  | ind v ih =>
    by_cases h : v < 10
    · rw [Lib.decDigits_one h]
      have := dig_of v h
      refine ⟨by simp only [digAll, List.all_cons, List.all_nil, Bool.and_true]; exact this.1, ?_⟩
      have e := val_snoc [] (UInt8.ofNat (48 + v))
      rw [List.nil_append] at e
      rw [e, this.2]; simp [valI]
    · obtain ⟨i1, i2⟩ := ih (v / 10) (by omega)
      have := dig_of (v % 10) (by omega)
      rw [Lib.decDigits, dif_neg h]
      refine ⟨?_, ?_⟩
      · simp only [digAll, List.all_append, List.all_cons, List.all_nil, Bool.and_true, this.1]
        exact i1
      · rw [val_snoc, i2, this.2]; omega
theorem nDigits_le (k : Nat) : ∀ v, 1 ≤ k → v < 10 ^ k → Lib.nDigits v ≤ k := by
  induction k with
  | zero => intro v h; omega
  | succ k ih =>
    intro v _ hv
    by_cases h : v < 10
    · rw [Lib.nDigits_small h]; omega
    · rw [Lib.nDigits_big h]
      have hk : 1 ≤ k := by
        cases k with
        | zero => simp at hv; omega
        | succ k => omega
      have : v / 10 < 10 ^ k := by rw [Nat.pow_succ] at hv; omega
      have := ih (v / 10) hk this
      omega
theorem back_noLead (v : Nat) : noLead (Lib.decDigits v) = true := by
  by_cases h : v < 10
  · rw [Lib.decDigits_one h]; rfl
  · have hp := head_pos v (by omega)
    have hl := Lib.decDigits_length v
    rw [Lib.nDigits_big h] at hl
    have := Lib.nDigits_pos (v / 10)
    cases hd : Lib.decDigits v with
    | nil => rw [hd] at hl; simp at hl
    | cons a r =>
      cases r with
      | nil => rfl
      | cons b r => rw [hd] at hp; simp at hp; simp [noLead, hp]
theorem size_list (s : ByteArray) : s.size = s.data.toList.length := by simp
theorem back_in (n : Int) (h0 : 0 ≤ n) (h1 : n ≤ 999999999) : readB (decB n) = n := by
  have e : (decB n).data.toList = Lib.decDigits n.toNat := by unfold decB Lib.itoa; rw [if_neg (by omega)]
  obtain ⟨b1, b2⟩ := back_digits n.toNat
  have hl : (decB n).size ≤ 9 := by
    rw [size_list, e, Lib.decDigits_length]
    exact nDigits_le 9 _ (by omega) (by have : (10 : Nat) ^ 9 = 1000000000 := by decide
                                        omega)
  unfold readB
  rw [e, if_pos ⟨hl, back_noLead _, b1⟩, b2]; omega
theorem back_out (n : Int) (h : n < 0 ∨ 999999999 < n) : readB (decB n) = -1 := by
  unfold readB
  rw [if_neg]
  rintro ⟨a1, a2, a3⟩
  rcases h with h | h
  · rw [dec_neg n h] at a3
    simp [digAll, digitB] at a3
  · have e : (decB n).data.toList = Lib.decDigits n.toNat := by unfold decB Lib.itoa; rw [if_neg (by omega)]
    rw [size_list, e, Lib.decDigits_length] at a1
    have h1 := Lib.lt_pow_nDigits n.toNat
    have h2 : 10 ^ Lib.nDigits n.toNat ≤ 10 ^ 9 := Nat.pow_le_pow_right (by decide) a1
    have h3 : (10 : Nat) ^ 9 = 1000000000 := by decide
    omega
theorem dec_size (n : Int) (h0 : -9223372036854775808 ≤ n) (h1 : n ≤ 9223372036854775807) : (decB n).size ≤ 21 := by
  rw [size_list]; unfold decB; rw [List.toList_toArray]; exact Lib.itoa_length_le n h0 h1

set_option maxHeartbeats 1000000 in
theorem drawDec (a : Option Addr) (len cap : Nat) (w : World) (hr : Row a len cap w) :
    Calls Tryd.prog 6 #[.slice a len cap] w fun e w' => ∃ x : Int, (-9223372036854775808 ≤ x ∧ x ≤ 9223372036854775807) ∧ e = .returned (.int .i64 x) ∧ Below w.heap.size w w' := by
  have HR := hide hr
  clear hr
  go_enter Tryd.func6, Tryd.ntmps6
  go_wp2_with fail
  refine (newD a len cap _ HR.out).mono ?_
  rintro e w1 ⟨rfl, hc1, hb1⟩
  have HC1 := hide hc1
  have HB1 := hide hb1
  clear hc1 hb1
  go_wp2_with fail
  refine (numD _ a len cap _ HC1.out).mono ?_
  rintro e w2 ⟨x, hx, rfl, hc2, ho2⟩
  have HO2 := hide ho2
  have HX := hide hx
  clear hc2 ho2 hx
  go_wp2
  go_ret
  exact ⟨x, HX.out, rfl, HB1.out.trans (HO2.out.below (Nat.le_refl _) (Nat.le_of_lt HC1.out.hB))⟩

theorem gTab : Tryd.prog.globalNamed "internal/strconv.uint64pow10" = some 0 := by kernel_rfl

set_option maxHeartbeats 1000000 in
theorem walkDec (a : Option Addr) (len cap : Nat) (w : World) (hr : Row a len cap w) (htab : Lib.TabIs Tryd.prog w "internal/strconv.uint64pow10" .u64 Lib.pow10Tab) :
    Calls Tryd.prog 3 #[.slice a len cap] w fun e w' => e = .returned (.bool true) ∧ Below w.heap.size w w' := by
  have HR := hide hr
  have HT := hide htab
  have hlen : len ≤ 9223372036854775807 := Nat.le_trans hr.2.1 hr.2.2
  clear hr htab
  by_cases hbig : (1048576 : Int) < (len : Int)
  · go_enter Tryd.func3, Tryd.ntmps3
    go_wp2
    go_ret
    exact ⟨rfl, Below.refl _ _⟩
  go_enter Tryd.func3, Tryd.ntmps3
  go_wp2_with (first | (go_at_call 5; go_in) | fail)
  refine (drawDec _ _ _ _ HR.out).mono ?_
  rintro e w1 ⟨n, ⟨hn0, hn1⟩, rfl, hb1⟩
  have HB1 := hide hb1
  have HT1 := hide (Joins.tab_stays gTab HT.out hb1 (Nat.le_refl _))
  clear hb1
  go_wp2_with fail
  refine (decI n _ hn0 hn1 HT1.out).mono ?_
  rintro e w2 ⟨rfl, hb2⟩
  have HB2 := hide (HB1.out.trans (hb2.mono HB1.out.size))
  clear hb2
  go_wp2_with fail
  refine (decS n _ hn0 hn1).mono ?_
  rintro e w3 ⟨rfl, hw⟩
  subst w3
  have hsz := dec_size n hn0 hn1
  by_cases hlo : 0 ≤ n
  · by_cases hhi : n ≤ 999999999
    · have HBK := hide (back_in n hlo hhi)
      go_wp2_with fail
      refine (readI (decB n) _ (by omega)).mono ?_
      rw [HBK.out]
      rintro e w4 ⟨rfl, hb4⟩
      have HB4 := hide (HB2.out.trans (hb4.mono HB2.out.size))
      clear hb4
      go_wp2
      go_ret
      exact ⟨rfl, HB4.out⟩
    · have HBK := hide (back_out n (.inr (by omega)))
      have hd : decide (n ≤ 999999999) = false := by simp; omega
      go_wp2_with fail
      refine (readI (decB n) _ (by omega)).mono ?_
      rw [HBK.out]
      rintro e w4 ⟨rfl, hb4⟩
      have HB4 := hide (HB2.out.trans (hb4.mono HB2.out.size))
      clear hb4
      go_wp2
      go_ret
      exact ⟨rfl, HB4.out⟩
  · have HBK := hide (back_out n (.inl (by omega)))
    have hd : decide (0 ≤ n) = false := by simp; omega
    go_wp2_with fail
    refine (readI (decB n) _ (by omega)).mono ?_
    rw [HBK.out]
    rintro e w4 ⟨rfl, hb4⟩
    have HB4 := hide (HB2.out.trans (hb4.mono HB2.out.size))
    clear hb4
    go_wp2
    go_ret
    exact ⟨rfl, HB4.out⟩
end Go.Proofs.YthjglbimkfajlaaDoor
