/- The walk of the specification's DecText: the text of every int. -/
import Derived.Test.YtlknhheafmifnaaGreatDoorPk01
import Derived.Test.YtlknhheafmifnaaGreatDoorTxN
import Derived.WalkSpells
import Derived.Lib.Strings
import Derived.Lib.ItoaNum
import Derived.Lib.ItoaLen
namespace Go.Proofs.YtlknhheafmifnaaGreatDoor
open Go.RowKit
set_option linter.unusedVariables false

/-- the digits of a number without its sign, none of nought -/
def digs (m : Int) : List UInt8 := if m = 0 then [] else Lib.decDigits m.natAbs

theorem digs_step (m : Int) (h : m ≠ 0) : digs (m.tdiv 10) ++ [UInt8.ofNat (48 + m.natAbs % 10)] = digs m := by
  unfold digs
  rw [if_neg h]
  have e : (m.tdiv 10).natAbs = m.natAbs / 10 := Int.natAbs_tdiv ..
  by_cases h10 : m.natAbs < 10
  · rw [if_pos (by omega), Lib.decDigits_one h10, Nat.mod_eq_of_lt h10]; rfl
  · rw [if_neg (by omega), e]
    conv => rhs; rw [Lib.decDigits, dif_neg h10]

theorem digs_len (m : Int) (h0 : -9223372036854775808 ≤ m) (h1 : m ≤ 9223372036854775807) : (digs m).length ≤ 20 := by
  unfold digs
  split
  · simp
  · rw [Lib.decDigits_length]; exact Lib.nDigits_le20 _ (by omega)

theorem ret_str {a b : ByteArray} (h : a.data.toList = b.data.toList) : Ending.returned (.string a) = .returned (.string b) := by
  have : a = b := ByteArray.ext (Array.ext' h)
  rw [this]

/-- the text of a number -/
def decB (n : Int) : ByteArray := ⟨(Lib.itoa n).toArray⟩

theorem dec_zero : decB 0 = ⟨#[48]⟩ := by
  unfold decB Lib.itoa; rw [if_neg (by omega), Lib.decDigits_one (by decide)]; rfl

theorem dec_pos (n : Int) (h : 0 < n) : (decB n).data.toList = digs n := by
  unfold decB Lib.itoa digs; rw [if_neg (by omega), if_neg (by omega)]
  have : n.toNat = n.natAbs := by omega
  simp [this]

theorem dec_neg (n : Int) (h : n < 0) : (decB n).data.toList = 45 :: digs n := by
  unfold decB Lib.itoa digs; rw [if_pos h, if_neg (by omega)]

theorem dig_fin : ∀ d : Fin 10, (({ data := #[48, 49, 50, 51, 52, 53, 54, 55, 56, 57] } : ByteArray).extract d.val (d.val + 1)).data.toList = [UInt8.ofNat (48 + d.val)] := by decide +kernel

theorem dig_one (c x y : Int) (hx : x = (c.natAbs % 10 : Nat)) (hy : y = x + 1) :
    (({ data := #[48, 49, 50, 51, 52, 53, 54, 55, 56, 57] } : ByteArray).extract x.toNat y.toNat).data.toList = [UInt8.ofNat (48 + c.natAbs % 10)] := by
  have h := dig_fin ⟨c.natAbs % 10, Nat.mod_lt _ (by omega)⟩
  have e1 : x.toNat = c.natAbs % 10 := by omega
  have e2 : y.toNat = c.natAbs % 10 + 1 := by omega
  rw [e1, e2]; exact h

theorem dec_close (n c c' : Int) (t D : ByteArray) (hdl : (digs n).length ≤ 20) (hr : digs c ++ t.data.toList = digs n) (hc : c ≠ 0)
    (hc0 : -9223372036854775808 ≤ c) (hc1 : c ≤ 9223372036854775807) (hc' : c' = c.tdiv 10) (hD : D.data.toList = [UInt8.ofNat (48 + c.natAbs % 10)]) :
    (∃ (t1 : ByteArray) (c1 : Int), Value.string (D ++ t) = .string t1 ∧ Value.int .i64 c' = .int .i64 c1 ∧ -9223372036854775808 ≤ c1 ∧ c1 ≤ 9223372036854775807 ∧ t1.size ≤ 20 ∧ Hid (digs c1 ++ t1.data.toList = digs n))
      ∧ (intOf (Value.int .i64 c')).natAbs < (intOf (Value.int .i64 c)).natAbs := by
  subst hc'
  have hqa : (c.tdiv 10).natAbs = c.natAbs / 10 := Int.natAbs_tdiv ..
  have e : digs (c.tdiv 10) ++ (D ++ t).data.toList = digs n := by
    rw [← hr, ← digs_step c hc]; simp [hD]
  have hl := congrArg List.length e
  simp only [List.length_append] at hl
  have hsz : (D ++ t).size = (D ++ t).data.toList.length := by simp only [Array.length_toList]; rfl
  refine ⟨⟨D ++ t, c.tdiv 10, rfl, rfl, by omega, by omega, by omega, e⟩, ?_⟩
  simp only [intOf]; omega

set_option maxHeartbeats 400000 in
theorem decS (n : Int) (w : World) (h0 : -9223372036854775808 ≤ n) (h1 : n ≤ 9223372036854775807) :
    Calls Tryz.prog 68 #[.int .i64 n] w fun e w' => e = .returned (.string (decB n)) ∧ w' = w := by
  by_cases hz : n = 0
  · subst hz
    have HZ := hide dec_zero
    go_enter Tryz.func68, Tryz.ntmps68
    go_wp2
    go_ret
    exact ⟨ret_str (congrArg (fun b => b.data.toList) HZ.out.symm), rfl⟩
  have hne : (n == 0) = false := by simp only [beq_eq_false_iff_ne]; exact hz
  have hdl := digs_len n h0 h1
  go_enter Tryz.func68, Tryz.ntmps68
  go_wp2
  go_loop [3, 4, 5] (fun o m _ => ∃ (t : ByteArray) (c : Int), o = .string t ∧ m = .int .i64 c ∧ -9223372036854775808 ≤ c ∧ c ≤ 9223372036854775807 ∧ t.size ≤ 20 ∧ Hid (digs c ++ t.data.toList = digs n)) (fun _ m _ => (intOf m).natAbs)
  case atStart => exact ⟨⟨#[]⟩, n, rfl, rfl, h0, h1, by decide, hide (by simp)⟩
  case round =>
    obtain ⟨t, c, rfl, rfl, hc0, hc1, ht, hr⟩ := hrel
    by_cases hc : c = 0
    · subst hc
      have hr' : t.data.toList = digs n := by have := hr.out; simpa [digs] using this
      by_cases hneg : n < 0
      · have HF : Hid (decB n = ⟨#[45]⟩ ++ t) := hide (ByteArray.ext (Array.ext' (by rw [dec_neg n hneg, ← hr']; simp)))
        clear hr hr'
        go_wp2
        go_ret
        exact ⟨ret_str (congrArg (fun b => b.data.toList) HF.out.symm), rfl⟩
      · have HF : Hid (decB n = t) := hide (ByteArray.ext (Array.ext' (by rw [dec_pos n (by omega), ← hr'])))
        clear hr hr'
        go_wp2
        go_ret
        exact ⟨ret_str (congrArg (fun b => b.data.toList) HF.out.symm), rfl⟩
    · have hcn : (c != 0) = true := by rw [bne_iff_ne]; exact hc
      have hra : (c.tmod 10).natAbs = c.natAbs % 10 := Int.natAbs_tmod ..
      by_cases hneg : c < 0
      · have hm1 : -9 ≤ c.tmod 10 := by omega
        have hm2 : c.tmod 10 ≤ 0 := by
          have h1 := Int.tmod_nonneg 10 (show 0 ≤ -c by omega)
          rw [Int.neg_tmod] at h1; omega
        have HRA := hide hra
        clear hra
        by_cases hm : c.tmod 10 < 0
        · go_wp2
          exact dec_close n c _ t _ hdl hr.out hc hc0 hc1 rfl (dig_one c _ _ (by have := HRA.out; omega) (by omega))
        · go_wp2
          exact dec_close n c _ t _ hdl hr.out hc hc0 hc1 rfl (dig_one c _ _ (by have := HRA.out; omega) (by omega))
      · have hm1 : c % 10 ≤ 9 := by omega
        have hm2 : 0 ≤ c % 10 := by omega
        have HRA := hide hra
        clear hra
        go_wp2
        exact dec_close n c _ t _ hdl hr.out hc hc0 hc1 (Int.tdiv_eq_ediv_of_nonneg (by omega)).symm (dig_one c _ _ (by omega) (by omega))

end Go.Proofs.YtlknhheafmifnaaGreatDoor
