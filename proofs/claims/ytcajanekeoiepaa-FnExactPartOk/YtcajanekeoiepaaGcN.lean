/- The walks of the greatest common divisors. -/
import Derived.Test.YtcajanekeoiepaaPoB
import Derived.Test.YtcajanekeoiepaaPlG
namespace Go.Proofs.Ytcajanekeoiepaa
open Go.RowKit
set_option linter.unusedVariables false

theorem absI (a : Int) (w : World) (ha1 : -1000000000000000 ≤ a) (ha2 : a ≤ 1000000000000000) :
    Calls Try.prog 21 #[.int .i64 a] w fun e w' => e = .returned (.int .i64 a.natAbs) ∧ w' = w := by
  by_cases h : a < 0
  all_goals
    go_enter Try.func21, Try.ntmps21
    go_wp2
    go_ret
    exact ⟨ret_int (by omega), rfl⟩

set_option maxHeartbeats 400000 in
theorem gdI (a b : Int) (w : World) (ha1 : -1000000000000000 ≤ a) (ha2 : a ≤ 1000000000000000) (hb1 : -1000000000000000 ≤ b) (hb2 : b ≤ 1000000000000000) :
    Calls Try.prog 18 #[.int .i64 a, .int .i64 b] w fun e w' => e = .returned (.int .i64 (Int.gcd a b)) ∧ ∃ n, w' = w.drewN n := by
  go_enter Try.func18, Try.ntmps18
  go_wp2
  go_loopw [0, 1] (fun x y wr => ∃ c d : Int, x = .int .i64 c ∧ y = .int .i64 d ∧ -1000000000000000 ≤ c ∧ c ≤ 1000000000000000 ∧ -1000000000000000 ≤ d ∧ d ≤ 1000000000000000 ∧ Hid (Int.gcd c d = Int.gcd a b) ∧ ∃ n, wr = w.drewN n) (fun _ y _ => (intOf y).natAbs)
  case atStart => exact ⟨a, b, rfl, rfl, ha1, ha2, hb1, hb2, hide rfl, 0, rfl⟩
  case round =>
    obtain ⟨c, d, rfl, rfl, hc1, hc2, hd1, hd2, hg, n, rfl⟩ := hrel
    by_cases hd : d = 0
    · subst hd
      have hg' := hg.out
      rw [Int.gcd_zero_right] at hg'
      have HG := hide hg'
      clear hg hg'
      go_wp2_with (go_at_call 21; refine (absI _ _ hc1 hc2).mono ?_; rintro e w1 ⟨rfl, hw⟩; subst w1)
      go_ret
      exact ⟨ret_int (by have := HG.out; omega), n, rfl⟩
    · have hne : (d != 0) = true := by rw [bne_iff_ne]; exact hd
      have hr := Plain.tmod_lt c d hd
      have HG : Hid (Int.gcd d (c.tmod d) = Int.gcd a b) := hide ((Plain.gcd_step c d).trans hg.out)
      clear hg
      go_wp2_with fail
      go_quiet (fail)
      go_wp2
      exact ⟨⟨d, c.tmod d, rfl, rfl, hd1, hd2, by omega, by omega, HG, n + nq, World.drewN_drewN ..⟩, by simp only [intOf]; exact hr⟩

theorem absS (a : Int) (w : World) (ha1 : -1000000000 ≤ a) (ha2 : a ≤ 1000000000) :
    Calls Try.prog 20 #[.int .i64 a] w fun e w' => e = .returned (.int .i64 a.natAbs) ∧ w' = w := by
  by_cases h : a < 0
  all_goals
    go_enter Try.func20, Try.ntmps20
    go_wp2
    go_ret
    exact ⟨ret_int (by omega), rfl⟩

theorem smallS_in (a : Int) (w : World) (ha1 : -1000000000 ≤ a) (ha2 : a ≤ 1000000000) :
    Calls Try.prog 19 #[.int .i64 a] w fun e w' => e = .returned (.bool true) ∧ w' = w := by
  have h1 : decide (-1000000000 ≤ a) = true := by simp; omega
  have h2 : decide (a ≤ 1000000000) = true := by simp; omega
  go_enter Try.func19, Try.ntmps19
  go_wp2
  go_ret
  exact ⟨rfl, rfl⟩

set_option maxHeartbeats 400000 in
theorem gcdS_in (a b : Int) (w : World) (ha1 : -1000000000 ≤ a) (ha2 : a ≤ 1000000000) (hb1 : -1000000000 ≤ b) (hb2 : b ≤ 1000000000) :
    Calls Try.prog 15 #[.int .i64 a, .int .i64 b] w fun e w' => e = .returned (.int .i64 (Int.gcd a b)) ∧ ∃ n, w' = w.drewN n := by
  go_enter Try.func15, Try.ntmps15
  go_wp2_with (first
    | (go_at_call 20; refine (absS _ _ (by omega) (by omega)).mono ?_; rintro e w1 ⟨rfl, hw⟩; subst w1)
    | (go_at_call 19; refine (smallS_in _ _ (by omega) (by omega)).mono ?_; rintro e w1 ⟨rfl, hw⟩; subst w1))
  go_loopw [5, 6, 7] (fun x y _ wr => ∃ c d : Int, x = .int .i64 c ∧ y = .int .i64 d ∧ 0 ≤ c ∧ c ≤ 1000000000 ∧ 0 ≤ d ∧ d ≤ 1000000000 ∧ Hid (Int.gcd c d = Int.gcd a b) ∧ ∃ n, wr = w.drewN n) (fun _ y _ _ => (intOf y).natAbs)
  case atStart => exact ⟨a.natAbs, b.natAbs, rfl, rfl, by omega, by omega, by omega, by omega, hide (by simp [Int.gcd]), 0, rfl⟩
  case round =>
    obtain ⟨c, d, rfl, rfl, hc1, hc2, hd1, hd2, hg, n, rfl⟩ := hrel
    by_cases hd : 0 < d
    · have hr := Plain.tmod_lt c d (by omega)
      have hgs := Plain.gcd_step c d
      rw [Int.tmod_eq_emod_of_nonneg hc1] at hr hgs
      have hr0 := Int.emod_nonneg c (show d ≠ 0 by omega)
      have HG : Hid (Int.gcd d (c % d) = Int.gcd a b) := hide (hgs.trans hg.out)
      clear hg hgs
      go_wp2
      exact ⟨⟨d, c % d, rfl, rfl, hd1, hd2, by omega, by omega, HG, n, rfl⟩, by simp only [intOf]; exact hr⟩
    · obtain rfl : d = 0 := by omega
      have hg' := hg.out
      rw [Int.gcd_zero_right] at hg'
      have HG := hide hg'
      clear hg hg'
      go_wp2
      go_ret
      exact ⟨ret_int (by have := HG.out; omega), n, rfl⟩

end Go.Proofs.Ytcajanekeoiepaa
