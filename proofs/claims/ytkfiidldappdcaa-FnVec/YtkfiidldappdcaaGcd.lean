/- The walks of the two Gcd and the two Lcm: each returns the greatest common divisor (the least common multiple) of two numbers of -1000000000 .. 1000000000, and 0 outside; memory stands. -/
import Derived.Test.YtkfiidldappdcaaBase
import Derived.Test.YtkfiidldappdcaaPlain
import Derived.WalkKit
import Derived.WalkLawsBesides
import Derived.Deep.QuietTactic
import Derived.BigQuiet
namespace Go.Proofs.Ytkfiidldappdcaa
open Go.RowKit
set_option linter.unusedVariables false


theorem absI (a : Int) (w : World) (ha1 : -1000000000000000 ≤ a) (ha2 : a ≤ 1000000000000000) :
    Calls Try.prog 51 #[.int .i64 a] w fun e w' => e = .returned (.int .i64 a.natAbs) ∧ w' = w := by
  by_cases h : a < 0
  all_goals
    go_enter Try.func51, Try.ntmps51
    go_wp2
    go_ret
    exact ⟨ret_int (by omega), rfl⟩

set_option maxHeartbeats 400000 in
theorem gdI (a b : Int) (w : World) (ha1 : -1000000000000000 ≤ a) (ha2 : a ≤ 1000000000000000) (hb1 : -1000000000000000 ≤ b) (hb2 : b ≤ 1000000000000000) :
    Calls Try.prog 50 #[.int .i64 a, .int .i64 b] w fun e w' => e = .returned (.int .i64 (Int.gcd a b)) ∧ ∃ n, w' = w.drewN n := by
  go_enter Try.func50, Try.ntmps50
  go_wp2
  go_loopw [0, 1] (fun x y wr => ∃ c d : Int, x = .int .i64 c ∧ y = .int .i64 d ∧ -1000000000000000 ≤ c ∧ c ≤ 1000000000000000 ∧ -1000000000000000 ≤ d ∧ d ≤ 1000000000000000 ∧ Hid (Int.gcd c d = Int.gcd a b) ∧ ∃ n, wr = w.drewN n) (fun _ y _ => (intOf y).natAbs)
  case atStart => exact ⟨a, b, rfl, rfl, ha1, ha2, hb1, hb2, hide rfl, 0, rfl⟩
  case round =>
    obtain ⟨c, d, rfl, rfl, hc1, hc2, hd1, hd2, hg, n, rfl⟩ := hrel
    by_cases hd : d = 0
    · subst hd
      have hg' := hg.out
      rw [Int.gcd_zero_right] at hg'
      have HG := hide hg'
      clear hg hg'
      go_wp2_with (go_at_call 51; refine (absI _ _ hc1 hc2).mono ?_; rintro e w1 ⟨rfl, hw⟩; subst w1)
      go_ret
      exact ⟨ret_int (by have := HG.out; omega), n, rfl⟩
    · have hne : (d != 0) = true := by rw [bne_iff_ne]; exact hd
      have hr := Plain.tmod_lt c d hd
      have HG : Hid (Int.gcd d (c.tmod d) = Int.gcd a b) := hide ((Plain.gcd_step c d).trans hg.out)
      clear hg
      go_wp2_with fail
      go_quiet (fail)
      go_wp2
      exact ⟨⟨d, c.tmod d, rfl, rfl, hd1, hd2, by omega, by omega, HG, n + nq, World.drewN_drewN ..⟩, by simp only [intOf]; exact hr⟩

/-- the number is none of -1000000000 .. 1000000000 -/
def Far (a : Int) : Prop := a < -1000000000 ∨ 1000000000 < a
theorem far_or (a : Int) : Far a ∨ (-1000000000 ≤ a ∧ a ≤ 1000000000) := by unfold Far; omega

theorem smallI_in (a : Int) (w : World) (ha1 : -1000000000 ≤ a) (ha2 : a ≤ 1000000000) :
    Calls Try.prog 49 #[.int .i64 a] w fun e w' => e = .returned (.bool true) ∧ w' = w := by
  have h1 : decide (-1000000000 ≤ a) = true := by simp; omega
  have h2 : decide (a ≤ 1000000000) = true := by simp; omega
  go_enter Try.func49, Try.ntmps49
  go_wp2
  go_ret
  exact ⟨rfl, rfl⟩
theorem smallI_out (a : Int) (w : World) (h : Far a) :
    Calls Try.prog 49 #[.int .i64 a] w fun e w' => e = .returned (.bool false) ∧ w' = w := by
  rcases h with h | h
  · go_enter Try.func49, Try.ntmps49
    go_wp2
    go_ret
    exact ⟨rfl, rfl⟩
  · have h2 : decide (a ≤ 1000000000) = false := by simp; omega
    go_enter Try.func49, Try.ntmps49
    go_wp2
    go_ret
    exact ⟨rfl, rfl⟩

set_option maxHeartbeats 400000 in
theorem gcdI_in (a b : Int) (w : World) (ha1 : -1000000000 ≤ a) (ha2 : a ≤ 1000000000) (hb1 : -1000000000 ≤ b) (hb2 : b ≤ 1000000000) :
    Calls Try.prog 17 #[.int .i64 a, .int .i64 b] w fun e w' => e = .returned (.int .i64 (Int.gcd a b)) ∧ ∃ n, w' = w.drewN n := by
  go_enter Try.func17, Try.ntmps17
  go_wp2_with (first
    | (go_at_call 49; refine (smallI_in _ _ (by omega) (by omega)).mono ?_; rintro e w1 ⟨rfl, hw⟩; subst w1)
    | (go_at_call 50; refine (gdI _ _ _ (by omega) (by omega) (by omega) (by omega)).mono ?_; rintro e w1 ⟨rfl, n, rfl⟩))
  go_ret
  exact ⟨rfl, n, rfl⟩

set_option maxHeartbeats 400000 in
theorem gcdI_out (a b : Int) (w : World) (h : Far a ∨ Far b) :
    Calls Try.prog 17 #[.int .i64 a, .int .i64 b] w fun e w' => e = .returned (.int .i64 0) ∧ ∃ n, w' = w.drewN n := by
  rcases far_or a with ha | ⟨ha1, ha2⟩
  · have HA := hide ha
    clear h ha
    go_enter Try.func17, Try.ntmps17
    go_wp2_with (go_at_call 49; refine (smallI_out _ _ HA.out).mono ?_; rintro e w1 ⟨rfl, hw⟩; subst w1)
    go_ret
    exact ⟨rfl, 0, rfl⟩
  · have hb : Far b := by rcases h with h | h
                          · unfold Far at h; omega
                          · exact h
    have HB := hide hb
    clear h hb
    go_enter Try.func17, Try.ntmps17
    go_wp2_with fail
    refine (smallI_in _ _ ha1 ha2).mono ?_
    rintro e w1 ⟨rfl, hw⟩; subst w1
    go_wp2_with fail
    refine (smallI_out _ _ HB.out).mono ?_
    rintro e w1 ⟨rfl, hw⟩; subst w1
    go_wp2_with fail
    go_ret
    exact ⟨rfl, 0, rfl⟩

theorem absS (a : Int) (w : World) (ha1 : -1000000000 ≤ a) (ha2 : a ≤ 1000000000) :
    Calls Try.prog 53 #[.int .i64 a] w fun e w' => e = .returned (.int .i64 a.natAbs) ∧ w' = w := by
  by_cases h : a < 0
  all_goals
    go_enter Try.func53, Try.ntmps53
    go_wp2
    go_ret
    exact ⟨ret_int (by omega), rfl⟩

set_option maxHeartbeats 400000 in
theorem gcdS_out (a b : Int) (w : World) (h : Far a ∨ Far b) :
    Calls Try.prog 19 #[.int .i64 a, .int .i64 b] w fun e w' => e = .returned (.int .i64 0) ∧ ∃ n, w' = w.drewN n := by
  rcases far_or a with ha | ⟨ha1, ha2⟩
  · clear h
    rcases ha with ha | ha
    all_goals
      go_enter Try.func19, Try.ntmps19
      go_wp2
      go_ret
      exact ⟨rfl, 0, rfl⟩
  · rcases h with h | h
    · unfold Far at h; omega
    · rcases h with h | h
      · go_enter Try.func19, Try.ntmps19
        go_wp2
        go_ret
        exact ⟨rfl, 0, rfl⟩
      · have hdb : decide (b ≤ 1000000000) = false := by simp; omega
        go_enter Try.func19, Try.ntmps19
        go_wp2
        go_ret
        exact ⟨rfl, 0, rfl⟩

theorem smallS_in (a : Int) (w : World) (ha1 : -1000000000 ≤ a) (ha2 : a ≤ 1000000000) :
    Calls Try.prog 52 #[.int .i64 a] w fun e w' => e = .returned (.bool true) ∧ w' = w := by
  have h1 : decide (-1000000000 ≤ a) = true := by simp; omega
  have h2 : decide (a ≤ 1000000000) = true := by simp; omega
  go_enter Try.func52, Try.ntmps52
  go_wp2
  go_ret
  exact ⟨rfl, rfl⟩

set_option maxHeartbeats 400000 in
theorem gcdS_in (a b : Int) (w : World) (ha1 : -1000000000 ≤ a) (ha2 : a ≤ 1000000000) (hb1 : -1000000000 ≤ b) (hb2 : b ≤ 1000000000) :
    Calls Try.prog 19 #[.int .i64 a, .int .i64 b] w fun e w' => e = .returned (.int .i64 (Int.gcd a b)) ∧ ∃ n, w' = w.drewN n := by
  go_enter Try.func19, Try.ntmps19
  go_wp2_with (first
    | (go_at_call 53; refine (absS _ _ (by omega) (by omega)).mono ?_; rintro e w1 ⟨rfl, hw⟩; subst w1)
    | (go_at_call 52; refine (smallS_in _ _ (by omega) (by omega)).mono ?_; rintro e w1 ⟨rfl, hw⟩; subst w1))
  go_loopw [5, 6, 7] (fun x y _ wr => ∃ c d : Int, x = .int .i64 c ∧ y = .int .i64 d ∧ 0 ≤ c ∧ c ≤ 1000000000 ∧ 0 ≤ d ∧ d ≤ 1000000000 ∧ Hid (Int.gcd c d = Int.gcd a b) ∧ ∃ n, wr = w.drewN n) (fun _ y _ _ => (intOf y).natAbs)
  case atStart => exact ⟨a.natAbs, b.natAbs, rfl, rfl, by omega, by omega, by omega, by omega, hide (by simp [Int.gcd]), 0, rfl⟩
  case round =>
    obtain ⟨c, d, rfl, rfl, hc1, hc2, hd1, hd2, hg, n, rfl⟩ := hrel
    by_cases hd : 0 < d
    · have hr := Plain.tmod_lt c d (by omega)
      have hgs := Plain.gcd_step c d
      rw [Int.tmod_eq_emod_of_nonneg hc1] at hr hgs
      have hr0 := Int.emod_nonneg c (show d ≠ 0 by omega)
      have HG : Hid (Int.gcd d (c % d) = Int.gcd a b) := hide (hgs.trans hg.out)
      clear hg hgs
      go_wp2
      exact ⟨⟨d, c % d, rfl, rfl, hd1, hd2, by omega, by omega, HG, n, rfl⟩, by simp only [intOf]; exact hr⟩
    · obtain rfl : d = 0 := by omega
      have hg' := hg.out
      rw [Int.gcd_zero_right] at hg'
      have HG := hide hg'
      clear hg hg'
      go_wp2
      go_ret
      exact ⟨ret_int (by have := HG.out; omega), n, rfl⟩

set_option maxHeartbeats 400000 in
theorem lcmI_out (a b : Int) (w : World) (h : Far a ∨ Far b) :
    Calls Try.prog 18 #[.int .i64 a, .int .i64 b] w fun e w' => e = .returned (.int .i64 0) ∧ ∃ n, w' = w.drewN n := by
  go_enter Try.func18, Try.ntmps18
  go_wp2_with (go_at_call 17; refine (gcdI_out _ _ _ h).mono ?_; rintro e w1 ⟨rfl, n, rfl⟩)
  go_ret
  exact ⟨rfl, n, rfl⟩

set_option maxHeartbeats 400000 in
theorem lcmI_in (a b : Int) (w : World) (ha1 : -1000000000 ≤ a) (ha2 : a ≤ 1000000000) (hb1 : -1000000000 ≤ b) (hb2 : b ≤ 1000000000) :
    Calls Try.prog 18 #[.int .i64 a, .int .i64 b] w fun e w' => e = .returned (.int .i64 (Plain.lcmI a b)) ∧ ∃ n, w' = w.drewN n := by
  have hg := Plain.gcd_small a b ⟨ha1, ha2⟩ ⟨hb1, hb2⟩
  by_cases h0 : Int.gcd a b = 0
  · have hz : ((Int.gcd a b : Int) == 0) = true := by simp only [beq_iff_eq]; omega
    have hl : Plain.lcmI a b = 0 := by simp [Plain.lcmI, h0]
    have HL := hide hl
    clear h0 hl
    go_enter Try.func18, Try.ntmps18
    go_wp2_with (go_at_call 17; refine (gcdI_in _ _ _ ha1 ha2 hb1 hb2).mono ?_; rintro e w1 ⟨rfl, n, rfl⟩)
    go_ret
    exact ⟨ret_int HL.out.symm, n, rfl⟩
  · have hz : ((Int.gcd a b : Int) == 0) = false := by simp only [beq_eq_false_iff_ne]; omega
    have hp : (0 : Int) < (Int.gcd a b : Int) := by omega
    have hq : (0 : Int) ≤ (a.natAbs : Int) / (Int.gcd a b : Int) ∧ (a.natAbs : Int) / (Int.gcd a b : Int) ≤ 1000000000 := by
      rw [← Int.natCast_ediv]
      have := Nat.div_le_self a.natAbs (Int.gcd a b)
      generalize a.natAbs / Int.gcd a b = q at *
      omega
    obtain ⟨hq1, hq2⟩ := hq
    have HL : Hid ((a.natAbs : Int) / (Int.gcd a b : Int) * (b.natAbs : Int) = Plain.lcmI a b) := hide (by simp [Plain.lcmI])
    have hl := Plain.lcm_le a b ⟨ha1, ha2⟩ ⟨hb1, hb2⟩
    have hm1 : 0 ≤ (a.natAbs : Int) / (Int.gcd a b : Int) * (b.natAbs : Int) := by rw [HL.out]; exact hl.1
    have hm2 : (a.natAbs : Int) / (Int.gcd a b : Int) * (b.natAbs : Int) ≤ 1000000000000000000 := by rw [HL.out]; exact hl.2
    clear h0 hl
    go_enter Try.func18, Try.ntmps18
    go_wp2_with (go_at_call 17; refine (gcdI_in _ _ _ ha1 ha2 hb1 hb2).mono ?_; rintro e w1 ⟨rfl, hn⟩; have HW := hide hn; clear hn)
    go_quiet ((go_at_call 51; exact Calls.quiet_of_same (absI _ _ (by omega) (by omega))))
    go_wp2
    go_ret
    obtain ⟨n, rfl⟩ := HW.out
    exact ⟨ret_int HL.out, n + nq, World.drewN_drewN ..⟩

theorem smallS_out (a : Int) (w : World) (h : Far a) :
    Calls Try.prog 52 #[.int .i64 a] w fun e w' => e = .returned (.bool false) ∧ w' = w := by
  rcases h with h | h
  · go_enter Try.func52, Try.ntmps52
    go_wp2
    go_ret
    exact ⟨rfl, rfl⟩
  · have h2 : decide (a ≤ 1000000000) = false := by simp; omega
    go_enter Try.func52, Try.ntmps52
    go_wp2
    go_ret
    exact ⟨rfl, rfl⟩

set_option maxHeartbeats 400000 in
theorem lcmS_out (a b : Int) (w : World) (h : Far a ∨ Far b) :
    Calls Try.prog 20 #[.int .i64 a, .int .i64 b] w fun e w' => e = .returned (.int .i64 0) ∧ ∃ n, w' = w.drewN n := by
  rcases far_or a with ha | ⟨ha1, ha2⟩
  · have HA := hide ha
    clear h ha
    go_enter Try.func20, Try.ntmps20
    go_wp2_with (go_at_call 52; refine (smallS_out _ _ HA.out).mono ?_; rintro e w1 ⟨rfl, hw⟩; subst w1)
    go_ret
    exact ⟨rfl, 0, rfl⟩
  · have hb : Far b := by rcases h with h | h
                          · unfold Far at h; omega
                          · exact h
    have HB := hide hb
    clear h hb
    go_enter Try.func20, Try.ntmps20
    go_wp2_with fail
    refine (smallS_in _ _ ha1 ha2).mono ?_
    rintro e w1 ⟨rfl, hw⟩; subst w1
    go_wp2_with fail
    refine (smallS_out _ _ HB.out).mono ?_
    rintro e w1 ⟨rfl, hw⟩; subst w1
    go_wp2_with fail
    go_ret
    exact ⟨rfl, 0, rfl⟩

set_option maxHeartbeats 400000 in
theorem lcmS_in (a b : Int) (w : World) (ha1 : -1000000000 ≤ a) (ha2 : a ≤ 1000000000) (hb1 : -1000000000 ≤ b) (hb2 : b ≤ 1000000000) :
    Calls Try.prog 20 #[.int .i64 a, .int .i64 b] w fun e w' => e = .returned (.int .i64 (Plain.lcmI a b)) ∧ ∃ n, w' = w.drewN n := by
  by_cases hA : a = 0
  · have HL : Hid (Plain.lcmI a b = 0) := hide (by simp [Plain.lcmI, hA])
    have hz : (a == 0) = true := by simp only [beq_iff_eq]; exact hA
    clear hA
    go_enter Try.func20, Try.ntmps20
    go_wp2_with (go_at_call 52; refine (smallS_in _ _ (by omega) (by omega)).mono ?_; rintro e w1 ⟨rfl, hw⟩; subst w1)
    go_ret
    exact ⟨ret_int HL.out.symm, 0, rfl⟩
  have hz : (a == 0) = false := by simp only [beq_eq_false_iff_ne]; exact hA
  by_cases hB : b = 0
  · have HL : Hid (Plain.lcmI a b = 0) := hide (by simp [Plain.lcmI, hB])
    have hz : (b == 0) = true := by simp only [beq_iff_eq]; exact hB
    clear hB
    go_enter Try.func20, Try.ntmps20
    go_wp2_with (go_at_call 52; refine (smallS_in _ _ (by omega) (by omega)).mono ?_; rintro e w1 ⟨rfl, hw⟩; subst w1)
    go_ret
    exact ⟨ret_int HL.out.symm, 0, rfl⟩
  have hzb : (b == 0) = false := by simp only [beq_eq_false_iff_ne]; exact hB
  have hg := Plain.gcd_small a b ⟨ha1, ha2⟩ ⟨hb1, hb2⟩
  have hgp := Plain.gcd_pos a b (.inl hA)
  have hp : (0 : Int) < (Int.gcd a b : Int) := by omega
  have hq : (0 : Int) ≤ (a.natAbs : Int) / (Int.gcd a b : Int) ∧ (a.natAbs : Int) / (Int.gcd a b : Int) ≤ 1000000000 := by
    rw [← Int.natCast_ediv]
    have := Nat.div_le_self a.natAbs (Int.gcd a b)
    generalize a.natAbs / Int.gcd a b = q at *
    omega
  obtain ⟨hq1, hq2⟩ := hq
  have HL : Hid ((a.natAbs : Int) / (Int.gcd a b : Int) * (b.natAbs : Int) = Plain.lcmI a b) := hide (by simp [Plain.lcmI])
  have hl := Plain.lcm_le a b ⟨ha1, ha2⟩ ⟨hb1, hb2⟩
  have hm1 : 0 ≤ (a.natAbs : Int) / (Int.gcd a b : Int) * (b.natAbs : Int) := by rw [HL.out]; exact hl.1
  have hm2 : (a.natAbs : Int) / (Int.gcd a b : Int) * (b.natAbs : Int) ≤ 1000000000000000000 := by rw [HL.out]; exact hl.2
  clear hl hA hB
  go_enter Try.func20, Try.ntmps20
  go_wp2_with (go_at_call 52; refine (smallS_in _ _ (by omega) (by omega)).mono ?_; rintro e w1 ⟨rfl, hw⟩; subst w1)
  go_quiet (first | (go_at_call 53; exact Calls.quiet_of_same (absS _ _ (by omega) (by omega))) | (go_at_call 19; exact Calls.quiet_of (gcdS_in _ _ _ ha1 ha2 hb1 hb2)))
  go_wp2
  go_ret
  exact ⟨ret_int HL.out, nq, rfl⟩
end Go.Proofs.Ytkfiidldappdcaa
