/- The walk of the specification's l04Gcd, and what l04Make's first loop makes. -/
import Derived.Test.YtkfiidldappdcaaTold
import Derived.Test.YtkfiidldappdcaaOkS
namespace Go.Proofs.Ytkfiidldappdcaa
open Go.RowKit
set_option linter.unusedVariables false

theorem absSB (a : Int) (w : World) (ha1 : -1000000000000000 ≤ a) (ha2 : a ≤ 1000000000000000) :
    Calls Try.prog 53 #[.int .i64 a] w fun e w' => e = .returned (.int .i64 a.natAbs) ∧ w' = w := by
  by_cases h : a < 0
  all_goals
    go_enter Try.func53, Try.ntmps53
    go_wp2
    go_ret
    exact ⟨ret_int (by omega), rfl⟩

set_option maxHeartbeats 400000 in
theorem gdS (a b : Int) (w : World) (ha1 : -1000000000000000 ≤ a) (ha2 : a ≤ 1000000000000000) (hb1 : -1000000000000000 ≤ b) (hb2 : b ≤ 1000000000000000) :
    Calls Try.prog 75 #[.int .i64 a, .int .i64 b] w fun e w' => e = .returned (.int .i64 (Int.gcd a b)) ∧ ∃ n, w' = w.drewN n := by
  go_enter Try.func75, Try.ntmps75
  go_wp2_with (go_at_call 53; refine (absSB _ _ (by omega) (by omega)).mono ?_; rintro e w1 ⟨rfl, hw⟩; subst w1)
  go_loopw [5, 6, 7] (fun x y _ wr => ∃ c d : Int, x = .int .i64 c ∧ y = .int .i64 d ∧ 0 ≤ c ∧ c ≤ 1000000000000000 ∧ 0 ≤ d ∧ d ≤ 1000000000000000 ∧ Hid (Int.gcd c d = Int.gcd a b) ∧ ∃ n, wr = w.drewN n) (fun _ y _ _ => (intOf y).natAbs)
  case atStart => exact ⟨a.natAbs, b.natAbs, rfl, rfl, by omega, by omega, by omega, by omega, hide (by simp [Int.gcd]), 0, rfl⟩
  case round =>
    obtain ⟨c, d, rfl, rfl, hc1, hc2, hd1, hd2, hg, n, rfl⟩ := hrel
    by_cases hd : 0 < d
    · have hr := Plain.tmod_lt c d (by omega)
      have hgs := Plain.gcd_step c d
      rw [Int.tmod_eq_emod_of_nonneg hc1] at hr hgs
      have hr0 := Int.emod_nonneg c (show d ≠ 0 by omega)
      have HG : Hid (Int.gcd d (c % d) = Int.gcd a b) := hide (hgs.trans hg.out)
      clear hg hgs
      go_wp2
      exact ⟨⟨d, c % d, rfl, rfl, hd1, hd2, by omega, by omega, HG, n, rfl⟩, by simp only [intOf]; exact hr⟩
    · obtain rfl : d = 0 := by omega
      have hg' := hg.out
      rw [Int.gcd_zero_right] at hg'
      have HG := hide hg'
      clear hg hg'
      go_wp2
      go_ret
      exact ⟨ret_int (by have := HG.out; omega), n, rfl⟩

theorem gsh_abs (d : Int) (f : Nat → Int) (k : Nat) (hz : ∀ j, k ≤ j → f j = 0) : ∀ m, k ≤ m → (gsh d f m).natAbs = (gsh d f k).natAbs
  | 0, h => by obtain rfl : k = 0 := by omega
               rfl
  | m + 1, h => by
    by_cases e : k = m + 1
    · subst e; rfl
    · have ih := gsh_abs d f k hz m (by omega)
      show (((Int.gcd (gsh d f m) (f m) : Nat) : Int)).natAbs = _
      rw [hz m (by omega), Int.gcd_zero_right, ← ih]
      omega
theorem gsh_len (d : Int) (xs : List Int) (h8 : xs.length ≤ 8) : ((gsh d (at8 xs) xs.length).natAbs : Int) = gsh d (at8 xs) 8 := by
  have h := gsh_abs d (at8 xs) xs.length (fun j hj => at8_ge hj) 8 h8
  have h1 : 0 ≤ gsh d (at8 xs) 8 := by
    show 0 ≤ ((Int.gcd (gsh d (at8 xs) 7) (at8 xs 7) : Nat) : Int)
    omega
  omega
/-- the list that l04Make makes -/
theorem at8_lst8 (n : Nat) (h : Nat → Int) (hz : ∀ j, n ≤ j → h j = 0) : at8 (lst8 n h) = h := by
  funext j
  by_cases hj : j < n
  · rw [at8_lt (by rw [lst8_len]; exact hj), lst8_at]
  · rw [at8_ge (by rw [lst8_len]; omega), hz j (by omega)]
theorem lst8_snoc (n : Nat) (h : Nat → Int) : lst8 (n + 1) h = lst8 n h ++ [h n] := by simp [lst8, List.range_succ]
end Go.Proofs.Ytkfiidldappdcaa
