/- The walks over arrays of eight: whether all are within a bound, what they share with a number. -/
import Derived.Test.YtkfiidldappdcaaGcd
import Derived.Test.YtkfiidldappdcaaLawKit
namespace Go.Proofs.Ytkfiidldappdcaa
open Go.RowKit
set_option linter.unusedVariables false

theorem index8 (f : Nat → Int) (k : Nat) (hk : k < 8) (w : World) : Sem.run Try.prog (Instr.index 63 (Value.agg #[Value.int .i64 (f 0), Value.int .i64 (f 1), Value.int .i64 (f 2), Value.int .i64 (f 3), Value.int .i64 (f 4), Value.int .i64 (f 5), Value.int .i64 (f 6), Value.int .i64 (f 7)]) (.int .i64 k)) w = .ok (.int .i64 (f k)) w := by
  have h : k = 0 ∨ k = 1 ∨ k = 2 ∨ k = 3 ∨ k = 4 ∨ k = 5 ∨ k = 6 ∨ k = 7 := by omega
  rcases h with rfl | rfl | rfl | rfl | rfl | rfl | rfl | rfl
  all_goals (first | rfl | simp [Instr.index, go_sem, asAgg])

/-- all of eight are within a bound -/
def winB (m : Int) (f : Nat → Int) : Bool := (List.range 8).all fun j => decide (-m ≤ f j ∧ f j ≤ m)
theorem winB_iff (m : Int) (f : Nat → Int) : winB m f = true ↔ ∀ j, j < 8 → -m ≤ f j ∧ f j ≤ m := by
  unfold winB; rw [List.all_eq_true]; simp
/-- what a number shares with the first k of a list -/
def gsh (n : Int) (f : Nat → Int) : Nat → Int
  | 0 => n
  | k + 1 => (Int.gcd (gsh n f k) (f k) : Nat)
theorem gcd_bd (a b : Int) (M : Int) (ha : -M ≤ a ∧ a ≤ M) (hb : -M ≤ b ∧ b ≤ M) : 0 ≤ (Int.gcd a b : Int) ∧ (Int.gcd a b : Int) ≤ M := by
  refine ⟨by omega, ?_⟩
  by_cases h : a = 0
  · subst h; rw [Int.gcd_zero_left]; omega
  · have := Nat.gcd_le_left b.natAbs (show 0 < a.natAbs by omega)
    have : Int.gcd a b ≤ a.natAbs := this
    omega
theorem gsh_bd (n : Int) (f : Nat → Int) (M : Int) (hn : -M ≤ n ∧ n ≤ M) (hf : ∀ j, j < 8 → -M ≤ f j ∧ f j ≤ M) : ∀ k, k ≤ 8 → -M ≤ gsh n f k ∧ gsh n f k ≤ M
  | 0, _ => hn
  | k + 1, hk => by
    have := gcd_bd (gsh n f k) (f k) M (gsh_bd n f M hn hf k (by omega)) (hf k (by omega))
    unfold gsh; omega

set_option maxHeartbeats 400000 in
theorem within8 (n m : Int) (f : Nat → Int) (w : World) (hm1 : 0 ≤ m) (hm2 : m ≤ 1000000000) :
    Calls Try.prog 68 #[Value.agg #[Value.int .i64 n, Value.int .i64 (f 0), Value.int .i64 (f 1), Value.int .i64 (f 2), Value.int .i64 (f 3), Value.int .i64 (f 4), Value.int .i64 (f 5), Value.int .i64 (f 6), Value.int .i64 (f 7)], .int .i64 m] w fun e w' => e = .returned (.bool (winB m f)) ∧ Below w.heap.size w w' := by
  have HB := hide (bl_alloc (bl_refl w) (Obj.cells #[Value.int .i64 n, Value.int .i64 (f 0), Value.int .i64 (f 1), Value.int .i64 (f 2), Value.int .i64 (f 3), Value.int .i64 (f 4), Value.int .i64 (f 5), Value.int .i64 (f 6), Value.int .i64 (f 7)] 65))
  go_enter Try.func68, Try.ntmps68
  go_wp2
  go_loop [9] (fun i => ∃ k : Nat, k ≤ 8 ∧ i = .int .i64 k ∧ Hid (∀ j, j < k → -m ≤ f j ∧ f j ≤ m)) (fun i => 8 - (intOf i).toNat)
  case atStart => exact ⟨0, by omega, rfl, hide (fun j h => by omega)⟩
  case round =>
    obtain ⟨k, hk, rfl, hj⟩ := hrel
    by_cases hlt : k < 8
    · have hlt' : (k : Int) < 8 := by omega
      have hix := index8 f k hlt
      by_cases h1 : f k < -m
      · have HW : Hid (winB m f = false) := hide (by cases e : winB m f with | false => rfl | true => have := (winB_iff m f).1 e k hlt; omega)
        go_wp2
        go_ret
        exact ⟨ret_bool HW.out.symm, HB.out⟩
      by_cases h2 : m < f k
      · have HW : Hid (winB m f = false) := hide (by cases e : winB m f with | false => rfl | true => have := (winB_iff m f).1 e k hlt; omega)
        go_wp2
        go_ret
        exact ⟨ret_bool HW.out.symm, HB.out⟩
      have HN : Hid (∀ j, j < k + 1 → -m ≤ f j ∧ f j ≤ m) := hide (fun j h => by
        by_cases e : j = k
        · subst e; omega
        · exact hj.out j (by omega))
      clear hj
      go_wp2
      exact ⟨⟨k + 1, by omega, by go_num, HN⟩, by simp [intOf]; omega⟩
    · obtain rfl : k = 8 := by omega
      have HW : Hid (winB m f = true) := hide ((winB_iff m f).2 hj.out)
      go_wp2
      go_ret
      exact ⟨ret_bool HW.out.symm, HB.out⟩

set_option maxHeartbeats 400000 in
theorem shared8 (n d : Int) (f : Nat → Int) (w : World) (hd : -1000000000000000 ≤ d ∧ d ≤ 1000000000000000) (hf : ∀ j, j < 8 → -1000000000000000 ≤ f j ∧ f j ≤ 1000000000000000) :
    Calls Try.prog 77 #[Value.agg #[Value.int .i64 n, Value.int .i64 (f 0), Value.int .i64 (f 1), Value.int .i64 (f 2), Value.int .i64 (f 3), Value.int .i64 (f 4), Value.int .i64 (f 5), Value.int .i64 (f 6), Value.int .i64 (f 7)], .int .i64 d] w fun e w' => e = .returned (.int .i64 (gsh d f 8)) ∧ Below w.heap.size w w' := by
  have HB := hide (bl_alloc (bl_refl w) (Obj.cells #[Value.int .i64 n, Value.int .i64 (f 0), Value.int .i64 (f 1), Value.int .i64 (f 2), Value.int .i64 (f 3), Value.int .i64 (f 4), Value.int .i64 (f 5), Value.int .i64 (f 6), Value.int .i64 (f 7)] 65))
  have HD := hide hd
  have HF := hide hf
  clear hd hf
  go_enter Try.func77, Try.ntmps77
  go_wp2
  generalize (w.alloc (Obj.cells #[Value.int .i64 n, Value.int .i64 (f 0), Value.int .i64 (f 1), Value.int .i64 (f 2), Value.int .i64 (f 3), Value.int .i64 (f 4), Value.int .i64 (f 5), Value.int .i64 (f 6), Value.int .i64 (f 7)] 65)) = w1 at *
  go_loopw [1, 9] (fun g i wr => ∃ k : Nat, k ≤ 8 ∧ i = .int .i64 k ∧ g = .int .i64 (gsh d f k) ∧ ∃ m, wr = w1.drewN m) (fun _ i _ => 8 - (intOf i).toNat)
  case atStart => exact ⟨0, by omega, rfl, rfl, 0, rfl⟩
  case round =>
    obtain ⟨k, hk, rfl, rfl, m, rfl⟩ := hrel
    by_cases hlt : k < 8
    · have hlt' : (k : Int) < 8 := by omega
      have hix := index8 f k hlt
      obtain ⟨g1, g2⟩ := gsh_bd d f 1000000000000000 HD.out HF.out k hk
      obtain ⟨f1, f2⟩ := HF.out k hlt
      have HG : Hid (gsh d f (k + 1) = (Int.gcd (gsh d f k) (f k) : Nat)) := hide rfl
      go_wp2_with (go_at_call 50; refine (gdI _ _ _ g1 g2 f1 f2).mono ?_; rintro e w2 ⟨rfl, m2, rfl⟩)
      exact ⟨⟨k + 1, by omega, by go_num, by rw [HG.out], m + m2, rfl⟩, by simp [intOf]; omega⟩
    · obtain rfl : k = 8 := by omega
      go_wp2
      go_ret
      exact ⟨rfl, below_drewN HB.out m⟩
end Go.Proofs.Ytkfiidldappdcaa
