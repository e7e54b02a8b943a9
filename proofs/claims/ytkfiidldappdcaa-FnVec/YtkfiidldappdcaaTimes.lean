/- The walks that reckon over arrays of eight: times, plus, dividedBy. -/
import Derived.Test.YtkfiidldappdcaaPwOf
import Derived.LoopN
namespace Go.Proofs.Ytkfiidldappdcaa
open Go.RowKit
set_option linter.unusedVariables false

theorem mul_bd (a b A B : Int) (h1 : -A ≤ a ∧ a ≤ A) (h2 : -B ≤ b ∧ b ≤ B) : -(A * B) ≤ a * b ∧ a * b ≤ A * B := by
  have h : a.natAbs * b.natAbs ≤ A.toNat * B.toNat := Nat.mul_le_mul (by omega) (by omega)
  rw [← Int.natAbs_mul] at h
  have e : ((A.toNat * B.toNat : Nat) : Int) = A * B := by rw [Int.natCast_mul, Int.toNat_of_nonneg (by omega), Int.toNat_of_nonneg (by omega)]
  omega

set_option maxHeartbeats 2000000 in
theorem times8 (n m : Int) (f : Nat → Int) (w : World) (hm : -1000000000 ≤ m ∧ m ≤ 1000000000) (hf : ∀ j, j < 8 → -100000 ≤ f j ∧ f j ≤ 100000) :
    Calls Try.prog 58 #[Value.agg #[Value.int .i64 n, Value.int .i64 (f 0), Value.int .i64 (f 1), Value.int .i64 (f 2), Value.int .i64 (f 3), Value.int .i64 (f 4), Value.int .i64 (f 5), Value.int .i64 (f 6), Value.int .i64 (f 7)], .int .i64 m] w fun e w' => e = .returned (Value.agg #[Value.int .i64 n, Value.int .i64 (f 0 * m), Value.int .i64 (f 1 * m), Value.int .i64 (f 2 * m), Value.int .i64 (f 3 * m), Value.int .i64 (f 4 * m), Value.int .i64 (f 5 * m), Value.int .i64 (f 6 * m), Value.int .i64 (f 7 * m)]) ∧ Below w.heap.size w w' := by
  obtain ⟨p0, q0⟩ := mul_bd (f 0) m 100000 1000000000 (hf 0 (by omega)) hm
  obtain ⟨p1, q1⟩ := mul_bd (f 1) m 100000 1000000000 (hf 1 (by omega)) hm
  obtain ⟨p2, q2⟩ := mul_bd (f 2) m 100000 1000000000 (hf 2 (by omega)) hm
  obtain ⟨p3, q3⟩ := mul_bd (f 3) m 100000 1000000000 (hf 3 (by omega)) hm
  obtain ⟨p4, q4⟩ := mul_bd (f 4) m 100000 1000000000 (hf 4 (by omega)) hm
  obtain ⟨p5, q5⟩ := mul_bd (f 5) m 100000 1000000000 (hf 5 (by omega)) hm
  obtain ⟨p6, q6⟩ := mul_bd (f 6) m 100000 1000000000 (hf 6 (by omega)) hm
  obtain ⟨p7, q7⟩ := mul_bd (f 7) m 100000 1000000000 (hf 7 (by omega)) hm
  clear hf hm
  go_enter Try.func58, Try.ntmps58
  go_wp2
  refine wp_loop_rounds 9 ?_
  rw [rounds_succ]
  go_wp2
  rw [rounds_succ]
  go_wp2
  rw [rounds_succ]
  go_wp2
  rw [rounds_succ]
  go_wp2
  rw [rounds_succ]
  go_wp2
  rw [rounds_succ]
  go_wp2
  rw [rounds_succ]
  go_wp2
  rw [rounds_succ]
  go_wp2
  rw [rounds_succ]
  go_wp2
  exact bodyPost_ret (v := Value.agg #[Value.int .i64 n, Value.int .i64 (f 0 * m), Value.int .i64 (f 1 * m), Value.int .i64 (f 2 * m), Value.int .i64 (f 3 * m), Value.int .i64 (f 4 * m), Value.int .i64 (f 5 * m), Value.int .i64 (f 6 * m), Value.int .i64 (f 7 * m)]) (by simp [results, Try.results58, go_sem]) rfl ⟨rfl, bl_alloc (bl_alloc (bl_refl w) _) _⟩
end Go.Proofs.Ytkfiidldappdcaa
