/- The walk of compare. -/
import Derived.Test.YtkfiidldappdcaaEq8
namespace Go.Proofs.Ytkfiidldappdcaa
open Go.RowKit
set_option linter.unusedVariables false

/-- how two lists stand at the first place where they part, of r places from k on -/
def cmpF (f g : Nat → Int) : Nat → Nat → Int
  | 0, _ => 0
  | r + 1, k => if f k < g k then -1 else if g k < f k then 1 else cmpF f g r (k + 1)
theorem cmpF_step (f g : Nat → Int) (r k : Nat) (h : f k = g k) : cmpF f g (r + 1) k = cmpF f g r (k + 1) := by
  rw [cmpF, if_neg (by omega), if_neg (by omega)]
theorem cmpF_eq (f g : Nat → Int) : ∀ (r k : Nat), (∀ j, k ≤ j → j < k + r → f j = g j) → cmpF f g r k = 0
  | 0, _, _ => rfl
  | r + 1, k, h => by rw [cmpF_step f g r k (h k (Nat.le_refl _) (by omega))]; exact cmpF_eq f g r (k + 1) (fun j h1 h2 => h j (by omega) (by omega))
theorem cmpF_pad (f g : Nat → Int) (s : Nat) : ∀ (r k : Nat), (∀ j, k + r ≤ j → f j = g j) → cmpF f g (r + s) k = cmpF f g r k
  | 0, k, h => by rw [Nat.zero_add]; exact cmpF_eq f g s k (fun j h1 _ => h j (by omega))
  | r + 1, k, h => by
    rw [show r + 1 + s = (r + s) + 1 by omega, cmpF, cmpF, cmpF_pad f g s r (k + 1) (fun j hj => h j (by omega))]
/-- the sign of a comparison -/
def cmp1 (a b : Int) : Int := if a < b then -1 else if b < a then 1 else 0

theorem compareInt (a b : Int) (w : World) :
    Calls Try.prog 76 #[.int .i64 a, .int .i64 b] w fun e w' => e = .returned (.int .i64 (cmp1 a b)) ∧ w' = w := by
  have hnan : ∀ (x : Int) (w : World), Calls Try.prog 79 #[.int .i64 x] w fun e w' => e = .returned (.bool false) ∧ w' = w := by
    intro x w
    go_enter Try.func79, Try.ntmps79
    go_wp2
    go_ret
    exact ⟨rfl, rfl⟩
  have HN := hide hnan
  clear hnan
  by_cases h1 : a < b
  · have HC : Hid (cmp1 a b = -1) := hide (if_pos h1)
    go_enter Try.func76, Try.ntmps76
    go_wp2_with (go_at_call 79; refine (HN.out _ _).mono ?_; rintro e w1 ⟨rfl, hw⟩; subst w1)
    go_ret
    exact ⟨ret_int HC.out.symm, rfl⟩
  by_cases h2 : b < a
  · have HC : Hid (cmp1 a b = 1) := hide (by unfold cmp1; rw [if_neg h1, if_pos h2])
    go_enter Try.func76, Try.ntmps76
    go_wp2_with (go_at_call 79; refine (HN.out _ _).mono ?_; rintro e w1 ⟨rfl, hw⟩; subst w1)
    go_ret
    exact ⟨ret_int HC.out.symm, rfl⟩
  · have HC : Hid (cmp1 a b = 0) := hide (by unfold cmp1; rw [if_neg h1, if_neg h2])
    go_enter Try.func76, Try.ntmps76
    go_wp2_with (go_at_call 79; refine (HN.out _ _).mono ?_; rintro e w1 ⟨rfl, hw⟩; subst w1)
    go_ret
    exact ⟨ret_int HC.out.symm, rfl⟩

set_option maxHeartbeats 400000 in
theorem compare8 (n m : Int) (f g : Nat → Int) (w : World) :
    Calls Try.prog 64 #[Value.agg #[Value.int .i64 n, Value.int .i64 (f 0), Value.int .i64 (f 1), Value.int .i64 (f 2), Value.int .i64 (f 3), Value.int .i64 (f 4), Value.int .i64 (f 5), Value.int .i64 (f 6), Value.int .i64 (f 7)], Value.agg #[Value.int .i64 m, Value.int .i64 (g 0), Value.int .i64 (g 1), Value.int .i64 (g 2), Value.int .i64 (g 3), Value.int .i64 (g 4), Value.int .i64 (g 5), Value.int .i64 (g 6), Value.int .i64 (g 7)]] w fun e w' => e = .returned (.int .i64 (cmpF f g 8 0)) ∧ Below w.heap.size w w' := by
  have HB := hide (bl_alloc (bl_alloc (bl_refl w) (Obj.cells #[Value.int .i64 n, Value.int .i64 (f 0), Value.int .i64 (f 1), Value.int .i64 (f 2), Value.int .i64 (f 3), Value.int .i64 (f 4), Value.int .i64 (f 5), Value.int .i64 (f 6), Value.int .i64 (f 7)] 65)) (Obj.cells #[Value.int .i64 m, Value.int .i64 (g 0), Value.int .i64 (g 1), Value.int .i64 (g 2), Value.int .i64 (g 3), Value.int .i64 (g 4), Value.int .i64 (g 5), Value.int .i64 (g 6), Value.int .i64 (g 7)] 65))
  have hq := eql8 f g
  cases he : eq8 f g with
  | true =>
    have HC : Hid (cmpF f g 8 0 = 0) := hide (cmpF_eq f g 8 0 (fun j _ h => (eq8_iff f g).1 he j (by omega)))
    go_enter Try.func64, Try.ntmps64
    go_wp2
    go_ret
    exact ⟨ret_int HC.out.symm, HB.out⟩
  | false =>
    obtain ⟨k0, hk0, hne⟩ : ∃ k, k < 8 ∧ f k ≠ g k := by
      refine Classical.byContradiction fun h => ?_
      have : eq8 f g = true := (eq8_iff f g).2 (fun j hj => Classical.byContradiction fun h' => h ⟨j, hj, h'⟩)
      rw [he] at this; cases this
    have HK := hide hne
    clear hne
    have hc : ∀ j, j < 8 → ((w.alloc (Obj.cells #[Value.int .i64 n, Value.int .i64 (f 0), Value.int .i64 (f 1), Value.int .i64 (f 2), Value.int .i64 (f 3), Value.int .i64 (f 4), Value.int .i64 (f 5), Value.int .i64 (f 6), Value.int .i64 (f 7)] 65)).alloc (Obj.cells #[Value.int .i64 m, Value.int .i64 (g 0), Value.int .i64 (g 1), Value.int .i64 (g 2), Value.int .i64 (g 3), Value.int .i64 (g 4), Value.int .i64 (g 5), Value.int .i64 (g 6), Value.int .i64 (g 7)] 65)).cell? ⟨w.heap.size, 1 + j, none⟩ = some (Value.int .i64 (f j)) ∧ ((w.alloc (Obj.cells #[Value.int .i64 n, Value.int .i64 (f 0), Value.int .i64 (f 1), Value.int .i64 (f 2), Value.int .i64 (f 3), Value.int .i64 (f 4), Value.int .i64 (f 5), Value.int .i64 (f 6), Value.int .i64 (f 7)] 65)).alloc (Obj.cells #[Value.int .i64 m, Value.int .i64 (g 0), Value.int .i64 (g 1), Value.int .i64 (g 2), Value.int .i64 (g 3), Value.int .i64 (g 4), Value.int .i64 (g 5), Value.int .i64 (g 6), Value.int .i64 (g 7)] 65)).cell? ⟨w.heap.size + 1, 1 + j, none⟩ = some (Value.int .i64 (g j)) := fun j hj => by
      have : j = 0 ∨ j = 1 ∨ j = 2 ∨ j = 3 ∨ j = 4 ∨ j = 5 ∨ j = 6 ∨ j = 7 := by omega
      rcases this with rfl | rfl | rfl | rfl | rfl | rfl | rfl | rfl <;> exact ⟨by go_simp, by go_simp⟩
    have HCL := hide hc
    clear hc
    go_enter Try.func64, Try.ntmps64
    go_wp2
    clear hq he
    generalize ((w.alloc (Obj.cells #[Value.int .i64 n, Value.int .i64 (f 0), Value.int .i64 (f 1), Value.int .i64 (f 2), Value.int .i64 (f 3), Value.int .i64 (f 4), Value.int .i64 (f 5), Value.int .i64 (f 6), Value.int .i64 (f 7)] 65)).alloc (Obj.cells #[Value.int .i64 m, Value.int .i64 (g 0), Value.int .i64 (g 1), Value.int .i64 (g 2), Value.int .i64 (g 3), Value.int .i64 (g 4), Value.int .i64 (g 5), Value.int .i64 (g 6), Value.int .i64 (g 7)] 65)) = w1 at *
    go_loopw [5] (fun i wr => ∃ k : Nat, k ≤ k0 ∧ i = .int .i64 k ∧ Hid (cmpF f g 8 0 = cmpF f g (8 - k) k) ∧ ∃ n, wr = w1.drewN n) (fun i _ => 8 - (intOf i).toNat)
    case atStart => exact ⟨0, Nat.zero_le _, rfl, hide rfl, 0, rfl⟩
    case round =>
      obtain ⟨k, hk, rfl, hj, d, rfl⟩ := hrel
      have hk8 : k < 8 := by omega
      have hk8' : (k : Int) < 8 := by omega
      obtain ⟨c1, c2⟩ := HCL.out k hk8
      by_cases hfg : f k = g k
      · have hk1 : k < k0 := by
          refine Nat.lt_of_le_of_ne hk (fun e => ?_)
          subst e; exact HK.out hfg
        have hb : (f k == g k) = true := by simp [hfg]
        have HN : Hid (cmpF f g 8 0 = cmpF f g (8 - (k + 1)) (k + 1)) := hide (by rw [hj.out, show 8 - k = (8 - (k + 1)) + 1 by omega, cmpF_step f g _ k hfg])
        clear hfg hj
        go_wp2
        go_quiet (fail)
        go_wp2
        exact ⟨⟨k + 1, by omega, by go_num, HN, d + nq, rfl⟩, by simp [intOf]; omega⟩
      · have hb : (f k == g k) = false := by simp [hfg]
        have HN : Hid (cmpF f g 8 0 = cmp1 (f k) (g k)) := hide (by
          rw [hj.out, show 8 - k = (8 - (k + 1)) + 1 by omega, cmpF]
          unfold cmp1
          by_cases h1 : f k < g k
          · rw [if_pos h1, if_pos h1]
          · rw [if_neg h1, if_neg h1, if_pos (by omega), if_pos (by omega)])
        clear hfg hj
        go_wp2
        go_quiet (fail)
        go_wp2_with fail
        obtain ⟨w2, hw2⟩ : ∃ w2, w2 = (w1.drewN d).drewN nq := ⟨_, rfl⟩
        have c3 : w2.cell? ⟨w.heap.size, 1 + k, none⟩ = some (Value.int .i64 (f k)) := by rw [hw2]; exact c1
        have c4 : w2.cell? ⟨w.heap.size + 1, 1 + k, none⟩ = some (Value.int .i64 (g k)) := by rw [hw2]; exact c2
        have HB2 : Hid (Below w.heap.size w w2) := hide (by rw [hw2]; exact below_drewN (below_drewN HB.out _) _)
        rw [← hw2]
        clear hw2 c1 c2
        go_quiet ((go_at_call 76; exact Calls.quiet_of_same (compareInt _ _ _)))
        go_wp2
        go_ret
        exact ⟨ret_int HN.out.symm, below_drewN HB2.out _⟩
end Go.Proofs.Ytkfiidldappdcaa
