/- The walks of dividedBy, plus and list. -/
import Derived.Test.YtkfiidldappdcaaTimes
import Derived.Deep.AppendLies
namespace Go.Proofs.Ytkfiidldappdcaa
open Go.RowKit
set_option linter.unusedVariables false

theorem tdiv_bd (a m M : Int) (h : -M ≤ a ∧ a ≤ M) : -M ≤ a.tdiv m ∧ a.tdiv m ≤ M := by
  have h1 : (a.tdiv m).natAbs ≤ a.natAbs := by rw [Int.natAbs_tdiv]; exact Nat.div_le_self _ _
  omega
set_option maxHeartbeats 2000000 in
theorem divided8 (n m : Int) (f : Nat → Int) (w : World) (h0 : m ≠ 0) (hm : -1000000000000000 ≤ m ∧ m ≤ 1000000000000000) (hf : ∀ j, j < 8 → -1000000000000000 ≤ f j ∧ f j ≤ 1000000000000000) :
    Calls Try.prog 78 #[Value.agg #[Value.int .i64 n, Value.int .i64 (f 0), Value.int .i64 (f 1), Value.int .i64 (f 2), Value.int .i64 (f 3), Value.int .i64 (f 4), Value.int .i64 (f 5), Value.int .i64 (f 6), Value.int .i64 (f 7)], .int .i64 m] w fun e w' => e = .returned (Value.agg #[Value.int .i64 n, Value.int .i64 ((f 0).tdiv m), Value.int .i64 ((f 1).tdiv m), Value.int .i64 ((f 2).tdiv m), Value.int .i64 ((f 3).tdiv m), Value.int .i64 ((f 4).tdiv m), Value.int .i64 ((f 5).tdiv m), Value.int .i64 ((f 6).tdiv m), Value.int .i64 ((f 7).tdiv m)]) ∧ Below w.heap.size w w' := by
  obtain ⟨p0, q0⟩ := hf 0 (by omega)
  obtain ⟨r0, s0⟩ := tdiv_bd (f 0) m 1000000000000000 (hf 0 (by omega))
  obtain ⟨p1, q1⟩ := hf 1 (by omega)
  obtain ⟨r1, s1⟩ := tdiv_bd (f 1) m 1000000000000000 (hf 1 (by omega))
  obtain ⟨p2, q2⟩ := hf 2 (by omega)
  obtain ⟨r2, s2⟩ := tdiv_bd (f 2) m 1000000000000000 (hf 2 (by omega))
  obtain ⟨p3, q3⟩ := hf 3 (by omega)
  obtain ⟨r3, s3⟩ := tdiv_bd (f 3) m 1000000000000000 (hf 3 (by omega))
  obtain ⟨p4, q4⟩ := hf 4 (by omega)
  obtain ⟨r4, s4⟩ := tdiv_bd (f 4) m 1000000000000000 (hf 4 (by omega))
  obtain ⟨p5, q5⟩ := hf 5 (by omega)
  obtain ⟨r5, s5⟩ := tdiv_bd (f 5) m 1000000000000000 (hf 5 (by omega))
  obtain ⟨p6, q6⟩ := hf 6 (by omega)
  obtain ⟨r6, s6⟩ := tdiv_bd (f 6) m 1000000000000000 (hf 6 (by omega))
  obtain ⟨p7, q7⟩ := hf 7 (by omega)
  obtain ⟨r7, s7⟩ := tdiv_bd (f 7) m 1000000000000000 (hf 7 (by omega))
  clear hf
  obtain ⟨hm1, hm2⟩ := hm
  have hz : ¬ m = 0 := h0
  clear h0
  go_enter Try.func78, Try.ntmps78
  go_wp2
  refine wp_loop_rounds 9 ?_
  rw [rounds_succ]
  go_wp2
  rw [rounds_succ]
  go_wp2
  rw [rounds_succ]
  go_wp2
  rw [rounds_succ]
  go_wp2
  rw [rounds_succ]
  go_wp2
  rw [rounds_succ]
  go_wp2
  rw [rounds_succ]
  go_wp2
  rw [rounds_succ]
  go_wp2
  rw [rounds_succ]
  go_wp2
  exact bodyPost_ret (v := Value.agg #[Value.int .i64 n, Value.int .i64 ((f 0).tdiv m), Value.int .i64 ((f 1).tdiv m), Value.int .i64 ((f 2).tdiv m), Value.int .i64 ((f 3).tdiv m), Value.int .i64 ((f 4).tdiv m), Value.int .i64 ((f 5).tdiv m), Value.int .i64 ((f 6).tdiv m), Value.int .i64 ((f 7).tdiv m)]) (by simp [results, Try.results78, go_sem]) rfl ⟨rfl, bl_alloc (bl_alloc (bl_refl w) _) _⟩

set_option maxHeartbeats 2000000 in
theorem plus8 (n m : Int) (f g : Nat → Int) (w : World) (hf : ∀ j, j < 8 → -1000000000000000 ≤ f j ∧ f j ≤ 1000000000000000) (hg : ∀ j, j < 8 → -1000000000000000 ≤ g j ∧ g j ≤ 1000000000000000) :
    Calls Try.prog 59 #[Value.agg #[Value.int .i64 n, Value.int .i64 (f 0), Value.int .i64 (f 1), Value.int .i64 (f 2), Value.int .i64 (f 3), Value.int .i64 (f 4), Value.int .i64 (f 5), Value.int .i64 (f 6), Value.int .i64 (f 7)], Value.agg #[Value.int .i64 m, Value.int .i64 (g 0), Value.int .i64 (g 1), Value.int .i64 (g 2), Value.int .i64 (g 3), Value.int .i64 (g 4), Value.int .i64 (g 5), Value.int .i64 (g 6), Value.int .i64 (g 7)]] w fun e w' => e = .returned (Value.agg #[Value.int .i64 n, Value.int .i64 (f 0 + g 0), Value.int .i64 (f 1 + g 1), Value.int .i64 (f 2 + g 2), Value.int .i64 (f 3 + g 3), Value.int .i64 (f 4 + g 4), Value.int .i64 (f 5 + g 5), Value.int .i64 (f 6 + g 6), Value.int .i64 (f 7 + g 7)]) ∧ Below w.heap.size w w' := by
  obtain ⟨p0, q0⟩ := hf 0 (by omega)
  obtain ⟨r0, s0⟩ := hg 0 (by omega)
  obtain ⟨p1, q1⟩ := hf 1 (by omega)
  obtain ⟨r1, s1⟩ := hg 1 (by omega)
  obtain ⟨p2, q2⟩ := hf 2 (by omega)
  obtain ⟨r2, s2⟩ := hg 2 (by omega)
  obtain ⟨p3, q3⟩ := hf 3 (by omega)
  obtain ⟨r3, s3⟩ := hg 3 (by omega)
  obtain ⟨p4, q4⟩ := hf 4 (by omega)
  obtain ⟨r4, s4⟩ := hg 4 (by omega)
  obtain ⟨p5, q5⟩ := hf 5 (by omega)
  obtain ⟨r5, s5⟩ := hg 5 (by omega)
  obtain ⟨p6, q6⟩ := hf 6 (by omega)
  obtain ⟨r6, s6⟩ := hg 6 (by omega)
  obtain ⟨p7, q7⟩ := hf 7 (by omega)
  obtain ⟨r7, s7⟩ := hg 7 (by omega)
  clear hf hg
  have hx0 : ∀ w, Sem.run Try.prog (Instr.index 63 (Value.agg #[Value.int .i64 (g 0), Value.int .i64 (g 1), Value.int .i64 (g 2), Value.int .i64 (g 3), Value.int .i64 (g 4), Value.int .i64 (g 5), Value.int .i64 (g 6), Value.int .i64 (g 7)]) (.int .i64 0)) w = .ok (.int .i64 (g 0)) w := fun w => index8 g 0 (by omega) w
  have hx1 : ∀ w, Sem.run Try.prog (Instr.index 63 (Value.agg #[Value.int .i64 (g 0), Value.int .i64 (g 1), Value.int .i64 (g 2), Value.int .i64 (g 3), Value.int .i64 (g 4), Value.int .i64 (g 5), Value.int .i64 (g 6), Value.int .i64 (g 7)]) (.int .i64 1)) w = .ok (.int .i64 (g 1)) w := fun w => index8 g 1 (by omega) w
  have hx2 : ∀ w, Sem.run Try.prog (Instr.index 63 (Value.agg #[Value.int .i64 (g 0), Value.int .i64 (g 1), Value.int .i64 (g 2), Value.int .i64 (g 3), Value.int .i64 (g 4), Value.int .i64 (g 5), Value.int .i64 (g 6), Value.int .i64 (g 7)]) (.int .i64 2)) w = .ok (.int .i64 (g 2)) w := fun w => index8 g 2 (by omega) w
  have hx3 : ∀ w, Sem.run Try.prog (Instr.index 63 (Value.agg #[Value.int .i64 (g 0), Value.int .i64 (g 1), Value.int .i64 (g 2), Value.int .i64 (g 3), Value.int .i64 (g 4), Value.int .i64 (g 5), Value.int .i64 (g 6), Value.int .i64 (g 7)]) (.int .i64 3)) w = .ok (.int .i64 (g 3)) w := fun w => index8 g 3 (by omega) w
  have hx4 : ∀ w, Sem.run Try.prog (Instr.index 63 (Value.agg #[Value.int .i64 (g 0), Value.int .i64 (g 1), Value.int .i64 (g 2), Value.int .i64 (g 3), Value.int .i64 (g 4), Value.int .i64 (g 5), Value.int .i64 (g 6), Value.int .i64 (g 7)]) (.int .i64 4)) w = .ok (.int .i64 (g 4)) w := fun w => index8 g 4 (by omega) w
  have hx5 : ∀ w, Sem.run Try.prog (Instr.index 63 (Value.agg #[Value.int .i64 (g 0), Value.int .i64 (g 1), Value.int .i64 (g 2), Value.int .i64 (g 3), Value.int .i64 (g 4), Value.int .i64 (g 5), Value.int .i64 (g 6), Value.int .i64 (g 7)]) (.int .i64 5)) w = .ok (.int .i64 (g 5)) w := fun w => index8 g 5 (by omega) w
  have hx6 : ∀ w, Sem.run Try.prog (Instr.index 63 (Value.agg #[Value.int .i64 (g 0), Value.int .i64 (g 1), Value.int .i64 (g 2), Value.int .i64 (g 3), Value.int .i64 (g 4), Value.int .i64 (g 5), Value.int .i64 (g 6), Value.int .i64 (g 7)]) (.int .i64 6)) w = .ok (.int .i64 (g 6)) w := fun w => index8 g 6 (by omega) w
  have hx7 : ∀ w, Sem.run Try.prog (Instr.index 63 (Value.agg #[Value.int .i64 (g 0), Value.int .i64 (g 1), Value.int .i64 (g 2), Value.int .i64 (g 3), Value.int .i64 (g 4), Value.int .i64 (g 5), Value.int .i64 (g 6), Value.int .i64 (g 7)]) (.int .i64 7)) w = .ok (.int .i64 (g 7)) w := fun w => index8 g 7 (by omega) w
  go_enter Try.func59, Try.ntmps59
  go_wp2
  refine wp_loop_rounds 9 ?_
  rw [rounds_succ]
  go_wp2
  rw [rounds_succ]
  go_wp2
  rw [rounds_succ]
  go_wp2
  rw [rounds_succ]
  go_wp2
  rw [rounds_succ]
  go_wp2
  rw [rounds_succ]
  go_wp2
  rw [rounds_succ]
  go_wp2
  rw [rounds_succ]
  go_wp2
  rw [rounds_succ]
  go_wp2
  exact bodyPost_ret (v := Value.agg #[Value.int .i64 n, Value.int .i64 (f 0 + g 0), Value.int .i64 (f 1 + g 1), Value.int .i64 (f 2 + g 2), Value.int .i64 (f 3 + g 3), Value.int .i64 (f 4 + g 4), Value.int .i64 (f 5 + g 5), Value.int .i64 (f 6 + g 6), Value.int .i64 (f 7 + g 7)]) (by simp [results, Try.results59, go_sem]) rfl ⟨rfl, bl_alloc (bl_alloc (bl_alloc (bl_refl w) _) _) _⟩

theorem lims_at {xs : List Int} {j : Nat} {u : Value} (h : (xs.map lim)[j]? = some u) : ∃ hj : j < xs.length, u = .int .i64 xs[j] := by
  have hj : j < xs.length := by have := (List.getElem?_eq_some_iff.1 h).1; simpa using this
  exact ⟨hj, by have := (List.getElem?_eq_some_iff.1 h).2; simp [lim] at this; exact this.symm⟩
theorem add_lit (g o j : Nat) : (⟨g, o, none⟩ : Addr).add j = ⟨g, o + j, none⟩ := by unfold Addr.add; split <;> simp_all
/-- a list appended to a list of the call's own -/
theorem wp_app {w : World} {ops : Array Oper} {rest : List Oper} {o : Oper} {a : Act} {Q : Exit → Act → World → Prop} (hgd : o.guard = none) (s x : Operand)
    (ho : o.op = .call { callee := .builtin .append, args := #[s, x], argTypes := #[27, 27] }) (base : Nat) (a0 : Option Addr) (n cs : Nat) (xs : List Int) (hs : a.eval s = .slice a0 n cs) (hown : Own w base a0 n cs xs)
    (ad : Addr) (m cx : Nat) (ys : List Int) (hx : a.eval x = .slice (some ad) m cx) (hseg : Seg w (some ad) m cx ys) (h63 : n + m ≤ 1000000) (hbase : base ≤ w.heap.size)
    (h : ∀ a' c' w', Own w' base a' (n + m) c' (xs ++ ys) → w.grownBy w' (Value.slice a0 n cs).ownBlock → wpList Try.prog ops Q rest (a.put o.dst (.slice a' (n + m) c')) w') : wpList Try.prog ops Q (o :: rest) a w := by
  obtain ⟨i0, hi, hz0, hz1, hz2⟩ := info_parts Try.info3
  refine wpList_append_own w hgd s x 27 ho base 3 i0 (.int .i64 0) 1 8 Try.underlying27 hi hz0 hz1 hz2 rfl (by decide) _ n (xs.map lim) hs hown ad m cx (ys.map lim) hx (by simp [hseg.1]) ?_ (one_lims _) (by unfold maxLen; omega) (by omega) hbase ?_
  · intro j u hu
    obtain ⟨hj, rfl⟩ := lims_at hu
    rcases hseg.2.2.2 with h0 | ⟨g, o, e, hg, hc⟩
    · have := hseg.1; omega
    · cases e
      rw [add_lit]
      exact hc j hj
  · intro v' w' ho' hg' _
    obtain ⟨a', c', rfl⟩ := row_val ho'
    refine h a' c' w' (by unfold Own; rw [List.map_append]; exact ho') hg'
end Go.Proofs.Ytkfiidldappdcaa
