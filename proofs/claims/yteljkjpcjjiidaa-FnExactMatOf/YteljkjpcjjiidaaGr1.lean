/- The program's One. -/
import Derived.Test.YteljkjpcjjiidaaGr
import Derived.Test.YteljkjpcjjiidaaFit
namespace Go.Proofs.Yteljkjpcjjiidaa
open Go.RowKit
set_option linter.unusedVariables false
set_option maxRecDepth 20000

/-- a number as an entry -/
def numE (z : Int) : Bool × List Nat := (sgn z, lms z)
theorem numE_zero : numE 0 = (false, []) := by unfold numE; rw [zero_sgn, zero_lms]
/-- ones where row and column are alike, in the first k rows -/
def oneZ (n k : Nat) (j : Nat) : Int := if j / n = j % n ∧ j / n < k then 1 else 0
theorem oneZ_zero (n j : Nat) : oneZ n 0 j = 0 := by unfold oneZ; rw [if_neg (by omega)]
theorem oneZ_step {n k : Nat} (hk : k < n) (j : Nat) : numE (oneZ n (k + 1) j) = upd (fun j => numE (oneZ n k j)) (k * n + k) (numE 1) j := by
  have h0 : 0 < n := by omega
  have e1 : (k * n + k) / n = k := by rw [Nat.mul_comm, Nat.mul_add_div h0, Nat.div_eq_of_lt hk]; omega
  have e2 : (k * n + k) % n = k := by rw [Nat.mul_comm, Nat.mul_add_mod]; exact Nat.mod_eq_of_lt hk
  by_cases e : j = k * n + k
  · subst e
    rw [upd_same]; unfold oneZ; rw [if_pos ⟨by omega, by omega⟩]
  · rw [upd_ne _ _ e]
    congr 1
    unfold oneZ
    by_cases h : j / n = j % n ∧ j / n < k
    · rw [if_pos h, if_pos ⟨h.1, by omega⟩]
    · rw [if_neg h, if_neg ?_]
      rintro ⟨h1, h2⟩
      have h3 : j / n = k := by omega
      have := Nat.div_add_mod j n
      rw [← h1, h3, Nat.mul_comm] at this
      omega

set_option maxHeartbeats 2000000 in
theorem oneGridI (n N : Nat) (w : World) (hn : n ≤ 8) (hN : N = n * n) :
    Calls Try.prog 51 #[.int .i64 (n : Int)] w fun e w' => ∃ g A, e = .returned (Value.agg #[Value.int .i64 (n : Int), Value.int .i64 (n : Int), Value.slice (some ⟨g, 0, none⟩) N N]) ∧ BOwn w' w.heap.size g N (fun j => numE (oneZ n n j)) A ∧ Below w.heap.size w w' := by
  have hNN : (N : Int) = (n : Int) * (n : Int) := by rw [hN]; push_cast; rfl
  have HN := hide hN
  have X2 : Hid ((w.alloc (Obj.cells #[Value.int .i64 0, Value.int .i64 0, Value.slice none 0 0] 66)).heap[w.heap.size]? = some (.cells #[Value.int .i64 0, Value.int .i64 0, Value.slice none 0 0] 66 (0, 0))) := hide (hnew _ _)
  have HB := hide (bl_alloc (bl_refl w) (Obj.cells #[Value.int .i64 0, Value.int .i64 0, Value.slice none 0 0] 66))
  clear hN
  go_enter Try.func51, Try.ntmps51
  go_wp2_with fail
  generalize w.alloc (Obj.cells #[Value.int .i64 0, Value.int .i64 0, Value.slice none 0 0] 66) = w1 at *
  refine (newGridB (n : Int) (n : Int) N w1 ⟨by omega, by omega⟩ ⟨by omega, by omega⟩ hNN).mono ?_
  rintro e w2 ⟨g, rfl, ho, hb2⟩
  have HO := hide ho
  have hz1 := hlt X2.out
  replace X2 := hide (hbel X2.out hb2 hz1)
  replace HB := hide (bl_trans HB.out hb2)
  clear ho hb2
  have X3 : Hid ((w2.alloc (Obj.cells #[Value.int .i64 (n : Int), Value.int .i64 (n : Int), Value.slice (some ⟨g, 0, none⟩) N N] 66)).heap[w2.heap.size]? = some (.cells #[Value.int .i64 (n : Int), Value.int .i64 (n : Int), Value.slice (some ⟨g, 0, none⟩) N N] 66 (0, 0))) := hide (hnew _ _)
  have HO2 := hide (HO.out.below (bl_alloc (bl_refl w2) (Obj.cells #[Value.int .i64 (n : Int), Value.int .i64 (n : Int), Value.slice (some ⟨g, 0, none⟩) N N] 66)))
  have HB2 := hide (bl_trans HB.out (bl_alloc (bl_refl w2) (Obj.cells #[Value.int .i64 (n : Int), Value.int .i64 (n : Int), Value.slice (some ⟨g, 0, none⟩) N N] 66)))
  replace X2 := hide (hnewer X2.out (Obj.cells #[Value.int .i64 (n : Int), Value.int .i64 (n : Int), Value.slice (some ⟨g, 0, none⟩) N N] 66))
  have hz2 := HB.out.size
  have hg2 := HO.out.1
  have hg3 := HO.out.lt
  clear HO HB
  go_wp2
  go_loopw [9] (fun i wr => ∃ (k : Nat) (A : Nat → Option Addr × Nat), k ≤ n ∧ i = .int .i64 (k : Int) ∧ Hid (BOwn wr w1.heap.size g N (fun j => numE (oneZ n k j)) A) ∧ Hid (wr.heap[w.heap.size]? = some (.cells #[Value.int .i64 0, Value.int .i64 0, Value.slice none 0 0] 66 (0, 0))) ∧ Hid (wr.heap[w2.heap.size]? = some (.cells #[Value.int .i64 (n : Int), Value.int .i64 (n : Int), Value.slice (some ⟨g, 0, none⟩) N N] 66 (0, 0))) ∧ Hid (Below w.heap.size w wr)) (fun i _ => n - (intOf i).toNat)
  case atStart => exact ⟨0, zA, Nat.zero_le _, rfl, hide (HO2.out.congr (fun j hj => by rw [oneZ_zero, numE_zero]; rfl)), X2, X3, HB2⟩
  case round =>
    clear X2 X3 HO2 HB2
    obtain ⟨k, A, hk, rfl, hm, X2, X3, hb⟩ := hrel
    have k20 := (Lib.cell_of_heap X2.out 0).trans (show _ = some (Value.int .i64 0) from rfl)
    have f20 := Lib.frozen_of_heap X2.out 0
    have k21 := (Lib.cell_of_heap X2.out 1).trans (show _ = some (Value.int .i64 0) from rfl)
    have f21 := Lib.frozen_of_heap X2.out 1
    have k22 := (Lib.cell_of_heap X2.out 2).trans (show _ = some (Value.slice none 0 0) from rfl)
    have f22 := Lib.frozen_of_heap X2.out 2
    have z2 := hlt X2.out
    have k30 := (Lib.cell_of_heap X3.out 0).trans (show _ = some (Value.int .i64 (n : Int)) from rfl)
    have f30 := Lib.frozen_of_heap X3.out 0
    have k31 := (Lib.cell_of_heap X3.out 1).trans (show _ = some (Value.int .i64 (n : Int)) from rfl)
    have f31 := Lib.frozen_of_heap X3.out 1
    have k32 := (Lib.cell_of_heap X3.out 2).trans (show _ = some (Value.slice (some ⟨g, 0, none⟩) N N) from rfl)
    have f32 := Lib.frozen_of_heap X3.out 2
    have z3 := hlt X3.out
    by_cases hkn : k < n
    · have hkn' : (k : Int) < (n : Int) := by omega
      go_wp2_with fail
      refine (rowB0 (n : Int) n g N N k wr ⟨by omega, by omega⟩ hn hNN hkn' (Nat.le_refl _) hm.out.max).mono ?_
      rintro e w4 ⟨a', rfl, ha, hb4⟩
      obtain rfl := ha (by omega)
      have hm4 := hide (hm.out.below hb4)
      replace X2 := hide (hbel X2.out hb4 z2)
      replace X3 := hide (hbel X3.out hb4 z3)
      replace hb := hide (bl_trans hb.out hb4)
      clear ha hb4 hm
      go_wp2_with fail
      refine (fromI 1 w4 (by omega) (by omega)).mono ?_
      rintro e w5 ⟨v, rfl, ⟨b5, d5, rfl, ho5⟩, hb5⟩
      have hi : k * n + k < N := by
        have h1 := HN.out
        have h2 : k * n + n ≤ n * n := by rw [← Nat.succ_mul]; exact Nat.mul_le_mul_right n hkn
        omega
      have hput := hide (hm4.out.fresh hb5 hi (sgn 1) ho5)
      obtain ⟨D0, D1, F0, F1⟩ := (hm4.out.below hb5).cells hi
      have hq : (k * n + k) * 2 = k * n * 2 + k * 2 := by omega
      rw [hq] at D0 D1 F0 F1 hput
      clear hq
      have X2' := hide (hbel X2.out hb5 (by have := hlt X2.out; omega))
      have X3' := hide (hbel X3.out hb5 (by have := hlt X3.out; omega))
      have hst := (((St.refl g w5).set (k * n * 2 + k * 2) (.bool (sgn 1))).set (k * n * 2 + k * 2 + 1) (.slice b5 (lms 1).length d5))
      have HB5 := hide (St.below (bl_trans hb.out hb5) hst (by omega))
      have X25 := hide (hst.heap X2'.out (by omega))
      have X35 := hide (hst.heap X3'.out (by omega))
      clear hst hb5 ho5 hm4 X2 X3 X2' X3' hb
      go_wp2
      exact ⟨⟨k + 1, _, by omega, by go_num, hide (hput.out.congr fun j hj => (oneZ_step hkn j).symm), X25, X35, HB5⟩, by simp [intOf]; omega⟩
    · obtain rfl : k = n := by omega
      go_wp2
      refine bodyPost_ret (v := Value.agg #[Value.int .i64 (k : Int), Value.int .i64 (k : Int), Value.slice (some ⟨g, 0, none⟩) N N]) (by simp [results, Try.results51, go_sem, *]) rfl ?_
      have hst := (((St.refl w.heap.size wr).set 0 (.int .i64 (k : Int))).set 1 (.int .i64 (k : Int))).set 2 (.slice (some ⟨g, 0, none⟩) N N)
      exact ⟨g, A, rfl, (BOwn.st hm.out hst (by omega)).mono (by omega), St.below hb.out hst (Nat.le_refl _)⟩
end Go.Proofs.Yteljkjpcjjiidaa
