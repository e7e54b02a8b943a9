/- The walks of draws of words and bits, and what a draw leaves as it was. -/
import Derived.Test.YtmdohdnnhlnghaaDraw
import Derived.Test.YtmdohdnnhlnghaaFrom
import Derived.Test.YtmdohdnnhlnghaaBlk
namespace Go.Proofs.Ytmdohdnnhlnghaa
open Go.RowKit
set_option linter.unusedVariables false

theorem Only.grown {B : Nat} {w w' : World} (h : Only B w w') : w.grownBy w' (some B) := ⟨h.os, h.tape, h.output, h.size, fun k hk hn => h.block k hk (fun e => hn (by rw [e]))⟩
theorem Only.grow {B : Nat} {w wr w5 : World} {r : Option Nat} (h : Only B w wr) (hg : wr.grownBy w5 r) (hr : ∀ k, r = some k → w.heap.size ≤ k) : Only B w w5 :=
  ⟨hg.os.trans h.os, hg.tape.trans h.tape, hg.output.trans h.output, Nat.le_trans h.size hg.size, fun k hk hn => (hg.block k (Nat.lt_of_lt_of_le hk h.size) (fun e => by have := hr k e.symm; omega)).trans (h.block k hk hn)⟩
theorem Only.bel {B : Nat} {w wr w5 : World} (h : Only B w wr) (hb : Below wr.heap.size wr w5) : Only B w w5 :=
  h.grow (grown_of_below hb) (fun k e => by cases e)
theorem below_of_grown {N : Nat} {w w' : World} {r : Option Nat} (hg : w.grownBy w' r) (hr : ∀ k, r = some k → N ≤ k) (hN : N ≤ w.heap.size) : Below N w w' :=
  ⟨hg.os, hg.tape, hg.output, hg.size, fun k hk => hg.block k (by omega) (fun e => by have := hr k e.symm; omega)⟩
theorem Own.only {B : Nat} {w w' : World} {base : Nat} {a : Option Addr} {n c : Nat} {xs : List Nat} (h : Own w base a n c xs) (ho : Only B w w') (hB : B < base) : Own w' base a n c xs := by
  refine h.kept ho.grown ?_
  cases hk : (Value.slice a n c).ownBlock with
  | none => exact .inl rfl
  | some k => refine .inr fun e => ?_; have := (World.ownsRow.lt h.1 k hk).1; cases e; omega
theorem Cur.bel {B : Nat} {a : Option Addr} {len cap : Nat} {w w' : World} (h : Cur B a len cap w) (hb : Below w.heap.size w w') : Cur B a len cap w' := h.kept (hb.mono h.hB)

set_option maxHeartbeats 2000000 in
theorem wordD (B : Nat) (a : Option Addr) (len cap : Nat) (w : World) (hc : Cur B a len cap w) :
    Calls Try.prog 45 #[.pointer (some ⟨B, 0, none⟩)] w fun e w' => ∃ x : Nat, x < 4294967296 ∧ e = .returned (.int .u32 x) ∧ Cur B a len cap w' ∧ Only B w w' := by
  have hB := hc.hB
  have HC := hide hc
  clear hc
  go_enter Try.func45, Try.ntmps45
  go_wp2_with fail
  refine (belowD B a len cap _ HC.out 4 (by omega)).mono ?_
  rintro e w2 ⟨x, hx, rfl, hc2, ho2⟩
  have hx' : 0 ≤ x ∧ x < 4 := by rcases hx with h | h <;> omega
  obtain ⟨hx1, hx2⟩ := hx'
  have HON := hide ho2
  replace HC := hide hc2
  have hB2 := hc2.hB
  clear hx hc2 ho2
  by_cases h0 : x = 0
  · have e0 : (x == 0) = true := by rw [h0]; rfl
    clear h0
    go_wp2_with fail
    have hb := bl_alloc (bl_refl w2) (Obj.cells #[Value.int .i64 0, Value.int .i64 1, Value.int .i64 2, Value.int .i64 31, Value.int .i64 32, Value.int .i64 255, Value.int .i64 256, Value.int .i64 2147483647, Value.int .i64 2147483648, Value.int .i64 4294967295, Value.int .i64 4294967294] 3)
    have HCA := hide (HC.out.alloc (Obj.cells #[Value.int .i64 0, Value.int .i64 1, Value.int .i64 2, Value.int .i64 31, Value.int .i64 32, Value.int .i64 255, Value.int .i64 256, Value.int .i64 2147483647, Value.int .i64 2147483648, Value.int .i64 4294967295, Value.int .i64 4294967294] 3))
    have HPK := hide (new_ints w2 #[Value.int .i64 0, Value.int .i64 1, Value.int .i64 2, Value.int .i64 31, Value.int .i64 32, Value.int .i64 255, Value.int .i64 256, Value.int .i64 2147483647, Value.int .i64 2147483648, Value.int .i64 4294967295, Value.int .i64 4294967294] 3 (fun z => 0 ≤ z ∧ z < 4294967296) (by
      intro v hv
      simp only [List.mem_cons, List.not_mem_nil, or_false] at hv
      rcases hv with rfl | rfl | rfl | rfl | rfl | rfl | rfl | rfl | rfl | rfl | rfl
      all_goals exact ⟨_, by omega, rfl⟩) 11 (by simp))
    have zL : w2.heap.size < (w2.alloc (Obj.cells #[Value.int .i64 0, Value.int .i64 1, Value.int .i64 2, Value.int .i64 31, Value.int .i64 32, Value.int .i64 255, Value.int .i64 256, Value.int .i64 2147483647, Value.int .i64 2147483648, Value.int .i64 4294967295, Value.int .i64 4294967294] 3)).heap.size := by simp only [World.size_alloc]; omega
    replace HON := hide (HON.out.bel hb)
    clear hb HC
    generalize w2.alloc (Obj.cells #[Value.int .i64 0, Value.int .i64 1, Value.int .i64 2, Value.int .i64 31, Value.int .i64 32, Value.int .i64 255, Value.int .i64 256, Value.int .i64 2147483647, Value.int .i64 2147483648, Value.int .i64 4294967295, Value.int .i64 4294967294] 3) = w3 at *
    refine (pickIntD B a len cap _ HCA.out w2.heap.size 11 (fun z => 0 ≤ z ∧ z < 4294967296) zL (by omega) (by omega) (by omega) HPK.out).mono ?_
    rintro e w4 ⟨y, hy, rfl, hc4, ho4⟩
    obtain ⟨z, rfl⟩ := Int.eq_ofNat_of_zero_le hy.1
    have hz := hy.2
    have HF := hide (show Cur B a len cap w4 ∧ Only B w w4 from ⟨hc4, HON.out.trans ho4⟩)
    clear hc4 ho4 hy HCA HPK HON
    go_wp2
    go_ret
    exact ⟨z, by omega, rfl, HF.out⟩
  have e0 : (x == 0) = false := by rw [beq_eq_false_iff_ne]; exact h0
  by_cases h1 : x = 1
  · have e1 : (x == 1) = true := by rw [h1]; rfl
    clear h0 h1
    go_wp2_with fail
    refine (belowD B a len cap _ HC.out 300 (by omega)).mono ?_
    rintro e w4 ⟨y, hy, rfl, hc4, ho4⟩
    have hy' : 0 ≤ y ∧ y < 300 := by rcases hy with h | h <;> omega
    obtain ⟨z, rfl⟩ := Int.eq_ofNat_of_zero_le hy'.1
    have hz := hy'.2
    have HF := hide (show Cur B a len cap w4 ∧ Only B w w4 from ⟨hc4, HON.out.trans ho4⟩)
    clear hc4 ho4 hy hy' HC HON
    go_wp2
    go_ret
    exact ⟨z, by omega, rfl, HF.out⟩
  have e1 : (x == 1) = false := by rw [beq_eq_false_iff_ne]; exact h1
  clear h0 h1
  go_wp2_with fail
  refine (belowD B a len cap _ HC.out 65536 (by omega)).mono ?_
  rintro e w4 ⟨y, hy, rfl, hc4, ho4⟩
  have hy' : 0 ≤ y ∧ y < 65536 := by rcases hy with h | h <;> omega
  obtain ⟨z, rfl⟩ := Int.eq_ofNat_of_zero_le hy'.1
  have hz := hy'.2
  replace HON := hide (HON.out.trans ho4)
  replace HC := hide hc4
  clear hc4 ho4 hy hy'
  go_wp2_with fail
  refine (belowD B a len cap _ HC.out 65536 (by omega)).mono ?_
  rintro e w5 ⟨y, hy, rfl, hc5, ho5⟩
  have hy' : 0 ≤ y ∧ y < 65536 := by rcases hy with h | h <;> omega
  obtain ⟨u, rfl⟩ := Int.eq_ofNat_of_zero_le hy'.1
  have hu := hy'.2
  have HF := hide (show Cur B a len cap w5 ∧ Only B w w5 from ⟨hc5, HON.out.trans ho5⟩)
  clear hc5 ho5 hy hy' HC HON
  go_wp2
  go_ret
  exact ⟨z * 65536 + u, by omega, ret_int (by omega), HF.out⟩

theorem small_len {n : Bool} {xs : List Nat} (hs : Num.Small xs) : (lms (mk n (Num.nat xs))).length ≤ xs.length := by rw [mk_lms]; exact limbs_len_le hs
end Go.Proofs.Ytmdohdnnhlnghaa
