/- The specification's One: at any int. -/
import Derived.Test.YteljkjpcjjiidaaMatS
import Derived.Test.YteljkjpcjjiidaaOneI
namespace Go.Proofs.Yteljkjpcjjiidaa
open Go.RowKit
set_option linter.unusedVariables false
set_option maxRecDepth 20000

theorem oneZ_id (n i : Nat) (hi : i < n * n) : numE (oneZ n n i) = flat n idZ i := by
  unfold flat oneZ idZ
  have h0 : 0 < n := by
    rcases Nat.eq_zero_or_pos n with h | h
    · subst h; simp at hi
    · exact h
  have h1 : i / n < n := (Nat.div_lt_iff_lt_mul h0).2 hi
  by_cases e : i / n = i % n
  · rw [if_pos ⟨e, h1⟩, if_pos e]
  · rw [if_neg (fun h => e h.1), if_neg e]
theorem idZ_len (r j : Nat) : (lms (idZ r j)).length ≤ 1048576 := by
  unfold idZ
  split
  · exact Nat.le_trans (Num.limbs_len.2 (show (1 : Int).natAbs < 4294967296 ^ 1 by decide)) (by decide)
  · rw [zero_lms]; simp

set_option maxHeartbeats 2000000 in
theorem oneS_no (x : Int) (w : World) (hx : sideB x = false) :
    Calls Try.prog 23 #[.int .i64 x] w fun e w' => e = .returned (.agg #[.int .i64 0, .int .i64 0, .slice none 0 0]) ∧ Below w.heap.size w w' := by
  have HX := hide hx
  clear hx
  have X : Hid ((w.alloc (Obj.cells #[.int .i64 0, .int .i64 0, .slice none 0 0] 29)).heap[w.heap.size]? = some (.cells #[.int .i64 0, .int .i64 0, .slice none 0 0] 29 (0, 0))) := hide (hnew _ _)
  have HB := hide (bl_alloc (bl_refl w) (Obj.cells #[.int .i64 0, .int .i64 0, .slice none 0 0] 29))
  go_enter Try.func23, Try.ntmps23
  go_wp2_with fail
  generalize w.alloc (Obj.cells #[.int .i64 0, .int .i64 0, .slice none 0 0] 29) = w1 at *
  have k0 := (Lib.cell_of_heap X.out 0).trans (show _ = some (Value.int .i64 0) from rfl)
  have k1 := (Lib.cell_of_heap X.out 1).trans (show _ = some (Value.int .i64 0) from rfl)
  have k2 := (Lib.cell_of_heap X.out 2).trans (show _ = some (Value.slice none 0 0) from rfl)
  have f0 := Lib.frozen_of_heap X.out 0
  have f1 := Lib.frozen_of_heap X.out 1
  have f2 := Lib.frozen_of_heap X.out 2
  refine (inSide x w1).mono ?_
  rintro e w2 ⟨rfl, hw⟩
  subst w2
  rw [HX.out]
  go_wp2
  refine bodyPost_ret (v := .agg #[.int .i64 0, .int .i64 0, .slice none 0 0]) (by simp [results, Try.results23, go_sem, *]) rfl ?_
  exact ⟨rfl, St.below HB.out ((((St.refl w.heap.size w1).set 0 (.int .i64 0)).set 1 (.int .i64 0)).set 2 (.slice none 0 0)) (Nat.le_refl _)⟩

set_option maxHeartbeats 2000000 in
theorem oneS_yes (n N : Nat) (w : World) (hn : n ≤ 8) (hN : N = n * n) :
    Calls Try.prog 23 #[.int .i64 (n : Int)] w fun e w' => ∃ a p, e = .returned (.agg #[.int .i64 (n : Int), .int .i64 (n : Int), .slice a N p]) ∧ BSeg w' (fun b => w.heap.size ≤ b ∧ b < w'.heap.size) a N p (fun j => numE (oneZ n n j)) ∧ Below w.heap.size w w' := by
  have HX : Hid (sideB (n : Int) = true) := hide (side_iff.2 ⟨by omega, by omega⟩)
  have HN := hide hN
  clear hN
  have X : Hid ((w.alloc (Obj.cells #[.int .i64 0, .int .i64 0, .slice none 0 0] 29)).heap[w.heap.size]? = some (.cells #[.int .i64 0, .int .i64 0, .slice none 0 0] 29 (0, 0))) := hide (hnew _ _)
  have HB := hide (bl_alloc (bl_refl w) (Obj.cells #[.int .i64 0, .int .i64 0, .slice none 0 0] 29))
  go_enter Try.func23, Try.ntmps23
  go_wp2_with fail
  generalize w.alloc (Obj.cells #[.int .i64 0, .int .i64 0, .slice none 0 0] 29) = w1 at *
  refine (inSide (n : Int) w1).mono ?_
  rintro e w2 ⟨rfl, hw⟩
  subst w2
  rw [HX.out]
  go_wp2_with fail
  refine (oneRowsS n w1 hn).mono ?_
  rintro e w2 ⟨a, p, rfl, hs, hb2⟩
  have HS := hide hs
  have hz1 := hlt X.out
  replace X := hide (hbel X.out hb2 hz1)
  replace HB := hide (bl_trans HB.out hb2)
  clear hs hb2
  go_wp2_with fail
  refine (matS a n p n _ idZ w2 HS.out hn hn (fun r j _ _ => idZ_len r j)).mono ?_
  rintro e w3 ⟨a', p', rfl, hs, hb3⟩
  have HS3 := hide hs
  have hz2 := hlt X.out
  replace X := hide (hbel X.out hb3 hz2)
  replace HB := hide (bl_trans HB.out hb3)
  clear hs hb3 HS
  have k0 := (Lib.cell_of_heap X.out 0).trans (show _ = some (Value.int .i64 0) from rfl)
  have k1 := (Lib.cell_of_heap X.out 1).trans (show _ = some (Value.int .i64 0) from rfl)
  have k2 := (Lib.cell_of_heap X.out 2).trans (show _ = some (Value.slice none 0 0) from rfl)
  have f0 := Lib.frozen_of_heap X.out 0
  have f1 := Lib.frozen_of_heap X.out 1
  have f2 := Lib.frozen_of_heap X.out 2
  go_wp2
  refine bodyPost_ret (v := .agg #[.int .i64 (n : Int), .int .i64 (n : Int), .slice a' (n * n) p']) (by simp [results, Try.results23, go_sem, *]) rfl ?_
  have hst := (((St.refl w.heap.size w3).set 0 (.int .i64 (n : Int))).set 1 (.int .i64 (n : Int))).set 2 (.slice a' (n * n) p')
  refine ⟨a', p', by rw [HN.out], ?_, St.below HB.out hst (Nat.le_refl _)⟩
  rw [HN.out]
  exact ((HS3.out.chg (P := fun k => k = w.heap.size) (Chg.grown hst.grown (fun k e => by cases e; rfl)) (fun b hb e => by omega)).mono (fun b hb => by have := hst.size; omega)).congr (fun j hj => (oneZ_id n j hj).symm)
end Go.Proofs.Yteljkjpcjjiidaa
