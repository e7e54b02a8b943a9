/- The program's grids of ints: one that is made, a row of it. -/
import Derived.Test.YteljkjpcjjiidaaGr1
import Derived.Test.YteljkjpcjjiidaaIl
namespace Go.Proofs.Yteljkjpcjjiidaa
open Go.RowKit
set_option linter.unusedVariables false
set_option maxRecDepth 20000

set_option maxHeartbeats 1000000 in
theorem newGridI (R C : Int) (n : Nat) (w : World) (hR : 0 ≤ R ∧ R ≤ 8) (hC : 0 ≤ C ∧ C ≤ 8) (hn : (n : Int) = R * C) :
    Calls Try.prog 73 #[.int .i64 R, .int .i64 C] w fun e w' => ∃ g, e = .returned (.agg #[.int .i64 R, .int .i64 C, .slice (some ⟨g, 0, none⟩) n n]) ∧ V.Own w' w.heap.size (some ⟨g, 0, none⟩) n n (List.replicate n 0) ∧ Below w.heap.size w w' := by
  obtain ⟨i0, hi, hz0, hz1, hz2⟩ := info_parts V.Try.info3
  have hp1 : R * C ≤ 64 := by
    have := Int.mul_le_mul hR.2 hC.2 hC.1 (by omega)
    omega
  have hn64 : n ≤ 64 := by omega
  have HN := hide hn
  have hp0 : 0 ≤ R * C := by omega
  clear hn
  go_enter Try.func73, Try.ntmps73
  go_wp2_with (at_make; refine wpList_make_full _ rfl _ _ 59 rfl (w.heap.size + 1) 3 i0 (.int .i64 0) 1 Try.underlying59 hi hz0 hz1 _ _ _ _ n rfl rfl HN.out.symm HN.out.symm (by rw [hz2]; omega) (by unfold maxLen; omega) (by simp only [World.size_alloc]; omega) ?_)
  intro w1 hown hgrow
  have HO := hide (V.own_made (by simpa using hown))
  have HB := hide (((bl_alloc (bl_refl w) (Obj.cells #[Value.int .i64 0, Value.int .i64 0, Value.slice none 0 0] 63))).grown hgrow (bl_alloc (bl_refl w) _).size (fun k e => by cases e))
  have X : Hid (w1.heap[w.heap.size]? = some (.cells #[Value.int .i64 0, Value.int .i64 0, Value.slice none 0 0] 63 (0, 0))) := hide ((hgrow.block _ (by simp) (fun e => by cases e)).trans (hnew _ _))
  have hz := hlt X.out
  clear hown hgrow
  have k0 : w1.cell? ⟨w.heap.size, 0, none⟩ = some (Value.int .i64 0) := (Lib.cell_of_heap X.out 0).trans rfl
  have k1 : w1.cell? ⟨w.heap.size, 1, none⟩ = some (Value.int .i64 0) := (Lib.cell_of_heap X.out 1).trans rfl
  have k2 : w1.cell? ⟨w.heap.size, 2, none⟩ = some (Value.slice none 0 0) := (Lib.cell_of_heap X.out 2).trans rfl
  have f0 : w1.frozen? ⟨w.heap.size, 0, none⟩ = false := Lib.frozen_of_heap X.out 0
  have f1 : w1.frozen? ⟨w.heap.size, 1, none⟩ = false := Lib.frozen_of_heap X.out 1
  have f2 : w1.frozen? ⟨w.heap.size, 2, none⟩ = false := Lib.frozen_of_heap X.out 2
  go_wp2
  refine bodyPost_ret (v := .agg #[.int .i64 R, .int .i64 C, .slice (some ⟨w.heap.size + 1, 0, none⟩) n n]) (by simp [results, Try.results73, go_sem, *]) rfl ?_
  have hst := (((St.refl w.heap.size w1).set 0 (.int .i64 R)).set 1 (.int .i64 C)).set 2 (.slice (some ⟨w.heap.size + 1, 0, none⟩) n n)
  refine ⟨_, rfl, ?_, St.below HB.out hst (Nat.le_refl _)⟩
  exact ((((HO.out.setCell (p := ⟨w.heap.size, 0, none⟩) (by dsimp only; omega) _).setCell (p := ⟨w.heap.size, 1, none⟩) (by dsimp only; omega) _).setCell (p := ⟨w.heap.size, 2, none⟩) (by dsimp only; omega) _)).mono (by omega)

set_option maxHeartbeats 1000000 in
theorem rowI (R : Int) (c g n cap r : Nat) (w : World) (hR : 0 ≤ R ∧ R ≤ 8) (hC : c ≤ 8) (hn : (n : Int) = R * (c : Int)) (hr : (r : Int) < R) (hc : n ≤ cap) (hm : cap ≤ 9223372036854775807) :
    Calls Try.prog 74 #[.agg #[.int .i64 R, .int .i64 (c : Int), .slice (some ⟨g, 0, none⟩) n cap], .int .i64 r] w fun e w' => ∃ a', e = .returned (.slice a' c c) ∧ RowAt g (r * c) c a' ∧ Below w.heap.size w w' := by
  have h1 : (r : Int) * (c : Int) + (c : Int) ≤ (n : Int) := by
    rw [hn]
    have : ((r : Int) + 1) * (c : Int) ≤ R * (c : Int) := Int.mul_le_mul_of_nonneg_right (by omega) (by omega)
    rw [Int.add_mul, Int.one_mul] at this; exact this
  have h0 : 0 ≤ (r : Int) * (c : Int) := Int.mul_nonneg (by omega) (by omega)
  have h2 : ((r : Int) + 1) * (c : Int) = (r : Int) * (c : Int) + (c : Int) := by rw [Int.add_mul, Int.one_mul]
  have hn64 : (n : Int) ≤ 64 := by
    have := Int.mul_le_mul hR.2 (show (c : Int) ≤ 8 by omega) (by omega) (by omega)
    omega
  obtain ⟨q, hq⟩ : ∃ q : Nat, (r : Int) * (c : Int) = (q : Int) := ⟨r * c, by push_cast; rfl⟩
  have hqq : r * c = q := by have : ((r * c : Nat) : Int) = (q : Int) := by rw [← hq]; push_cast; rfl
                             exact Int.ofNat_inj.1 this
  rw [hqq]
  have h3 : ((r : Int) + 1) * (c : Int) = (q : Int) + (c : Int) := by rw [h2, hq]
  rw [hq] at h1 h0
  clear h2 hqq hn
  have HB := hide (bl_alloc (bl_refl w) (Obj.cells #[.int .i64 R, .int .i64 (c : Int), .slice (some ⟨g, 0, none⟩) n cap] 63))
  by_cases hc0 : c = 0
  · subst hc0
    go_enter Try.func74, Try.ntmps74
    go_wp2_with fail
    go_region
    all_goals go_wp2
    all_goals go_ret
    all_goals exact ⟨_, rfl, fun h => absurd rfl h, by first | exact HB.out | exact HB.out.drew | exact below_drewN HB.out _⟩
  · have hne : ¬ q + c = q := by omega
    go_enter Try.func74, Try.ntmps74
    go_wp2_with fail
    go_region
    all_goals go_wp2
    all_goals go_ret
    all_goals exact ⟨_, ret_sl (by omega), fun _ => by simp, by first | exact HB.out | exact HB.out.drew | exact below_drewN HB.out _⟩
end Go.Proofs.Yteljkjpcjjiidaa
