/- The walk of list. -/
import Derived.Test.YtkfiidldappdcaaDiv
namespace Go.Proofs.Ytkfiidldappdcaa
open Go.RowKit
set_option linter.unusedVariables false

/-- the first n of eight places as a list -/
def lst8 (n : Nat) (f : Nat → Int) : List Int := (List.range n).map f
theorem lst8_len (n : Nat) (f : Nat → Int) : (lst8 n f).length = n := by simp [lst8]
theorem lst8_at (n : Nat) (f : Nat → Int) (j : Nat) (h : j < (lst8 n f).length) : (lst8 n f)[j] = f j := by simp [lst8]

set_option maxHeartbeats 400000 in
theorem list8 (n : Nat) (f : Nat → Int) (w : World) (hn : n ≤ 8) :
    Calls Try.prog 74 #[Value.agg #[Value.int .i64 (n : Int), Value.int .i64 (f 0), Value.int .i64 (f 1), Value.int .i64 (f 2), Value.int .i64 (f 3), Value.int .i64 (f 4), Value.int .i64 (f 5), Value.int .i64 (f 6), Value.int .i64 (f 7)]] w fun e w' => ∃ a c, e = .returned (.slice a n c) ∧ Own w' w.heap.size a n c (lst8 n f) ∧ Below w.heap.size w w' := by
  have hc : ∀ j, j < 8 → (w.alloc (Obj.cells #[Value.int .i64 (n : Int), Value.int .i64 (f 0), Value.int .i64 (f 1), Value.int .i64 (f 2), Value.int .i64 (f 3), Value.int .i64 (f 4), Value.int .i64 (f 5), Value.int .i64 (f 6), Value.int .i64 (f 7)] 65)).cell? ⟨w.heap.size, 1 + j, none⟩ = some (Value.int .i64 (f j)) := fun j hj => by
    have : j = 0 ∨ j = 1 ∨ j = 2 ∨ j = 3 ∨ j = 4 ∨ j = 5 ∨ j = 6 ∨ j = 7 := by omega
    rcases this with rfl | rfl | rfl | rfl | rfl | rfl | rfl | rfl <;> go_simp
  have hseg : Seg (w.alloc (Obj.cells #[Value.int .i64 (n : Int), Value.int .i64 (f 0), Value.int .i64 (f 1), Value.int .i64 (f 2), Value.int .i64 (f 3), Value.int .i64 (f 4), Value.int .i64 (f 5), Value.int .i64 (f 6), Value.int .i64 (f 7)] 65)) (some ⟨w.heap.size, 1, none⟩) n 8 (lst8 n f) :=
    ⟨lst8_len n f, hn, by omega, .inr ⟨w.heap.size, 1, rfl, by simp only [World.size_alloc]; omega, fun j hj => by rw [lst8_at]; exact hc j (by rw [lst8_len] at hj; omega)⟩⟩
  have HSG := hide hseg
  have HO := hide (Own.nil (w.alloc (Obj.cells #[Value.int .i64 (n : Int), Value.int .i64 (f 0), Value.int .i64 (f 1), Value.int .i64 (f 2), Value.int .i64 (f 3), Value.int .i64 (f 4), Value.int .i64 (f 5), Value.int .i64 (f 6), Value.int .i64 (f 7)] 65)) w.heap.size)
  have HB := hide (bl_alloc (bl_refl w) (Obj.cells #[Value.int .i64 (n : Int), Value.int .i64 (f 0), Value.int .i64 (f 1), Value.int .i64 (f 2), Value.int .i64 (f 3), Value.int .i64 (f 4), Value.int .i64 (f 5), Value.int .i64 (f 6), Value.int .i64 (f 7)] 65))
  have h0 : (0 : Int) ≤ (n : Int) := by omega
  have h8 : (n : Int) ≤ 8 := by omega
  clear hc hseg
  go_enter Try.func74, Try.ntmps74
  go_wp2_with (at_builtin; refine wp_app rfl _ _ rfl w.heap.size none 0 0 [] rfl HO.out ⟨w.heap.size, 1, none⟩ n 8 (lst8 n f) rfl HSG.out (by omega) (by simp) ?_; intro aa cc w2 ho2 hg2; have HO2 := hide ho2; have HG2 := hide hg2; clear ho2 hg2)
  go_ret
  exact ⟨aa, cc, rfl, by simpa using HO2.out, HB.out.grown HG2.out HB.out.size (by simp [Value.ownBlock])⟩
end Go.Proofs.Ytkfiidldappdcaa
