/- What a drawn region with one floating box leaves behind, by the box's place. -/
import Derived.Test.YtbnjgfaojaimlaaSSt
namespace Go.Proofs.Ytbnjgfaojaimlaa
open Go.RowKit
set_option linter.unusedVariables false

theorem res1_b {W0 wC : World} {lo hi : Nat} {z : Int} {a : Option Addr} {c : Nat} (h : RgS wC lo hi a (lms z).length c (lms z)) (bC : Below W0.heap.size W0 wC) :
    W0.heap.size ≤ wC.heap.size ∧ wC.heap.size < (wC.alloc (Obj.cells #[Value.bool (sgn z), Value.slice a (lms z).length c] 26)).heap.size ∧ (wC.alloc (Obj.cells #[Value.bool (sgn z), Value.slice a (lms z).length c] 26)).cell? ⟨wC.heap.size, 0, none⟩ = some (Value.bool (sgn z)) ∧ (wC.alloc (Obj.cells #[Value.bool (sgn z), Value.slice a (lms z).length c] 26)).cell? ⟨wC.heap.size, 1, none⟩ = some (Value.slice a (lms z).length c) ∧
      Seg (wC.alloc (Obj.cells #[Value.bool (sgn z), Value.slice a (lms z).length c] 26)) a (lms z).length c (lms z) ∧ Below W0.heap.size W0 (wC.alloc (Obj.cells #[Value.bool (sgn z), Value.slice a (lms z).length c] 26)) :=
  ⟨bC.size, by simp only [World.size_alloc]; omega, by go_simp, by go_simp, h.1.below (bl_alloc (bl_refl wC) _), bl_alloc bC _⟩
theorem res1_a {W0 wC : World} {N lo hi : Nat} {z : Int} {a : Option Addr} {c : Nat} (h : RgS wC lo hi a (lms z).length c (lms z)) (bC : Below W0.heap.size W0 wC) (hz : Zr wC N) (hN : W0.heap.size ≤ N) (hp : N < lo ∨ hi ≤ N) :
    W0.heap.size ≤ N ∧ N < ((wC.setCell ⟨N, 0, none⟩ (Value.bool (sgn z))).setCell ⟨N, 1, none⟩ (Value.slice a (lms z).length c)).heap.size ∧ ((wC.setCell ⟨N, 0, none⟩ (Value.bool (sgn z))).setCell ⟨N, 1, none⟩ (Value.slice a (lms z).length c)).cell? ⟨N, 0, none⟩ = some (Value.bool (sgn z)) ∧ ((wC.setCell ⟨N, 0, none⟩ (Value.bool (sgn z))).setCell ⟨N, 1, none⟩ (Value.slice a (lms z).length c)).cell? ⟨N, 1, none⟩ = some (Value.slice a (lms z).length c) ∧
      Seg ((wC.setCell ⟨N, 0, none⟩ (Value.bool (sgn z))).setCell ⟨N, 1, none⟩ (Value.slice a (lms z).length c)) a (lms z).length c (lms z) ∧ Below W0.heap.size W0 ((wC.setCell ⟨N, 0, none⟩ (Value.bool (sgn z))).setCell ⟨N, 1, none⟩ (Value.slice a (lms z).length c)) := by
  obtain ⟨g, c0, c1, f0, f1⟩ := hz
  exact ⟨hN, by simp; omega, by go_simp, by go_simp, ((h.set (p := ⟨N, 0, none⟩) hp _).set (p := ⟨N, 1, none⟩) hp _).1, (bC.setCell (p := ⟨N, 0, none⟩) hN _).setCell (p := ⟨N, 1, none⟩) hN _⟩
end Go.Proofs.Ytbnjgfaojaimlaa
