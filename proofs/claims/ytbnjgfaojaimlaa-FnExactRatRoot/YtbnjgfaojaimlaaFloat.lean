/- Boxes that a region makes at any place among its calls: what is known of one that a call finds. -/
import Derived.Test.YtbnjgfaojaimlaaLawKit
namespace Go.Proofs.Ytbnjgfaojaimlaa
open Go.RowKit
set_option linter.unusedVariables false

/-- a box of a number that nothing is stored in yet -/
def Zr (w : World) (N : Nat) : Prop := N < w.heap.size ∧ w.cell? ⟨N, 0, none⟩ = some (.bool false) ∧ w.cell? ⟨N, 1, none⟩ = some (.slice none 0 0) ∧ w.frozen? ⟨N, 0, none⟩ = false ∧ w.frozen? ⟨N, 1, none⟩ = false
theorem Zr.below {w w' : World} {N : Nat} (h : Zr w N) (hb : Below w.heap.size w w') : Zr w' N :=
  ⟨Nat.lt_of_lt_of_le h.1 hb.size, (hb.cell (p := ⟨N, 0, none⟩) h.1).trans h.2.1, (hb.cell (p := ⟨N, 1, none⟩) h.1).trans h.2.2.1, (hb.frozen (p := ⟨N, 0, none⟩) h.1).trans h.2.2.2.1, (hb.frozen (p := ⟨N, 1, none⟩) h.1).trans h.2.2.2.2⟩
theorem zr_alloc (W : World) : Zr (W.alloc (Obj.cells #[Value.bool false, Value.slice none 0 0] 26)) W.heap.size :=
  ⟨by simp only [World.size_alloc]; omega, by go_simp, by go_simp, by go_simp, by go_simp⟩
theorem born1 {W w : World} (hb : Below (W.alloc (Obj.cells #[Value.bool false, Value.slice none 0 0] 26)).heap.size (W.alloc (Obj.cells #[Value.bool false, Value.slice none 0 0] 26)) w) : Zr w W.heap.size := (zr_alloc W).below hb
theorem born2 {W w : World} (hb : Below ((W.alloc (Obj.cells #[Value.bool false, Value.slice none 0 0] 26)).alloc (Obj.cells #[Value.bool false, Value.slice none 0 0] 26)).heap.size ((W.alloc (Obj.cells #[Value.bool false, Value.slice none 0 0] 26)).alloc (Obj.cells #[Value.bool false, Value.slice none 0 0] 26)) w) : Zr w W.heap.size ∧ Zr w (W.heap.size + 1) :=
  ⟨((zr_alloc W).below (bl_alloc (bl_refl _) _)).below hb, by have := (zr_alloc (W.alloc (Obj.cells #[Value.bool false, Value.slice none 0 0] 26))).below hb; rw [World.size_alloc] at this; exact this⟩
/-- where the world at hand stands against the one behind the call before -/
theorem bl_one {W : World} {o : Obj} {w : World} (hb : Below (W.alloc o).heap.size (W.alloc o) w) : Below W.heap.size W w := bl_trans (bl_alloc (bl_refl W) o) hb
theorem bl_two {W : World} {o o' : Obj} {w : World} (hb : Below ((W.alloc o).alloc o').heap.size ((W.alloc o).alloc o') w) : Below W.heap.size W w := bl_trans (bl_alloc (bl_alloc (bl_refl W) o) o') hb
end Go.Proofs.Ytbnjgfaojaimlaa
