/- My texts LawKit, Float, in this order. -/
import Derived.Test.YthjapjbiclkhcaaPk16
import Derived.Test.YthjapjbiclkhcaaPk13
/- What the walks of exact laws share: owned lists with the range in which they lie, marks from any number on. -/
namespace Go.Proofs.Ythjapjbiclkhcaa
open Go.RowKit
set_option linter.unusedVariables false

/-- a list in memory of its own, in a block from lo on to below hi -/
def OwnR (W : World) (lo hi : Nat) (a : Option Addr) (n cap : Nat) (xs : List Nat) : Prop := Own W lo a n cap xs ∧ ∀ k, (Value.slice a n cap).ownBlock = some k → k < hi
theorem Own.range {W : World} {lo : Nat} {a : Option Addr} {n cap : Nat} {xs : List Nat} (h : Own W lo a n cap xs) : OwnR W lo W.heap.size a n cap xs := ⟨h, fun k e => (h.1.lt k e).2⟩
theorem OwnR.alloc {W : World} {lo hi : Nat} {a : Option Addr} {n cap : Nat} {xs : List Nat} (h : OwnR W lo hi a n cap xs) (o : Obj) : OwnR (W.alloc o) lo hi a n cap xs := ⟨h.1.below (bl_alloc (bl_refl W) o), h.2⟩
theorem OwnR.drew {W : World} {lo hi : Nat} {a : Option Addr} {n cap : Nat} {xs : List Nat} (h : OwnR W lo hi a n cap xs) : OwnR W.drew lo hi a n cap xs := ⟨h.1.below (bl_refl W).drew, h.2⟩
theorem grown_set (W : World) (p : Addr) (v : Value) : W.grownBy (W.setCell p v) (some p.block) :=
  ⟨rfl, rfl, rfl, by simp, fun k _ hk => heap_setCell_other W p k _ (fun e => hk (by simp [e]))⟩
theorem OwnR.set {W : World} {lo hi : Nat} {a : Option Addr} {n cap : Nat} {xs : List Nat} (h : OwnR W lo hi a n cap xs) {p : Addr} (hp : p.block < lo ∨ hi ≤ p.block) (v : Value) : OwnR (W.setCell p v) lo hi a n cap xs := by
  refine ⟨h.1.kept (grown_set W p v) ?_, h.2⟩
  cases hk : (Value.slice a n cap).ownBlock with
  | none => exact .inl rfl
  | some k =>
    refine .inr fun e => ?_
    have h1 := (h.1.1.lt k hk).1
    have h2 := h.2 k hk
    cases e
    omega
theorem OwnR.seg {W : World} {lo hi : Nat} {a : Option Addr} {n cap : Nat} {xs : List Nat} (h : OwnR W lo hi a n cap xs) : Seg W a n cap xs := h.1.seg
end Go.Proofs.Ythjapjbiclkhcaa

/- Boxes that a region makes at any place among its calls: what is known of one that a call finds. -/
namespace Go.Proofs.Ythjapjbiclkhcaa
open Go.RowKit
set_option linter.unusedVariables false

/-- a box of a number that nothing is stored in yet -/
def Zr (w : World) (N : Nat) : Prop := N < w.heap.size ∧ w.cell? ⟨N, 0, none⟩ = some (.bool false) ∧ w.cell? ⟨N, 1, none⟩ = some (.slice none 0 0) ∧ w.frozen? ⟨N, 0, none⟩ = false ∧ w.frozen? ⟨N, 1, none⟩ = false
theorem Zr.below {w w' : World} {N : Nat} (h : Zr w N) (hb : Below w.heap.size w w') : Zr w' N :=
  ⟨Nat.lt_of_lt_of_le h.1 hb.size, (hb.cell (p := ⟨N, 0, none⟩) h.1).trans h.2.1, (hb.cell (p := ⟨N, 1, none⟩) h.1).trans h.2.2.1, (hb.frozen (p := ⟨N, 0, none⟩) h.1).trans h.2.2.2.1, (hb.frozen (p := ⟨N, 1, none⟩) h.1).trans h.2.2.2.2⟩
theorem zr_alloc (W : World) : Zr (W.alloc (Obj.cells #[Value.bool false, Value.slice none 0 0] 26)) W.heap.size :=
  ⟨by simp only [World.size_alloc]; omega, by go_simp, by go_simp, by go_simp, by go_simp⟩
theorem born1 {W w : World} (hb : Below (W.alloc (Obj.cells #[Value.bool false, Value.slice none 0 0] 26)).heap.size (W.alloc (Obj.cells #[Value.bool false, Value.slice none 0 0] 26)) w) : Zr w W.heap.size := (zr_alloc W).below hb
theorem born2 {W w : World} (hb : Below ((W.alloc (Obj.cells #[Value.bool false, Value.slice none 0 0] 26)).alloc (Obj.cells #[Value.bool false, Value.slice none 0 0] 26)).heap.size ((W.alloc (Obj.cells #[Value.bool false, Value.slice none 0 0] 26)).alloc (Obj.cells #[Value.bool false, Value.slice none 0 0] 26)) w) : Zr w W.heap.size ∧ Zr w (W.heap.size + 1) :=
  ⟨((zr_alloc W).below (bl_alloc (bl_refl _) _)).below hb, by have := (zr_alloc (W.alloc (Obj.cells #[Value.bool false, Value.slice none 0 0] 26))).below hb; rw [World.size_alloc] at this; exact this⟩
/-- where the world at hand stands against the one behind the call before -/
theorem bl_one {W : World} {o : Obj} {w : World} (hb : Below (W.alloc o).heap.size (W.alloc o) w) : Below W.heap.size W w := bl_trans (bl_alloc (bl_refl W) o) hb
theorem bl_two {W : World} {o o' : Obj} {w : World} (hb : Below ((W.alloc o).alloc o').heap.size ((W.alloc o).alloc o') w) : Below W.heap.size W w := bl_trans (bl_alloc (bl_alloc (bl_refl W) o) o') hb
end Go.Proofs.Ythjapjbiclkhcaa
