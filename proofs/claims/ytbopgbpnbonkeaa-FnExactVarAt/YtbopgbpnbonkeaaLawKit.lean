/- What the walks of exact laws share: owned lists with the range in which they lie, marks from any number on. -/
import Derived.Test.YtbopgbpnbonkeaaLawBase
import Derived.Test.YtbopgbpnbonkeaaDLimb
namespace Go.Proofs.Ytbopgbpnbonkeaa
open Go.RowKit
set_option linter.unusedVariables false

/-- a list in memory of its own, in a block from lo on to below hi -/
def OwnR (W : World) (lo hi : Nat) (a : Option Addr) (n cap : Nat) (xs : List Nat) : Prop := Own W lo a n cap xs ∧ ∀ k, (Value.slice a n cap).ownBlock = some k → k < hi
theorem Own.range {W : World} {lo : Nat} {a : Option Addr} {n cap : Nat} {xs : List Nat} (h : Own W lo a n cap xs) : OwnR W lo W.heap.size a n cap xs := ⟨h, fun k e => (h.1.lt k e).2⟩
theorem OwnR.alloc {W : World} {lo hi : Nat} {a : Option Addr} {n cap : Nat} {xs : List Nat} (h : OwnR W lo hi a n cap xs) (o : Obj) : OwnR (W.alloc o) lo hi a n cap xs := ⟨h.1.below (bl_alloc (bl_refl W) o), h.2⟩
theorem OwnR.drew {W : World} {lo hi : Nat} {a : Option Addr} {n cap : Nat} {xs : List Nat} (h : OwnR W lo hi a n cap xs) : OwnR W.drew lo hi a n cap xs := ⟨h.1.below (bl_refl W).drew, h.2⟩
theorem grown_set (W : World) (p : Addr) (v : Value) : W.grownBy (W.setCell p v) (some p.block) :=
  ⟨rfl, rfl, rfl, by simp, fun k _ hk => heap_setCell_other W p k _ (fun e => hk (by simp [e]))⟩
theorem OwnR.set {W : World} {lo hi : Nat} {a : Option Addr} {n cap : Nat} {xs : List Nat} (h : OwnR W lo hi a n cap xs) {p : Addr} (hp : p.block < lo ∨ hi ≤ p.block) (v : Value) : OwnR (W.setCell p v) lo hi a n cap xs := by
  refine ⟨h.1.kept (grown_set W p v) ?_, h.2⟩
  cases hk : (Value.slice a n cap).ownBlock with
  | none => exact .inl rfl
  | some k =>
    refine .inr fun e => ?_
    have h1 := (h.1.1.lt k hk).1
    have h2 := h.2 k hk
    cases e
    omega
theorem OwnR.seg {W : World} {lo hi : Nat} {a : Option Addr} {n cap : Nat} {xs : List Nat} (h : OwnR W lo hi a n cap xs) : Seg W a n cap xs := h.1.seg
end Go.Proofs.Ytbopgbpnbonkeaa
