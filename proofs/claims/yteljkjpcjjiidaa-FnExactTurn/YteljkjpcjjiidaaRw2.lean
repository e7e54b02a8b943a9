/- What the walks say of memory: rows whose numbers' limbs lie elsewhere. -/
import Derived.Test.YteljkjpcjjiidaaRw
namespace Go.Proofs.Yteljkjpcjjiidaa
open Go.RowKit
set_option linter.unusedVariables false
set_option maxRecDepth 20000

theorem RowL.segs2 {W : World} {base : Nat} {v : Value} {k c : Nat} {F : Nat → Nat → Bool × List Nat} {vs : List Value} (h : RowL W base v k c F vs) : ∃ a p, v = .slice a k p ∧ RSegs W (fun b => base ≤ b ∧ b < W.heap.size) a k p c F := by
  have hr := h.1
  rcases h.1.2 with ⟨h1, h2⟩ | ⟨g, cap, cur, hv, hg, hh, hn, hc, hs, ht⟩
  · subst h2
    exact ⟨none, 0, h1, Nat.le_refl _, by omega, .inl rfl⟩
  · subst hv
    refine ⟨_, _, rfl, hn, hc, .inr ⟨g, 0, rfl, (Array.getElem?_eq_some_iff.1 hh).1, fun j hj => ?_⟩⟩
    obtain ⟨a, q, h1, h2⟩ := h.2 j hj
    exact ⟨a, q, by rw [Nat.zero_add, hr.cellAt j (by omega)]; exact h1, h2.mono (fun b hb => ⟨hb.1, hb.2.2⟩)⟩
theorem RSegs.mono {W : World} {X Y : Nat → Prop} {a : Option Addr} {n cap c : Nat} {F : Nat → Nat → Bool × List Nat} (h : RSegs W X a n cap c F) (hX : ∀ k, X k → Y k) : RSegs W Y a n cap c F := by
  obtain ⟨h1, h2, h3⟩ := h
  refine ⟨h1, h2, ?_⟩
  rcases h3 with h3 | ⟨g, o, ha, hg, hc⟩
  · exact .inl h3
  · refine .inr ⟨g, o, ha, hg, fun r hr => ?_⟩
    obtain ⟨b, p, q1, q2⟩ := hc r hr
    exact ⟨b, p, q1, q2.mono hX⟩
/-- a list of numbers that grows, from lo on; the limbs in blocks of X, below lo -/
def BRowX (W : World) (lo : Nat) (X : Nat → Prop) (v : Value) (k : Nat) (E : Nat → Bool × List Nat) (vs : List Value) : Prop :=
  W.ownsRow lo 54 2 v k vs ∧ ∀ j, j < k → ∃ a c, vs[j * 2]? = some (.bool (E j).1) ∧ vs[j * 2 + 1]? = some (.slice a (E j).2.length c) ∧ Seg W a (E j).2.length c (E j).2 ∧ ∀ q, a = some q → X q.block
theorem BRowX.lit (w : World) (lo : Nat) (X : Nat → Prop) (E : Nat → Bool × List Nat) (hb : lo ≤ w.heap.size) : BRowX (w.alloc (.cells #[] 54)) lo X (.slice (some ⟨w.heap.size, 0, none⟩) 0 0) 0 E [] :=
  ⟨World.ownsRow_lit w #[] 0 hb (by unfold maxLen; omega) rfl, fun r h => absurd h (Nat.not_lt_zero _)⟩
theorem BRowX.below {W W' : World} {lo : Nat} {X : Nat → Prop} {v : Value} {k : Nat} {E : Nat → Bool × List Nat} {vs : List Value} (h : BRowX W lo X v k E vs) (hb : Below W.heap.size W W') : BRowX W' lo X v k E vs := by
  refine ⟨h.1.kept (grown_of_below hb) (by cases hk : v.ownBlock <;> simp), fun j hj => ?_⟩
  obtain ⟨a, c, h1, h2, h3, h4⟩ := h.2 j hj
  exact ⟨a, c, h1, h2, h3.below hb, h4⟩
theorem BRowX.congr {W : World} {lo : Nat} {X : Nat → Prop} {v : Value} {k : Nat} {E F : Nat → Bool × List Nat} {vs : List Value} (h : BRowX W lo X v k E vs) (he : ∀ j, j < k → E j = F j) : BRowX W lo X v k F vs :=
  ⟨h.1, fun j hj => by rw [← he j hj]; exact h.2 j hj⟩
theorem BRowX.snoc {W W' : World} {lo : Nat} {X : Nat → Prop} (hX : ∀ b, X b → b < lo) {v : Value} {k : Nat} {E : Nat → Bool × List Nat} {vs : List Value} (h : BRowX W lo X v k E vs) {b : Bool} {a : Option Addr} {c : Nat} {ys : List Nat} (hs : Seg W a ys.length c ys) (ha : ∀ q, a = some q → X q.block)
    {v' : Value} (ho : W'.ownsRow lo 54 2 v' (k + 1) (vs ++ [.bool b, .slice a ys.length c])) (hgr : W.grownBy W' v.ownBlock) :
    BRowX W' lo X v' (k + 1) (upd E k (b, ys)) (vs ++ [.bool b, .slice a ys.length c]) := by
  have hl : vs.length = k * 2 := h.1.1
  have hseg : ∀ {x : Option Addr} {n q : Nat} {zs : List Nat}, Seg W x n q zs → (∀ u, x = some u → X u.block) → Seg W' x n q zs := fun hx hne => hx.grown hgr (fun g o s e e2 => by
    have h1 := hX _ (hne _ e)
    have h2 := (h.1.lt g e2).1
    dsimp only at h1
    omega)
  refine ⟨ho, fun j hj => ?_⟩
  by_cases e : j = k
  · subst e
    rw [upd_same]
    refine ⟨a, c, ?_, ?_, hseg hs ha, ha⟩
    · rw [List.getElem?_append_right (by omega), hl, Nat.sub_self]; rfl
    · rw [List.getElem?_append_right (by omega), hl, show j * 2 + 1 - j * 2 = 1 by omega]; rfl
  · rw [upd_ne _ _ e]
    obtain ⟨a1, c1, h1, h2, h3, h4⟩ := h.2 j (by omega)
    refine ⟨a1, c1, ?_, ?_, hseg h3 h4, h4⟩
    · rw [List.getElem?_append_left (by omega)]; exact h1
    · rw [List.getElem?_append_left (by omega)]; exact h2
theorem BRowX.seg {W : World} {lo : Nat} {X : Nat → Prop} {v : Value} {k : Nat} {E : Nat → Bool × List Nat} {vs : List Value} (h : BRowX W lo X v k E vs) : ∃ a c, v = .slice a k c ∧ BSeg W (fun b => X b ∨ (lo ≤ b ∧ b < W.heap.size)) a k c E := by
  have hr := h.1
  rcases h.1.2 with ⟨h1, h2⟩ | ⟨g, cap, cur, hv, hg, hh, hn, hc, hs, ht⟩
  · subst h2
    exact ⟨none, 0, h1, Nat.le_refl _, by omega, .inl rfl⟩
  · subst hv
    refine ⟨_, _, rfl, hn, hc, .inr ⟨g, 0, rfl, (Array.getElem?_eq_some_iff.1 hh).1, .inr ⟨hg, (Array.getElem?_eq_some_iff.1 hh).1⟩, fun j hj => ?_⟩⟩
    obtain ⟨a, c, h1, h2, h3, h4⟩ := h.2 j hj
    rw [Nat.zero_add]
    exact ⟨a, c, (hr.cellAt (j * 2) (by omega)).trans h1, (hr.cellAt (j * 2 + 1) (by omega)).trans h2, h3, fun q e => .inl (h4 q e)⟩
end Go.Proofs.Yteljkjpcjjiidaa
