/- What the walks say of memory: lists of numbers that grow by append. -/
import Derived.Test.YteljkjpcjjiidaaBl
import Derived.Deep.AppendLies
namespace Go.Proofs.Yteljkjpcjjiidaa
open Go.RowKit
set_option linter.unusedVariables false
set_option maxRecDepth 20000

/-- a list of numbers that grows: its cells vs in memory of its own; the limbs elsewhere, from base on -/
def BRow (W : World) (base : Nat) (v : Value) (k : Nat) (E : Nat → Bool × List Nat) (vs : List Value) : Prop :=
  W.ownsRow base 54 2 v k vs ∧ ∀ j, j < k → ∃ a c, vs[j * 2]? = some (.bool (E j).1) ∧ vs[j * 2 + 1]? = some (.slice a (E j).2.length c) ∧ Seg W a (E j).2.length c (E j).2 ∧ ∀ q, a = some q → base ≤ q.block ∧ q.block < W.heap.size ∧ v.ownBlock ≠ some q.block
theorem BRow.nil (W : World) (base : Nat) (E : Nat → Bool × List Nat) : BRow W base (.slice none 0 0) 0 E [] := ⟨World.ownsRow_nil _ _ _ _, fun j h => absurd h (Nat.not_lt_zero _)⟩
theorem BRow.below {W W' : World} {base : Nat} {v : Value} {k : Nat} {E : Nat → Bool × List Nat} {vs : List Value} (h : BRow W base v k E vs) (hb : Below W.heap.size W W') : BRow W' base v k E vs := by
  refine ⟨h.1.kept (grown_of_below hb) (by cases hk : v.ownBlock <;> simp), fun j hj => ?_⟩
  obtain ⟨a, c, h1, h2, h3, h4⟩ := h.2 j hj
  exact ⟨a, c, h1, h2, h3.below hb, fun q e => ⟨(h4 q e).1, Nat.lt_of_lt_of_le (h4 q e).2.1 hb.size, (h4 q e).2.2⟩⟩
theorem ownsRow_chg {P : Nat → Prop} {W W' : World} {base : Nat} {T : TypeId} {s : Nat} {v : Value} {n : Nat} {xs : List Value} (h : W.ownsRow base T s v n xs) (k : Chg P W W') (hp : ∀ b, v.ownBlock = some b → ¬ P b) : W'.ownsRow base T s v n xs := by
  refine ⟨h.1, ?_⟩
  rcases h.2 with h' | ⟨g', cap', cur, hv, hg', hh, rest⟩
  · exact .inl h'
  · exact .inr ⟨g', cap', cur, hv, hg', (k.block g' (Array.getElem?_eq_some_iff.1 hh).1 (hp g' (by rw [hv]; rfl))).trans hh, rest⟩
theorem BRow.chg {P : Nat → Prop} {W W' : World} {base : Nat} {v : Value} {k : Nat} {E : Nat → Bool × List Nat} {vs : List Value} (h : BRow W base v k E vs) (q : Chg P W W') (hp : ∀ b, base ≤ b → ¬ P b) : BRow W' base v k E vs := by
  refine ⟨ownsRow_chg h.1 q (fun b e => hp b (h.1.lt b e).1), fun j hj => ?_⟩
  obtain ⟨a, c, h1, h2, h3, h4⟩ := h.2 j hj
  exact ⟨a, c, h1, h2, h3.chg q (fun x e => hp _ (h4 x e).1), fun x e => ⟨(h4 x e).1, Nat.lt_of_lt_of_le (h4 x e).2.1 q.size, (h4 x e).2.2⟩⟩
theorem BRow.mono {W : World} {base base' : Nat} {v : Value} {k : Nat} {E : Nat → Bool × List Nat} {vs : List Value} (h : BRow W base v k E vs) (hl : base' ≤ base) : BRow W base' v k E vs := by
  refine ⟨⟨h.1.1, ?_⟩, fun j hj => ?_⟩
  · rcases h.1.2 with h' | ⟨g', cap', cur, hv, hg, rest⟩
    · exact .inl h'
    · exact .inr ⟨g', cap', cur, hv, by omega, rest⟩
  · obtain ⟨a, c, h1, h2, h3, h4⟩ := h.2 j hj
    exact ⟨a, c, h1, h2, h3, fun q e => ⟨by have := (h4 q e).1; omega, (h4 q e).2⟩⟩
theorem BRow.congr {W : World} {base : Nat} {v : Value} {k : Nat} {E F : Nat → Bool × List Nat} {vs : List Value} (h : BRow W base v k E vs) (he : ∀ j, j < k → E j = F j) : BRow W base v k F vs :=
  ⟨h.1, fun j hj => by rw [← he j hj]; exact h.2 j hj⟩
theorem BRow.len {W : World} {base : Nat} {v : Value} {k : Nat} {E : Nat → Bool × List Nat} {vs : List Value} (h : BRow W base v k E vs) : vs.length = k * 2 := h.1.1
theorem BRow.val {W : World} {base : Nat} {v : Value} {k : Nat} {E : Nat → Bool × List Nat} {vs : List Value} (h : BRow W base v k E vs) : ∃ a c, v = .slice a k c := by
  rcases h.1.2 with ⟨h1, h2⟩ | ⟨g, cap, cur, hv, _⟩
  · exact ⟨none, 0, by rw [h1, h2]⟩
  · exact ⟨_, _, hv⟩
theorem BRow.seg {W : World} {base : Nat} {v : Value} {k : Nat} {E : Nat → Bool × List Nat} {vs : List Value} (h : BRow W base v k E vs) : ∃ a c, v = .slice a k c ∧ BSeg W (fun b => base ≤ b ∧ b < W.heap.size) a k c E := by
  have hr := h.1
  rcases h.1.2 with ⟨h1, h2⟩ | ⟨g, cap, cur, hv, hg, hh, hn, hc, hs, ht⟩
  · subst h2
    exact ⟨none, 0, h1, Nat.le_refl _, by omega, .inl rfl⟩
  · subst hv
    refine ⟨_, _, rfl, hn, hc, .inr ⟨g, 0, rfl, (Array.getElem?_eq_some_iff.1 hh).1, ⟨hg, (Array.getElem?_eq_some_iff.1 hh).1⟩, fun j hj => ?_⟩⟩
    obtain ⟨a, c, h1, h2, h3, h4⟩ := h.2 j hj
    rw [Nat.zero_add]
    exact ⟨a, c, (hr.cellAt (j * 2) (by omega)).trans h1, (hr.cellAt (j * 2 + 1) (by omega)).trans h2, h3, fun q e => ⟨(h4 q e).1, (h4 q e).2.1⟩⟩
/-- one more -/
theorem BRow.snoc {W W' : World} {base : Nat} {v : Value} {k : Nat} {E : Nat → Bool × List Nat} {vs : List Value} (h : BRow W base v k E vs) {b : Bool} {a : Option Addr} {c : Nat} {ys : List Nat} (hs : Seg W a ys.length c ys) (ha : ∀ q, a = some q → base ≤ q.block ∧ q.block < W.heap.size ∧ v.ownBlock ≠ some q.block)
    {v' : Value} {H : Nat} (ho : W'.ownsRow base 54 2 v' (k + 1) (vs ++ [.bool b, .slice a ys.length c])) (hgr : W.grownBy W' v.ownBlock) (hat : v'.ownBlock = v.ownBlock ∨ v'.ownBlock = some H) (hH : W.heap.size = H) :
    BRow W' base v' (k + 1) (upd E k (b, ys)) (vs ++ [.bool b, .slice a ys.length c]) := by
  have hl := h.len
  have hseg : ∀ {x : Option Addr} {n q : Nat} {zs : List Nat}, Seg W x n q zs → (∀ u, x = some u → base ≤ u.block ∧ u.block < W.heap.size ∧ v.ownBlock ≠ some u.block) → Seg W' x n q zs := fun hx hne => hx.grown hgr (fun g' o s e => (hne _ e).2.2)
  have hfin : ∀ {x : Option Addr}, (∀ u, x = some u → base ≤ u.block ∧ u.block < W.heap.size ∧ v.ownBlock ≠ some u.block) → ∀ u, x = some u → base ≤ u.block ∧ u.block < W'.heap.size ∧ v'.ownBlock ≠ some u.block := by
    intro x hx u e
    obtain ⟨q1, q2, q3⟩ := hx u e
    refine ⟨q1, Nat.lt_of_lt_of_le q2 hgr.size, fun e2 => ?_⟩
    rcases hat with h1 | h1
    · exact q3 (by rw [← h1, e2])
    · rw [h1] at e2; simp only [Option.some.injEq] at e2; omega
  refine ⟨ho, fun j hj => ?_⟩
  by_cases e : j = k
  · subst e
    rw [upd_same]
    refine ⟨a, c, ?_, ?_, hseg hs ha, hfin ha⟩
    · rw [List.getElem?_append_right (by omega), hl, Nat.sub_self]; rfl
    · rw [List.getElem?_append_right (by omega), hl, show j * 2 + 1 - j * 2 = 1 by omega]; rfl
  · rw [upd_ne _ _ e]
    obtain ⟨a1, c1, h1, h2, h3, h4⟩ := h.2 j (by omega)
    refine ⟨a1, c1, ?_, ?_, hseg h3 h4, hfin h4⟩
    · rw [List.getElem?_append_left (by omega)]; exact h1
    · rw [List.getElem?_append_left (by omega)]; exact h2
theorem cell_two_new (w : World) (x y : Value) (t : TypeId) : ∀ j u, [x, y][j]? = some u → (w.alloc (.cells #[x, y] t)).cell? ((⟨w.heap.size, 0, none⟩ : Addr).add j) = some u := by
  intro j u hu
  match j, hu with
  | 0, hu =>
    rw [Addr.add_lit]; cases hu; exact (Lib.cell_of_heap (hnew w (.cells #[x, y] t)) 0).trans rfl
  | 1, hu =>
    rw [Addr.add_lit]; cases hu; exact (Lib.cell_of_heap (hnew w (.cells #[x, y] t)) 1).trans rfl
  | j + 2, hu => simp at hu
theorem fresh_box {w3 : World} {lo base : Nat} {v : Value} {a : Option Addr} {n c : Nat} {xs : List Nat} (ho : Own w3 lo a n c xs) (h1 : base ≤ lo) (h2 : ∀ q, v.ownBlock = some q → q < lo) (o : Obj) : ∀ q, a = some q → base ≤ q.block ∧ q.block < (w3.alloc o).heap.size ∧ v.ownBlock ≠ some q.block := by
  intro q e
  rcases ho.cases with ⟨h0, _⟩ | ⟨g, h0, h3, h4⟩
  · rw [h0] at e; cases e
  · rw [h0] at e; cases e
    exact ⟨by dsimp only; omega, by simp only [World.size_alloc]; omega, fun e2 => by have := h2 _ e2; dsimp only at this; omega⟩
end Go.Proofs.Yteljkjpcjjiidaa
