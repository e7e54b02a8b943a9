/- What the walks say of memory: rows of numbers that are read, and lists of them that grow. -/
import Derived.Test.YteljkjpcjjiidaaBr
import Derived.Test.YteljkjpcjjiidaaGr1
import Derived.Maps.AppendAt
namespace Go.Proofs.Yteljkjpcjjiidaa
open Go.RowKit
set_option linter.unusedVariables false
set_option maxRecDepth 20000

/-- cells vs that are rows of c numbers each -/
def RowsOf (W : World) (X : Nat → Prop) (c : Nat) (k : Nat) (F : Nat → Nat → Bool × List Nat) (vs : List Value) : Prop :=
  vs.length = k ∧ ∀ r, r < k → ∃ a p, vs[r]? = some (.slice a c p) ∧ BSeg W X a c p (F r)
/-- rows that are read -/
def RSegs (W : World) (X : Nat → Prop) (a : Option Addr) (n cap c : Nat) (F : Nat → Nat → Bool × List Nat) : Prop :=
  n ≤ cap ∧ cap ≤ 9223372036854775807 ∧ (n = 0 ∨ ∃ g o, a = some ⟨g, o, none⟩ ∧ g < W.heap.size ∧ ∀ r, r < n → ∃ b p, W.cell? ⟨g, o + r, none⟩ = some (.slice b c p) ∧ BSeg W X b c p (F r))
theorem RSegs.below {W W' : World} {X : Nat → Prop} {a : Option Addr} {n cap c : Nat} {F : Nat → Nat → Bool × List Nat} (h : RSegs W X a n cap c F) (hb : Below W.heap.size W W') : RSegs W' X a n cap c F := by
  obtain ⟨h1, h2, h3⟩ := h
  refine ⟨h1, h2, ?_⟩
  rcases h3 with h3 | ⟨g, o, ha, hg, hc⟩
  · exact .inl h3
  · refine .inr ⟨g, o, ha, Nat.lt_of_lt_of_le hg hb.size, fun r hr => ?_⟩
    obtain ⟨b, p, q1, q2⟩ := hc r hr
    exact ⟨b, p, (hb.cell (p := ⟨g, o + r, none⟩) hg).trans q1, q2.below hb⟩
theorem RSegs.at {W : World} {X : Nat → Prop} {a : Option Addr} {n cap c : Nat} {F : Nat → Nat → Bool × List Nat} (h : RSegs W X a n cap c F) {r : Nat} (hr : r < n) : ∃ g o, a = some ⟨g, o, none⟩ ∧ g < W.heap.size ∧ ∃ b p, W.cell? ⟨g, o + r, none⟩ = some (.slice b c p) ∧ BSeg W X b c p (F r) := by
  rcases h.2.2 with h3 | ⟨g, o, ha, hg, hc⟩
  · omega
  · exact ⟨g, o, ha, hg, hc r hr⟩
/-- rows that grow: the list's cells vs in memory of its own, from base on, no row in its block -/
def RowL (W : World) (base : Nat) (v : Value) (k c : Nat) (F : Nat → Nat → Bool × List Nat) (vs : List Value) : Prop :=
  W.ownsRow base 27 1 v k vs ∧ ∀ r, r < k → ∃ a p, vs[r]? = some (.slice a c p) ∧ BSeg W (fun b => base ≤ b ∧ v.ownBlock ≠ some b ∧ b < W.heap.size) a c p (F r)
theorem BSeg.grown {W W' : World} {X : Nat → Prop} {a : Option Addr} {n cap : Nat} {E : Nat → Bool × List Nat} {r : Option Nat} (h : BSeg W X a n cap E) (hg : W.grownBy W' r) (hp : ∀ b, X b → r ≠ some b) : BSeg W' X a n cap E :=
  h.chg (P := fun b => r = some b) (Chg.grown hg (fun k e => e)) hp
theorem RowL.below {W W' : World} {base : Nat} {v : Value} {k c : Nat} {F : Nat → Nat → Bool × List Nat} {vs : List Value} (h : RowL W base v k c F vs) (hb : Below W.heap.size W W') : RowL W' base v k c F vs := by
  refine ⟨h.1.kept (grown_of_below hb) (by cases hk : v.ownBlock <;> simp), fun r hr => ?_⟩
  obtain ⟨a, p, h1, h2⟩ := h.2 r hr
  exact ⟨a, p, h1, (h2.below hb).mono (fun b q => ⟨q.1, q.2.1, Nat.lt_of_lt_of_le q.2.2 hb.size⟩)⟩
theorem RowL.lit (w : World) (base c : Nat) (F : Nat → Nat → Bool × List Nat) (hb : base ≤ w.heap.size) : RowL (w.alloc (.cells #[] 27)) base (.slice (some ⟨w.heap.size, 0, none⟩) 0 0) 0 c F [] :=
  ⟨World.ownsRow_lit w #[] 0 hb (by unfold maxLen; omega) rfl, fun r h => absurd h (Nat.not_lt_zero _)⟩
theorem BRow.lit (w : World) (base : Nat) (E : Nat → Bool × List Nat) (hb : base ≤ w.heap.size) : BRow (w.alloc (.cells #[] 54)) base (.slice (some ⟨w.heap.size, 0, none⟩) 0 0) 0 E [] :=
  ⟨World.ownsRow_lit w #[] 0 hb (by unfold maxLen; omega) rfl, fun r h => absurd h (Nat.not_lt_zero _)⟩
/-- one row more -/
theorem RowL.snoc {W W' : World} {base : Nat} {v : Value} {k c : Nat} {F : Nat → Nat → Bool × List Nat} {vs : List Value} (h : RowL W base v k c F vs) {a : Option Addr} {p : Nat} {E : Nat → Bool × List Nat} (hs : BSeg W (fun b => base ≤ b ∧ v.ownBlock ≠ some b ∧ b < W.heap.size) a c p E)
    {v' : Value} {H : Nat} (ho : W'.ownsRow base 27 1 v' (k + 1) (vs ++ [.slice a c p])) (hgr : W.grownBy W' v.ownBlock) (hat : v'.ownBlock = v.ownBlock ∨ v'.ownBlock = some H) (hH : W.heap.size = H) :
    RowL W' base v' (k + 1) c (upd F k E) (vs ++ [.slice a c p]) := by
  have hl : vs.length = k := by have := h.1.1; omega
  have hseg : ∀ {x : Option Addr} {q : Nat} {e : Nat → Bool × List Nat}, BSeg W (fun b => base ≤ b ∧ v.ownBlock ≠ some b ∧ b < W.heap.size) x c q e → BSeg W' (fun b => base ≤ b ∧ v'.ownBlock ≠ some b ∧ b < W'.heap.size) x c q e := by
    intro x q e hx
    refine (hx.grown hgr (fun b hb => hb.2.1)).mono (fun b hb => ⟨hb.1, fun e2 => ?_, Nat.lt_of_lt_of_le hb.2.2 hgr.size⟩)
    rcases hat with h1 | h1
    · exact hb.2.1 (by rw [← h1, e2])
    · rw [h1] at e2; simp only [Option.some.injEq] at e2; omega
  refine ⟨ho, fun r hr => ?_⟩
  by_cases e : r = k
  · subst e
    rw [upd_same]
    exact ⟨a, p, by rw [List.getElem?_append_right (by omega), hl, Nat.sub_self]; rfl, hseg hs⟩
  · rw [upd_ne _ _ e]
    obtain ⟨a1, c1, h1, h2⟩ := h.2 r (by omega)
    exact ⟨a1, c1, by rw [List.getElem?_append_left (by omega)]; exact h1, hseg h2⟩
theorem RowL.segs {W : World} {base : Nat} {v : Value} {k c : Nat} {F : Nat → Nat → Bool × List Nat} {vs : List Value} (h : RowL W base v k c F vs) : ∃ a p, v = .slice a k p ∧ RSegs W (fun b => base ≤ b) a k p c F := by
  have hr := h.1
  rcases h.1.2 with ⟨h1, h2⟩ | ⟨g, cap, cur, hv, hg, hh, hn, hc, hs, ht⟩
  · subst h2
    exact ⟨none, 0, h1, Nat.le_refl _, by omega, .inl rfl⟩
  · subst hv
    refine ⟨_, _, rfl, hn, hc, .inr ⟨g, 0, rfl, (Array.getElem?_eq_some_iff.1 hh).1, fun j hj => ?_⟩⟩
    obtain ⟨a, q, h1, h2⟩ := h.2 j hj
    exact ⟨a, q, by rw [Nat.zero_add, hr.cellAt j (by omega)]; exact h1, h2.mono (fun b hb => hb.1)⟩
theorem RowL.congr {W : World} {base : Nat} {v : Value} {k c : Nat} {F G : Nat → Nat → Bool × List Nat} {vs : List Value} (h : RowL W base v k c F vs) (he : ∀ r j, r < k → j < c → F r j = G r j) : RowL W base v k c G vs := by
  refine ⟨h.1, fun r hr => ?_⟩
  obtain ⟨a, p, h1, h2⟩ := h.2 r hr
  exact ⟨a, p, h1, h2.congr (fun j hj => he r j hr hj)⟩
theorem Try.infoBgS : (Try.prog.info? 27).map (fun i => (i.zero, i.size, i.bytes)) = some (some (Value.slice none 0 0), 1, 24) := by kernel_rfl
end Go.Proofs.Yteljkjpcjjiidaa
