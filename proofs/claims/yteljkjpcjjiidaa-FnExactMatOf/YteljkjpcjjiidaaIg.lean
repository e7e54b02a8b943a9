/- Lists of lists of ints in memory of their own, within a range of blocks; marks written into them. -/
import Derived.Test.YteljkjpcjjiidaaIl
import Derived.Test.YteljkjpcjjiidaaGo
namespace Go.Proofs.Yteljkjpcjjiidaa
open Go.RowKit
set_option linter.unusedVariables false
set_option maxRecDepth 20000

theorem IOwn.chg2 {P : Nat → Prop} {W W' : World} {lo g n : Nat} {E : Nat → List Int} {A : Nat → Option Addr × Nat} (h : IOwn W lo g n E A) (k : Chg P W W') (hp : ∀ b, BOwn.blocks g n A b → ¬ P b) : IOwn W' lo g n E A := by
  have hg := h.lt
  obtain ⟨h0, ⟨cs, h1⟩, h2, h3⟩ := h
  have hgb := k.block g hg (hp g (.inl rfl))
  refine ⟨h0, ⟨cs, h1.1, ?_⟩, fun j hj => ?_, h3⟩
  · rcases h1.2 with h' | ⟨g', cap', cur, hv, hg', hh, rest⟩
    · exact .inl h'
    · cases hv
      exact .inr ⟨g, _, cur, rfl, hg', hgb.trans hh, rest⟩
  · obtain ⟨q1, q3, q4⟩ := h2 j hj
    refine ⟨(World.cell?_of_block (a := ⟨g, j, none⟩) hgb).trans q1, ⟨q3.1, ?_⟩, q4⟩
    rcases q3.2 with h' | ⟨g', cap', cur, hv, hg', hh, rest⟩
    · exact .inl h'
    · refine .inr ⟨g', cap', cur, hv, hg', (k.block g' (Array.getElem?_eq_some_iff.1 hh).1 (hp g' (.inr ⟨j, ⟨g', 0, none⟩, hj, ?_, rfl⟩))).trans hh, rest⟩
      have := hv
      simp only [Value.slice.injEq] at this
      exact this.1
/-- a list of lists in memory of its own: blocks from lo on, below hi -/
def JOwn (W : World) (lo hi : Nat) (v : Value) (n : Nat) (E : Nat → List Int) : Prop :=
  ∃ g A, v = .slice (some ⟨g, 0, none⟩) n n ∧ IOwn W lo g n E A ∧ ∀ b, BOwn.blocks g n A b → b < hi
theorem IOwn.j {W : World} {lo g n : Nat} {E : Nat → List Int} {A : Nat → Option Addr × Nat} (h : IOwn W lo g n E A) : JOwn W lo W.heap.size (.slice (some ⟨g, 0, none⟩) n n) n E :=
  ⟨g, A, rfl, h, fun b hb => (h.blocks_lt hb).2⟩
theorem JOwn.chg {P : Nat → Prop} {W W' : World} {lo hi : Nat} {v : Value} {n : Nat} {E : Nat → List Int} (h : JOwn W lo hi v n E) (k : Chg P W W') (hp : ∀ b, lo ≤ b → b < hi → ¬ P b) : JOwn W' lo hi v n E := by
  obtain ⟨g, A, rfl, ho, hb⟩ := h
  exact ⟨g, A, rfl, ho.chg2 k (fun b q => hp b (ho.blocks_lt q).1 (hb b q)), hb⟩
theorem JOwn.below {W W' : World} {lo hi : Nat} {v : Value} {n : Nat} {E : Nat → List Int} (h : JOwn W lo hi v n E) (hb : Below W.heap.size W W') : JOwn W' lo hi v n E := by
  obtain ⟨g, A, rfl, ho, h2⟩ := h
  exact ⟨g, A, rfl, ho.below hb, h2⟩
theorem JOwn.seg {W : World} {lo hi : Nat} {g n c : Nat} {E : Nat → List Int} (h : JOwn W lo hi (.slice (some ⟨g, 0, none⟩) n c) n E) : ISeg W (fun b => lo ≤ b ∧ b < hi) (some ⟨g, 0, none⟩) n n E := by
  obtain ⟨g', A, e, ho, hb⟩ := h
  cases e
  exact ho.seg.mono (fun b q => ⟨(ho.blocks_lt q).1, hb b q⟩)
theorem markJ (v : Value) (n : Nat) (E : Nat → List Int) (lo hi K : Nat) (q : Int) (w : World) (hq : q = (K : Int)) (h2 : K + itot E n ≤ 3000000) (h : JOwn w lo hi v n E) :
    Calls Try.prog 20 #[v, .int .i64 q] w fun e w' => e = .returned (.int .i64 ((K + itot E n : Nat) : Int)) ∧ JOwn w' lo hi v n (mkI K E) ∧ Chg (fun b => lo ≤ b ∧ b < hi) w w' := by
  subst hq
  obtain ⟨g, A, rfl, ho, hb⟩ := h
  exact (markSS g n E A lo K w h2 ho).mono fun e w' ⟨he, h3, h4⟩ =>
    ⟨he, ⟨g, A, rfl, h3, hb⟩, ⟨h4.os, h4.tape, h4.output, h4.size, fun k hk hn => h4.block k hk (fun q => hn ⟨(ho.blocks_lt q).1, hb k q⟩)⟩⟩
end Go.Proofs.Yteljkjpcjjiidaa
