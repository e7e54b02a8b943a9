/- Answers that are matrices: their numbers in memory of their own, within a range of blocks; marks written into them. -/
import Derived.Test.YteljkjpcjjiidaaMk
namespace Go.Proofs.Yteljkjpcjjiidaa
open Go.RowKit
set_option linter.unusedVariables false
set_option maxRecDepth 20000

theorem BOwn.chg2 {P : Nat → Prop} {W W' : World} {lo g n : Nat} {E : Nat → Bool × List Nat} {A : Nat → Option Addr × Nat} (h : BOwn W lo g n E A) (k : Chg P W W') (hp : ∀ b, BOwn.blocks g n A b → ¬ P b) : BOwn W' lo g n E A := by
  have hg := h.lt
  obtain ⟨h0, ⟨cs, h1⟩, h2, h3⟩ := h
  have hgb := k.block g hg (hp g (.inl rfl))
  refine ⟨h0, ⟨cs, h1.1, ?_⟩, fun j hj => ?_, h3⟩
  · rcases h1.2 with h' | ⟨g', cap', cur, hv, hg', hh, rest⟩
    · exact .inl h'
    · cases hv
      exact .inr ⟨g, _, cur, rfl, hg', hgb.trans hh, rest⟩
  · obtain ⟨q1, q2, q3, q4⟩ := h2 j hj
    refine ⟨(World.cell?_of_block (a := ⟨g, j * 2, none⟩) hgb).trans q1, (World.cell?_of_block (a := ⟨g, j * 2 + 1, none⟩) hgb).trans q2, ⟨⟨q3.1.1, ?_⟩, q3.2⟩, q4⟩
    rcases q3.1.2 with h' | ⟨g', cap', cur, hv, hg', hh, rest⟩
    · exact .inl h'
    · refine .inr ⟨g', cap', cur, hv, hg', (k.block g' (Array.getElem?_eq_some_iff.1 hh).1 (hp g' (.inr ⟨j, ⟨g', 0, none⟩, hj, ?_, rfl⟩))).trans hh, rest⟩
      have := hv
      simp only [Value.slice.injEq] at this
      exact this.1
/-- a list of numbers in memory of its own: blocks from lo on, below hi -/
def GOwn (W : World) (lo hi : Nat) (v : Value) (n : Nat) (E : Nat → Bool × List Nat) : Prop :=
  (v = .slice none 0 0 ∧ n = 0) ∨ ∃ g A, v = .slice (some ⟨g, 0, none⟩) n n ∧ BOwn W lo g n E A ∧ ∀ b, BOwn.blocks g n A b → b < hi
theorem BOwn.g {W : World} {lo g n : Nat} {E : Nat → Bool × List Nat} {A : Nat → Option Addr × Nat} (h : BOwn W lo g n E A) : GOwn W lo W.heap.size (.slice (some ⟨g, 0, none⟩) n n) n E :=
  .inr ⟨g, A, rfl, h, fun b hb => (h.blocks_lt hb).2⟩
theorem GOwn.chg {P : Nat → Prop} {W W' : World} {lo hi : Nat} {v : Value} {n : Nat} {E : Nat → Bool × List Nat} (h : GOwn W lo hi v n E) (k : Chg P W W') (hp : ∀ b, lo ≤ b → b < hi → ¬ P b) : GOwn W' lo hi v n E := by
  rcases h with h | ⟨g, A, rfl, ho, hb⟩
  · exact .inl h
  · exact .inr ⟨g, A, rfl, ho.chg2 k (fun b q => hp b (ho.blocks_lt q).1 (hb b q)), hb⟩
theorem GOwn.below {W W' : World} {lo hi : Nat} {v : Value} {n : Nat} {E : Nat → Bool × List Nat} (h : GOwn W lo hi v n E) (hb : Below W.heap.size W W') : GOwn W' lo hi v n E := by
  rcases h with h | ⟨g, A, rfl, ho, h2⟩
  · exact .inl h
  · exact .inr ⟨g, A, rfl, ho.below hb, h2⟩
theorem GOwn.st {N : Nat} {W W' : World} {lo hi : Nat} {v : Value} {n : Nat} {E : Nat → Bool × List Nat} (h : GOwn W lo hi v n E) (k : St N W W') (hN : N < lo ∨ hi ≤ N) : GOwn W' lo hi v n E :=
  h.chg (P := fun b => b = N) ⟨k.os, k.tape, k.output, Nat.le_of_eq k.size.symm, fun b hb hn => k.block b hn⟩ (fun b h1 h2 e => by omega)
theorem GOwn.mono {W : World} {lo lo' hi hi' : Nat} {v : Value} {n : Nat} {E : Nat → Bool × List Nat} (h : GOwn W lo hi v n E) (h1 : lo' ≤ lo) (h2 : hi ≤ hi') : GOwn W lo' hi' v n E := by
  rcases h with h | ⟨g, A, rfl, ho, hb⟩
  · exact .inl h
  · exact .inr ⟨g, A, rfl, ho.mono h1, fun b q => Nat.lt_of_lt_of_le (hb b q) h2⟩
theorem GOwn.congr {W : World} {lo hi : Nat} {v : Value} {n : Nat} {E F : Nat → Bool × List Nat} (h : GOwn W lo hi v n E) (he : ∀ j, j < n → E j = F j) : GOwn W lo hi v n F := by
  rcases h with h | ⟨g, A, rfl, ho, hb⟩
  · exact .inl h
  · exact .inr ⟨g, A, rfl, ho.congr he, hb⟩
theorem GOwn.seg {W : World} {lo hi : Nat} {v : Value} {n : Nat} {E : Nat → Bool × List Nat} (h : GOwn W lo hi v n E) : ∃ a c, v = .slice a n c ∧ BSeg W (fun b => lo ≤ b ∧ b < hi) a n c E := by
  rcases h with ⟨rfl, rfl⟩ | ⟨g, A, rfl, ho, hb⟩
  · exact ⟨none, 0, rfl, Nat.le_refl _, by omega, .inl rfl⟩
  · exact ⟨_, _, rfl, ho.seg.mono (fun b q => ⟨(ho.blocks_lt q).1, hb b q⟩)⟩

set_option maxHeartbeats 2000000 in
theorem markBS0 (k0 : Nat) (w : World) : Calls Try.prog 47 #[.slice none 0 0, .int .i64 k0] w fun e w' => e = .returned (.int .i64 k0) ∧ w' = w := by
  go_enter Try.func47, Try.ntmps47
  go_wp2
  go_loopw [1, 5] (fun l i wr => l = .int .i64 k0 ∧ i = .int .i64 0 ∧ wr = w) (fun _ i _ => 0)
  case atStart => exact ⟨rfl, rfl, rfl⟩
  case round =>
    obtain ⟨rfl, rfl, rfl⟩ := hrel
    go_wp2
    go_ret
    exact ⟨rfl, rfl⟩
set_option maxHeartbeats 2000000 in
theorem markM0 (R C : Int) (k0 : Nat) (w : World) : Calls Try.prog 21 #[.agg #[.int .i64 R, .int .i64 C, .slice none 0 0], .int .i64 k0] w fun e w' => e = .returned (.int .i64 k0) ∧ Below w.heap.size w w' := by
  go_enter Try.func21, Try.ntmps21
  go_wp2_with fail
  refine (markBS0 k0 _).mono ?_
  rintro e w2 ⟨rfl, hw⟩
  subst hw
  go_wp2
  go_ret
  exact ⟨rfl, bl_alloc (bl_refl w) _⟩
theorem markMG (R C : Int) (v : Value) (n : Nat) (E : Nat → Bool × List Nat) (lo hi k0 : Nat) (w : World) (h2 : k0 + n + etot E n ≤ 3000000) (h : GOwn w lo hi v n E) :
    Calls Try.prog 21 #[.agg #[.int .i64 R, .int .i64 C, v], .int .i64 k0] w fun e w' => e = .returned (.int .i64 ((k0 + n + etot E n : Nat) : Int)) ∧ GOwn w' lo hi v n (mkE k0 E) ∧ Chg (fun b => lo ≤ b ∧ b < hi) w w' := by
  rcases h with ⟨rfl, rfl⟩ | ⟨g, A, rfl, ho, hb⟩
  · exact (markM0 R C k0 w).mono fun e w' ⟨he, hb⟩ => ⟨he, .inl ⟨rfl, rfl⟩, Chg.below hb⟩
  · exact (markM R C g n E A lo k0 w h2 ho).mono fun e w' ⟨he, h3, h4⟩ =>
      ⟨he, .inr ⟨g, A, rfl, h3, hb⟩, ⟨h4.os, h4.tape, h4.output, h4.size, fun k hk hn => h4.block k hk (fun q => hn ⟨(ho.blocks_lt q).1, hb k q⟩)⟩⟩
theorem markMe (R C : Int) (v : Value) (n : Nat) (E : Nat → Bool × List Nat) (lo hi K : Nat) (q : Int) (w : World) (hq : q = (K : Int)) (h2 : K + n + etot E n ≤ 3000000) (h : GOwn w lo hi v n E) :
    Calls Try.prog 21 #[.agg #[.int .i64 R, .int .i64 C, v], .int .i64 q] w fun e w' => e = .returned (.int .i64 ((K + n + etot E n : Nat) : Int)) ∧ GOwn w' lo hi v n (mkE K E) ∧ Chg (fun b => lo ≤ b ∧ b < hi) w w' := by
  subst hq; exact markMG R C v n E lo hi K w h2 h
theorem heldMe (R C : Int) (a : Option Addr) (n cap : Nat) (X : Nat → Prop) (E : Nat → Bool × List Nat) (K : Nat) (q : Int) (w : World) (hq : q = (K : Int)) (h2 : K + n + etot E n ≤ 3000000) (hs : BSeg w X a n cap (mkE K E)) :
    Calls Try.prog 22 #[.agg #[.int .i64 R, .int .i64 C, .slice a n cap], .int .i64 q] w fun e w' => e = .returned (.int .i64 ((K + n + etot E n : Nat) : Int)) ∧ Below w.heap.size w w' := by
  subst hq; exact heldM R C a n cap X E K w h2 hs
end Go.Proofs.Yteljkjpcjjiidaa
