/- What the walks of this seat say of memory: a list of limbs that is read, one that is owned, a number as a structure of a sign and limbs. -/
import Derived.Test.YteljkjpcjjiidaaChecked
import Derived.Test.YteljkjpcjjiidaaNum
import Derived.WalkKit
import Derived.WalkLawsBesides
import Derived.Deep.QuietTactic
import Derived.BigQuiet
import Derived.OwnWalk
import Derived.Laws.OwnMore
import Derived.Maps.AppendAt
import Derived.Lib.QuietBelow
namespace Go.Proofs.Yteljkjpcjjiidaa
open Go.RowKit
set_option linter.unusedVariables false

theorem hide {p : Prop} (h : p) : Hid p := h
theorem ret_int {k : IntKind} {a b : Int} (h : a = b) : Ending.returned (.int k a) = .returned (.int k b) := by rw [h]
theorem ret_bool {a b : Bool} (h : a = b) : Ending.returned (.bool a) = .returned (.bool b) := by rw [h]
theorem below_drewN {B : Nat} {a w : World} (h : Below B a w) (n : Nat) : Below B a (w.drewN n) := h.trans ⟨rfl, rfl, rfl, Nat.le_refl _, fun _ _ => rfl⟩
theorem grown_of_below {A B : World} (h : Below A.heap.size A B) : A.grownBy B none :=
  ⟨h.os, h.tape, h.output, h.size, fun k hk _ => h.block k hk⟩
theorem grown_trans {A B C : World} {r : Option Nat} (h : A.grownBy B r) (k : B.grownBy C r) : A.grownBy C r :=
  ⟨k.os.trans h.os, k.tape.trans h.tape, k.output.trans h.output, Nat.le_trans h.size k.size, fun j hj hn => (k.block j (Nat.lt_of_lt_of_le hj h.size) hn).trans (h.block j hj hn)⟩
theorem grown_any {A B : World} {r : Option Nat} (h : A.grownBy B none) : A.grownBy B r :=
  ⟨h.os, h.tape, h.output, h.size, fun j hj _ => h.block j hj (by simp)⟩

theorem bl_alloc {a w : World} (h : Below a.heap.size a w) (o : Obj) : Below a.heap.size a (w.alloc o) := h.alloc h.size o
theorem bl_trans {a b c : World} (h : Below a.heap.size a b) (k : Below b.heap.size b c) : Below a.heap.size a c := h.trans (k.mono h.size)
theorem bl_refl (a : World) : Below a.heap.size a a := Below.refl _ _
/-- a limb as a value -/
def lim (x : Nat) : Value := .int .u32 x
/-- a list of limbs that is read -/
def Seg (W : World) (a : Option Addr) (n cap : Nat) (xs : List Nat) : Prop :=
  xs.length = n ∧ n ≤ cap ∧ cap ≤ 9223372036854775807 ∧ Num.Small xs ∧ (n = 0 ∨ ∃ g o, a = some ⟨g, o, none⟩ ∧ g < W.heap.size ∧ ∀ j (hj : j < xs.length), W.cell? ⟨g, o + j, none⟩ = some (.int .u32 xs[j]))
/-- a list of limbs in memory of its own, behind a base -/
def Own (W : World) (base : Nat) (a : Option Addr) (n cap : Nat) (xs : List Nat) : Prop :=
  W.ownsRow base 92 1 (.slice a n cap) n (xs.map lim) ∧ Num.Small xs
theorem Seg.below {W W' : World} {a : Option Addr} {n cap : Nat} {xs : List Nat} (h : Seg W a n cap xs) (hb : Below W.heap.size W W') : Seg W' a n cap xs := by
  obtain ⟨h1, h2, h3, h4, h5⟩ := h
  refine ⟨h1, h2, h3, h4, ?_⟩
  rcases h5 with h5 | ⟨g, o, ha, hg, hc⟩
  · exact .inl h5
  · exact .inr ⟨g, o, ha, Nat.lt_of_lt_of_le hg hb.size, fun j hj => (hb.cell (p := ⟨g, o + j, none⟩) hg).trans (hc j hj)⟩
theorem Seg.grown {W W' : World} {a : Option Addr} {n cap : Nat} {xs : List Nat} {r : Option Nat} (h : Seg W a n cap xs) (hb : W.grownBy W' r) (hne : ∀ g o s, a = some ⟨g, o, s⟩ → r ≠ some g) : Seg W' a n cap xs := by
  obtain ⟨h1, h2, h3, h4, h5⟩ := h
  refine ⟨h1, h2, h3, h4, ?_⟩
  rcases h5 with h5 | ⟨g, o, ha, hg, hc⟩
  · exact .inl h5
  · exact .inr ⟨g, o, ha, Nat.lt_of_lt_of_le hg hb.size, fun j hj => hb.cell (hc j hj) (fun e => hne g o none ha e.symm)⟩
theorem Own.len {W : World} {base : Nat} {a : Option Addr} {n cap : Nat} {xs : List Nat} (h : Own W base a n cap xs) : xs.length = n := by
  have := h.1.1; simpa using this
theorem Own.seg {W : World} {base : Nat} {a : Option Addr} {n cap : Nat} {xs : List Nat} (h : Own W base a n cap xs) : Seg W a n cap xs := by
  have hl := h.len
  rcases h.1.2 with ⟨h1, h2⟩ | ⟨g, cap', cur, hv, hg, hh, hn, hc, _⟩
  · cases h1
    exact ⟨hl, Nat.le_refl _, by omega, h.2, .inl rfl⟩
  · cases hv
    exact ⟨hl, hn, hc, h.2, .inr ⟨g, 0, rfl, (Array.getElem?_eq_some_iff.1 hh).1, fun j hj => by rw [Nat.zero_add, h.1.cellAt j (by omega)]; simp [hj, lim]⟩⟩
theorem Own.mono {W : World} {base base' : Nat} {a : Option Addr} {n cap : Nat} {xs : List Nat} (h : Own W base a n cap xs) (hb : base' ≤ base) : Own W base' a n cap xs := by
  refine ⟨⟨h.1.1, ?_⟩, h.2⟩
  rcases h.1.2 with h' | ⟨g, cap', cur, hv, hg, rest⟩
  · exact .inl h'
  · exact .inr ⟨g, cap', cur, hv, Nat.le_trans hb hg, rest⟩
theorem Own.kept {W W' : World} {base : Nat} {a : Option Addr} {n cap : Nat} {xs : List Nat} {r : Option Nat} (h : Own W base a n cap xs) (hb : W.grownBy W' r) (hne : (Value.slice a n cap).ownBlock = none ∨ (Value.slice a n cap).ownBlock ≠ r) : Own W' base a n cap xs :=
  ⟨h.1.kept hb hne, h.2⟩
theorem Own.below {W W' : World} {base : Nat} {a : Option Addr} {n cap : Nat} {xs : List Nat} (h : Own W base a n cap xs) (hb : Below W.heap.size W W') : Own W' base a n cap xs :=
  h.kept (grown_of_below hb) (by cases a <;> simp [Value.ownBlock])
theorem Own.lt {W : World} {base : Nat} {g o n cap : Nat} {s : Option Nat} {xs : List Nat} (h : Own W base (some ⟨g, o, none⟩) n cap xs) : base ≤ g ∧ g < W.heap.size := h.1.lt g rfl
theorem Own.setCell {W : World} {base : Nat} {a : Option Addr} {n cap : Nat} {xs : List Nat} (h : Own W base a n cap xs) {p : Addr} (hp : p.block < base) (v : Value) : Own (W.setCell p v) base a n cap xs := ⟨ownsRow_setCell_below h.1 hp v, h.2⟩
theorem Own.nil (W : World) (base : Nat) : Own W base none 0 0 [] := ⟨World.ownsRow_nil _ _ _ _, fun _ h => by cases h⟩
theorem Own.cases {W : World} {base : Nat} {a : Option Addr} {n cap : Nat} {xs : List Nat} (h : Own W base a n cap xs) :
    (a = none ∧ n = 0 ∧ cap = 0 ∧ xs = []) ∨ ∃ g, a = some ⟨g, 0, none⟩ ∧ base ≤ g ∧ g < W.heap.size := by
  have hl := h.len
  rcases h.1.2 with ⟨h1, h2⟩ | ⟨g, cap', cur, hv, hg, hh, hn, hc, _⟩
  · cases h1; exact .inl ⟨rfl, rfl, rfl, List.eq_nil_of_length_eq_zero hl⟩
  · cases hv; exact .inr ⟨g, rfl, hg, (Array.getElem?_eq_some_iff.1 hh).1⟩
theorem own_apart {W W' : World} {b n m c c' : Nat} {a a' : Option Addr} {xs ys : List Nat} (h : Own W b a n c xs) (h' : Own W' W.heap.size a' m c' ys) : (Value.slice a n c).ownBlock = none ∨ (Value.slice a n c).ownBlock ≠ (Value.slice a' m c').ownBlock := by
  cases hk : (Value.slice a n c).ownBlock with
  | none => exact .inl rfl
  | some k =>
    refine .inr fun e => ?_
    have h1 := (h.1.lt k hk).2
    have h2 := (h'.1.lt k e.symm).1
    omega
/-- the list's first m limbs, cut off it -/
theorem Own.cut {W : World} {base : Nat} {g n cap : Nat} {xs : List Nat} (h : Own W base (some ⟨g, 0, none⟩) n cap xs) (m : Nat) (hm : m ≤ n) : Own W base (some ⟨g, 0, none⟩) m cap (xs.take m) := by
  have hl := h.len
  refine ⟨⟨by simp; omega, ?_⟩, Num.small_take h.2 m⟩
  rcases h.1.2 with ⟨h1, h2⟩ | ⟨g', cap', cur, hv, hg, hh, hn, hc, hs, ht⟩
  · cases h1
  · cases hv
    refine .inr ⟨g, cap, cur, rfl, hg, hh, by omega, hc, hs, ?_⟩
    rw [List.map_take, ← ht, List.take_take]; congr 1; omega

theorem own_made {W : World} {base : Nat} {a : Option Addr} {n : Nat} (h : W.ownsRow base 92 1 (.slice a n n) n (madeCells #[Value.int IntKind.u32 0] n).toList) : Own W base a n n (List.replicate n 0) := by
  refine ⟨?_, Num.small_replicate n⟩
  rw [toList_madeCells_one] at h
  simpa [lim] using h
theorem own_set {W : World} {base g n cap : Nat} {xs : List Nat} (h : Own W base (some ⟨g, 0, none⟩) n cap xs) (j x : Nat) (hx : x < 4294967296) :
    Own (W.setCell ⟨g, j, none⟩ (.int .u32 x)) base (some ⟨g, 0, none⟩) n cap (xs.set j x) ∧ W.grownBy (W.setCell ⟨g, j, none⟩ (.int .u32 x)) (some g) := by
  have := h.1.stored j (lim x)
  rw [← List.map_set] at this
  exact ⟨⟨this.1, Num.small_set h.2 j x hx⟩, this.2⟩
theorem own_cell {W : World} {base g n cap : Nat} {xs : List Nat} (h : Own W base (some ⟨g, 0, none⟩) n cap xs) (j : Nat) (hj : j < xs.length) : W.cell? ⟨g, j, none⟩ = some (.int .u32 xs[j]) := by
  have hl := h.len
  rw [h.1.cellAt j (by omega)]; simp [hj, lim]
theorem own_has {W : World} {base g n cap : Nat} {xs : List Nat} (h : Own W base (some ⟨g, 0, none⟩) n cap xs) (j : Nat) (hj : j < n) : ∃ y : Nat, W.cell? ⟨g, j, none⟩ = some (.int .u32 y) := ⟨_, own_cell h j (by rw [h.len]; exact hj)⟩
theorem row_val {W : World} {base n : Nat} {v : Value} {ys : List Value} (h : W.ownsRow base 92 1 v n ys) : ∃ a cap, v = .slice a n cap := by
  rcases h.2 with ⟨h1, h2⟩ | ⟨g, cap, cur, hv, _⟩
  · exact ⟨none, 0, by rw [h1, h2]⟩
  · exact ⟨_, _, hv⟩
theorem one_lims (xs : List Nat) : ∀ u ∈ xs.map lim, u.oneCell' = true := by
  intro u hu
  obtain ⟨x, _, rfl⟩ := List.mem_map.1 hu
  rfl
theorem grown_frozen {w w' : World} {r : Option Nat} (hg : w.grownBy w' r) {p : Addr} (hp : p.block < w.heap.size) (hne : some p.block ≠ r) : w'.frozen? p = w.frozen? p := World.frozen?_of_block (hg.block p.block hp hne)
/-- a structure of a sign and limbs that is read -/
def Raw (W : World) (v : Value) (neg : Bool) (xs : List Nat) : Prop := ∃ a cap, v = .agg #[.bool neg, .slice a xs.length cap] ∧ Seg W a xs.length cap xs
/-- one in memory of its own -/
def Got (W : World) (base : Nat) (v : Value) (neg : Bool) (xs : List Nat) : Prop := ∃ a cap, v = .agg #[.bool neg, .slice a xs.length cap] ∧ Own W base a xs.length cap xs
theorem Raw.below {W W' : World} {v : Value} {neg : Bool} {xs : List Nat} (h : Raw W v neg xs) (hb : Below W.heap.size W W') : Raw W' v neg xs := by
  obtain ⟨a, cap, rfl, h⟩ := h; exact ⟨a, cap, rfl, h.below hb⟩
theorem Got.raw {W : World} {base : Nat} {v : Value} {neg : Bool} {xs : List Nat} (h : Got W base v neg xs) : Raw W v neg xs := by
  obtain ⟨a, cap, rfl, h⟩ := h; exact ⟨a, cap, rfl, h.seg⟩
theorem Got.below {W W' : World} {base : Nat} {v : Value} {neg : Bool} {xs : List Nat} (h : Got W base v neg xs) (hb : Below W.heap.size W W') : Got W' base v neg xs := by
  obtain ⟨a, cap, rfl, h⟩ := h; exact ⟨a, cap, rfl, h.below hb⟩
theorem Got.mono {W : World} {base base' : Nat} {v : Value} {neg : Bool} {xs : List Nat} (h : Got W base v neg xs) (hb : base' ≤ base) : Got W base' v neg xs := by
  obtain ⟨a, cap, rfl, h⟩ := h; exact ⟨a, cap, rfl, h.mono hb⟩
end Go.Proofs.Yteljkjpcjjiidaa
