/- A whole block of limbs, and a part of one that is written into. -/
import Derived.Test.YteljkjpcjjiidaaMake
namespace Go.Proofs.Yteljkjpcjjiidaa
open Go.RowKit
set_option linter.unusedVariables false

/-- block g holds these limbs and nothing else -/
def Blk (W : World) (g : Nat) (ys : List Nat) : Prop := W.heap[g]? = some (.cells (ys.map lim).toArray 92 (0, 0)) ∧ Num.Small ys
theorem Blk.cell {W : World} {g : Nat} {ys : List Nat} (h : Blk W g ys) (j : Nat) (hj : j < ys.length) : W.cell? ⟨g, j, none⟩ = some (.int .u32 ys[j]) := by
  rw [cell_of_row W g j _ 92 (0, 0) h.1]; simp [hj, lim]
theorem Blk.frozen {W : World} {g : Nat} {ys : List Nat} (h : Blk W g ys) (j : Nat) : W.frozen? ⟨g, j, none⟩ = false := frozen_of_row W g j _ 92 h.1
theorem Blk.lt {W : World} {g : Nat} {ys : List Nat} (h : Blk W g ys) : g < W.heap.size := (Array.getElem?_eq_some_iff.1 h.1).1
theorem Blk.set {W : World} {g : Nat} {ys : List Nat} (h : Blk W g ys) (j x : Nat) (hx : x < 4294967296) :
    Blk (W.setCell ⟨g, j, none⟩ (.int .u32 x)) g (ys.set j x) ∧ W.grownBy (W.setCell ⟨g, j, none⟩ (.int .u32 x)) (some g) := by
  refine ⟨⟨?_, Num.small_set h.2 j x hx⟩, ⟨rfl, rfl, rfl, by simp, fun k _ hk => heap_setCell_other W ⟨g, j, none⟩ k _ (fun e => hk (by simp [e]))⟩⟩
  rw [heap_setCell_same W g j _ 92 _ h.1]
  congr 2
  apply Array.ext'
  rw [Array.toList_setIfInBounds, List.map_set]; rfl
theorem Blk.kept {W W' : World} {g : Nat} {ys : List Nat} {r : Option Nat} (h : Blk W g ys) (hg : W.grownBy W' r) (hne : some g ≠ r) : Blk W' g ys := ⟨(hg.block g h.lt hne).trans h.1, h.2⟩
theorem Blk.below {W W' : World} {g : Nat} {ys : List Nat} (h : Blk W g ys) (hb : Below W.heap.size W W') : Blk W' g ys := ⟨(hb.block g h.lt).trans h.1, h.2⟩
theorem Blk.own {W : World} {g base : Nat} {ys : List Nat} (h : Blk W g ys) (hb : base ≤ g) (hl : ys.length ≤ 9223372036854775807) : Own W base (some ⟨g, 0, none⟩) ys.length ys.length ys := by
  refine ⟨⟨by simp, .inr ⟨g, ys.length, _, rfl, hb, h.1, Nat.le_refl _, by unfold maxLen; omega, by simp, by rw [Nat.mul_one]; exact List.take_of_length_le (by simp)⟩⟩, h.2⟩
theorem Own.blk {W : World} {g base n : Nat} {ys : List Nat} (h : Own W base (some ⟨g, 0, none⟩) n n ys) : Blk W g ys := by
  have hl := h.len
  refine ⟨?_, h.2⟩
  rcases h.1.2 with ⟨h1, h2⟩ | ⟨g', cap', cur, hv, hg, hh, hn, hc, hs, ht⟩
  · cases h1
  · cases hv
    rw [hh]
    congr 2
    apply Array.ext'
    rw [← ht, List.take_of_length_le (by rw [Array.length_toList]; omega)]
/-- a part of a block, read -/
theorem Blk.seg {W : World} {g : Nat} {ys : List Nat} (h : Blk W g ys) (o n cap : Nat) (hn : o + n ≤ ys.length) (hc : n ≤ cap) (hm : cap ≤ 9223372036854775807) : Seg W (some ⟨g, o, none⟩) n cap ((ys.drop o).take n) := by
  have hl : ((ys.drop o).take n).length = n := by simp; omega
  refine ⟨hl, hc, hm, Num.small_take (Num.small_drop h.2 o) n, .inr ⟨g, o, rfl, h.lt, fun j hj => ?_⟩⟩
  rw [h.cell (o + j) (by omega)]; simp
end Go.Proofs.Yteljkjpcjjiidaa
