/- The walk of l03Ten: a power of ten, in new memory. -/
import Derived.Test.YtkemplmhemnpbaaGreatDoorRdSz
import Derived.Test.YtkemplmhemnpbaaGreatDoorPk21
import Derived.Test.YtkemplmhemnpbaaGreatDoorPk25
import Derived.Test.YtkemplmhemnpbaaGreatDoorRrI
import Derived.Test.YtkemplmhemnpbaaGreatDoorRdC
namespace Go.Proofs.YtkemplmhemnpbaaGreatDoor
open Go.RowKit
set_option linter.unusedVariables false

/-- the answer's box, and a box X of a number -/
structure BxSt (w W : World) (X : Nat) (q : Int) (av : Option Addr) (cv : Nat) : Prop where
  k0 : W.cell? ⟨w.heap.size, 0, none⟩ = some (.bool false)
  k1 : W.cell? ⟨w.heap.size, 1, none⟩ = some (.slice none 0 0)
  f0 : W.frozen? ⟨w.heap.size, 0, none⟩ = false
  f1 : W.frozen? ⟨w.heap.size, 1, none⟩ = false
  x0 : W.cell? ⟨X, 0, none⟩ = some (.bool (sgn q))
  x1 : W.cell? ⟨X, 1, none⟩ = some (.slice av (lms q).length cv)
  g0 : W.frozen? ⟨X, 0, none⟩ = false
  g1 : W.frozen? ⟨X, 1, none⟩ = false
  zw : w.heap.size < X
  zX : X < W.heap.size
  own : Own W (w.heap.size + 1) av (lms q).length cv (lms q)
  bel : Below w.heap.size w W
theorem BxSt.store {w W W' : World} {X : Nat} {q r : Int} {av : Option Addr} {cv : Nat} {ar : Option Addr} {cr : Nat} (h : BxSt w W X q av cv) (hb : Below W.heap.size W W') (hN : Own W' W.heap.size ar (lms r).length cr (lms r)) :
    BxSt w ((W'.setCell ⟨X, 0, none⟩ (.bool (sgn r))).setCell ⟨X, 1, none⟩ (.slice ar (lms r).length cr)) X r ar cr := by
  have hz := h.zX
  have hw := h.zw
  have hbs := hb.size
  have c (p : Addr) (hp : p.block < W.heap.size) (hne : p.block ≠ X) : ((W'.setCell ⟨X, 0, none⟩ (.bool (sgn r))).setCell ⟨X, 1, none⟩ (.slice ar (lms r).length cr)).cell? p = W.cell? p :=
    (World.cell?_of_block ((Below.heap_setCell _ ⟨X, 1, none⟩ _ p.block hne).trans (Below.heap_setCell _ ⟨X, 0, none⟩ _ p.block hne))).trans (hb.cell hp)
  have f (p : Addr) (hp : p.block < W.heap.size) (hne : p.block ≠ X) : ((W'.setCell ⟨X, 0, none⟩ (.bool (sgn r))).setCell ⟨X, 1, none⟩ (.slice ar (lms r).length cr)).frozen? p = W.frozen? p :=
    (World.frozen?_of_block ((Below.heap_setCell _ ⟨X, 1, none⟩ _ p.block hne).trans (Below.heap_setCell _ ⟨X, 0, none⟩ _ p.block hne))).trans (hb.frozen hp)
  have v0 := (hb.cell (p := ⟨X, 0, none⟩) hz).trans h.x0
  have v1 := (hb.cell (p := ⟨X, 1, none⟩) hz).trans h.x1
  have g0 := (hb.frozen (p := ⟨X, 0, none⟩) hz).trans h.g0
  have g1 := (hb.frozen (p := ⟨X, 1, none⟩) hz).trans h.g1
  refine ⟨(c ⟨w.heap.size, 0, none⟩ (by dsimp only; omega) (by dsimp only; omega)).trans h.k0, (c ⟨w.heap.size, 1, none⟩ (by dsimp only; omega) (by dsimp only; omega)).trans h.k1,
    (f ⟨w.heap.size, 0, none⟩ (by dsimp only; omega) (by dsimp only; omega)).trans h.f0, (f ⟨w.heap.size, 1, none⟩ (by dsimp only; omega) (by dsimp only; omega)).trans h.f1, by go_simp, by go_simp, by go_simp, by go_simp, hw, by simp; omega, ?_, ?_⟩
  · exact ((hN.setCell (p := ⟨X, 0, none⟩) hz _).setCell (p := ⟨X, 1, none⟩) hz _).mono (by omega)
  · exact ((bl_trans h.bel hb).setCell (p := ⟨X, 0, none⟩) (by dsimp only; omega) _).setCell (p := ⟨X, 1, none⟩) (by dsimp only; omega) _
end Go.Proofs.YtkemplmhemnpbaaGreatDoor
