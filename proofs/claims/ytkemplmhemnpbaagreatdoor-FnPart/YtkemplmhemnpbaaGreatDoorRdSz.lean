/- The walks of l01Digit and l02Digits: the number of a list of digits, in new memory. -/
import Derived.Test.YtkemplmhemnpbaaGreatDoorReadN
import Derived.Test.YtkemplmhemnpbaaGreatDoorPk02
import Derived.Test.YtkemplmhemnpbaaGreatDoorPk03
import Derived.Test.YtkemplmhemnpbaaGreatDoorPk01
import Derived.Test.YtkemplmhemnpbaaGreatDoorPk04
import Derived.Test.YtkemplmhemnpbaaGreatDoorPk08
import Derived.Deep.RegionHeld3
namespace Go.Proofs.YtkemplmhemnpbaaGreatDoor
open Go.RowKit
set_option linter.unusedVariables false

/-- the answer's box and the box of the number so far -/
structure DgSt (w W : World) (q : Int) (av : Option Addr) (cv : Nat) : Prop where
  kR0 : W.cell? ⟨w.heap.size, 0, none⟩ = some (.bool false)
  kR1 : W.cell? ⟨w.heap.size, 1, none⟩ = some (.slice none 0 0)
  fR0 : W.frozen? ⟨w.heap.size, 0, none⟩ = false
  fR1 : W.frozen? ⟨w.heap.size, 1, none⟩ = false
  kV0 : W.cell? ⟨w.heap.size + 1, 0, none⟩ = some (.bool (sgn q))
  kV1 : W.cell? ⟨w.heap.size + 1, 1, none⟩ = some (.slice av (lms q).length cv)
  fV0 : W.frozen? ⟨w.heap.size + 1, 0, none⟩ = false
  fV1 : W.frozen? ⟨w.heap.size + 1, 1, none⟩ = false
  zV : w.heap.size + 1 < W.heap.size
  own : Own W (w.heap.size + 2) av (lms q).length cv (lms q)
  bel : Below w.heap.size w W
theorem DgSt.store {w W W' : World} {q r : Int} {av : Option Addr} {cv : Nat} {ar : Option Addr} {cr : Nat} (h : DgSt w W q av cv) (hb : Below W.heap.size W W') (hN : Own W' W.heap.size ar (lms r).length cr (lms r)) :
    DgSt w ((W'.setCell ⟨w.heap.size + 1, 0, none⟩ (.bool (sgn r))).setCell ⟨w.heap.size + 1, 1, none⟩ (.slice ar (lms r).length cr)) r ar cr := by
  have hz := h.zV
  have hbs := hb.size
  have c (p : Addr) (hp : p.block < W.heap.size) (hne : p.block ≠ w.heap.size + 1) : ((W'.setCell ⟨w.heap.size + 1, 0, none⟩ (.bool (sgn r))).setCell ⟨w.heap.size + 1, 1, none⟩ (.slice ar (lms r).length cr)).cell? p = W.cell? p :=
    (World.cell?_of_block ((Below.heap_setCell _ ⟨w.heap.size + 1, 1, none⟩ _ p.block hne).trans (Below.heap_setCell _ ⟨w.heap.size + 1, 0, none⟩ _ p.block hne))).trans (hb.cell hp)
  have f (p : Addr) (hp : p.block < W.heap.size) (hne : p.block ≠ w.heap.size + 1) : ((W'.setCell ⟨w.heap.size + 1, 0, none⟩ (.bool (sgn r))).setCell ⟨w.heap.size + 1, 1, none⟩ (.slice ar (lms r).length cr)).frozen? p = W.frozen? p :=
    (World.frozen?_of_block ((Below.heap_setCell _ ⟨w.heap.size + 1, 1, none⟩ _ p.block hne).trans (Below.heap_setCell _ ⟨w.heap.size + 1, 0, none⟩ _ p.block hne))).trans (hb.frozen hp)
  have v0 := (hb.cell (p := ⟨w.heap.size + 1, 0, none⟩) hz).trans h.kV0
  have v1 := (hb.cell (p := ⟨w.heap.size + 1, 1, none⟩) hz).trans h.kV1
  have g0 := (hb.frozen (p := ⟨w.heap.size + 1, 0, none⟩) hz).trans h.fV0
  have g1 := (hb.frozen (p := ⟨w.heap.size + 1, 1, none⟩) hz).trans h.fV1
  refine ⟨(c ⟨w.heap.size, 0, none⟩ (by dsimp only; omega) (by dsimp only; omega)).trans h.kR0, (c ⟨w.heap.size, 1, none⟩ (by dsimp only; omega) (by dsimp only; omega)).trans h.kR1,
    (f ⟨w.heap.size, 0, none⟩ (by dsimp only; omega) (by dsimp only; omega)).trans h.fR0, (f ⟨w.heap.size, 1, none⟩ (by dsimp only; omega) (by dsimp only; omega)).trans h.fR1, by go_simp, by go_simp, by go_simp, by go_simp, by simp; omega, ?_, ?_⟩
  · exact ((hN.setCell (p := ⟨w.heap.size + 1, 0, none⟩) hz _).setCell (p := ⟨w.heap.size + 1, 1, none⟩) hz _).mono (by omega)
  · exact ((bl_trans h.bel hb).setCell (p := ⟨w.heap.size + 1, 0, none⟩) (by dsimp only; omega) _).setCell (p := ⟨w.heap.size + 1, 1, none⟩) (by dsimp only; omega) _
end Go.Proofs.YtkemplmhemnpbaaGreatDoor
