/- Two numbers in two boxes that are stored into in a loop, and a third box for the answer. -/
import Derived.Test.YtbnjgfaojaimlaaDivide
namespace Go.Proofs.Ytbnjgfaojaimlaa
open Go.RowKit
set_option linter.unusedVariables false

structure GSt (w W : World) (N M R : Nat) (base : Nat) (p q : Int) (ap : Option Addr) (cp : Nat) (aq : Option Addr) (cq : Nat) : Prop where
  kA0 : W.cell? ⟨N, 0, none⟩ = some (.bool (sgn p))
  kA1 : W.cell? ⟨N, 1, none⟩ = some (.slice ap (lms p).length cp)
  kB0 : W.cell? ⟨M, 0, none⟩ = some (.bool (sgn q))
  kB1 : W.cell? ⟨M, 1, none⟩ = some (.slice aq (lms q).length cq)
  kR0 : W.cell? ⟨R, 0, none⟩ = some (.bool false)
  kR1 : W.cell? ⟨R, 1, none⟩ = some (.slice none 0 0)
  fA0 : W.frozen? ⟨N, 0, none⟩ = false
  fA1 : W.frozen? ⟨N, 1, none⟩ = false
  fB0 : W.frozen? ⟨M, 0, none⟩ = false
  fB1 : W.frozen? ⟨M, 1, none⟩ = false
  fR0 : W.frozen? ⟨R, 0, none⟩ = false
  fR1 : W.frozen? ⟨R, 1, none⟩ = false
  zN : N < base
  zM : M < base
  zR : R < base
  zB : base ≤ W.heap.size
  oA : Own W base ap (lms p).length cp (lms p)
  oB : Own W base aq (lms q).length cq (lms q)
  bel : Below w.heap.size w W
theorem GSt.below {w W W' : World} {N M R base : Nat} {p q : Int} {ap aq : Option Addr} {cp cq : Nat} (h : GSt w W N M R base p q ap cp aq cq) (hb : Below W.heap.size W W') : GSt w W' N M R base p q ap cp aq cq := by
  obtain ⟨a, b, c, d, e, f, g, h, i, j, k, l, zN, zM, zR, zB, o1, o2, bl⟩ := h
  have n1 : N < W.heap.size := by omega
  have n2 : M < W.heap.size := by omega
  have n3 : R < W.heap.size := by omega
  have := hb.size
  exact ⟨(hb.cell (p := ⟨N, 0, none⟩) n1).trans a, (hb.cell (p := ⟨N, 1, none⟩) n1).trans b, (hb.cell (p := ⟨M, 0, none⟩) n2).trans c, (hb.cell (p := ⟨M, 1, none⟩) n2).trans d, (hb.cell (p := ⟨R, 0, none⟩) n3).trans e, (hb.cell (p := ⟨R, 1, none⟩) n3).trans f,
    (hb.frozen (p := ⟨N, 0, none⟩) n1).trans g, (hb.frozen (p := ⟨N, 1, none⟩) n1).trans h, (hb.frozen (p := ⟨M, 0, none⟩) n2).trans i, (hb.frozen (p := ⟨M, 1, none⟩) n2).trans j, (hb.frozen (p := ⟨R, 0, none⟩) n3).trans k, (hb.frozen (p := ⟨R, 1, none⟩) n3).trans l,
    zN, zM, zR, by omega, o1.below hb, o2.below hb, bl_trans bl hb⟩
/-- a new number is stored in the first box -/
theorem GSt.set1 {w W : World} {N M R base : Nat} {p q r : Int} {ap aq ar : Option Addr} {cp cq cr : Nat} (h : GSt w W N M R base p q ap cp aq cq) (ho : Own W base ar (lms r).length cr (lms r)) (hN : w.heap.size ≤ N) (h1 : N ≠ M) (h2 : N ≠ R) :
    GSt w ((W.setCell ⟨N, 0, none⟩ (.bool (sgn r))).setCell ⟨N, 1, none⟩ (.slice ar (lms r).length cr)) N M R base r q ar cr aq cq := by
  obtain ⟨a, b, c, d, e, f, g, h, i, j, k, l, zN, zM, zR, zB, o1, o2, bl⟩ := h
  refine ⟨by go_simp, by go_simp, (cell_two (N := N) (p := ⟨M, 0, none⟩) (Ne.symm h1)).trans c, (cell_two (N := N) (p := ⟨M, 1, none⟩) (Ne.symm h1)).trans d, (cell_two (N := N) (p := ⟨R, 0, none⟩) (Ne.symm h2)).trans e, (cell_two (N := N) (p := ⟨R, 1, none⟩) (Ne.symm h2)).trans f,
    by simp [g], by simp [h], by simp [i], by simp [j], by simp [k], by simp [l], zN, zM, zR, by simp; omega, (ho.setCell (p := ⟨N, 0, none⟩) zN _).setCell (p := ⟨N, 1, none⟩) zN _, (o2.setCell (p := ⟨N, 0, none⟩) zN _).setCell (p := ⟨N, 1, none⟩) zN _, (bl.setCell (p := ⟨N, 0, none⟩) hN _).setCell (p := ⟨N, 1, none⟩) hN _⟩
/-- and in the second -/
theorem GSt.set2 {w W : World} {N M R base : Nat} {p q r : Int} {ap aq ar : Option Addr} {cp cq cr : Nat} (h : GSt w W N M R base p q ap cp aq cq) (ho : Own W base ar (lms r).length cr (lms r)) (hM : w.heap.size ≤ M) (h1 : M ≠ N) (h2 : M ≠ R) :
    GSt w ((W.setCell ⟨M, 0, none⟩ (.bool (sgn r))).setCell ⟨M, 1, none⟩ (.slice ar (lms r).length cr)) N M R base p r ap cp ar cr := by
  obtain ⟨a, b, c, d, e, f, g, h, i, j, k, l, zN, zM, zR, zB, o1, o2, bl⟩ := h
  refine ⟨(cell_two (N := M) (p := ⟨N, 0, none⟩) (Ne.symm h1)).trans a, (cell_two (N := M) (p := ⟨N, 1, none⟩) (Ne.symm h1)).trans b, by go_simp, by go_simp, (cell_two (N := M) (p := ⟨R, 0, none⟩) (Ne.symm h2)).trans e, (cell_two (N := M) (p := ⟨R, 1, none⟩) (Ne.symm h2)).trans f,
    by simp [g], by simp [h], by simp [i], by simp [j], by simp [k], by simp [l], zN, zM, zR, by simp; omega, (o1.setCell (p := ⟨M, 0, none⟩) zM _).setCell (p := ⟨M, 1, none⟩) zM _, (ho.setCell (p := ⟨M, 0, none⟩) zM _).setCell (p := ⟨M, 1, none⟩) zM _, (bl.setCell (p := ⟨M, 0, none⟩) hM _).setCell (p := ⟨M, 1, none⟩) hM _⟩
/-- the first number is stored in the answer's box -/
theorem GSt.fin {w W : World} {N M R base : Nat} {p q : Int} {ap aq : Option Addr} {cp cq : Nat} (h : GSt w W N M R base p q ap cp aq cq) (hR : w.heap.size ≤ R) (x y : Value) :
    New ((W.setCell ⟨R, 0, none⟩ x).setCell ⟨R, 1, none⟩ y) w.heap.size (.agg #[.bool (sgn p), .slice ap (lms p).length cp]) p ∧ Below w.heap.size w ((W.setCell ⟨R, 0, none⟩ x).setCell ⟨R, 1, none⟩ y) := by
  have hb := h.zR
  exact ⟨⟨ap, cp, rfl, ((h.oA.setCell (p := ⟨R, 0, none⟩) hb x).setCell (p := ⟨R, 1, none⟩) hb y).mono (by omega)⟩, (h.bel.setCell (p := ⟨R, 0, none⟩) hR x).setCell (p := ⟨R, 1, none⟩) hR y⟩
/-- both numbers are stored in boxes that are there -/
theorem gst_init {w W : World} {N M R base : Nat} {p q : Int} {ap aq : Option Addr} {cp cq : Nat} {u0 u1 u2 u3 : Value} (cA0 : W.cell? ⟨N, 0, none⟩ = some u0) (cA1 : W.cell? ⟨N, 1, none⟩ = some u1) (cB0 : W.cell? ⟨M, 0, none⟩ = some u2) (cB1 : W.cell? ⟨M, 1, none⟩ = some u3)
    (kR0 : W.cell? ⟨R, 0, none⟩ = some (.bool false)) (kR1 : W.cell? ⟨R, 1, none⟩ = some (.slice none 0 0)) (fA0 : W.frozen? ⟨N, 0, none⟩ = false) (fA1 : W.frozen? ⟨N, 1, none⟩ = false) (fB0 : W.frozen? ⟨M, 0, none⟩ = false) (fB1 : W.frozen? ⟨M, 1, none⟩ = false) (fR0 : W.frozen? ⟨R, 0, none⟩ = false) (fR1 : W.frozen? ⟨R, 1, none⟩ = false)
    (zN : N < base) (zM : M < base) (zR : R < base) (zB : base ≤ W.heap.size) (oA : Own W base ap (lms p).length cp (lms p)) (oB : Own W base aq (lms q).length cq (lms q)) (bl : Below w.heap.size w W) (hN : w.heap.size ≤ N) (hM : w.heap.size ≤ M) (h1 : N ≠ M) (h2 : N ≠ R) (h3 : M ≠ R) :
    GSt w ((((W.setCell ⟨N, 0, none⟩ (.bool (sgn p))).setCell ⟨N, 1, none⟩ (.slice ap (lms p).length cp)).setCell ⟨M, 0, none⟩ (.bool (sgn q))).setCell ⟨M, 1, none⟩ (.slice aq (lms q).length cq)) N M R base p q ap cp aq cq := by
  have e1 : ((W.setCell ⟨N, 0, none⟩ (.bool (sgn p))).setCell ⟨N, 1, none⟩ (.slice ap (lms p).length cp)).cell? ⟨N, 0, none⟩ = some (.bool (sgn p)) := by go_simp
  have e2 : ((W.setCell ⟨N, 0, none⟩ (.bool (sgn p))).setCell ⟨N, 1, none⟩ (.slice ap (lms p).length cp)).cell? ⟨N, 1, none⟩ = some (.slice ap (lms p).length cp) := by go_simp
  have e3 := (cell_two (w := W) (N := N) (x := .bool (sgn p)) (y := .slice ap (lms p).length cp) (p := ⟨M, 0, none⟩) (Ne.symm h1)).trans cB0
  have e4 := (cell_two (w := W) (N := N) (x := .bool (sgn p)) (y := .slice ap (lms p).length cp) (p := ⟨M, 1, none⟩) (Ne.symm h1)).trans cB1
  have e5 := (cell_two (w := W) (N := N) (x := .bool (sgn p)) (y := .slice ap (lms p).length cp) (p := ⟨R, 0, none⟩) (Ne.symm h2)).trans kR0
  have e6 := (cell_two (w := W) (N := N) (x := .bool (sgn p)) (y := .slice ap (lms p).length cp) (p := ⟨R, 1, none⟩) (Ne.symm h2)).trans kR1
  have oA' := (oA.setCell (p := ⟨N, 0, none⟩) zN (.bool (sgn p))).setCell (p := ⟨N, 1, none⟩) zN (.slice ap (lms p).length cp)
  have oB' := (oB.setCell (p := ⟨N, 0, none⟩) zN (.bool (sgn p))).setCell (p := ⟨N, 1, none⟩) zN (.slice ap (lms p).length cp)
  have bl' := (bl.setCell (p := ⟨N, 0, none⟩) hN (.bool (sgn p))).setCell (p := ⟨N, 1, none⟩) hN (.slice ap (lms p).length cp)
  have g1 : ∀ a, ((W.setCell ⟨N, 0, none⟩ (.bool (sgn p))).setCell ⟨N, 1, none⟩ (.slice ap (lms p).length cp)).frozen? a = W.frozen? a := fun a => by rw [World.frozen?_setCell, World.frozen?_setCell]
  have z2 : base ≤ ((W.setCell ⟨N, 0, none⟩ (.bool (sgn p))).setCell ⟨N, 1, none⟩ (.slice ap (lms p).length cp)).heap.size := by simp; omega
  generalize ((W.setCell ⟨N, 0, none⟩ (.bool (sgn p))).setCell ⟨N, 1, none⟩ (.slice ap (lms p).length cp)) = V at *
  exact ⟨(cell_two (N := M) (p := ⟨N, 0, none⟩) h1).trans e1, (cell_two (N := M) (p := ⟨N, 1, none⟩) h1).trans e2, by go_simp, by go_simp, (cell_two (N := M) (p := ⟨R, 0, none⟩) (Ne.symm h3)).trans e5, (cell_two (N := M) (p := ⟨R, 1, none⟩) (Ne.symm h3)).trans e6,
    by simp [g1, fA0], by simp [g1, fA1], by simp [g1, fB0], by simp [g1, fB1], by simp [g1, fR0], by simp [g1, fR1], zN, zM, zR, by simp; omega, (oA'.setCell (p := ⟨M, 0, none⟩) zM _).setCell (p := ⟨M, 1, none⟩) zM _, (oB'.setCell (p := ⟨M, 0, none⟩) zM _).setCell (p := ⟨M, 1, none⟩) zM _, (bl'.setCell (p := ⟨M, 0, none⟩) hM _).setCell (p := ⟨M, 1, none⟩) hM _⟩
end Go.Proofs.Ytbnjgfaojaimlaa
