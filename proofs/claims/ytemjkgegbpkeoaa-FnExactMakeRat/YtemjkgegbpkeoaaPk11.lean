/- My texts SSt, GcdS, PowS, RatOkS, RCmp, in this order. -/
import Derived.Test.YtemjkgegbpkeoaaPk10
import Derived.Test.YtemjkgegbpkeoaaPk08
import Derived.Test.YtemjkgegbpkeoaaPk04
/- Two numbers in two boxes, wherever these lie, that are stored into in a loop, and a third box for the answer; the numbers' lists are only read. -/
namespace Go.Proofs.Ytemjkgegbpkeoaa
open Go.RowKit
set_option linter.unusedVariables false

/-- a list that is read, in a block from lo on to below hi -/
def RgS (W : World) (lo hi : Nat) (a : Option Addr) (n cap : Nat) (xs : List Nat) : Prop := Seg W a n cap xs ∧ (0 < n → ∀ g o s, a = some ⟨g, o, s⟩ → lo ≤ g ∧ g < hi)
/-- a list that is read and lies from L on in none of three blocks -/
def Lk (W : World) (L N M R : Nat) (a : Option Addr) (n cap : Nat) (xs : List Nat) : Prop := Seg W a n cap xs ∧ (0 < n → ∀ g o s, a = some ⟨g, o, s⟩ → L ≤ g ∧ g ≠ N ∧ g ≠ M ∧ g ≠ R)
theorem Lk.below {W W' : World} {L N M R : Nat} {a : Option Addr} {n cap : Nat} {xs : List Nat} (h : Lk W L N M R a n cap xs) (hb : Below W.heap.size W W') : Lk W' L N M R a n cap xs := ⟨h.1.below hb, h.2⟩
theorem Seg.setOff {W : World} {a : Option Addr} {n cap : Nat} {xs : List Nat} (h : Seg W a n cap xs) {p : Addr} (hp : 0 < n → ∀ g o s, a = some ⟨g, o, s⟩ → g ≠ p.block) (v : Value) : Seg (W.setCell p v) a n cap xs := by
  obtain ⟨h1, h2, h3, h4, h5⟩ := h
  refine ⟨h1, h2, h3, h4, ?_⟩
  rcases h5 with h5 | ⟨g, o, ha, hg, hc⟩
  · exact .inl h5
  · by_cases h0 : n = 0
    · exact .inl h0
    · refine .inr ⟨g, o, ha, by simp; exact hg, fun j hj => ?_⟩
      rw [World.cell?_of_block (Below.heap_setCell W p v g (hp (by omega) _ _ _ ha))]
      exact hc j hj
theorem Lk.set {W : World} {L N M R : Nat} {a : Option Addr} {n cap : Nat} {xs : List Nat} (h : Lk W L N M R a n cap xs) {p : Addr} (hp : p.block = N ∨ p.block = M ∨ p.block = R) (v : Value) : Lk (W.setCell p v) L N M R a n cap xs := by
  refine ⟨h.1.setOff (fun h0 g o s e => ?_) v, h.2⟩
  obtain ⟨_, h1, h2, h3⟩ := h.2 h0 g o s e
  rcases hp with hp | hp | hp <;> omega
/-- a list in memory of its own behind the three blocks -/
theorem Own.lk {W : World} {base L N M R : Nat} {a : Option Addr} {n cap : Nat} {xs : List Nat} (h : Own W base a n cap xs) (hL : L ≤ base) (hN : N < base) (hM : M < base) (hR : R < base) : Lk W L N M R a n cap xs := by
  refine ⟨h.seg, fun _ g o s e => ?_⟩
  rcases h.cases with ⟨rfl, _⟩ | ⟨g', rfl, h1, h2⟩
  · cases e
  · cases e; omega
/-- .. or between them -/
theorem OwnR.lk {W : World} {lo hi L N M R : Nat} {a : Option Addr} {n cap : Nat} {xs : List Nat} (h : OwnR W lo hi a n cap xs) (hL : L ≤ lo) (hN : N < lo ∨ hi ≤ N) (hM : M < lo ∨ hi ≤ M) (hR : R < lo ∨ hi ≤ R) : Lk W L N M R a n cap xs := by
  refine ⟨h.seg, fun _ g o s e => ?_⟩
  rcases h.1.cases with ⟨rfl, _⟩ | ⟨g', rfl, h1, h2⟩
  · cases e
  · have := h.2 g' rfl
    cases e; omega
theorem Seg.lt {W : World} {a : Option Addr} {n cap : Nat} {xs : List Nat} (h : Seg W a n cap xs) (h0 : 0 < n) {g o : Nat} {s : Option Nat} (e : a = some ⟨g, o, s⟩) : g < W.heap.size := by
  rcases h.2.2.2.2 with h5 | ⟨g', o', ha, hg, _⟩
  · omega
  · rw [ha] at e; cases e; exact hg
theorem Lk.rgs {W : World} {L N M R : Nat} {a : Option Addr} {n cap : Nat} {xs : List Nat} (h : Lk W L N M R a n cap xs) : RgS W L W.heap.size a n cap xs := ⟨h.1, fun h0 g o s e => ⟨(h.2 h0 g o s e).1, h.1.lt h0 e⟩⟩
theorem Own.rgs {W : World} {base : Nat} {a : Option Addr} {n cap : Nat} {xs : List Nat} (h : Own W base a n cap xs) : RgS W base W.heap.size a n cap xs := by
  refine ⟨h.seg, fun h0 g o s e => ⟨?_, h.seg.lt h0 e⟩⟩
  rcases h.cases with ⟨rfl, _⟩ | ⟨g', rfl, h1, h2⟩
  · cases e
  · cases e; exact h1
theorem RgS.below {W W' : World} {lo hi : Nat} {a : Option Addr} {n cap : Nat} {xs : List Nat} (h : RgS W lo hi a n cap xs) (hb : Below W.heap.size W W') : RgS W' lo hi a n cap xs := ⟨h.1.below hb, h.2⟩
theorem RgS.alloc {W : World} {lo hi : Nat} {a : Option Addr} {n cap : Nat} {xs : List Nat} (h : RgS W lo hi a n cap xs) (o : Obj) : RgS (W.alloc o) lo hi a n cap xs := h.below (bl_alloc (bl_refl W) o)
theorem RgS.drew {W : World} {lo hi : Nat} {a : Option Addr} {n cap : Nat} {xs : List Nat} (h : RgS W lo hi a n cap xs) : RgS W.drew lo hi a n cap xs := h.below (bl_refl W).drew
theorem RgS.set {W : World} {lo hi : Nat} {a : Option Addr} {n cap : Nat} {xs : List Nat} (h : RgS W lo hi a n cap xs) {p : Addr} (hp : p.block < lo ∨ hi ≤ p.block) (v : Value) : RgS (W.setCell p v) lo hi a n cap xs :=
  ⟨h.1.setOff (fun h0 g o s e => by have := h.2 h0 g o s e; omega) v, h.2⟩
theorem RgS.mono {W : World} {lo lo' hi hi' : Nat} {a : Option Addr} {n cap : Nat} {xs : List Nat} (h : RgS W lo hi a n cap xs) (h1 : lo' ≤ lo) (h2 : hi ≤ hi') : RgS W lo' hi' a n cap xs := ⟨h.1, fun h0 g o s e => by have := h.2 h0 g o s e; omega⟩
/-- a number that is read, its list from lo on -/
def IsB (W : World) (lo : Nat) (v : Value) (z : Int) : Prop := ∃ a c, v = .agg #[.bool (sgn z), .slice a (lms z).length c] ∧ RgS W lo W.heap.size a (lms z).length c (lms z)
theorem IsB.is {W : World} {lo : Nat} {v : Value} {z : Int} (h : IsB W lo v z) : Is W v z := by obtain ⟨a, c, rfl, h⟩ := h; exact ⟨a, c, rfl, h.1⟩
theorem New.isB {W : World} {lo : Nat} {v : Value} {z : Int} (h : New W lo v z) : IsB W lo v z := by obtain ⟨a, c, rfl, h⟩ := h; exact ⟨a, c, rfl, h.rgs⟩
structure SSt (w W : World) (N M R : Nat) (p q : Int) (ap : Option Addr) (cp : Nat) (aq : Option Addr) (cq : Nat) : Prop where
  kA0 : W.cell? ⟨N, 0, none⟩ = some (.bool (sgn p))
  kA1 : W.cell? ⟨N, 1, none⟩ = some (.slice ap (lms p).length cp)
  kB0 : W.cell? ⟨M, 0, none⟩ = some (.bool (sgn q))
  kB1 : W.cell? ⟨M, 1, none⟩ = some (.slice aq (lms q).length cq)
  kR0 : W.cell? ⟨R, 0, none⟩ = some (.bool false)
  kR1 : W.cell? ⟨R, 1, none⟩ = some (.slice none 0 0)
  fA0 : W.frozen? ⟨N, 0, none⟩ = false
  fA1 : W.frozen? ⟨N, 1, none⟩ = false
  fB0 : W.frozen? ⟨M, 0, none⟩ = false
  fB1 : W.frozen? ⟨M, 1, none⟩ = false
  fR0 : W.frozen? ⟨R, 0, none⟩ = false
  fR1 : W.frozen? ⟨R, 1, none⟩ = false
  zN : N < W.heap.size
  zM : M < W.heap.size
  zR : R < W.heap.size
  hN : w.heap.size ≤ N
  hM : w.heap.size ≤ M
  hR : w.heap.size ≤ R
  n1 : N ≠ M
  n2 : N ≠ R
  n3 : M ≠ R
  oA : Lk W w.heap.size N M R ap (lms p).length cp (lms p)
  oB : Lk W w.heap.size N M R aq (lms q).length cq (lms q)
  bel : Below w.heap.size w W
theorem SSt.below {w W W' : World} {N M R : Nat} {p q : Int} {ap aq : Option Addr} {cp cq : Nat} (h : SSt w W N M R p q ap cp aq cq) (hb : Below W.heap.size W W') : SSt w W' N M R p q ap cp aq cq := by
  obtain ⟨a, b, c, d, e, f, g, h, i, j, k, l, zN, zM, zR, hN, hM, hR, n1, n2, n3, o1, o2, bl⟩ := h
  have := hb.size
  exact ⟨(hb.cell (p := ⟨N, 0, none⟩) zN).trans a, (hb.cell (p := ⟨N, 1, none⟩) zN).trans b, (hb.cell (p := ⟨M, 0, none⟩) zM).trans c, (hb.cell (p := ⟨M, 1, none⟩) zM).trans d, (hb.cell (p := ⟨R, 0, none⟩) zR).trans e, (hb.cell (p := ⟨R, 1, none⟩) zR).trans f,
    (hb.frozen (p := ⟨N, 0, none⟩) zN).trans g, (hb.frozen (p := ⟨N, 1, none⟩) zN).trans h, (hb.frozen (p := ⟨M, 0, none⟩) zM).trans i, (hb.frozen (p := ⟨M, 1, none⟩) zM).trans j, (hb.frozen (p := ⟨R, 0, none⟩) zR).trans k, (hb.frozen (p := ⟨R, 1, none⟩) zR).trans l,
    by omega, by omega, by omega, hN, hM, hR, n1, n2, n3, o1.below hb, o2.below hb, bl_trans bl hb⟩
theorem SSt.set1 {w W : World} {N M R : Nat} {p q r : Int} {ap aq ar : Option Addr} {cp cq cr : Nat} (h : SSt w W N M R p q ap cp aq cq) (ho : Lk W w.heap.size N M R ar (lms r).length cr (lms r)) :
    SSt w ((W.setCell ⟨N, 0, none⟩ (.bool (sgn r))).setCell ⟨N, 1, none⟩ (.slice ar (lms r).length cr)) N M R r q ar cr aq cq := by
  obtain ⟨a, b, c, d, e, f, g, h, i, j, k, l, zN, zM, zR, hN, hM, hR, n1, n2, n3, o1, o2, bl⟩ := h
  exact ⟨by go_simp, by go_simp, (cell_two (N := N) (p := ⟨M, 0, none⟩) (Ne.symm n1)).trans c, (cell_two (N := N) (p := ⟨M, 1, none⟩) (Ne.symm n1)).trans d, (cell_two (N := N) (p := ⟨R, 0, none⟩) (Ne.symm n2)).trans e, (cell_two (N := N) (p := ⟨R, 1, none⟩) (Ne.symm n2)).trans f,
    by simp [g], by simp [h], by simp [i], by simp [j], by simp [k], by simp [l], by simp; omega, by simp; omega, by simp; omega, hN, hM, hR, n1, n2, n3, (ho.set (p := ⟨N, 0, none⟩) (.inl rfl) _).set (p := ⟨N, 1, none⟩) (.inl rfl) _, (o2.set (p := ⟨N, 0, none⟩) (.inl rfl) _).set (p := ⟨N, 1, none⟩) (.inl rfl) _, (bl.setCell (p := ⟨N, 0, none⟩) hN _).setCell (p := ⟨N, 1, none⟩) hN _⟩
theorem SSt.set2 {w W : World} {N M R : Nat} {p q r : Int} {ap aq ar : Option Addr} {cp cq cr : Nat} (h : SSt w W N M R p q ap cp aq cq) (ho : Lk W w.heap.size N M R ar (lms r).length cr (lms r)) :
    SSt w ((W.setCell ⟨M, 0, none⟩ (.bool (sgn r))).setCell ⟨M, 1, none⟩ (.slice ar (lms r).length cr)) N M R p r ap cp ar cr := by
  obtain ⟨a, b, c, d, e, f, g, h, i, j, k, l, zN, zM, zR, hN, hM, hR, n1, n2, n3, o1, o2, bl⟩ := h
  exact ⟨(cell_two (N := M) (p := ⟨N, 0, none⟩) n1).trans a, (cell_two (N := M) (p := ⟨N, 1, none⟩) n1).trans b, by go_simp, by go_simp, (cell_two (N := M) (p := ⟨R, 0, none⟩) (Ne.symm n3)).trans e, (cell_two (N := M) (p := ⟨R, 1, none⟩) (Ne.symm n3)).trans f,
    by simp [g], by simp [h], by simp [i], by simp [j], by simp [k], by simp [l], by simp; omega, by simp; omega, by simp; omega, hN, hM, hR, n1, n2, n3, (o1.set (p := ⟨M, 0, none⟩) (.inr (.inl rfl)) _).set (p := ⟨M, 1, none⟩) (.inr (.inl rfl)) _, (ho.set (p := ⟨M, 0, none⟩) (.inr (.inl rfl)) _).set (p := ⟨M, 1, none⟩) (.inr (.inl rfl)) _, (bl.setCell (p := ⟨M, 0, none⟩) hM _).setCell (p := ⟨M, 1, none⟩) hM _⟩
theorem SSt.fin {w W : World} {N M R : Nat} {p q : Int} {ap aq : Option Addr} {cp cq : Nat} (h : SSt w W N M R p q ap cp aq cq) (x y : Value) :
    IsB ((W.setCell ⟨R, 0, none⟩ x).setCell ⟨R, 1, none⟩ y) w.heap.size (.agg #[.bool (sgn p), .slice ap (lms p).length cp]) p ∧ Below w.heap.size w ((W.setCell ⟨R, 0, none⟩ x).setCell ⟨R, 1, none⟩ y) :=
  ⟨⟨ap, cp, rfl, ((h.oA.set (p := ⟨R, 0, none⟩) (.inr (.inr rfl)) x).set (p := ⟨R, 1, none⟩) (.inr (.inr rfl)) y).rgs⟩, (h.bel.setCell (p := ⟨R, 0, none⟩) h.hR x).setCell (p := ⟨R, 1, none⟩) h.hR y⟩
theorem sst_bb {w W : World} {R loA hiA loB hiB : Nat} {p q : Int} {ap aq : Option Addr} {cp cq : Nat} (kR0 : W.cell? ⟨R, 0, none⟩ = some (.bool false)) (kR1 : W.cell? ⟨R, 1, none⟩ = some (.slice none 0 0)) (fR0 : W.frozen? ⟨R, 0, none⟩ = false) (fR1 : W.frozen? ⟨R, 1, none⟩ = false) (zR : R < W.heap.size) (hR : w.heap.size ≤ R) (oA : OwnR W loA hiA ap (lms p).length cp (lms p)) (oB : OwnR W loB hiB aq (lms q).length cq (lms q)) (rA : R < loA ∨ hiA ≤ R) (rB : R < loB ∨ hiB ≤ R) (hA : hiA ≤ W.heap.size) (hB : hiB ≤ W.heap.size) (lA : w.heap.size ≤ loA) (lB : w.heap.size ≤ loB) (bl : Below w.heap.size w W)  : SSt w ((W.alloc (Obj.cells #[Value.bool (sgn p), Value.slice ap (lms p).length cp] 26)).alloc (Obj.cells #[Value.bool (sgn q), Value.slice aq (lms q).length cq] 26)) (W.heap.size) (W.heap.size + 1) R p q ap cp aq cq := by
  have e1 : ¬ R = W.heap.size := by omega
  have e2 : ¬ R = W.heap.size + 1 := by omega
  have e3 : ¬ W.heap.size = R := by omega
  have e4 : ¬ W.heap.size + 1 = R := by omega
  have hw := bl.size
  exact ⟨(by go_simp), (by go_simp), (by go_simp), (by go_simp), (by go_simp), (by go_simp), (by go_simp), (by go_simp), (by go_simp), (by go_simp), (by go_simp), (by go_simp), (by simp only [World.size_alloc]; omega), (by simp only [World.size_alloc]; omega), (by simp only [World.size_alloc]; omega), (by omega), (by omega), (by omega), (by omega), (by omega), (by omega), (by refine OwnR.lk (lo := loA) (hi := hiA) ?_ (by omega) (by omega) (by omega) (by omega); repeat first | refine OwnR.set ?_ (by first | omega | (dsimp only; omega)) _ | refine OwnR.alloc ?_ _ | exact oA), (by refine OwnR.lk (lo := loB) (hi := hiB) ?_ (by omega) (by omega) (by omega) (by omega); repeat first | refine OwnR.set ?_ (by first | omega | (dsimp only; omega)) _ | refine OwnR.alloc ?_ _ | exact oB), (by repeat first | refine Below.setCell ?_ (by first | omega | (dsimp only; omega)) _ | refine bl_alloc ?_ _ | exact bl)⟩
theorem sst_bb2 {w W : World} {R loA hiA loB hiB : Nat} {p q : Int} {ap aq : Option Addr} {cp cq : Nat} (kR0 : W.cell? ⟨R, 0, none⟩ = some (.bool false)) (kR1 : W.cell? ⟨R, 1, none⟩ = some (.slice none 0 0)) (fR0 : W.frozen? ⟨R, 0, none⟩ = false) (fR1 : W.frozen? ⟨R, 1, none⟩ = false) (zR : R < W.heap.size) (hR : w.heap.size ≤ R) (oA : OwnR W loA hiA ap (lms p).length cp (lms p)) (oB : OwnR W loB hiB aq (lms q).length cq (lms q)) (rA : R < loA ∨ hiA ≤ R) (rB : R < loB ∨ hiB ≤ R) (hA : hiA ≤ W.heap.size) (hB : hiB ≤ W.heap.size) (lA : w.heap.size ≤ loA) (lB : w.heap.size ≤ loB) (bl : Below w.heap.size w W)  : SSt w ((W.alloc (Obj.cells #[Value.bool (sgn q), Value.slice aq (lms q).length cq] 26)).alloc (Obj.cells #[Value.bool (sgn p), Value.slice ap (lms p).length cp] 26)) (W.heap.size + 1) (W.heap.size) R p q ap cp aq cq := by
  have e1 : ¬ R = W.heap.size := by omega
  have e2 : ¬ R = W.heap.size + 1 := by omega
  have e3 : ¬ W.heap.size = R := by omega
  have e4 : ¬ W.heap.size + 1 = R := by omega
  have hw := bl.size
  exact ⟨(by go_simp), (by go_simp), (by go_simp), (by go_simp), (by go_simp), (by go_simp), (by go_simp), (by go_simp), (by go_simp), (by go_simp), (by go_simp), (by go_simp), (by simp only [World.size_alloc]; omega), (by simp only [World.size_alloc]; omega), (by simp only [World.size_alloc]; omega), (by omega), (by omega), (by omega), (by omega), (by omega), (by omega), (by refine OwnR.lk (lo := loA) (hi := hiA) ?_ (by omega) (by omega) (by omega) (by omega); repeat first | refine OwnR.set ?_ (by first | omega | (dsimp only; omega)) _ | refine OwnR.alloc ?_ _ | exact oA), (by refine OwnR.lk (lo := loB) (hi := hiB) ?_ (by omega) (by omega) (by omega) (by omega); repeat first | refine OwnR.set ?_ (by first | omega | (dsimp only; omega)) _ | refine OwnR.alloc ?_ _ | exact oB), (by repeat first | refine Below.setCell ?_ (by first | omega | (dsimp only; omega)) _ | refine bl_alloc ?_ _ | exact bl)⟩
theorem sst_ab {w W : World} {R loA hiA loB hiB : Nat} {p q : Int} {ap aq : Option Addr} {cp cq : Nat} (kR0 : W.cell? ⟨R, 0, none⟩ = some (.bool false)) (kR1 : W.cell? ⟨R, 1, none⟩ = some (.slice none 0 0)) (fR0 : W.frozen? ⟨R, 0, none⟩ = false) (fR1 : W.frozen? ⟨R, 1, none⟩ = false) (zR : R < W.heap.size) (hR : w.heap.size ≤ R) (oA : OwnR W loA hiA ap (lms p).length cp (lms p)) (oB : OwnR W loB hiB aq (lms q).length cq (lms q)) (rA : R < loA ∨ hiA ≤ R) (rB : R < loB ∨ hiB ≤ R) (hA : hiA ≤ W.heap.size) (hB : hiB ≤ W.heap.size) (lA : w.heap.size ≤ loA) (lB : w.heap.size ≤ loB) (bl : Below w.heap.size w W) {N : Nat} (zN : Zr W N) (hN : w.heap.size ≤ N) (nA : N < loA ∨ hiA ≤ N) (nB : N < loB ∨ hiB ≤ N) (nR : N ≠ R) : SSt w (((W.setCell ⟨N, 0, none⟩ (.bool (sgn p))).setCell ⟨N, 1, none⟩ (.slice ap (lms p).length cp)).alloc (Obj.cells #[Value.bool (sgn q), Value.slice aq (lms q).length cq] 26)) (N) (W.heap.size) R p q ap cp aq cq := by
  obtain ⟨gN, cN0, cN1, fN0, fN1⟩ := zN
  have e1 : ¬ R = W.heap.size := by omega
  have e2 : ¬ R = W.heap.size + 1 := by omega
  have e3 : ¬ W.heap.size = R := by omega
  have e4 : ¬ W.heap.size + 1 = R := by omega
  have dN1 : ¬ N = W.heap.size := by omega
  have dN2 : ¬ W.heap.size = N := by omega
  have dN3 : ¬ R = N := fun e => nR e.symm
  have dN4 : ¬ N = R := nR
  have hw := bl.size
  exact ⟨(by go_simp), (by go_simp), (by go_simp), (by go_simp), (by go_simp), (by go_simp), (by go_simp), (by go_simp), (by go_simp), (by go_simp), (by go_simp), (by go_simp), (by simp only [World.size_alloc, World.size_setCell]; omega), (by simp only [World.size_alloc, World.size_setCell]; omega), (by simp only [World.size_alloc, World.size_setCell]; omega), (by omega), (by omega), (by omega), (by omega), (by omega), (by omega), (by refine OwnR.lk (lo := loA) (hi := hiA) ?_ (by omega) (by omega) (by omega) (by omega); repeat first | refine OwnR.set ?_ (by first | omega | (dsimp only; omega)) _ | refine OwnR.alloc ?_ _ | exact oA), (by refine OwnR.lk (lo := loB) (hi := hiB) ?_ (by omega) (by omega) (by omega) (by omega); repeat first | refine OwnR.set ?_ (by first | omega | (dsimp only; omega)) _ | refine OwnR.alloc ?_ _ | exact oB), (by repeat first | refine Below.setCell ?_ (by first | omega | (dsimp only; omega)) _ | refine bl_alloc ?_ _ | exact bl)⟩
theorem sst_ba {w W : World} {R loA hiA loB hiB : Nat} {p q : Int} {ap aq : Option Addr} {cp cq : Nat} (kR0 : W.cell? ⟨R, 0, none⟩ = some (.bool false)) (kR1 : W.cell? ⟨R, 1, none⟩ = some (.slice none 0 0)) (fR0 : W.frozen? ⟨R, 0, none⟩ = false) (fR1 : W.frozen? ⟨R, 1, none⟩ = false) (zR : R < W.heap.size) (hR : w.heap.size ≤ R) (oA : OwnR W loA hiA ap (lms p).length cp (lms p)) (oB : OwnR W loB hiB aq (lms q).length cq (lms q)) (rA : R < loA ∨ hiA ≤ R) (rB : R < loB ∨ hiB ≤ R) (hA : hiA ≤ W.heap.size) (hB : hiB ≤ W.heap.size) (lA : w.heap.size ≤ loA) (lB : w.heap.size ≤ loB) (bl : Below w.heap.size w W) {M : Nat} (zM : Zr W M) (hM : w.heap.size ≤ M) (mA : M < loA ∨ hiA ≤ M) (mB : M < loB ∨ hiB ≤ M) (mR : M ≠ R) : SSt w (((W.setCell ⟨M, 0, none⟩ (.bool (sgn q))).setCell ⟨M, 1, none⟩ (.slice aq (lms q).length cq)).alloc (Obj.cells #[Value.bool (sgn p), Value.slice ap (lms p).length cp] 26)) (W.heap.size) (M) R p q ap cp aq cq := by
  obtain ⟨gM, cM0, cM1, fM0, fM1⟩ := zM
  have e1 : ¬ R = W.heap.size := by omega
  have e2 : ¬ R = W.heap.size + 1 := by omega
  have e3 : ¬ W.heap.size = R := by omega
  have e4 : ¬ W.heap.size + 1 = R := by omega
  have dM1 : ¬ M = W.heap.size := by omega
  have dM2 : ¬ W.heap.size = M := by omega
  have dM3 : ¬ R = M := fun e => mR e.symm
  have dM4 : ¬ M = R := mR
  have hw := bl.size
  exact ⟨(by go_simp), (by go_simp), (by go_simp), (by go_simp), (by go_simp), (by go_simp), (by go_simp), (by go_simp), (by go_simp), (by go_simp), (by go_simp), (by go_simp), (by simp only [World.size_alloc, World.size_setCell]; omega), (by simp only [World.size_alloc, World.size_setCell]; omega), (by simp only [World.size_alloc, World.size_setCell]; omega), (by omega), (by omega), (by omega), (by omega), (by omega), (by omega), (by refine OwnR.lk (lo := loA) (hi := hiA) ?_ (by omega) (by omega) (by omega) (by omega); repeat first | refine OwnR.set ?_ (by first | omega | (dsimp only; omega)) _ | refine OwnR.alloc ?_ _ | exact oA), (by refine OwnR.lk (lo := loB) (hi := hiB) ?_ (by omega) (by omega) (by omega) (by omega); repeat first | refine OwnR.set ?_ (by first | omega | (dsimp only; omega)) _ | refine OwnR.alloc ?_ _ | exact oB), (by repeat first | refine Below.setCell ?_ (by first | omega | (dsimp only; omega)) _ | refine bl_alloc ?_ _ | exact bl)⟩
theorem sst_aa {w W : World} {R loA hiA loB hiB : Nat} {p q : Int} {ap aq : Option Addr} {cp cq : Nat} (kR0 : W.cell? ⟨R, 0, none⟩ = some (.bool false)) (kR1 : W.cell? ⟨R, 1, none⟩ = some (.slice none 0 0)) (fR0 : W.frozen? ⟨R, 0, none⟩ = false) (fR1 : W.frozen? ⟨R, 1, none⟩ = false) (zR : R < W.heap.size) (hR : w.heap.size ≤ R) (oA : OwnR W loA hiA ap (lms p).length cp (lms p)) (oB : OwnR W loB hiB aq (lms q).length cq (lms q)) (rA : R < loA ∨ hiA ≤ R) (rB : R < loB ∨ hiB ≤ R) (hA : hiA ≤ W.heap.size) (hB : hiB ≤ W.heap.size) (lA : w.heap.size ≤ loA) (lB : w.heap.size ≤ loB) (bl : Below w.heap.size w W) {N : Nat} (zN : Zr W N) (hN : w.heap.size ≤ N) (nA : N < loA ∨ hiA ≤ N) (nB : N < loB ∨ hiB ≤ N) (nR : N ≠ R) {M : Nat} (zM : Zr W M) (hM : w.heap.size ≤ M) (mA : M < loA ∨ hiA ≤ M) (mB : M < loB ∨ hiB ≤ M) (mR : M ≠ R) (nM : N ≠ M) : SSt w ((((W.setCell ⟨N, 0, none⟩ (.bool (sgn p))).setCell ⟨N, 1, none⟩ (.slice ap (lms p).length cp)).setCell ⟨M, 0, none⟩ (.bool (sgn q))).setCell ⟨M, 1, none⟩ (.slice aq (lms q).length cq)) (N) (M) R p q ap cp aq cq := by
  obtain ⟨gN, cN0, cN1, fN0, fN1⟩ := zN
  obtain ⟨gM, cM0, cM1, fM0, fM1⟩ := zM
  have dN1 : ¬ N = W.heap.size := by omega
  have dN2 : ¬ W.heap.size = N := by omega
  have dN3 : ¬ R = N := fun e => nR e.symm
  have dN4 : ¬ N = R := nR
  have dM1 : ¬ M = W.heap.size := by omega
  have dM2 : ¬ W.heap.size = M := by omega
  have dM3 : ¬ R = M := fun e => mR e.symm
  have dM4 : ¬ M = R := mR
  have dNM : ¬ M = N := fun e => nM e.symm
  have hw := bl.size
  exact ⟨(by go_simp), (by go_simp), (by go_simp), (by go_simp), (by go_simp), (by go_simp), (by go_simp), (by go_simp), (by go_simp), (by go_simp), (by go_simp), (by go_simp), (by simp only [World.size_setCell]; omega), (by simp only [World.size_setCell]; omega), (by simp only [World.size_setCell]; omega), (by omega), (by omega), (by omega), (by omega), (by omega), (by omega), (by refine OwnR.lk (lo := loA) (hi := hiA) ?_ (by omega) (by omega) (by omega) (by omega); repeat first | refine OwnR.set ?_ (by first | omega | (dsimp only; omega)) _ | refine OwnR.alloc ?_ _ | exact oA), (by refine OwnR.lk (lo := loB) (hi := hiB) ?_ (by omega) (by omega) (by omega) (by omega); repeat first | refine OwnR.set ?_ (by first | omega | (dsimp only; omega)) _ | refine OwnR.alloc ?_ _ | exact oB), (by repeat first | refine Below.setCell ?_ (by first | omega | (dsimp only; omega)) _ | refine bl_alloc ?_ _ | exact bl)⟩
end Go.Proofs.Ytemjkgegbpkeoaa

/- The walk of l02Gcd. -/
namespace Go.Proofs.Ytemjkgegbpkeoaa
open Go.RowKit
set_option linter.unusedVariables false

theorem mk_nat_lms (x : Int) : mk false (Num.nat (lms x)) = (x.natAbs : Int) := by rw [nat_lms]; rfl
theorem OwnR.below {W W' : World} {lo hi : Nat} {a : Option Addr} {n cap : Nat} {xs : List Nat} (h : OwnR W lo hi a n cap xs) (hb : Below W.heap.size W W') : OwnR W' lo hi a n cap xs := ⟨h.1.below hb, h.2⟩

set_option maxHeartbeats 8000000 in
set_option maxRecDepth 20000 in
theorem gcdS (v1 v2 : Value) (x y : Int) (w : World) (h1 : Is w v1 x) (h2 : Is w v2 y) (l1 : (lms x).length ≤ 100000) (l2 : (lms y).length ≤ 100000) :
    Calls Try.prog 49 #[v1, v2] w fun e w' => ∃ v, e = .returned v ∧ IsB w' w.heap.size v (Int.gcd x y : Int) ∧ Below w.heap.size w w' := by
  obtain ⟨a, ca, rfl, ha⟩ := h1
  obtain ⟨b, cb, rfl, hb⟩ := h2
  have HA := hide ha
  have HBB := hide hb
  clear ha hb
  have kA0 : (((w.alloc (Obj.cells #[Value.bool (sgn x), Value.slice a (lms x).length ca] 26)).alloc (Obj.cells #[Value.bool (sgn y), Value.slice b (lms y).length cb] 26)).alloc (Obj.cells #[Value.bool false, Value.slice none 0 0] 26)).cell? ⟨w.heap.size, 0, none⟩ = some (Value.bool (sgn x)) := by go_simp
  have kA1 : (((w.alloc (Obj.cells #[Value.bool (sgn x), Value.slice a (lms x).length ca] 26)).alloc (Obj.cells #[Value.bool (sgn y), Value.slice b (lms y).length cb] 26)).alloc (Obj.cells #[Value.bool false, Value.slice none 0 0] 26)).cell? ⟨w.heap.size, 1, none⟩ = some (Value.slice a (lms x).length ca) := by go_simp
  have zA : w.heap.size < (((w.alloc (Obj.cells #[Value.bool (sgn x), Value.slice a (lms x).length ca] 26)).alloc (Obj.cells #[Value.bool (sgn y), Value.slice b (lms y).length cb] 26)).alloc (Obj.cells #[Value.bool false, Value.slice none 0 0] 26)).heap.size := by simp only [World.size_alloc]; omega
  have kB0 : (((w.alloc (Obj.cells #[Value.bool (sgn x), Value.slice a (lms x).length ca] 26)).alloc (Obj.cells #[Value.bool (sgn y), Value.slice b (lms y).length cb] 26)).alloc (Obj.cells #[Value.bool false, Value.slice none 0 0] 26)).cell? ⟨w.heap.size + 1, 0, none⟩ = some (Value.bool (sgn y)) := by go_simp
  have kB1 : (((w.alloc (Obj.cells #[Value.bool (sgn x), Value.slice a (lms x).length ca] 26)).alloc (Obj.cells #[Value.bool (sgn y), Value.slice b (lms y).length cb] 26)).alloc (Obj.cells #[Value.bool false, Value.slice none 0 0] 26)).cell? ⟨w.heap.size + 1, 1, none⟩ = some (Value.slice b (lms y).length cb) := by go_simp
  have zB : w.heap.size + 1 < (((w.alloc (Obj.cells #[Value.bool (sgn x), Value.slice a (lms x).length ca] 26)).alloc (Obj.cells #[Value.bool (sgn y), Value.slice b (lms y).length cb] 26)).alloc (Obj.cells #[Value.bool false, Value.slice none 0 0] 26)).heap.size := by simp only [World.size_alloc]; omega
  have kR0 : (((w.alloc (Obj.cells #[Value.bool (sgn x), Value.slice a (lms x).length ca] 26)).alloc (Obj.cells #[Value.bool (sgn y), Value.slice b (lms y).length cb] 26)).alloc (Obj.cells #[Value.bool false, Value.slice none 0 0] 26)).cell? ⟨w.heap.size + 1 + 1, 0, none⟩ = some (Value.bool false) := by go_simp
  have fR0 : (((w.alloc (Obj.cells #[Value.bool (sgn x), Value.slice a (lms x).length ca] 26)).alloc (Obj.cells #[Value.bool (sgn y), Value.slice b (lms y).length cb] 26)).alloc (Obj.cells #[Value.bool false, Value.slice none 0 0] 26)).frozen? ⟨w.heap.size + 1 + 1, 0, none⟩ = false := by go_simp
  have kR1 : (((w.alloc (Obj.cells #[Value.bool (sgn x), Value.slice a (lms x).length ca] 26)).alloc (Obj.cells #[Value.bool (sgn y), Value.slice b (lms y).length cb] 26)).alloc (Obj.cells #[Value.bool false, Value.slice none 0 0] 26)).cell? ⟨w.heap.size + 1 + 1, 1, none⟩ = some (Value.slice none 0 0) := by go_simp
  have fR1 : (((w.alloc (Obj.cells #[Value.bool (sgn x), Value.slice a (lms x).length ca] 26)).alloc (Obj.cells #[Value.bool (sgn y), Value.slice b (lms y).length cb] 26)).alloc (Obj.cells #[Value.bool false, Value.slice none 0 0] 26)).frozen? ⟨w.heap.size + 1 + 1, 1, none⟩ = false := by go_simp
  have zR : w.heap.size + 1 + 1 < (((w.alloc (Obj.cells #[Value.bool (sgn x), Value.slice a (lms x).length ca] 26)).alloc (Obj.cells #[Value.bool (sgn y), Value.slice b (lms y).length cb] 26)).alloc (Obj.cells #[Value.bool false, Value.slice none 0 0] 26)).heap.size := by simp only [World.size_alloc]; omega
  have HB := hide (bl_alloc (bl_alloc (bl_alloc (bl_refl w) (Obj.cells #[Value.bool (sgn x), Value.slice a (lms x).length ca] 26)) (Obj.cells #[Value.bool (sgn y), Value.slice b (lms y).length cb] 26)) (Obj.cells #[Value.bool false, Value.slice none 0 0] 26))
  replace HA := hide (HA.out.below HB.out)
  replace HBB := hide (HBB.out.below HB.out)
  have y0 : w.heap.size + 3 ≤ (((w.alloc (Obj.cells #[Value.bool (sgn x), Value.slice a (lms x).length ca] 26)).alloc (Obj.cells #[Value.bool (sgn y), Value.slice b (lms y).length cb] 26)).alloc (Obj.cells #[Value.bool false, Value.slice none 0 0] 26)).heap.size := by simp only [World.size_alloc]; omega
  go_enter Try.func49, Try.ntmps49
  go_upto_region 1 with fail
  generalize (((w.alloc (Obj.cells #[Value.bool (sgn x), Value.slice a (lms x).length ca] 26)).alloc (Obj.cells #[Value.bool (sgn y), Value.slice b (lms y).length cb] 26)).alloc (Obj.cells #[Value.bool false, Value.slice none 0 0] 26)) = w1 at *
  go_cut [5, 6] (fun s5 s6 wc => ∃ (N M : Nat) (ap : Option Addr) (cp : Nat) (aq : Option Addr) (cq : Nat), s5 = .pointer (some ⟨N, 0, none⟩) ∧ s6 = .pointer (some ⟨M, 0, none⟩) ∧ Hid (SSt w wc N M (w.heap.size + 1 + 1) (x.natAbs : Int) (y.natAbs : Int) ap cp aq cq))
  case first =>
    have KP : Hid (∀ w', Below w1.heap.size w1 w' → (w'.cell? ⟨w.heap.size, 1, none⟩ = some (Value.slice a (lms x).length ca) ∧ w'.cell? ⟨w.heap.size + 1, 1, none⟩ = some (Value.slice b (lms y).length cb) ∧ Hid (Below w1.heap.size w1 w'))) := hide (fun w' hb => ⟨(hb.cell (p := ⟨w.heap.size, 1, none⟩) zA).trans kA1, (hb.cell (p := ⟨w.heap.size + 1, 1, none⟩) zB).trans kB1, hb⟩)
    have TT := trivial
    go_region_held3 (fun w' => w'.cell? ⟨w.heap.size, 1, none⟩ = some (Value.slice a (lms x).length ca) ∧ w'.cell? ⟨w.heap.size + 1, 1, none⟩ = some (Value.slice b (lms y).length cb) ∧ Hid (Below w1.heap.size w1 w'))
      (first | exact KP.out _ (bl_refl w1).drew | exact KP.out _ bB | exact KP.out _ bA | exact KP.out _ (by repeat first | exact bB | exact bA | exact (bl_refl w1).drew | exact bl_refl w1 | refine bl_alloc ?_ _ | refine bl_trans ?_ (bl_refl _).drew | refine Below.setCell ?_ (by first | omega | (dsimp only; omega) | (dsimp only; rw [World.size_drew]; omega)) _))
      (first
        | (go_at_call 61; (fail_if_success have := armA); refine (makeS false a _ ca (lms x) _ (HA.out.below (Hid.out (And.right (And.right (by assumption))))) (by omega)).mono ?_; rintro e wA ⟨vA, rfl, hnA, hbA⟩; have bA : Below w1.heap.size w1 wA := bl_trans (Hid.out (And.right (And.right (by assumption)))) hbA; have yA := bA.size; rw [mk_nat_lms] at hnA; obtain ⟨aA, cA, rfl, hoA⟩ := hnA; have RA := hide hoA.range; (try simp only [World.size_drew] at RA); (try simp only [World.size_alloc] at RA); (first | (have HZa0 := hide (show Zr wA w1.heap.size from (born2 hbA).1); have HZa1 := hide (show Zr wA (w1.heap.size + 1) from (born2 hbA).2)) | (have HZa0 := hide (show Zr wA w1.heap.size from (born2 (bl_trans (bl_refl ((w1.alloc (Obj.cells #[Value.bool false, Value.slice none 0 0] 26)).alloc (Obj.cells #[Value.bool false, Value.slice none 0 0] 26))).drew hbA)).1); have HZa1 := hide (show Zr wA (w1.heap.size + 1) from (born2 (bl_trans (bl_refl ((w1.alloc (Obj.cells #[Value.bool false, Value.slice none 0 0] 26)).alloc (Obj.cells #[Value.bool false, Value.slice none 0 0] 26))).drew hbA)).2)) | have HZa0 := hide (show Zr wA w1.heap.size from born1 hbA) | have HZa0 := hide (show Zr wA w1.heap.size from born1 (bl_trans (bl_refl (w1.alloc (Obj.cells #[Value.bool false, Value.slice none 0 0] 26))).drew hbA)) | skip); (try have zza0 := HZa0.out.1); (try have zza1 := HZa1.out.1); have armA := TT; clear hoA hbA)
        | (go_at_call 61; have := armA; refine (makeS false b _ cb (lms y) _ (HBB.out.below (Hid.out (And.right (And.right (by assumption))))) (by omega)).mono ?_; rintro e wB ⟨vB, rfl, hnB, hbB⟩; have bB : Below w1.heap.size w1 wB := bl_trans (Hid.out (And.right (And.right (by assumption)))) hbB; have bAB : Below wA.heap.size wA wB := (by first | exact hbB | exact bl_one hbB | exact bl_two hbB); have yB := bAB.size; rw [mk_nat_lms] at hnB; obtain ⟨aB, cB, rfl, hoB⟩ := hnB; have RB := hide hoB.range; (try simp only [World.size_drew] at RB); (try simp only [World.size_alloc] at RB); replace RA := hide (RA.out.below bAB); (try replace HZa0 := hide (HZa0.out.below bAB)); (try replace HZa1 := hide (HZa1.out.below bAB)); (first | (have HZb0 := hide (show Zr wB wA.heap.size from (born2 hbB).1); have HZb1 := hide (show Zr wB (wA.heap.size + 1) from (born2 hbB).2)) | (have HZb0 := hide (show Zr wB wA.heap.size from (born2 (bl_trans (bl_refl ((wA.alloc (Obj.cells #[Value.bool false, Value.slice none 0 0] 26)).alloc (Obj.cells #[Value.bool false, Value.slice none 0 0] 26))).drew hbB)).1); have HZb1 := hide (show Zr wB (wA.heap.size + 1) from (born2 (bl_trans (bl_refl ((wA.alloc (Obj.cells #[Value.bool false, Value.slice none 0 0] 26)).alloc (Obj.cells #[Value.bool false, Value.slice none 0 0] 26))).drew hbB)).2)) | have HZb0 := hide (show Zr wB wA.heap.size from born1 hbB) | have HZb0 := hide (show Zr wB wA.heap.size from born1 (bl_trans (bl_refl (wA.alloc (Obj.cells #[Value.bool false, Value.slice none 0 0] 26))).drew hbB)) | skip); (try have Qa0 := HZa0.out); (try have Qa1 := HZa1.out); (try obtain ⟨za0, ka0_0, ka0_1, fa0_0, fa0_1⟩ := HZa0.out); (try obtain ⟨za1, ka1_0, ka1_1, fa1_0, fa1_1⟩ := HZa1.out); (try have Qb0 := HZb0.out); (try have Qb1 := HZb1.out); (try obtain ⟨zb0, kb0_0, kb0_1, fb0_0, fb0_1⟩ := HZb0.out); (try obtain ⟨zb1, kb1_0, kb1_1, fb1_0, fb1_1⟩ := HZb1.out); have kR0 := (bB.cell (p := ⟨w.heap.size + 1 + 1, 0, none⟩) zR).trans kR0; have kR1 := (bB.cell (p := ⟨w.heap.size + 1 + 1, 1, none⟩) zR).trans kR1; have fR0 := (bB.frozen (p := ⟨w.heap.size + 1 + 1, 0, none⟩) zR).trans fR0; have fR1 := (bB.frozen (p := ⟨w.heap.size + 1 + 1, 1, none⟩) zR).trans fR1; (try have := Nat.ne_of_lt za0); (try have := Nat.ne_of_lt za1); (try have := Nat.ne_of_lt zb0); (try have := Nat.ne_of_lt zb1); (try (have := za0; have := zb0; have : ¬ w1.heap.size = wA.heap.size := by omega)); (try (have := za0; have := zb1; have : ¬ w1.heap.size = wA.heap.size + 1 := by omega)); (try (have := za1; have := zb0; have : ¬ w1.heap.size + 1 = wA.heap.size := by omega)); (try (have := za1; have := zb1; have : ¬ w1.heap.size + 1 = wA.heap.size + 1 := by omega)); (try (have := zb0; have := za0; have : ¬ wA.heap.size = w1.heap.size := by omega)); (try (have := zb0; have := za1; have : ¬ wA.heap.size = w1.heap.size + 1 := by omega)); (try (have := zb1; have := za0; have : ¬ wA.heap.size + 1 = w1.heap.size := by omega)); (try (have := zb1; have := za1; have : ¬ wA.heap.size + 1 = w1.heap.size + 1 := by omega)); (try (have := za0; have : ¬ w1.heap.size = w.heap.size + 1 + 1 := (by omega); have : ¬ w.heap.size + 1 + 1 = w1.heap.size := (by omega))); (try (have := za1; have : ¬ w1.heap.size + 1 = w.heap.size + 1 + 1 := (by omega); have : ¬ w.heap.size + 1 + 1 = w1.heap.size + 1 := (by omega))); (try (have := zb0; have : ¬ wA.heap.size = w.heap.size + 1 + 1 := (by omega); have : ¬ w.heap.size + 1 + 1 = wA.heap.size := (by omega))); (try (have := zb1; have : ¬ wA.heap.size + 1 = w.heap.size + 1 + 1 := (by omega); have : ¬ w.heap.size + 1 + 1 = wA.heap.size + 1 := (by omega))); clear hoB hbB))
    all_goals (go_wp2_with fail; go_meet)
    all_goals refine ⟨_, _, aA, cA, aB, cB, rfl, rfl, hide ?_⟩
    · exact sst_bb kR0 kR1 fR0 fR1 (by omega) (by omega) RA.out RB.out (by omega) (by omega) (by omega) (by omega) (by omega) (by omega) (bl_trans HB.out bB)
    · exact sst_bb2 kR0 kR1 fR0 fR1 (by omega) (by omega) RA.out RB.out (by omega) (by omega) (by omega) (by omega) (by omega) (by omega) (bl_trans HB.out bB)
    · exact sst_ab kR0 kR1 fR0 fR1 (by omega) (by omega) RA.out RB.out (by omega) (by omega) (by omega) (by omega) (by omega) (by omega) (bl_trans HB.out bB) Qb0 (by omega) (by omega) (by omega) (by omega)
    · exact sst_aa kR0 kR1 fR0 fR1 (by omega) (by omega) RA.out RB.out (by omega) (by omega) (by omega) (by omega) (by omega) (by omega) (bl_trans HB.out bB) Qb0 (by omega) (by omega) (by omega) (by omega) Qb1 (by omega) (by omega) (by omega) (by omega) (by omega)
    · exact sst_ba kR0 kR1 fR0 fR1 (by omega) (by omega) RA.out RB.out (by omega) (by omega) (by omega) (by omega) (by omega) (by omega) (bl_trans HB.out bB) Qb0 (by omega) (by omega) (by omega) (by omega)
    · exact sst_aa kR0 kR1 fR0 fR1 (by omega) (by omega) RA.out RB.out (by omega) (by omega) (by omega) (by omega) (by omega) (by omega) (bl_trans HB.out bB) Qb1 (by omega) (by omega) (by omega) (by omega) Qb0 (by omega) (by omega) (by omega) (by omega) (by omega)
    · exact sst_ab kR0 kR1 fR0 fR1 (by omega) (by omega) RA.out RB.out (by omega) (by omega) (by omega) (by omega) (by omega) (by omega) (bl_trans HB.out bB) Qa0 (by omega) (by omega) (by omega) (by omega)
    · exact sst_aa kR0 kR1 fR0 fR1 (by omega) (by omega) RA.out RB.out (by omega) (by omega) (by omega) (by omega) (by omega) (by omega) (bl_trans HB.out bB) Qa0 (by omega) (by omega) (by omega) (by omega) Qb0 (by omega) (by omega) (by omega) (by omega) (by omega)
    · exact sst_aa kR0 kR1 fR0 fR1 (by omega) (by omega) RA.out RB.out (by omega) (by omega) (by omega) (by omega) (by omega) (by omega) (bl_trans HB.out bB) Qa0 (by omega) (by omega) (by omega) (by omega) Qa1 (by omega) (by omega) (by omega) (by omega) (by omega)
    · exact sst_ba kR0 kR1 fR0 fR1 (by omega) (by omega) RA.out RB.out (by omega) (by omega) (by omega) (by omega) (by omega) (by omega) (bl_trans HB.out bB) Qa0 (by omega) (by omega) (by omega) (by omega)
    · exact sst_aa kR0 kR1 fR0 fR1 (by omega) (by omega) RA.out RB.out (by omega) (by omega) (by omega) (by omega) (by omega) (by omega) (bl_trans HB.out bB) Qb0 (by omega) (by omega) (by omega) (by omega) Qa0 (by omega) (by omega) (by omega) (by omega) (by omega)
    · exact sst_aa kR0 kR1 fR0 fR1 (by omega) (by omega) RA.out RB.out (by omega) (by omega) (by omega) (by omega) (by omega) (by omega) (bl_trans HB.out bB) Qa1 (by omega) (by omega) (by omega) (by omega) Qa0 (by omega) (by omega) (by omega) (by omega) (by omega)
  case rest =>
  obtain ⟨N, M, ap, cp, aq, cq, rfl, rfl, hG⟩ := hcut
  clear kA0 kA1 kB0 kB1 kR0 kR1 fR0 fR1 HA HBB HB
  have l1' : (lms (x.natAbs : Int)).length ≤ 100000 := by unfold lms; rw [Int.natAbs_natCast]; exact l1
  have l2' : (lms (y.natAbs : Int)).length ≤ 100000 := by unfold lms; rw [Int.natAbs_natCast]; exact l2
  go_wp2_with fail
  go_loopg [] y.natAbs (fun gk wr => ∃ (p q : Nat) (ap : Option Addr) (cp : Nat) (aq : Option Addr) (cq : Nat), (lms (p : Int)).length ≤ 100000 ∧ (lms (q : Int)).length ≤ 100000 ∧ Hid (gk = q) ∧ Hid (Nat.gcd p q = Int.gcd x y) ∧ Hid (SSt w wr N M (w.heap.size + 1 + 1) (p : Int) (q : Int) ap cp aq cq))
  case atStart => exact ⟨x.natAbs, y.natAbs, ap, cp, aq, cq, l1', l2', hide rfl, hide rfl, hG⟩
  case round =>
    clear hG l1' l2'
    obtain ⟨p, q, ap, cp, aq, cq, hp, hq, hgk, hgcd, hG⟩ := hrel
    obtain ⟨kA0, kA1, kB0, kB1, kR0, kR1, fA0, fA1, fB0, fB1, fR0, fR1, zN, zM, zR', hN, hM, hR, n1, n2, n3, oA, oB, bel⟩ := hG.out
    have HOA := hide oA
    have HOB := hide oB
    clear oA oB bel
    by_cases hq0 : q = 0
    · have hl : ¬ (0 : Int) < ((lms (q : Int)).length : Int) := by rw [hq0]; rw [show ((0 : Nat) : Int) = 0 from rfl, zero_lms]; simp
      have HE : Hid ((p : Int) = (Int.gcd x y : Int)) := hide (by rw [← hgcd.out, hq0, Nat.gcd_zero_right])
      clear hq0
      go_wp2
      refine bodyPost_ret (v := .agg #[.bool (sgn (p : Int)), .slice ap (lms (p : Int)).length cp]) (by simp [results, Try.results49, go_sem, kR0, kR1]) rfl ?_
      rw [← HE.out]
      exact ⟨_, rfl, hG.out.fin _ _⟩
    · have hl : (0 : Int) < ((lms (q : Int)).length : Int) := by
        have : (lms (q : Int)).length ≠ 0 := fun e => hq0 (by have := sgn_lms_nil e; omega)
        omega
      go_upto_region 3 with fail
      rename (0 : Nat) < _ => hl0
      clear hl hl0
      go_wp2_with fail
      refine (divS (.agg #[.bool (sgn (p : Int)), .slice ap (lms (p : Int)).length cp]) (.agg #[.bool (sgn (q : Int)), .slice aq (lms (q : Int)).length cq]) p q _ ⟨ap, cp, rfl, HOA.out.1⟩ ⟨aq, cq, rfl, HOB.out.1⟩ (by omega) hp hq).mono ?_
      rintro e w3 ⟨a1, c1, a2, c2, rfl, ho1, ho2, hb3⟩
      obtain ⟨r, hrr⟩ : ∃ r, p % q = r := ⟨_, rfl⟩
      have hr : ((p : Int) % (q : Int)) = (r : Int) := by rw [← hrr]; rfl
      have HRR := hide hrr
      rw [hr] at ho2 ⊢
      have hb4 := bl_trans hb3 (bl_alloc (bl_alloc (bl_refl w3) (Obj.cells #[Value.bool (sgn ((p : Int) / (q : Int))), Value.slice a1 (lms ((p : Int) / (q : Int))).length c1] 26)) (Obj.cells #[Value.bool (sgn (r : Int)), Value.slice a2 (lms (r : Int)).length c2] 26))
      have y3 := hb3.size
      have kS0 : ((w3.alloc (Obj.cells #[Value.bool (sgn ((p : Int) / (q : Int))), Value.slice a1 (lms ((p : Int) / (q : Int))).length c1] 26)).alloc (Obj.cells #[Value.bool (sgn (r : Int)), Value.slice a2 (lms (r : Int)).length c2] 26)).cell? ⟨w3.heap.size + 1, 0, none⟩ = some (Value.bool (sgn (r : Int))) := by go_simp
      have kS1 : ((w3.alloc (Obj.cells #[Value.bool (sgn ((p : Int) / (q : Int))), Value.slice a1 (lms ((p : Int) / (q : Int))).length c1] 26)).alloc (Obj.cells #[Value.bool (sgn (r : Int)), Value.slice a2 (lms (r : Int)).length c2] 26)).cell? ⟨w3.heap.size + 1, 1, none⟩ = some (Value.slice a2 (lms (r : Int)).length c2) := by go_simp
      have HO2 := hide ((ho2.below (bl_alloc (bl_alloc (bl_refl w3) (Obj.cells #[Value.bool (sgn ((p : Int) / (q : Int))), Value.slice a1 (lms ((p : Int) / (q : Int))).length c1] 26)) (Obj.cells #[Value.bool (sgn (r : Int)), Value.slice a2 (lms (r : Int)).length c2] 26))).lk (L := w.heap.size) (N := N) (M := M) (R := w.heap.size + 1 + 1) (by omega) zN zM zR')
      replace hG := hide (hG.out.below hb4)
      replace HOB := hide (HOB.out.below hb4)
      clear kA0 kA1 kB0 kB1 kR0 kR1 fA0 fA1 fB0 fB1 fR0 fR1 HOA ho1 ho2 hb3 hb4 hr hrr
      have e1 : ¬ N = w3.heap.size + 1 := by omega
      have e2 : ¬ w3.heap.size + 1 = N := by omega
      have e3 : ¬ M = w3.heap.size + 1 := by omega
      have e4 : ¬ w3.heap.size + 1 = M := by omega
      go_upto_region 4 with fail
      generalize ((w3.alloc (Obj.cells #[Value.bool (sgn ((p : Int) / (q : Int))), Value.slice a1 (lms ((p : Int) / (q : Int))).length c1] 26)).alloc (Obj.cells #[Value.bool (sgn (r : Int)), Value.slice a2 (lms (r : Int)).length c2] 26)) = w4 at *
      obtain ⟨kA0, kA1, kB0, kB1, kR0, kR1, fA0, fA1, fB0, fB1, fR0, fR1, zN, zM, zR', hN, hM, hR, n1, n2, n3, oA, oB, bel⟩ := hG.out
      clear oA oB bel
      have HL : Hid ((lms (r : Int)).length ≤ 100000) := hide (by rw [lms_nat'] at hp ⊢; rw [← HRR.out]; exact mod_len hp)
      have HGC : Hid (Nat.gcd q r = Int.gcd x y) := hide (by rw [← hgcd.out, ← HRR.out, Nat.gcd_comm, ← Nat.gcd_rec, Nat.gcd_comm])
      have HLT : Hid (r < gk) := hide (by rw [hgk.out, ← HRR.out]; exact Nat.mod_lt _ (by omega))
      have HFIN := hide (SSt.set2 (SSt.set1 hG.out (r := (q : Int)) HOB.out) (r := (r : Int)) ((HO2.out.set (p := ⟨N, 0, none⟩) (.inl rfl) (.bool (sgn (q : Int)))).set (p := ⟨N, 1, none⟩) (.inl rfl) (.slice aq (lms (q : Int)).length cq)))
      clear HO2 HOB hG hgcd hgk
      have n1' : ¬ M = N := fun e => n1 e.symm
      go_wp2_with fail
      go_roundg r
      all_goals first | exact HLT.out | exact ⟨q, r, _, _, _, _, hq, HL.out, hide rfl, HGC, HFIN⟩
end Go.Proofs.Ytemjkgegbpkeoaa

/- The walks of l01In and l02Power: a number to a power, or one that isn't right where that isn't, in new memory. -/
namespace Go.Proofs.Ytemjkgegbpkeoaa
open Go.RowKit
set_option linter.unusedVariables false

/-- a power, or a number that isn't right where the power isn't -/
def PowLike (z : Int) (n : Nat) (q : Int) : Prop := q = z ^ n ∨ (4294967296 ^ 40 ≤ q.natAbs ∧ q.natAbs ≤ (z ^ n).natAbs ∧ (0 ≤ z → 0 ≤ q))
theorem PowLike.fitsE {z : Int} {n : Nat} {q : Int} (h : PowLike z n q) : fits q = fits (z ^ n) := by
  rcases h with rfl | ⟨h1, h2, _⟩
  · rfl
  · unfold Go.Proofs.Ytemjkgegbpkeoaa.fits; rw [decide_eq_false (by omega), decide_eq_false (by omega)]
theorem PowLike.fitZE {z : Int} {n : Nat} {q : Int} (h : PowLike z n q) : fitZ q = fitZ (z ^ n) := by
  have hf := h.fitsE
  rcases h with rfl | ⟨h1, h2, _⟩
  · rfl
  · have hn : fits q = false := by unfold Go.Proofs.Ytemjkgegbpkeoaa.fits; exact decide_eq_false (by omega)
    unfold Go.Proofs.Ytemjkgegbpkeoaa.fitZ; rw [← hf, hn]; rfl
theorem one_pow_abs {z : Int} (h : z.natAbs = 1) (n : Nat) : mk (sgn z && decide (n % 2 = 1)) 1 = z ^ n := by
  induction n with
  | zero => simp [mk]
  | succ n ih =>
    rw [Int.pow_succ, ← ih]
    have hz : z = 1 ∨ z = -1 := by omega
    rcases hz with rfl | rfl
    · simp [sgn, mk]
    · have e : sgn (-1) = true := rfl
      rw [e, Bool.true_and, Bool.true_and]
      by_cases hp : n % 2 = 1
      · rw [decide_eq_true hp, decide_eq_false (by omega)]; rfl
      · rw [decide_eq_false hp, decide_eq_true (by omega)]; rfl
theorem lms_one {z : Int} (h : z.natAbs = 1) : lms z = [1] := by unfold lms; rw [h, Num.limbs_pos (by decide)]; simp [Num.limbs_zero]
theorem abs_one {z : Int} (h : (lms z).length = 1) (h1 : (lms z)[0]'(by omega) = 1) : z.natAbs = 1 := by
  have e : lms z = [1] := by
    apply List.ext_getElem
    · rw [h]; rfl
    · intro j hj hj'
      obtain rfl : j = 0 := by omega
      rw [h1]; rfl
  have := nat_lms z
  rw [e] at this
  simpa [Num.nat] using this.symm

theorem pow_next {z : Int} {k : Nat} (h1 : (lms (z ^ k)).length ≤ 40) (h2 : (lms z).length ≤ 40) : (lms (z ^ (k + 1))).length ≤ 100 := by
  have e1 := Num.limbs_len.1 h1
  have e2 := Num.limbs_len.1 h2
  have : (z ^ (k + 1)).natAbs < 4294967296 ^ (40 + 40) := by
    rw [Int.pow_succ, Int.natAbs_mul, Nat.pow_add]
    exact Nat.mul_lt_mul'' e1 e2
  exact Nat.le_trans (Num.limbs_len.2 this) (by decide)
theorem pow_over {z : Int} {k n : Nat} (h0 : z ≠ 0) (h : ¬ (lms (z ^ k)).length ≤ 40) (hk : k < n) : PowLike z n (z ^ k) := by
  refine .inr ⟨Nat.not_lt.1 fun hc => h (Num.limbs_len.2 hc), ?_, fun hz => Int.pow_nonneg hz⟩
  rw [abs_pow, abs_pow]
  exact Nat.pow_le_pow_right (by omega) (Nat.le_of_lt hk)

end Go.Proofs.Ytemjkgegbpkeoaa

/- The walk of the specification's RatOk. -/
namespace Go.Proofs.Ytemjkgegbpkeoaa
open Go.RowKit
set_option linter.unusedVariables false

set_option maxHeartbeats 4000000 in
set_option maxRecDepth 20000 in
theorem RatOkQ (n : Bool) (xs : List Nat) (m : Bool) (ys : List Nat) (a : Option Addr) (c : Nat) (b : Option Addr) (d : Nat) (w : World) (s1 : Seg w a xs.length c xs) (s2 : Seg w b ys.length d ys) :
    Calls Try.prog 39 #[(.agg #[.bool n, .slice a xs.length c, .bool m, .slice b ys.length d])] w fun e w' => e = .returned (.bool (ratB n xs m ys)) ∧ Below w.heap.size w w' := by
  have H1 := hide s1
  have H2 := hide s2
  clear s1 s2
  have kA0 : (w.alloc (Obj.cells #[Value.bool n, Value.slice a xs.length c, Value.bool m, Value.slice b ys.length d] 28)).cell? ⟨w.heap.size, 0, none⟩ = some (Value.bool n) := by go_simp
  have kA1 : (w.alloc (Obj.cells #[Value.bool n, Value.slice a xs.length c, Value.bool m, Value.slice b ys.length d] 28)).cell? ⟨w.heap.size, 1, none⟩ = some (Value.slice a xs.length c) := by go_simp
  have kA2 : (w.alloc (Obj.cells #[Value.bool n, Value.slice a xs.length c, Value.bool m, Value.slice b ys.length d] 28)).cell? ⟨w.heap.size, 2, none⟩ = some (Value.bool m) := by go_simp
  have kA3 : (w.alloc (Obj.cells #[Value.bool n, Value.slice a xs.length c, Value.bool m, Value.slice b ys.length d] 28)).cell? ⟨w.heap.size, 3, none⟩ = some (Value.slice b ys.length d) := by go_simp
  have zA : w.heap.size < (w.alloc (Obj.cells #[Value.bool n, Value.slice a xs.length c, Value.bool m, Value.slice b ys.length d] 28)).heap.size := by simp only [World.size_alloc]; omega
  have HB := hide (bl_alloc (bl_refl w) (Obj.cells #[Value.bool n, Value.slice a xs.length c, Value.bool m, Value.slice b ys.length d] 28))
  replace H1 := hide (H1.out.below HB.out)
  replace H2 := hide (H2.out.below HB.out)
  have y0 : w.heap.size + 1 ≤ (w.alloc (Obj.cells #[Value.bool n, Value.slice a xs.length c, Value.bool m, Value.slice b ys.length d] 28)).heap.size := by simp only [World.size_alloc]; omega
  go_enter Try.func39, Try.ntmps39
  go_wp2_with fail
  generalize (w.alloc (Obj.cells #[Value.bool n, Value.slice a xs.length c, Value.bool m, Value.slice b ys.length d] 28)) = w1 at *
  refine (okS _ n xs _ ⟨a, c, rfl, H1.out⟩).mono ?_
  rintro e w2 ⟨rfl, hbw2⟩
  have yw2 := hbw2.size
  replace kA0 := (hbw2.cell (p := ⟨w.heap.size, 0, none⟩) zA).trans kA0
  replace kA1 := (hbw2.cell (p := ⟨w.heap.size, 1, none⟩) zA).trans kA1
  replace kA2 := (hbw2.cell (p := ⟨w.heap.size, 2, none⟩) zA).trans kA2
  replace kA3 := (hbw2.cell (p := ⟨w.heap.size, 3, none⟩) zA).trans kA3
  replace zA := Nat.lt_of_lt_of_le zA hbw2.size
  replace H1 := hide (H1.out.below hbw2)
  replace H2 := hide (H2.out.below hbw2)
  replace HB := hide (bl_trans HB.out hbw2)
  clear hbw2
  cases e1 : okB n xs with
  | false =>
    have HE : Hid (ratB n xs m ys = false) := hide (by unfold ratB; rw [e1]; rfl)
    clear e1
    go_wp2
    go_ret
    exact ⟨ret_bool HE.out.symm, HB.out⟩
  | true =>
  have E1 := hide e1
  clear e1
  go_wp2_with fail
  refine (okS _ m ys _ ⟨b, d, rfl, H2.out⟩).mono ?_
  rintro e w3 ⟨rfl, hbw3⟩
  have yw3 := hbw3.size
  replace kA0 := (hbw3.cell (p := ⟨w.heap.size, 0, none⟩) zA).trans kA0
  replace kA1 := (hbw3.cell (p := ⟨w.heap.size, 1, none⟩) zA).trans kA1
  replace kA2 := (hbw3.cell (p := ⟨w.heap.size, 2, none⟩) zA).trans kA2
  replace kA3 := (hbw3.cell (p := ⟨w.heap.size, 3, none⟩) zA).trans kA3
  replace zA := Nat.lt_of_lt_of_le zA hbw3.size
  replace H1 := hide (H1.out.below hbw3)
  replace H2 := hide (H2.out.below hbw3)
  replace HB := hide (bl_trans HB.out hbw3)
  clear hbw3
  cases e2 : okB m ys with
  | false =>
    have HE : Hid (ratB n xs m ys = false) := hide (by unfold ratB; rw [e2, Bool.and_false]; rfl)
    clear e2
    go_wp2
    go_ret
    exact ⟨ret_bool HE.out.symm, HB.out⟩
  | true =>
  have E2 := hide e2
  clear e2
  obtain ⟨x, rfl, rfl, hx⟩ := ok_num H1.out.2.2.2.1 E1.out
  obtain ⟨y, rfl, rfl, hy⟩ := ok_num H2.out.2.2.2.1 E2.out
  have HR : Hid (ratB (sgn x) (lms x) (sgn y) (lms y) = (decide (0 < y) && decide (Int.gcd x y = 1))) := hide (by unfold ratB; rw [E1.out, E2.out, nat_lms, nat_lms, mk_self, mk_self]; rfl)
  have lx : (lms x).length ≤ 40 := Num.limbs_len.2 hx
  have ly : (lms y).length ≤ 40 := Num.limbs_len.2 hy
  clear hx hy
  by_cases hy0 : 0 < y
  · have hs : sgn y = false := decide_eq_false (by omega)
    have hl : (((lms y).length : Int) == 0) = false := by rw [beq_eq_false_iff_ne]; intro e; have := sgn_lms_nil (z := y) (by omega); omega
    have HE : Hid (ratB (sgn x) (lms x) (sgn y) (lms y) = decide (Int.gcd x y = 1)) := hide (by rw [HR.out, decide_eq_true hy0, Bool.true_and])
    go_upto_region 3 with fail
    clear hs hl
    go_wp2_with fail
    refine (gcdS (.agg #[.bool (sgn x), .slice a (lms x).length c]) (.agg #[.bool (sgn y), .slice b (lms y).length d]) x y _ ⟨a, c, rfl, H1.out⟩ ⟨b, d, rfl, H2.out⟩ (by omega) (by omega)).mono ?_
    rintro e w4 ⟨v5, rfl, hn5, hbw4⟩
    have yw4 := hbw4.size
    replace kA0 := (hbw4.cell (p := ⟨w.heap.size, 0, none⟩) zA).trans kA0
    replace kA1 := (hbw4.cell (p := ⟨w.heap.size, 1, none⟩) zA).trans kA1
    replace kA2 := (hbw4.cell (p := ⟨w.heap.size, 2, none⟩) zA).trans kA2
    replace kA3 := (hbw4.cell (p := ⟨w.heap.size, 3, none⟩) zA).trans kA3
    replace zA := Nat.lt_of_lt_of_le zA hbw4.size
    replace H1 := hide (H1.out.below hbw4)
    replace H2 := hide (H2.out.below hbw4)
    replace HB := hide (bl_trans HB.out hbw4)
    obtain ⟨a5, c5, rfl, ho5⟩ := hn5
    have HG := hide ho5.1
    clear ho5
    clear hbw4
    go_upto_region 4 with fail
    have kQ0 : (w4.alloc (Obj.cells #[Value.bool (sgn (Int.gcd x y : Int)), Value.slice a5 (lms (Int.gcd x y : Int)).length c5] 26)).cell? ⟨w4.heap.size, 0, none⟩ = some (Value.bool (sgn (Int.gcd x y : Int))) := by go_simp
    have kQ1 : (w4.alloc (Obj.cells #[Value.bool (sgn (Int.gcd x y : Int)), Value.slice a5 (lms (Int.gcd x y : Int)).length c5] 26)).cell? ⟨w4.heap.size, 1, none⟩ = some (Value.slice a5 (lms (Int.gcd x y : Int)).length c5) := by go_simp
    have zQ : w4.heap.size < (w4.alloc (Obj.cells #[Value.bool (sgn (Int.gcd x y : Int)), Value.slice a5 (lms (Int.gcd x y : Int)).length c5] 26)).heap.size := by simp only [World.size_alloc]; omega
    have yw5 : w4.heap.size + 1 ≤ (w4.alloc (Obj.cells #[Value.bool (sgn (Int.gcd x y : Int)), Value.slice a5 (lms (Int.gcd x y : Int)).length c5] 26)).heap.size := by simp only [World.size_alloc]; omega
    have hbw5 := (bl_alloc (bl_refl w4) (Obj.cells #[Value.bool (sgn (Int.gcd x y : Int)), Value.slice a5 (lms (Int.gcd x y : Int)).length c5] 26))
    generalize (w4.alloc (Obj.cells #[Value.bool (sgn (Int.gcd x y : Int)), Value.slice a5 (lms (Int.gcd x y : Int)).length c5] 26)) = w5 at *
    replace kA0 := (hbw5.cell (p := ⟨w.heap.size, 0, none⟩) zA).trans kA0
    replace kA1 := (hbw5.cell (p := ⟨w.heap.size, 1, none⟩) zA).trans kA1
    replace kA2 := (hbw5.cell (p := ⟨w.heap.size, 2, none⟩) zA).trans kA2
    replace kA3 := (hbw5.cell (p := ⟨w.heap.size, 3, none⟩) zA).trans kA3
    replace zA := Nat.lt_of_lt_of_le zA hbw5.size
    replace H1 := hide (H1.out.below hbw5)
    replace H2 := hide (H2.out.below hbw5)
    replace HG := hide (HG.out.below hbw5)
    replace HB := hide (bl_trans HB.out hbw5)
    clear hbw5
    by_cases hg : Int.gcd x y = 1
    · rw [decide_eq_true hg] at HE
      have e1 : lms (Int.gcd x y : Int) = [1] := by rw [hg]; unfold lms; rw [show Int.natAbs ((1 : Nat) : Int) = 1 from rfl, Num.limbs_pos (by decide)]; simp [Num.limbs_zero]
      have hcap := HG.out.2.1
      have hcm := HG.out.2.2.1
      obtain ⟨g5, o5, rfl, hg5, hc5⟩ := seg_cell HG.out 0 (by rw [e1]; decide)
      have e2 : (lms (Int.gcd x y : Int))[0]'(by rw [e1]; decide) = 1 := by simp [e1]
      rw [e2, Nat.add_zero] at hc5
      have hl1 : (((lms (Int.gcd x y : Int)).length : Int) == 1) = true := by rw [e1]; rfl
      have hl2 : (0 : Int) < ((lms (Int.gcd x y : Int)).length : Int) := by rw [e1]; decide
      clear e1 e2 hg
      generalize (lms (Int.gcd x y : Int)).length = L at *
      generalize sgn (Int.gcd x y : Int) = G at *
      go_wp2
      go_ret
      exact ⟨ret_bool HE.out.symm, HB.out⟩
    · rw [decide_eq_false hg] at HE
      by_cases hlen : (lms (Int.gcd x y : Int)).length = 1
      · have hcap := HG.out.2.1
        have hcm := HG.out.2.2.1
        obtain ⟨g5, o5, rfl, hg5, hc5⟩ := seg_cell HG.out 0 (by omega)
        have hne : ((((lms (Int.gcd x y : Int))[0]'(by omega) : Nat) : Int) == 1) = false := by rw [beq_eq_false_iff_ne]; intro e; exact hg (by have := abs_one hlen (by omega); omega)
        rw [Nat.add_zero] at hc5
        generalize (lms (Int.gcd x y : Int))[0]'_ = l0 at *
        have hl1 : (((lms (Int.gcd x y : Int)).length : Int) == 1) = true := by rw [hlen]; rfl
        have hl2 : (0 : Int) < ((lms (Int.gcd x y : Int)).length : Int) := by omega
        clear hlen hg
        generalize (lms (Int.gcd x y : Int)).length = L at *
        generalize sgn (Int.gcd x y : Int) = G at *
        go_wp2
        go_ret
        exact ⟨ret_bool HE.out.symm, HB.out⟩
      · have hl1 : (((lms (Int.gcd x y : Int)).length : Int) == 1) = false := by rw [beq_eq_false_iff_ne]; omega
        clear hlen hg
        generalize (lms (Int.gcd x y : Int)).length = L at *
        generalize sgn (Int.gcd x y : Int) = G at *
        go_wp2
        go_ret
        exact ⟨ret_bool HE.out.symm, HB.out⟩
  · have HE : Hid (ratB (sgn x) (lms x) (sgn y) (lms y) = false) := hide (by rw [HR.out, decide_eq_false hy0]; rfl)
    by_cases hyn : y < 0
    · have hs : sgn y = true := decide_eq_true hyn
      go_wp2
      go_ret
      exact ⟨ret_bool HE.out.symm, HB.out⟩
    · have hs : sgn y = false := decide_eq_false hyn
      have hl : (((lms y).length : Int) == 0) = true := by rw [show y = 0 by omega, zero_lms]; rfl
      go_wp2
      go_ret
      exact ⟨ret_bool HE.out.symm, HB.out⟩

end Go.Proofs.Ytemjkgegbpkeoaa

/- The walks of both RatCmp. -/
namespace Go.Proofs.Ytemjkgegbpkeoaa
open Go.RowKit
set_option linter.unusedVariables false

/-- a right fraction as two numbers -/
theorem rat_num {n m : Bool} {xs ys : List Nat} (h1 : Num.Small xs) (h2 : Num.Small ys) (h : ratB n xs m ys = true) : ∃ x y : Int, n = sgn x ∧ xs = lms x ∧ m = sgn y ∧ ys = lms y ∧ x.natAbs < 4294967296 ^ 40 ∧ y.natAbs < 4294967296 ^ 40 ∧ 0 < y ∧ Int.gcd x y = 1 := by
  unfold ratB at h
  simp only [Bool.and_eq_true, decide_eq_true_eq] at h
  obtain ⟨x, rfl, rfl, hx⟩ := ok_num h1 h.1.1
  obtain ⟨y, rfl, rfl, hy⟩ := ok_num h2 h.1.2
  rw [nat_lms, nat_lms, mk_self, mk_self] at h
  exact ⟨x, y, rfl, rfl, rfl, rfl, hx, hy, h.2.1, h.2.2⟩
/-- the answer of RatCmp -/
def rcZ (n1 : Bool) (xs1 : List Nat) (m1 : Bool) (ys1 : List Nat) (n2 : Bool) (xs2 : List Nat) (m2 : Bool) (ys2 : List Nat) : Int :=
  if (ratB n1 xs1 m1 ys1 && ratB n2 xs2 m2 ys2) = true then cmpZ (mulZ (mk n1 (Num.nat xs1)) (mk m2 (Num.nat ys2))) (mulZ (mk n2 (Num.nat xs2)) (mk m1 (Num.nat ys1))) else 2

end Go.Proofs.Ytemjkgegbpkeoaa
