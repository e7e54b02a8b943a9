/- My texts SSt, ResN, Res2, in this order. -/
import Derived.Test.YthjapjbiclkhcaaPk14
import Derived.Test.YthjapjbiclkhcaaPk12
/- Two numbers in two boxes, wherever these lie, that are stored into in a loop, and a third box for the answer; the numbers' lists are only read. -/
namespace Go.Proofs.Ythjapjbiclkhcaa
open Go.RowKit
set_option linter.unusedVariables false

/-- a list that is read, in a block from lo on to below hi -/
def RgS (W : World) (lo hi : Nat) (a : Option Addr) (n cap : Nat) (xs : List Nat) : Prop := Seg W a n cap xs ∧ (0 < n → ∀ g o s, a = some ⟨g, o, s⟩ → lo ≤ g ∧ g < hi)
/-- a list that is read and lies from L on in none of three blocks -/
def Lk (W : World) (L N M R : Nat) (a : Option Addr) (n cap : Nat) (xs : List Nat) : Prop := Seg W a n cap xs ∧ (0 < n → ∀ g o s, a = some ⟨g, o, s⟩ → L ≤ g ∧ g ≠ N ∧ g ≠ M ∧ g ≠ R)
theorem Lk.below {W W' : World} {L N M R : Nat} {a : Option Addr} {n cap : Nat} {xs : List Nat} (h : Lk W L N M R a n cap xs) (hb : Below W.heap.size W W') : Lk W' L N M R a n cap xs := ⟨h.1.below hb, h.2⟩
theorem Seg.setOff {W : World} {a : Option Addr} {n cap : Nat} {xs : List Nat} (h : Seg W a n cap xs) {p : Addr} (hp : 0 < n → ∀ g o s, a = some ⟨g, o, s⟩ → g ≠ p.block) (v : Value) : Seg (W.setCell p v) a n cap xs := by
  obtain ⟨h1, h2, h3, h4, h5⟩ := h
  refine ⟨h1, h2, h3, h4, ?_⟩
  rcases h5 with h5 | ⟨g, o, ha, hg, hc⟩
  · exact .inl h5
  · by_cases h0 : n = 0
    · exact .inl h0
    · refine .inr ⟨g, o, ha, by simp; exact hg, fun j hj => ?_⟩
      rw [World.cell?_of_block (Below.heap_setCell W p v g (hp (by omega) _ _ _ ha))]
      exact hc j hj
theorem Lk.set {W : World} {L N M R : Nat} {a : Option Addr} {n cap : Nat} {xs : List Nat} (h : Lk W L N M R a n cap xs) {p : Addr} (hp : p.block = N ∨ p.block = M ∨ p.block = R) (v : Value) : Lk (W.setCell p v) L N M R a n cap xs := by
  refine ⟨h.1.setOff (fun h0 g o s e => ?_) v, h.2⟩
  obtain ⟨_, h1, h2, h3⟩ := h.2 h0 g o s e
  rcases hp with hp | hp | hp <;> omega
/-- a list in memory of its own behind the three blocks -/
theorem Own.lk {W : World} {base L N M R : Nat} {a : Option Addr} {n cap : Nat} {xs : List Nat} (h : Own W base a n cap xs) (hL : L ≤ base) (hN : N < base) (hM : M < base) (hR : R < base) : Lk W L N M R a n cap xs := by
  refine ⟨h.seg, fun _ g o s e => ?_⟩
  rcases h.cases with ⟨rfl, _⟩ | ⟨g', rfl, h1, h2⟩
  · cases e
  · cases e; omega
/-- .. or between them -/
theorem OwnR.lk {W : World} {lo hi L N M R : Nat} {a : Option Addr} {n cap : Nat} {xs : List Nat} (h : OwnR W lo hi a n cap xs) (hL : L ≤ lo) (hN : N < lo ∨ hi ≤ N) (hM : M < lo ∨ hi ≤ M) (hR : R < lo ∨ hi ≤ R) : Lk W L N M R a n cap xs := by
  refine ⟨h.seg, fun _ g o s e => ?_⟩
  rcases h.1.cases with ⟨rfl, _⟩ | ⟨g', rfl, h1, h2⟩
  · cases e
  · have := h.2 g' rfl
    cases e; omega
theorem Seg.lt {W : World} {a : Option Addr} {n cap : Nat} {xs : List Nat} (h : Seg W a n cap xs) (h0 : 0 < n) {g o : Nat} {s : Option Nat} (e : a = some ⟨g, o, s⟩) : g < W.heap.size := by
  rcases h.2.2.2.2 with h5 | ⟨g', o', ha, hg, _⟩
  · omega
  · rw [ha] at e; cases e; exact hg
theorem Lk.rgs {W : World} {L N M R : Nat} {a : Option Addr} {n cap : Nat} {xs : List Nat} (h : Lk W L N M R a n cap xs) : RgS W L W.heap.size a n cap xs := ⟨h.1, fun h0 g o s e => ⟨(h.2 h0 g o s e).1, h.1.lt h0 e⟩⟩
theorem Own.rgs {W : World} {base : Nat} {a : Option Addr} {n cap : Nat} {xs : List Nat} (h : Own W base a n cap xs) : RgS W base W.heap.size a n cap xs := by
  refine ⟨h.seg, fun h0 g o s e => ⟨?_, h.seg.lt h0 e⟩⟩
  rcases h.cases with ⟨rfl, _⟩ | ⟨g', rfl, h1, h2⟩
  · cases e
  · cases e; exact h1
theorem RgS.below {W W' : World} {lo hi : Nat} {a : Option Addr} {n cap : Nat} {xs : List Nat} (h : RgS W lo hi a n cap xs) (hb : Below W.heap.size W W') : RgS W' lo hi a n cap xs := ⟨h.1.below hb, h.2⟩
theorem RgS.alloc {W : World} {lo hi : Nat} {a : Option Addr} {n cap : Nat} {xs : List Nat} (h : RgS W lo hi a n cap xs) (o : Obj) : RgS (W.alloc o) lo hi a n cap xs := h.below (bl_alloc (bl_refl W) o)
theorem RgS.drew {W : World} {lo hi : Nat} {a : Option Addr} {n cap : Nat} {xs : List Nat} (h : RgS W lo hi a n cap xs) : RgS W.drew lo hi a n cap xs := h.below (bl_refl W).drew
theorem RgS.set {W : World} {lo hi : Nat} {a : Option Addr} {n cap : Nat} {xs : List Nat} (h : RgS W lo hi a n cap xs) {p : Addr} (hp : p.block < lo ∨ hi ≤ p.block) (v : Value) : RgS (W.setCell p v) lo hi a n cap xs :=
  ⟨h.1.setOff (fun h0 g o s e => by have := h.2 h0 g o s e; omega) v, h.2⟩
theorem RgS.mono {W : World} {lo lo' hi hi' : Nat} {a : Option Addr} {n cap : Nat} {xs : List Nat} (h : RgS W lo hi a n cap xs) (h1 : lo' ≤ lo) (h2 : hi ≤ hi') : RgS W lo' hi' a n cap xs := ⟨h.1, fun h0 g o s e => by have := h.2 h0 g o s e; omega⟩
/-- a number that is read, its list from lo on -/
def IsB (W : World) (lo : Nat) (v : Value) (z : Int) : Prop := ∃ a c, v = .agg #[.bool (sgn z), .slice a (lms z).length c] ∧ RgS W lo W.heap.size a (lms z).length c (lms z)
theorem IsB.is {W : World} {lo : Nat} {v : Value} {z : Int} (h : IsB W lo v z) : Is W v z := by obtain ⟨a, c, rfl, h⟩ := h; exact ⟨a, c, rfl, h.1⟩
theorem New.isB {W : World} {lo : Nat} {v : Value} {z : Int} (h : New W lo v z) : IsB W lo v z := by obtain ⟨a, c, rfl, h⟩ := h; exact ⟨a, c, rfl, h.rgs⟩
structure SSt (w W : World) (N M R : Nat) (p q : Int) (ap : Option Addr) (cp : Nat) (aq : Option Addr) (cq : Nat) : Prop where
  kA0 : W.cell? ⟨N, 0, none⟩ = some (.bool (sgn p))
  kA1 : W.cell? ⟨N, 1, none⟩ = some (.slice ap (lms p).length cp)
  kB0 : W.cell? ⟨M, 0, none⟩ = some (.bool (sgn q))
  kB1 : W.cell? ⟨M, 1, none⟩ = some (.slice aq (lms q).length cq)
  kR0 : W.cell? ⟨R, 0, none⟩ = some (.bool false)
  kR1 : W.cell? ⟨R, 1, none⟩ = some (.slice none 0 0)
  fA0 : W.frozen? ⟨N, 0, none⟩ = false
  fA1 : W.frozen? ⟨N, 1, none⟩ = false
  fB0 : W.frozen? ⟨M, 0, none⟩ = false
  fB1 : W.frozen? ⟨M, 1, none⟩ = false
  fR0 : W.frozen? ⟨R, 0, none⟩ = false
  fR1 : W.frozen? ⟨R, 1, none⟩ = false
  zN : N < W.heap.size
  zM : M < W.heap.size
  zR : R < W.heap.size
  hN : w.heap.size ≤ N
  hM : w.heap.size ≤ M
  hR : w.heap.size ≤ R
  n1 : N ≠ M
  n2 : N ≠ R
  n3 : M ≠ R
  oA : Lk W w.heap.size N M R ap (lms p).length cp (lms p)
  oB : Lk W w.heap.size N M R aq (lms q).length cq (lms q)
  bel : Below w.heap.size w W
theorem SSt.below {w W W' : World} {N M R : Nat} {p q : Int} {ap aq : Option Addr} {cp cq : Nat} (h : SSt w W N M R p q ap cp aq cq) (hb : Below W.heap.size W W') : SSt w W' N M R p q ap cp aq cq := by
  obtain ⟨a, b, c, d, e, f, g, h, i, j, k, l, zN, zM, zR, hN, hM, hR, n1, n2, n3, o1, o2, bl⟩ := h
  have := hb.size
  exact ⟨(hb.cell (p := ⟨N, 0, none⟩) zN).trans a, (hb.cell (p := ⟨N, 1, none⟩) zN).trans b, (hb.cell (p := ⟨M, 0, none⟩) zM).trans c, (hb.cell (p := ⟨M, 1, none⟩) zM).trans d, (hb.cell (p := ⟨R, 0, none⟩) zR).trans e, (hb.cell (p := ⟨R, 1, none⟩) zR).trans f,
    (hb.frozen (p := ⟨N, 0, none⟩) zN).trans g, (hb.frozen (p := ⟨N, 1, none⟩) zN).trans h, (hb.frozen (p := ⟨M, 0, none⟩) zM).trans i, (hb.frozen (p := ⟨M, 1, none⟩) zM).trans j, (hb.frozen (p := ⟨R, 0, none⟩) zR).trans k, (hb.frozen (p := ⟨R, 1, none⟩) zR).trans l,
    by omega, by omega, by omega, hN, hM, hR, n1, n2, n3, o1.below hb, o2.below hb, bl_trans bl hb⟩
theorem SSt.set1 {w W : World} {N M R : Nat} {p q r : Int} {ap aq ar : Option Addr} {cp cq cr : Nat} (h : SSt w W N M R p q ap cp aq cq) (ho : Lk W w.heap.size N M R ar (lms r).length cr (lms r)) :
    SSt w ((W.setCell ⟨N, 0, none⟩ (.bool (sgn r))).setCell ⟨N, 1, none⟩ (.slice ar (lms r).length cr)) N M R r q ar cr aq cq := by
  obtain ⟨a, b, c, d, e, f, g, h, i, j, k, l, zN, zM, zR, hN, hM, hR, n1, n2, n3, o1, o2, bl⟩ := h
  exact ⟨by go_simp, by go_simp, (cell_two (N := N) (p := ⟨M, 0, none⟩) (Ne.symm n1)).trans c, (cell_two (N := N) (p := ⟨M, 1, none⟩) (Ne.symm n1)).trans d, (cell_two (N := N) (p := ⟨R, 0, none⟩) (Ne.symm n2)).trans e, (cell_two (N := N) (p := ⟨R, 1, none⟩) (Ne.symm n2)).trans f,
    by simp [g], by simp [h], by simp [i], by simp [j], by simp [k], by simp [l], by simp; omega, by simp; omega, by simp; omega, hN, hM, hR, n1, n2, n3, (ho.set (p := ⟨N, 0, none⟩) (.inl rfl) _).set (p := ⟨N, 1, none⟩) (.inl rfl) _, (o2.set (p := ⟨N, 0, none⟩) (.inl rfl) _).set (p := ⟨N, 1, none⟩) (.inl rfl) _, (bl.setCell (p := ⟨N, 0, none⟩) hN _).setCell (p := ⟨N, 1, none⟩) hN _⟩
theorem SSt.set2 {w W : World} {N M R : Nat} {p q r : Int} {ap aq ar : Option Addr} {cp cq cr : Nat} (h : SSt w W N M R p q ap cp aq cq) (ho : Lk W w.heap.size N M R ar (lms r).length cr (lms r)) :
    SSt w ((W.setCell ⟨M, 0, none⟩ (.bool (sgn r))).setCell ⟨M, 1, none⟩ (.slice ar (lms r).length cr)) N M R p r ap cp ar cr := by
  obtain ⟨a, b, c, d, e, f, g, h, i, j, k, l, zN, zM, zR, hN, hM, hR, n1, n2, n3, o1, o2, bl⟩ := h
  exact ⟨(cell_two (N := M) (p := ⟨N, 0, none⟩) n1).trans a, (cell_two (N := M) (p := ⟨N, 1, none⟩) n1).trans b, by go_simp, by go_simp, (cell_two (N := M) (p := ⟨R, 0, none⟩) (Ne.symm n3)).trans e, (cell_two (N := M) (p := ⟨R, 1, none⟩) (Ne.symm n3)).trans f,
    by simp [g], by simp [h], by simp [i], by simp [j], by simp [k], by simp [l], by simp; omega, by simp; omega, by simp; omega, hN, hM, hR, n1, n2, n3, (o1.set (p := ⟨M, 0, none⟩) (.inr (.inl rfl)) _).set (p := ⟨M, 1, none⟩) (.inr (.inl rfl)) _, (ho.set (p := ⟨M, 0, none⟩) (.inr (.inl rfl)) _).set (p := ⟨M, 1, none⟩) (.inr (.inl rfl)) _, (bl.setCell (p := ⟨M, 0, none⟩) hM _).setCell (p := ⟨M, 1, none⟩) hM _⟩
theorem SSt.fin {w W : World} {N M R : Nat} {p q : Int} {ap aq : Option Addr} {cp cq : Nat} (h : SSt w W N M R p q ap cp aq cq) (x y : Value) :
    IsB ((W.setCell ⟨R, 0, none⟩ x).setCell ⟨R, 1, none⟩ y) w.heap.size (.agg #[.bool (sgn p), .slice ap (lms p).length cp]) p ∧ Below w.heap.size w ((W.setCell ⟨R, 0, none⟩ x).setCell ⟨R, 1, none⟩ y) :=
  ⟨⟨ap, cp, rfl, ((h.oA.set (p := ⟨R, 0, none⟩) (.inr (.inr rfl)) x).set (p := ⟨R, 1, none⟩) (.inr (.inr rfl)) y).rgs⟩, (h.bel.setCell (p := ⟨R, 0, none⟩) h.hR x).setCell (p := ⟨R, 1, none⟩) h.hR y⟩
theorem sst_bb {w W : World} {R loA hiA loB hiB : Nat} {p q : Int} {ap aq : Option Addr} {cp cq : Nat} (kR0 : W.cell? ⟨R, 0, none⟩ = some (.bool false)) (kR1 : W.cell? ⟨R, 1, none⟩ = some (.slice none 0 0)) (fR0 : W.frozen? ⟨R, 0, none⟩ = false) (fR1 : W.frozen? ⟨R, 1, none⟩ = false) (zR : R < W.heap.size) (hR : w.heap.size ≤ R) (oA : OwnR W loA hiA ap (lms p).length cp (lms p)) (oB : OwnR W loB hiB aq (lms q).length cq (lms q)) (rA : R < loA ∨ hiA ≤ R) (rB : R < loB ∨ hiB ≤ R) (hA : hiA ≤ W.heap.size) (hB : hiB ≤ W.heap.size) (lA : w.heap.size ≤ loA) (lB : w.heap.size ≤ loB) (bl : Below w.heap.size w W)  : SSt w ((W.alloc (Obj.cells #[Value.bool (sgn p), Value.slice ap (lms p).length cp] 26)).alloc (Obj.cells #[Value.bool (sgn q), Value.slice aq (lms q).length cq] 26)) (W.heap.size) (W.heap.size + 1) R p q ap cp aq cq := by
  have e1 : ¬ R = W.heap.size := by omega
  have e2 : ¬ R = W.heap.size + 1 := by omega
  have e3 : ¬ W.heap.size = R := by omega
  have e4 : ¬ W.heap.size + 1 = R := by omega
  have hw := bl.size
  exact ⟨(by go_simp), (by go_simp), (by go_simp), (by go_simp), (by go_simp), (by go_simp), (by go_simp), (by go_simp), (by go_simp), (by go_simp), (by go_simp), (by go_simp), (by simp only [World.size_alloc]; omega), (by simp only [World.size_alloc]; omega), (by simp only [World.size_alloc]; omega), (by omega), (by omega), (by omega), (by omega), (by omega), (by omega), (by refine OwnR.lk (lo := loA) (hi := hiA) ?_ (by omega) (by omega) (by omega) (by omega); repeat first | refine OwnR.set ?_ (by first | omega | (dsimp only; omega)) _ | refine OwnR.alloc ?_ _ | exact oA), (by refine OwnR.lk (lo := loB) (hi := hiB) ?_ (by omega) (by omega) (by omega) (by omega); repeat first | refine OwnR.set ?_ (by first | omega | (dsimp only; omega)) _ | refine OwnR.alloc ?_ _ | exact oB), (by repeat first | refine Below.setCell ?_ (by first | omega | (dsimp only; omega)) _ | refine bl_alloc ?_ _ | exact bl)⟩
theorem sst_bb2 {w W : World} {R loA hiA loB hiB : Nat} {p q : Int} {ap aq : Option Addr} {cp cq : Nat} (kR0 : W.cell? ⟨R, 0, none⟩ = some (.bool false)) (kR1 : W.cell? ⟨R, 1, none⟩ = some (.slice none 0 0)) (fR0 : W.frozen? ⟨R, 0, none⟩ = false) (fR1 : W.frozen? ⟨R, 1, none⟩ = false) (zR : R < W.heap.size) (hR : w.heap.size ≤ R) (oA : OwnR W loA hiA ap (lms p).length cp (lms p)) (oB : OwnR W loB hiB aq (lms q).length cq (lms q)) (rA : R < loA ∨ hiA ≤ R) (rB : R < loB ∨ hiB ≤ R) (hA : hiA ≤ W.heap.size) (hB : hiB ≤ W.heap.size) (lA : w.heap.size ≤ loA) (lB : w.heap.size ≤ loB) (bl : Below w.heap.size w W)  : SSt w ((W.alloc (Obj.cells #[Value.bool (sgn q), Value.slice aq (lms q).length cq] 26)).alloc (Obj.cells #[Value.bool (sgn p), Value.slice ap (lms p).length cp] 26)) (W.heap.size + 1) (W.heap.size) R p q ap cp aq cq := by
  have e1 : ¬ R = W.heap.size := by omega
  have e2 : ¬ R = W.heap.size + 1 := by omega
  have e3 : ¬ W.heap.size = R := by omega
  have e4 : ¬ W.heap.size + 1 = R := by omega
  have hw := bl.size
  exact ⟨(by go_simp), (by go_simp), (by go_simp), (by go_simp), (by go_simp), (by go_simp), (by go_simp), (by go_simp), (by go_simp), (by go_simp), (by go_simp), (by go_simp), (by simp only [World.size_alloc]; omega), (by simp only [World.size_alloc]; omega), (by simp only [World.size_alloc]; omega), (by omega), (by omega), (by omega), (by omega), (by omega), (by omega), (by refine OwnR.lk (lo := loA) (hi := hiA) ?_ (by omega) (by omega) (by omega) (by omega); repeat first | refine OwnR.set ?_ (by first | omega | (dsimp only; omega)) _ | refine OwnR.alloc ?_ _ | exact oA), (by refine OwnR.lk (lo := loB) (hi := hiB) ?_ (by omega) (by omega) (by omega) (by omega); repeat first | refine OwnR.set ?_ (by first | omega | (dsimp only; omega)) _ | refine OwnR.alloc ?_ _ | exact oB), (by repeat first | refine Below.setCell ?_ (by first | omega | (dsimp only; omega)) _ | refine bl_alloc ?_ _ | exact bl)⟩
theorem sst_ab {w W : World} {R loA hiA loB hiB : Nat} {p q : Int} {ap aq : Option Addr} {cp cq : Nat} (kR0 : W.cell? ⟨R, 0, none⟩ = some (.bool false)) (kR1 : W.cell? ⟨R, 1, none⟩ = some (.slice none 0 0)) (fR0 : W.frozen? ⟨R, 0, none⟩ = false) (fR1 : W.frozen? ⟨R, 1, none⟩ = false) (zR : R < W.heap.size) (hR : w.heap.size ≤ R) (oA : OwnR W loA hiA ap (lms p).length cp (lms p)) (oB : OwnR W loB hiB aq (lms q).length cq (lms q)) (rA : R < loA ∨ hiA ≤ R) (rB : R < loB ∨ hiB ≤ R) (hA : hiA ≤ W.heap.size) (hB : hiB ≤ W.heap.size) (lA : w.heap.size ≤ loA) (lB : w.heap.size ≤ loB) (bl : Below w.heap.size w W) {N : Nat} (zN : Zr W N) (hN : w.heap.size ≤ N) (nA : N < loA ∨ hiA ≤ N) (nB : N < loB ∨ hiB ≤ N) (nR : N ≠ R) : SSt w (((W.setCell ⟨N, 0, none⟩ (.bool (sgn p))).setCell ⟨N, 1, none⟩ (.slice ap (lms p).length cp)).alloc (Obj.cells #[Value.bool (sgn q), Value.slice aq (lms q).length cq] 26)) (N) (W.heap.size) R p q ap cp aq cq := by
  obtain ⟨gN, cN0, cN1, fN0, fN1⟩ := zN
  have e1 : ¬ R = W.heap.size := by omega
  have e2 : ¬ R = W.heap.size + 1 := by omega
  have e3 : ¬ W.heap.size = R := by omega
  have e4 : ¬ W.heap.size + 1 = R := by omega
  have dN1 : ¬ N = W.heap.size := by omega
  have dN2 : ¬ W.heap.size = N := by omega
  have dN3 : ¬ R = N := fun e => nR e.symm
  have dN4 : ¬ N = R := nR
  have hw := bl.size
  exact ⟨(by go_simp), (by go_simp), (by go_simp), (by go_simp), (by go_simp), (by go_simp), (by go_simp), (by go_simp), (by go_simp), (by go_simp), (by go_simp), (by go_simp), (by simp only [World.size_alloc, World.size_setCell]; omega), (by simp only [World.size_alloc, World.size_setCell]; omega), (by simp only [World.size_alloc, World.size_setCell]; omega), (by omega), (by omega), (by omega), (by omega), (by omega), (by omega), (by refine OwnR.lk (lo := loA) (hi := hiA) ?_ (by omega) (by omega) (by omega) (by omega); repeat first | refine OwnR.set ?_ (by first | omega | (dsimp only; omega)) _ | refine OwnR.alloc ?_ _ | exact oA), (by refine OwnR.lk (lo := loB) (hi := hiB) ?_ (by omega) (by omega) (by omega) (by omega); repeat first | refine OwnR.set ?_ (by first | omega | (dsimp only; omega)) _ | refine OwnR.alloc ?_ _ | exact oB), (by repeat first | refine Below.setCell ?_ (by first | omega | (dsimp only; omega)) _ | refine bl_alloc ?_ _ | exact bl)⟩
theorem sst_ba {w W : World} {R loA hiA loB hiB : Nat} {p q : Int} {ap aq : Option Addr} {cp cq : Nat} (kR0 : W.cell? ⟨R, 0, none⟩ = some (.bool false)) (kR1 : W.cell? ⟨R, 1, none⟩ = some (.slice none 0 0)) (fR0 : W.frozen? ⟨R, 0, none⟩ = false) (fR1 : W.frozen? ⟨R, 1, none⟩ = false) (zR : R < W.heap.size) (hR : w.heap.size ≤ R) (oA : OwnR W loA hiA ap (lms p).length cp (lms p)) (oB : OwnR W loB hiB aq (lms q).length cq (lms q)) (rA : R < loA ∨ hiA ≤ R) (rB : R < loB ∨ hiB ≤ R) (hA : hiA ≤ W.heap.size) (hB : hiB ≤ W.heap.size) (lA : w.heap.size ≤ loA) (lB : w.heap.size ≤ loB) (bl : Below w.heap.size w W) {M : Nat} (zM : Zr W M) (hM : w.heap.size ≤ M) (mA : M < loA ∨ hiA ≤ M) (mB : M < loB ∨ hiB ≤ M) (mR : M ≠ R) : SSt w (((W.setCell ⟨M, 0, none⟩ (.bool (sgn q))).setCell ⟨M, 1, none⟩ (.slice aq (lms q).length cq)).alloc (Obj.cells #[Value.bool (sgn p), Value.slice ap (lms p).length cp] 26)) (W.heap.size) (M) R p q ap cp aq cq := by
  obtain ⟨gM, cM0, cM1, fM0, fM1⟩ := zM
  have e1 : ¬ R = W.heap.size := by omega
  have e2 : ¬ R = W.heap.size + 1 := by omega
  have e3 : ¬ W.heap.size = R := by omega
  have e4 : ¬ W.heap.size + 1 = R := by omega
  have dM1 : ¬ M = W.heap.size := by omega
  have dM2 : ¬ W.heap.size = M := by omega
  have dM3 : ¬ R = M := fun e => mR e.symm
  have dM4 : ¬ M = R := mR
  have hw := bl.size
  exact ⟨(by go_simp), (by go_simp), (by go_simp), (by go_simp), (by go_simp), (by go_simp), (by go_simp), (by go_simp), (by go_simp), (by go_simp), (by go_simp), (by go_simp), (by simp only [World.size_alloc, World.size_setCell]; omega), (by simp only [World.size_alloc, World.size_setCell]; omega), (by simp only [World.size_alloc, World.size_setCell]; omega), (by omega), (by omega), (by omega), (by omega), (by omega), (by omega), (by refine OwnR.lk (lo := loA) (hi := hiA) ?_ (by omega) (by omega) (by omega) (by omega); repeat first | refine OwnR.set ?_ (by first | omega | (dsimp only; omega)) _ | refine OwnR.alloc ?_ _ | exact oA), (by refine OwnR.lk (lo := loB) (hi := hiB) ?_ (by omega) (by omega) (by omega) (by omega); repeat first | refine OwnR.set ?_ (by first | omega | (dsimp only; omega)) _ | refine OwnR.alloc ?_ _ | exact oB), (by repeat first | refine Below.setCell ?_ (by first | omega | (dsimp only; omega)) _ | refine bl_alloc ?_ _ | exact bl)⟩
theorem sst_aa {w W : World} {R loA hiA loB hiB : Nat} {p q : Int} {ap aq : Option Addr} {cp cq : Nat} (kR0 : W.cell? ⟨R, 0, none⟩ = some (.bool false)) (kR1 : W.cell? ⟨R, 1, none⟩ = some (.slice none 0 0)) (fR0 : W.frozen? ⟨R, 0, none⟩ = false) (fR1 : W.frozen? ⟨R, 1, none⟩ = false) (zR : R < W.heap.size) (hR : w.heap.size ≤ R) (oA : OwnR W loA hiA ap (lms p).length cp (lms p)) (oB : OwnR W loB hiB aq (lms q).length cq (lms q)) (rA : R < loA ∨ hiA ≤ R) (rB : R < loB ∨ hiB ≤ R) (hA : hiA ≤ W.heap.size) (hB : hiB ≤ W.heap.size) (lA : w.heap.size ≤ loA) (lB : w.heap.size ≤ loB) (bl : Below w.heap.size w W) {N : Nat} (zN : Zr W N) (hN : w.heap.size ≤ N) (nA : N < loA ∨ hiA ≤ N) (nB : N < loB ∨ hiB ≤ N) (nR : N ≠ R) {M : Nat} (zM : Zr W M) (hM : w.heap.size ≤ M) (mA : M < loA ∨ hiA ≤ M) (mB : M < loB ∨ hiB ≤ M) (mR : M ≠ R) (nM : N ≠ M) : SSt w ((((W.setCell ⟨N, 0, none⟩ (.bool (sgn p))).setCell ⟨N, 1, none⟩ (.slice ap (lms p).length cp)).setCell ⟨M, 0, none⟩ (.bool (sgn q))).setCell ⟨M, 1, none⟩ (.slice aq (lms q).length cq)) (N) (M) R p q ap cp aq cq := by
  obtain ⟨gN, cN0, cN1, fN0, fN1⟩ := zN
  obtain ⟨gM, cM0, cM1, fM0, fM1⟩ := zM
  have dN1 : ¬ N = W.heap.size := by omega
  have dN2 : ¬ W.heap.size = N := by omega
  have dN3 : ¬ R = N := fun e => nR e.symm
  have dN4 : ¬ N = R := nR
  have dM1 : ¬ M = W.heap.size := by omega
  have dM2 : ¬ W.heap.size = M := by omega
  have dM3 : ¬ R = M := fun e => mR e.symm
  have dM4 : ¬ M = R := mR
  have dNM : ¬ M = N := fun e => nM e.symm
  have hw := bl.size
  exact ⟨(by go_simp), (by go_simp), (by go_simp), (by go_simp), (by go_simp), (by go_simp), (by go_simp), (by go_simp), (by go_simp), (by go_simp), (by go_simp), (by go_simp), (by simp only [World.size_setCell]; omega), (by simp only [World.size_setCell]; omega), (by simp only [World.size_setCell]; omega), (by omega), (by omega), (by omega), (by omega), (by omega), (by omega), (by refine OwnR.lk (lo := loA) (hi := hiA) ?_ (by omega) (by omega) (by omega) (by omega); repeat first | refine OwnR.set ?_ (by first | omega | (dsimp only; omega)) _ | refine OwnR.alloc ?_ _ | exact oA), (by refine OwnR.lk (lo := loB) (hi := hiB) ?_ (by omega) (by omega) (by omega) (by omega); repeat first | refine OwnR.set ?_ (by first | omega | (dsimp only; omega)) _ | refine OwnR.alloc ?_ _ | exact oB), (by repeat first | refine Below.setCell ?_ (by first | omega | (dsimp only; omega)) _ | refine bl_alloc ?_ _ | exact bl)⟩
end Go.Proofs.Ythjapjbiclkhcaa

/- What a drawn region with one floating box leaves behind, by the box's place. -/
namespace Go.Proofs.Ythjapjbiclkhcaa
open Go.RowKit
set_option linter.unusedVariables false

theorem res1_b {W0 wC : World} {lo hi : Nat} {z : Int} {a : Option Addr} {c : Nat} (h : RgS wC lo hi a (lms z).length c (lms z)) (bC : Below W0.heap.size W0 wC) :
    W0.heap.size ≤ wC.heap.size ∧ wC.heap.size < (wC.alloc (Obj.cells #[Value.bool (sgn z), Value.slice a (lms z).length c] 26)).heap.size ∧ (wC.alloc (Obj.cells #[Value.bool (sgn z), Value.slice a (lms z).length c] 26)).cell? ⟨wC.heap.size, 0, none⟩ = some (Value.bool (sgn z)) ∧ (wC.alloc (Obj.cells #[Value.bool (sgn z), Value.slice a (lms z).length c] 26)).cell? ⟨wC.heap.size, 1, none⟩ = some (Value.slice a (lms z).length c) ∧
      Seg (wC.alloc (Obj.cells #[Value.bool (sgn z), Value.slice a (lms z).length c] 26)) a (lms z).length c (lms z) ∧ Below W0.heap.size W0 (wC.alloc (Obj.cells #[Value.bool (sgn z), Value.slice a (lms z).length c] 26)) :=
  ⟨bC.size, by simp only [World.size_alloc]; omega, by go_simp, by go_simp, h.1.below (bl_alloc (bl_refl wC) _), bl_alloc bC _⟩
theorem res1_a {W0 wC : World} {N lo hi : Nat} {z : Int} {a : Option Addr} {c : Nat} (h : RgS wC lo hi a (lms z).length c (lms z)) (bC : Below W0.heap.size W0 wC) (hz : Zr wC N) (hN : W0.heap.size ≤ N) (hp : N < lo ∨ hi ≤ N) :
    W0.heap.size ≤ N ∧ N < ((wC.setCell ⟨N, 0, none⟩ (Value.bool (sgn z))).setCell ⟨N, 1, none⟩ (Value.slice a (lms z).length c)).heap.size ∧ ((wC.setCell ⟨N, 0, none⟩ (Value.bool (sgn z))).setCell ⟨N, 1, none⟩ (Value.slice a (lms z).length c)).cell? ⟨N, 0, none⟩ = some (Value.bool (sgn z)) ∧ ((wC.setCell ⟨N, 0, none⟩ (Value.bool (sgn z))).setCell ⟨N, 1, none⟩ (Value.slice a (lms z).length c)).cell? ⟨N, 1, none⟩ = some (Value.slice a (lms z).length c) ∧
      Seg ((wC.setCell ⟨N, 0, none⟩ (Value.bool (sgn z))).setCell ⟨N, 1, none⟩ (Value.slice a (lms z).length c)) a (lms z).length c (lms z) ∧ Below W0.heap.size W0 ((wC.setCell ⟨N, 0, none⟩ (Value.bool (sgn z))).setCell ⟨N, 1, none⟩ (Value.slice a (lms z).length c)) := by
  obtain ⟨g, c0, c1, f0, f1⟩ := hz
  exact ⟨hN, by simp; omega, by go_simp, by go_simp, ((h.set (p := ⟨N, 0, none⟩) hp _).set (p := ⟨N, 1, none⟩) hp _).1, (bC.setCell (p := ⟨N, 0, none⟩) hN _).setCell (p := ⟨N, 1, none⟩) hN _⟩
end Go.Proofs.Ythjapjbiclkhcaa

/- What a drawn region with two floating boxes leaves behind, by the boxes' places. -/
namespace Go.Proofs.Ythjapjbiclkhcaa
open Go.RowKit
set_option linter.unusedVariables false

theorem RgS.seg' {W : World} {lo hi : Nat} {a : Option Addr} {n cap : Nat} {xs : List Nat} (h : RgS W lo hi a n cap xs) : Seg W a n cap xs := h.1
theorem res2_bb {W0 W : World} {loA hiA loB hiB : Nat} {p q : Int} {ap aq : Option Addr} {cp cq : Nat} (oA : RgS W loA hiA ap (lms p).length cp (lms p)) (oB : RgS W loB hiB aq (lms q).length cq (lms q)) (hA : hiA ≤ W.heap.size) (hB : hiB ≤ W.heap.size) (bl : Below W0.heap.size W0 W)  : W0.heap.size ≤ W.heap.size ∧ W.heap.size < ((W.alloc (Obj.cells #[Value.bool (sgn p), Value.slice ap (lms p).length cp] 26)).alloc (Obj.cells #[Value.bool (sgn q), Value.slice aq (lms q).length cq] 26)).heap.size ∧ ((W.alloc (Obj.cells #[Value.bool (sgn p), Value.slice ap (lms p).length cp] 26)).alloc (Obj.cells #[Value.bool (sgn q), Value.slice aq (lms q).length cq] 26)).cell? ⟨W.heap.size, 0, none⟩ = some (Value.bool (sgn p)) ∧ ((W.alloc (Obj.cells #[Value.bool (sgn p), Value.slice ap (lms p).length cp] 26)).alloc (Obj.cells #[Value.bool (sgn q), Value.slice aq (lms q).length cq] 26)).cell? ⟨W.heap.size, 1, none⟩ = some (Value.slice ap (lms p).length cp) ∧ W0.heap.size ≤ W.heap.size + 1 ∧ W.heap.size + 1 < ((W.alloc (Obj.cells #[Value.bool (sgn p), Value.slice ap (lms p).length cp] 26)).alloc (Obj.cells #[Value.bool (sgn q), Value.slice aq (lms q).length cq] 26)).heap.size ∧ ((W.alloc (Obj.cells #[Value.bool (sgn p), Value.slice ap (lms p).length cp] 26)).alloc (Obj.cells #[Value.bool (sgn q), Value.slice aq (lms q).length cq] 26)).cell? ⟨W.heap.size + 1, 0, none⟩ = some (Value.bool (sgn q)) ∧ ((W.alloc (Obj.cells #[Value.bool (sgn p), Value.slice ap (lms p).length cp] 26)).alloc (Obj.cells #[Value.bool (sgn q), Value.slice aq (lms q).length cq] 26)).cell? ⟨W.heap.size + 1, 1, none⟩ = some (Value.slice aq (lms q).length cq) ∧ Seg ((W.alloc (Obj.cells #[Value.bool (sgn p), Value.slice ap (lms p).length cp] 26)).alloc (Obj.cells #[Value.bool (sgn q), Value.slice aq (lms q).length cq] 26)) ap (lms p).length cp (lms p) ∧ Seg ((W.alloc (Obj.cells #[Value.bool (sgn p), Value.slice ap (lms p).length cp] 26)).alloc (Obj.cells #[Value.bool (sgn q), Value.slice aq (lms q).length cq] 26)) aq (lms q).length cq (lms q) ∧ Below W0.heap.size W0 ((W.alloc (Obj.cells #[Value.bool (sgn p), Value.slice ap (lms p).length cp] 26)).alloc (Obj.cells #[Value.bool (sgn q), Value.slice aq (lms q).length cq] 26)) := by
  have hw := bl.size
  exact ⟨(by omega), (by simp only [World.size_alloc]; omega), (by go_simp), (by go_simp), (by omega), (by simp only [World.size_alloc]; omega), (by go_simp), (by go_simp), (by refine RgS.seg' (lo := loA) (hi := hiA) ?_; repeat first | refine RgS.set ?_ (by first | omega | (dsimp only; omega)) _ | refine RgS.alloc ?_ _ | exact oA), (by refine RgS.seg' (lo := loB) (hi := hiB) ?_; repeat first | refine RgS.set ?_ (by first | omega | (dsimp only; omega)) _ | refine RgS.alloc ?_ _ | exact oB), (by repeat first | refine Below.setCell ?_ (by first | omega | (dsimp only; omega)) _ | refine bl_alloc ?_ _ | exact bl)⟩
theorem res2_bb2 {W0 W : World} {loA hiA loB hiB : Nat} {p q : Int} {ap aq : Option Addr} {cp cq : Nat} (oA : RgS W loA hiA ap (lms p).length cp (lms p)) (oB : RgS W loB hiB aq (lms q).length cq (lms q)) (hA : hiA ≤ W.heap.size) (hB : hiB ≤ W.heap.size) (bl : Below W0.heap.size W0 W)  : W0.heap.size ≤ W.heap.size + 1 ∧ W.heap.size + 1 < ((W.alloc (Obj.cells #[Value.bool (sgn q), Value.slice aq (lms q).length cq] 26)).alloc (Obj.cells #[Value.bool (sgn p), Value.slice ap (lms p).length cp] 26)).heap.size ∧ ((W.alloc (Obj.cells #[Value.bool (sgn q), Value.slice aq (lms q).length cq] 26)).alloc (Obj.cells #[Value.bool (sgn p), Value.slice ap (lms p).length cp] 26)).cell? ⟨W.heap.size + 1, 0, none⟩ = some (Value.bool (sgn p)) ∧ ((W.alloc (Obj.cells #[Value.bool (sgn q), Value.slice aq (lms q).length cq] 26)).alloc (Obj.cells #[Value.bool (sgn p), Value.slice ap (lms p).length cp] 26)).cell? ⟨W.heap.size + 1, 1, none⟩ = some (Value.slice ap (lms p).length cp) ∧ W0.heap.size ≤ W.heap.size ∧ W.heap.size < ((W.alloc (Obj.cells #[Value.bool (sgn q), Value.slice aq (lms q).length cq] 26)).alloc (Obj.cells #[Value.bool (sgn p), Value.slice ap (lms p).length cp] 26)).heap.size ∧ ((W.alloc (Obj.cells #[Value.bool (sgn q), Value.slice aq (lms q).length cq] 26)).alloc (Obj.cells #[Value.bool (sgn p), Value.slice ap (lms p).length cp] 26)).cell? ⟨W.heap.size, 0, none⟩ = some (Value.bool (sgn q)) ∧ ((W.alloc (Obj.cells #[Value.bool (sgn q), Value.slice aq (lms q).length cq] 26)).alloc (Obj.cells #[Value.bool (sgn p), Value.slice ap (lms p).length cp] 26)).cell? ⟨W.heap.size, 1, none⟩ = some (Value.slice aq (lms q).length cq) ∧ Seg ((W.alloc (Obj.cells #[Value.bool (sgn q), Value.slice aq (lms q).length cq] 26)).alloc (Obj.cells #[Value.bool (sgn p), Value.slice ap (lms p).length cp] 26)) ap (lms p).length cp (lms p) ∧ Seg ((W.alloc (Obj.cells #[Value.bool (sgn q), Value.slice aq (lms q).length cq] 26)).alloc (Obj.cells #[Value.bool (sgn p), Value.slice ap (lms p).length cp] 26)) aq (lms q).length cq (lms q) ∧ Below W0.heap.size W0 ((W.alloc (Obj.cells #[Value.bool (sgn q), Value.slice aq (lms q).length cq] 26)).alloc (Obj.cells #[Value.bool (sgn p), Value.slice ap (lms p).length cp] 26)) := by
  have hw := bl.size
  exact ⟨(by omega), (by simp only [World.size_alloc]; omega), (by go_simp), (by go_simp), (by omega), (by simp only [World.size_alloc]; omega), (by go_simp), (by go_simp), (by refine RgS.seg' (lo := loA) (hi := hiA) ?_; repeat first | refine RgS.set ?_ (by first | omega | (dsimp only; omega)) _ | refine RgS.alloc ?_ _ | exact oA), (by refine RgS.seg' (lo := loB) (hi := hiB) ?_; repeat first | refine RgS.set ?_ (by first | omega | (dsimp only; omega)) _ | refine RgS.alloc ?_ _ | exact oB), (by repeat first | refine Below.setCell ?_ (by first | omega | (dsimp only; omega)) _ | refine bl_alloc ?_ _ | exact bl)⟩
theorem res2_ab {W0 W : World} {loA hiA loB hiB : Nat} {p q : Int} {ap aq : Option Addr} {cp cq : Nat} (oA : RgS W loA hiA ap (lms p).length cp (lms p)) (oB : RgS W loB hiB aq (lms q).length cq (lms q)) (hA : hiA ≤ W.heap.size) (hB : hiB ≤ W.heap.size) (bl : Below W0.heap.size W0 W) {N : Nat} (zN : Zr W N) (hN : W0.heap.size ≤ N) (nA : N < loA ∨ hiA ≤ N) (nB : N < loB ∨ hiB ≤ N) : W0.heap.size ≤ N ∧ N < (((W.setCell ⟨N, 0, none⟩ (Value.bool (sgn p))).setCell ⟨N, 1, none⟩ (Value.slice ap (lms p).length cp)).alloc (Obj.cells #[Value.bool (sgn q), Value.slice aq (lms q).length cq] 26)).heap.size ∧ (((W.setCell ⟨N, 0, none⟩ (Value.bool (sgn p))).setCell ⟨N, 1, none⟩ (Value.slice ap (lms p).length cp)).alloc (Obj.cells #[Value.bool (sgn q), Value.slice aq (lms q).length cq] 26)).cell? ⟨N, 0, none⟩ = some (Value.bool (sgn p)) ∧ (((W.setCell ⟨N, 0, none⟩ (Value.bool (sgn p))).setCell ⟨N, 1, none⟩ (Value.slice ap (lms p).length cp)).alloc (Obj.cells #[Value.bool (sgn q), Value.slice aq (lms q).length cq] 26)).cell? ⟨N, 1, none⟩ = some (Value.slice ap (lms p).length cp) ∧ W0.heap.size ≤ W.heap.size ∧ W.heap.size < (((W.setCell ⟨N, 0, none⟩ (Value.bool (sgn p))).setCell ⟨N, 1, none⟩ (Value.slice ap (lms p).length cp)).alloc (Obj.cells #[Value.bool (sgn q), Value.slice aq (lms q).length cq] 26)).heap.size ∧ (((W.setCell ⟨N, 0, none⟩ (Value.bool (sgn p))).setCell ⟨N, 1, none⟩ (Value.slice ap (lms p).length cp)).alloc (Obj.cells #[Value.bool (sgn q), Value.slice aq (lms q).length cq] 26)).cell? ⟨W.heap.size, 0, none⟩ = some (Value.bool (sgn q)) ∧ (((W.setCell ⟨N, 0, none⟩ (Value.bool (sgn p))).setCell ⟨N, 1, none⟩ (Value.slice ap (lms p).length cp)).alloc (Obj.cells #[Value.bool (sgn q), Value.slice aq (lms q).length cq] 26)).cell? ⟨W.heap.size, 1, none⟩ = some (Value.slice aq (lms q).length cq) ∧ Seg (((W.setCell ⟨N, 0, none⟩ (Value.bool (sgn p))).setCell ⟨N, 1, none⟩ (Value.slice ap (lms p).length cp)).alloc (Obj.cells #[Value.bool (sgn q), Value.slice aq (lms q).length cq] 26)) ap (lms p).length cp (lms p) ∧ Seg (((W.setCell ⟨N, 0, none⟩ (Value.bool (sgn p))).setCell ⟨N, 1, none⟩ (Value.slice ap (lms p).length cp)).alloc (Obj.cells #[Value.bool (sgn q), Value.slice aq (lms q).length cq] 26)) aq (lms q).length cq (lms q) ∧ Below W0.heap.size W0 (((W.setCell ⟨N, 0, none⟩ (Value.bool (sgn p))).setCell ⟨N, 1, none⟩ (Value.slice ap (lms p).length cp)).alloc (Obj.cells #[Value.bool (sgn q), Value.slice aq (lms q).length cq] 26)) := by
  obtain ⟨gN, cN0, cN1, fN0, fN1⟩ := zN
  have dN1 : ¬ N = W.heap.size := by omega
  have dN2 : ¬ W.heap.size = N := by omega
  have hw := bl.size
  exact ⟨(by omega), (by simp only [World.size_alloc, World.size_setCell]; omega), (by go_simp), (by go_simp), (by omega), (by simp only [World.size_alloc, World.size_setCell]; omega), (by go_simp), (by go_simp), (by refine RgS.seg' (lo := loA) (hi := hiA) ?_; repeat first | refine RgS.set ?_ (by first | omega | (dsimp only; omega)) _ | refine RgS.alloc ?_ _ | exact oA), (by refine RgS.seg' (lo := loB) (hi := hiB) ?_; repeat first | refine RgS.set ?_ (by first | omega | (dsimp only; omega)) _ | refine RgS.alloc ?_ _ | exact oB), (by repeat first | refine Below.setCell ?_ (by first | omega | (dsimp only; omega)) _ | refine bl_alloc ?_ _ | exact bl)⟩
theorem res2_ba {W0 W : World} {loA hiA loB hiB : Nat} {p q : Int} {ap aq : Option Addr} {cp cq : Nat} (oA : RgS W loA hiA ap (lms p).length cp (lms p)) (oB : RgS W loB hiB aq (lms q).length cq (lms q)) (hA : hiA ≤ W.heap.size) (hB : hiB ≤ W.heap.size) (bl : Below W0.heap.size W0 W) {M : Nat} (zM : Zr W M) (hM : W0.heap.size ≤ M) (mA : M < loA ∨ hiA ≤ M) (mB : M < loB ∨ hiB ≤ M) : W0.heap.size ≤ W.heap.size ∧ W.heap.size < (((W.setCell ⟨M, 0, none⟩ (Value.bool (sgn q))).setCell ⟨M, 1, none⟩ (Value.slice aq (lms q).length cq)).alloc (Obj.cells #[Value.bool (sgn p), Value.slice ap (lms p).length cp] 26)).heap.size ∧ (((W.setCell ⟨M, 0, none⟩ (Value.bool (sgn q))).setCell ⟨M, 1, none⟩ (Value.slice aq (lms q).length cq)).alloc (Obj.cells #[Value.bool (sgn p), Value.slice ap (lms p).length cp] 26)).cell? ⟨W.heap.size, 0, none⟩ = some (Value.bool (sgn p)) ∧ (((W.setCell ⟨M, 0, none⟩ (Value.bool (sgn q))).setCell ⟨M, 1, none⟩ (Value.slice aq (lms q).length cq)).alloc (Obj.cells #[Value.bool (sgn p), Value.slice ap (lms p).length cp] 26)).cell? ⟨W.heap.size, 1, none⟩ = some (Value.slice ap (lms p).length cp) ∧ W0.heap.size ≤ M ∧ M < (((W.setCell ⟨M, 0, none⟩ (Value.bool (sgn q))).setCell ⟨M, 1, none⟩ (Value.slice aq (lms q).length cq)).alloc (Obj.cells #[Value.bool (sgn p), Value.slice ap (lms p).length cp] 26)).heap.size ∧ (((W.setCell ⟨M, 0, none⟩ (Value.bool (sgn q))).setCell ⟨M, 1, none⟩ (Value.slice aq (lms q).length cq)).alloc (Obj.cells #[Value.bool (sgn p), Value.slice ap (lms p).length cp] 26)).cell? ⟨M, 0, none⟩ = some (Value.bool (sgn q)) ∧ (((W.setCell ⟨M, 0, none⟩ (Value.bool (sgn q))).setCell ⟨M, 1, none⟩ (Value.slice aq (lms q).length cq)).alloc (Obj.cells #[Value.bool (sgn p), Value.slice ap (lms p).length cp] 26)).cell? ⟨M, 1, none⟩ = some (Value.slice aq (lms q).length cq) ∧ Seg (((W.setCell ⟨M, 0, none⟩ (Value.bool (sgn q))).setCell ⟨M, 1, none⟩ (Value.slice aq (lms q).length cq)).alloc (Obj.cells #[Value.bool (sgn p), Value.slice ap (lms p).length cp] 26)) ap (lms p).length cp (lms p) ∧ Seg (((W.setCell ⟨M, 0, none⟩ (Value.bool (sgn q))).setCell ⟨M, 1, none⟩ (Value.slice aq (lms q).length cq)).alloc (Obj.cells #[Value.bool (sgn p), Value.slice ap (lms p).length cp] 26)) aq (lms q).length cq (lms q) ∧ Below W0.heap.size W0 (((W.setCell ⟨M, 0, none⟩ (Value.bool (sgn q))).setCell ⟨M, 1, none⟩ (Value.slice aq (lms q).length cq)).alloc (Obj.cells #[Value.bool (sgn p), Value.slice ap (lms p).length cp] 26)) := by
  obtain ⟨gM, cM0, cM1, fM0, fM1⟩ := zM
  have dM1 : ¬ M = W.heap.size := by omega
  have dM2 : ¬ W.heap.size = M := by omega
  have hw := bl.size
  exact ⟨(by omega), (by simp only [World.size_alloc, World.size_setCell]; omega), (by go_simp), (by go_simp), (by omega), (by simp only [World.size_alloc, World.size_setCell]; omega), (by go_simp), (by go_simp), (by refine RgS.seg' (lo := loA) (hi := hiA) ?_; repeat first | refine RgS.set ?_ (by first | omega | (dsimp only; omega)) _ | refine RgS.alloc ?_ _ | exact oA), (by refine RgS.seg' (lo := loB) (hi := hiB) ?_; repeat first | refine RgS.set ?_ (by first | omega | (dsimp only; omega)) _ | refine RgS.alloc ?_ _ | exact oB), (by repeat first | refine Below.setCell ?_ (by first | omega | (dsimp only; omega)) _ | refine bl_alloc ?_ _ | exact bl)⟩
theorem res2_aa {W0 W : World} {loA hiA loB hiB : Nat} {p q : Int} {ap aq : Option Addr} {cp cq : Nat} (oA : RgS W loA hiA ap (lms p).length cp (lms p)) (oB : RgS W loB hiB aq (lms q).length cq (lms q)) (hA : hiA ≤ W.heap.size) (hB : hiB ≤ W.heap.size) (bl : Below W0.heap.size W0 W) {N : Nat} (zN : Zr W N) (hN : W0.heap.size ≤ N) (nA : N < loA ∨ hiA ≤ N) (nB : N < loB ∨ hiB ≤ N) {M : Nat} (zM : Zr W M) (hM : W0.heap.size ≤ M) (mA : M < loA ∨ hiA ≤ M) (mB : M < loB ∨ hiB ≤ M) (nM : N ≠ M) : W0.heap.size ≤ N ∧ N < ((((W.setCell ⟨N, 0, none⟩ (Value.bool (sgn p))).setCell ⟨N, 1, none⟩ (Value.slice ap (lms p).length cp)).setCell ⟨M, 0, none⟩ (Value.bool (sgn q))).setCell ⟨M, 1, none⟩ (Value.slice aq (lms q).length cq)).heap.size ∧ ((((W.setCell ⟨N, 0, none⟩ (Value.bool (sgn p))).setCell ⟨N, 1, none⟩ (Value.slice ap (lms p).length cp)).setCell ⟨M, 0, none⟩ (Value.bool (sgn q))).setCell ⟨M, 1, none⟩ (Value.slice aq (lms q).length cq)).cell? ⟨N, 0, none⟩ = some (Value.bool (sgn p)) ∧ ((((W.setCell ⟨N, 0, none⟩ (Value.bool (sgn p))).setCell ⟨N, 1, none⟩ (Value.slice ap (lms p).length cp)).setCell ⟨M, 0, none⟩ (Value.bool (sgn q))).setCell ⟨M, 1, none⟩ (Value.slice aq (lms q).length cq)).cell? ⟨N, 1, none⟩ = some (Value.slice ap (lms p).length cp) ∧ W0.heap.size ≤ M ∧ M < ((((W.setCell ⟨N, 0, none⟩ (Value.bool (sgn p))).setCell ⟨N, 1, none⟩ (Value.slice ap (lms p).length cp)).setCell ⟨M, 0, none⟩ (Value.bool (sgn q))).setCell ⟨M, 1, none⟩ (Value.slice aq (lms q).length cq)).heap.size ∧ ((((W.setCell ⟨N, 0, none⟩ (Value.bool (sgn p))).setCell ⟨N, 1, none⟩ (Value.slice ap (lms p).length cp)).setCell ⟨M, 0, none⟩ (Value.bool (sgn q))).setCell ⟨M, 1, none⟩ (Value.slice aq (lms q).length cq)).cell? ⟨M, 0, none⟩ = some (Value.bool (sgn q)) ∧ ((((W.setCell ⟨N, 0, none⟩ (Value.bool (sgn p))).setCell ⟨N, 1, none⟩ (Value.slice ap (lms p).length cp)).setCell ⟨M, 0, none⟩ (Value.bool (sgn q))).setCell ⟨M, 1, none⟩ (Value.slice aq (lms q).length cq)).cell? ⟨M, 1, none⟩ = some (Value.slice aq (lms q).length cq) ∧ Seg ((((W.setCell ⟨N, 0, none⟩ (Value.bool (sgn p))).setCell ⟨N, 1, none⟩ (Value.slice ap (lms p).length cp)).setCell ⟨M, 0, none⟩ (Value.bool (sgn q))).setCell ⟨M, 1, none⟩ (Value.slice aq (lms q).length cq)) ap (lms p).length cp (lms p) ∧ Seg ((((W.setCell ⟨N, 0, none⟩ (Value.bool (sgn p))).setCell ⟨N, 1, none⟩ (Value.slice ap (lms p).length cp)).setCell ⟨M, 0, none⟩ (Value.bool (sgn q))).setCell ⟨M, 1, none⟩ (Value.slice aq (lms q).length cq)) aq (lms q).length cq (lms q) ∧ Below W0.heap.size W0 ((((W.setCell ⟨N, 0, none⟩ (Value.bool (sgn p))).setCell ⟨N, 1, none⟩ (Value.slice ap (lms p).length cp)).setCell ⟨M, 0, none⟩ (Value.bool (sgn q))).setCell ⟨M, 1, none⟩ (Value.slice aq (lms q).length cq)) := by
  obtain ⟨gN, cN0, cN1, fN0, fN1⟩ := zN
  obtain ⟨gM, cM0, cM1, fM0, fM1⟩ := zM
  have dNM : ¬ M = N := fun e => nM e.symm
  have hw := bl.size
  exact ⟨(by omega), (by simp only [World.size_setCell]; omega), (by go_simp), (by go_simp), (by omega), (by simp only [World.size_setCell]; omega), (by go_simp), (by go_simp), (by refine RgS.seg' (lo := loA) (hi := hiA) ?_; repeat first | refine RgS.set ?_ (by first | omega | (dsimp only; omega)) _ | refine RgS.alloc ?_ _ | exact oA), (by refine RgS.seg' (lo := loB) (hi := hiB) ?_; repeat first | refine RgS.set ?_ (by first | omega | (dsimp only; omega)) _ | refine RgS.alloc ?_ _ | exact oB), (by repeat first | refine Below.setCell ?_ (by first | omega | (dsimp only; omega)) _ | refine bl_alloc ?_ _ | exact bl)⟩
end Go.Proofs.Ythjapjbiclkhcaa
