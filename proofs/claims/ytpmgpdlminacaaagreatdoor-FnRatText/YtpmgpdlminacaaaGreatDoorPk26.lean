/- My texts SSt, GcdS, in this order. -/
import Derived.Test.YtpmgpdlminacaaaGreatDoorPk25
import Derived.Test.YtpmgpdlminacaaaGreatDoorPk22
/- Two numbers in two boxes, wherever these lie, that are stored into in a loop, and a third box for the answer; the numbers' lists are only read. -/
namespace Go.Proofs.YtpmgpdlminacaaaGreatDoor
open Go.RowKit
set_option linter.unusedVariables false

/-- a list that is read, in a block from lo on to below hi -/
def RgS (W : World) (lo hi : Nat) (a : Option Addr) (n cap : Nat) (xs : List Nat) : Prop := Seg W a n cap xs ∧ (0 < n → ∀ g o s, a = some ⟨g, o, s⟩ → lo ≤ g ∧ g < hi)
/-- a list that is read and lies from L on in none of three blocks -/
def Lk (W : World) (L N M R : Nat) (a : Option Addr) (n cap : Nat) (xs : List Nat) : Prop := Seg W a n cap xs ∧ (0 < n → ∀ g o s, a = some ⟨g, o, s⟩ → L ≤ g ∧ g ≠ N ∧ g ≠ M ∧ g ≠ R)
theorem Lk.below {W W' : World} {L N M R : Nat} {a : Option Addr} {n cap : Nat} {xs : List Nat} (h : Lk W L N M R a n cap xs) (hb : Below W.heap.size W W') : Lk W' L N M R a n cap xs := ⟨h.1.below hb, h.2⟩
theorem Seg.setOff {W : World} {a : Option Addr} {n cap : Nat} {xs : List Nat} (h : Seg W a n cap xs) {p : Addr} (hp : 0 < n → ∀ g o s, a = some ⟨g, o, s⟩ → g ≠ p.block) (v : Value) : Seg (W.setCell p v) a n cap xs := by
  obtain ⟨h1, h2, h3, h4, h5⟩ := h
  refine ⟨h1, h2, h3, h4, ?_⟩
  rcases h5 with h5 | ⟨g, o, ha, hg, hc⟩
  · exact .inl h5
  · by_cases h0 : n = 0
    · exact .inl h0
    · refine .inr ⟨g, o, ha, by simp; exact hg, fun j hj => ?_⟩
      rw [World.cell?_of_block (Below.heap_setCell W p v g (hp (by omega) _ _ _ ha))]
      exact hc j hj
theorem Lk.set {W : World} {L N M R : Nat} {a : Option Addr} {n cap : Nat} {xs : List Nat} (h : Lk W L N M R a n cap xs) {p : Addr} (hp : p.block = N ∨ p.block = M ∨ p.block = R) (v : Value) : Lk (W.setCell p v) L N M R a n cap xs := by
  refine ⟨h.1.setOff (fun h0 g o s e => ?_) v, h.2⟩
  obtain ⟨_, h1, h2, h3⟩ := h.2 h0 g o s e
  rcases hp with hp | hp | hp <;> omega
/-- a list in memory of its own behind the three blocks -/
theorem Own.lk {W : World} {base L N M R : Nat} {a : Option Addr} {n cap : Nat} {xs : List Nat} (h : Own W base a n cap xs) (hL : L ≤ base) (hN : N < base) (hM : M < base) (hR : R < base) : Lk W L N M R a n cap xs := by
  refine ⟨h.seg, fun _ g o s e => ?_⟩
  rcases h.cases with ⟨rfl, _⟩ | ⟨g', rfl, h1, h2⟩
  · cases e
  · cases e; omega
/-- .. or between them -/
theorem OwnR.lk {W : World} {lo hi L N M R : Nat} {a : Option Addr} {n cap : Nat} {xs : List Nat} (h : OwnR W lo hi a n cap xs) (hL : L ≤ lo) (hN : N < lo ∨ hi ≤ N) (hM : M < lo ∨ hi ≤ M) (hR : R < lo ∨ hi ≤ R) : Lk W L N M R a n cap xs := by
  refine ⟨h.seg, fun _ g o s e => ?_⟩
  rcases h.1.cases with ⟨rfl, _⟩ | ⟨g', rfl, h1, h2⟩
  · cases e
  · have := h.2 g' rfl
    cases e; omega
theorem Seg.lt {W : World} {a : Option Addr} {n cap : Nat} {xs : List Nat} (h : Seg W a n cap xs) (h0 : 0 < n) {g o : Nat} {s : Option Nat} (e : a = some ⟨g, o, s⟩) : g < W.heap.size := by
  rcases h.2.2.2.2 with h5 | ⟨g', o', ha, hg, _⟩
  · omega
  · rw [ha] at e; cases e; exact hg
theorem Lk.rgs {W : World} {L N M R : Nat} {a : Option Addr} {n cap : Nat} {xs : List Nat} (h : Lk W L N M R a n cap xs) : RgS W L W.heap.size a n cap xs := ⟨h.1, fun h0 g o s e => ⟨(h.2 h0 g o s e).1, h.1.lt h0 e⟩⟩
theorem Own.rgs {W : World} {base : Nat} {a : Option Addr} {n cap : Nat} {xs : List Nat} (h : Own W base a n cap xs) : RgS W base W.heap.size a n cap xs := by
  refine ⟨h.seg, fun h0 g o s e => ⟨?_, h.seg.lt h0 e⟩⟩
  rcases h.cases with ⟨rfl, _⟩ | ⟨g', rfl, h1, h2⟩
  · cases e
  · cases e; exact h1
theorem RgS.below {W W' : World} {lo hi : Nat} {a : Option Addr} {n cap : Nat} {xs : List Nat} (h : RgS W lo hi a n cap xs) (hb : Below W.heap.size W W') : RgS W' lo hi a n cap xs := ⟨h.1.below hb, h.2⟩
theorem RgS.alloc {W : World} {lo hi : Nat} {a : Option Addr} {n cap : Nat} {xs : List Nat} (h : RgS W lo hi a n cap xs) (o : Obj) : RgS (W.alloc o) lo hi a n cap xs := h.below (bl_alloc (bl_refl W) o)
theorem RgS.drew {W : World} {lo hi : Nat} {a : Option Addr} {n cap : Nat} {xs : List Nat} (h : RgS W lo hi a n cap xs) : RgS W.drew lo hi a n cap xs := h.below (bl_refl W).drew
theorem RgS.set {W : World} {lo hi : Nat} {a : Option Addr} {n cap : Nat} {xs : List Nat} (h : RgS W lo hi a n cap xs) {p : Addr} (hp : p.block < lo ∨ hi ≤ p.block) (v : Value) : RgS (W.setCell p v) lo hi a n cap xs :=
  ⟨h.1.setOff (fun h0 g o s e => by have := h.2 h0 g o s e; omega) v, h.2⟩
theorem RgS.mono {W : World} {lo lo' hi hi' : Nat} {a : Option Addr} {n cap : Nat} {xs : List Nat} (h : RgS W lo hi a n cap xs) (h1 : lo' ≤ lo) (h2 : hi ≤ hi') : RgS W lo' hi' a n cap xs := ⟨h.1, fun h0 g o s e => by have := h.2 h0 g o s e; omega⟩
/-- a number that is read, its list from lo on -/
def IsB (W : World) (lo : Nat) (v : Value) (z : Int) : Prop := ∃ a c, v = .agg #[.bool (sgn z), .slice a (lms z).length c] ∧ RgS W lo W.heap.size a (lms z).length c (lms z)
theorem IsB.is {W : World} {lo : Nat} {v : Value} {z : Int} (h : IsB W lo v z) : Is W v z := by obtain ⟨a, c, rfl, h⟩ := h; exact ⟨a, c, rfl, h.1⟩
theorem New.isB {W : World} {lo : Nat} {v : Value} {z : Int} (h : New W lo v z) : IsB W lo v z := by obtain ⟨a, c, rfl, h⟩ := h; exact ⟨a, c, rfl, h.rgs⟩
structure SSt (w W : World) (N M R : Nat) (p q : Int) (ap : Option Addr) (cp : Nat) (aq : Option Addr) (cq : Nat) : Prop where
  kA0 : W.cell? ⟨N, 0, none⟩ = some (.bool (sgn p))
  kA1 : W.cell? ⟨N, 1, none⟩ = some (.slice ap (lms p).length cp)
  kB0 : W.cell? ⟨M, 0, none⟩ = some (.bool (sgn q))
  kB1 : W.cell? ⟨M, 1, none⟩ = some (.slice aq (lms q).length cq)
  kR0 : W.cell? ⟨R, 0, none⟩ = some (.bool false)
  kR1 : W.cell? ⟨R, 1, none⟩ = some (.slice none 0 0)
  fA0 : W.frozen? ⟨N, 0, none⟩ = false
  fA1 : W.frozen? ⟨N, 1, none⟩ = false
  fB0 : W.frozen? ⟨M, 0, none⟩ = false
  fB1 : W.frozen? ⟨M, 1, none⟩ = false
  fR0 : W.frozen? ⟨R, 0, none⟩ = false
  fR1 : W.frozen? ⟨R, 1, none⟩ = false
  zN : N < W.heap.size
  zM : M < W.heap.size
  zR : R < W.heap.size
  hN : w.heap.size ≤ N
  hM : w.heap.size ≤ M
  hR : w.heap.size ≤ R
  n1 : N ≠ M
  n2 : N ≠ R
  n3 : M ≠ R
  oA : Lk W w.heap.size N M R ap (lms p).length cp (lms p)
  oB : Lk W w.heap.size N M R aq (lms q).length cq (lms q)
  bel : Below w.heap.size w W
theorem SSt.below {w W W' : World} {N M R : Nat} {p q : Int} {ap aq : Option Addr} {cp cq : Nat} (h : SSt w W N M R p q ap cp aq cq) (hb : Below W.heap.size W W') : SSt w W' N M R p q ap cp aq cq := by
  obtain ⟨a, b, c, d, e, f, g, h, i, j, k, l, zN, zM, zR, hN, hM, hR, n1, n2, n3, o1, o2, bl⟩ := h
  have := hb.size
  exact ⟨(hb.cell (p := ⟨N, 0, none⟩) zN).trans a, (hb.cell (p := ⟨N, 1, none⟩) zN).trans b, (hb.cell (p := ⟨M, 0, none⟩) zM).trans c, (hb.cell (p := ⟨M, 1, none⟩) zM).trans d, (hb.cell (p := ⟨R, 0, none⟩) zR).trans e, (hb.cell (p := ⟨R, 1, none⟩) zR).trans f,
    (hb.frozen (p := ⟨N, 0, none⟩) zN).trans g, (hb.frozen (p := ⟨N, 1, none⟩) zN).trans h, (hb.frozen (p := ⟨M, 0, none⟩) zM).trans i, (hb.frozen (p := ⟨M, 1, none⟩) zM).trans j, (hb.frozen (p := ⟨R, 0, none⟩) zR).trans k, (hb.frozen (p := ⟨R, 1, none⟩) zR).trans l,
    by omega, by omega, by omega, hN, hM, hR, n1, n2, n3, o1.below hb, o2.below hb, bl_trans bl hb⟩
theorem SSt.set1 {w W : World} {N M R : Nat} {p q r : Int} {ap aq ar : Option Addr} {cp cq cr : Nat} (h : SSt w W N M R p q ap cp aq cq) (ho : Lk W w.heap.size N M R ar (lms r).length cr (lms r)) :
    SSt w ((W.setCell ⟨N, 0, none⟩ (.bool (sgn r))).setCell ⟨N, 1, none⟩ (.slice ar (lms r).length cr)) N M R r q ar cr aq cq := by
  obtain ⟨a, b, c, d, e, f, g, h, i, j, k, l, zN, zM, zR, hN, hM, hR, n1, n2, n3, o1, o2, bl⟩ := h
  exact ⟨by go_simp, by go_simp, (cell_two (N := N) (p := ⟨M, 0, none⟩) (Ne.symm n1)).trans c, (cell_two (N := N) (p := ⟨M, 1, none⟩) (Ne.symm n1)).trans d, (cell_two (N := N) (p := ⟨R, 0, none⟩) (Ne.symm n2)).trans e, (cell_two (N := N) (p := ⟨R, 1, none⟩) (Ne.symm n2)).trans f,
    by simp [g], by simp [h], by simp [i], by simp [j], by simp [k], by simp [l], by simp; omega, by simp; omega, by simp; omega, hN, hM, hR, n1, n2, n3, (ho.set (p := ⟨N, 0, none⟩) (.inl rfl) _).set (p := ⟨N, 1, none⟩) (.inl rfl) _, (o2.set (p := ⟨N, 0, none⟩) (.inl rfl) _).set (p := ⟨N, 1, none⟩) (.inl rfl) _, (bl.setCell (p := ⟨N, 0, none⟩) hN _).setCell (p := ⟨N, 1, none⟩) hN _⟩
theorem SSt.set2 {w W : World} {N M R : Nat} {p q r : Int} {ap aq ar : Option Addr} {cp cq cr : Nat} (h : SSt w W N M R p q ap cp aq cq) (ho : Lk W w.heap.size N M R ar (lms r).length cr (lms r)) :
    SSt w ((W.setCell ⟨M, 0, none⟩ (.bool (sgn r))).setCell ⟨M, 1, none⟩ (.slice ar (lms r).length cr)) N M R p r ap cp ar cr := by
  obtain ⟨a, b, c, d, e, f, g, h, i, j, k, l, zN, zM, zR, hN, hM, hR, n1, n2, n3, o1, o2, bl⟩ := h
  exact ⟨(cell_two (N := M) (p := ⟨N, 0, none⟩) n1).trans a, (cell_two (N := M) (p := ⟨N, 1, none⟩) n1).trans b, by go_simp, by go_simp, (cell_two (N := M) (p := ⟨R, 0, none⟩) (Ne.symm n3)).trans e, (cell_two (N := M) (p := ⟨R, 1, none⟩) (Ne.symm n3)).trans f,
    by simp [g], by simp [h], by simp [i], by simp [j], by simp [k], by simp [l], by simp; omega, by simp; omega, by simp; omega, hN, hM, hR, n1, n2, n3, (o1.set (p := ⟨M, 0, none⟩) (.inr (.inl rfl)) _).set (p := ⟨M, 1, none⟩) (.inr (.inl rfl)) _, (ho.set (p := ⟨M, 0, none⟩) (.inr (.inl rfl)) _).set (p := ⟨M, 1, none⟩) (.inr (.inl rfl)) _, (bl.setCell (p := ⟨M, 0, none⟩) hM _).setCell (p := ⟨M, 1, none⟩) hM _⟩
theorem SSt.fin {w W : World} {N M R : Nat} {p q : Int} {ap aq : Option Addr} {cp cq : Nat} (h : SSt w W N M R p q ap cp aq cq) (x y : Value) :
    IsB ((W.setCell ⟨R, 0, none⟩ x).setCell ⟨R, 1, none⟩ y) w.heap.size (.agg #[.bool (sgn p), .slice ap (lms p).length cp]) p ∧ Below w.heap.size w ((W.setCell ⟨R, 0, none⟩ x).setCell ⟨R, 1, none⟩ y) :=
  ⟨⟨ap, cp, rfl, ((h.oA.set (p := ⟨R, 0, none⟩) (.inr (.inr rfl)) x).set (p := ⟨R, 1, none⟩) (.inr (.inr rfl)) y).rgs⟩, (h.bel.setCell (p := ⟨R, 0, none⟩) h.hR x).setCell (p := ⟨R, 1, none⟩) h.hR y⟩
theorem sst_bb {w W : World} {R loA hiA loB hiB : Nat} {p q : Int} {ap aq : Option Addr} {cp cq : Nat} (kR0 : W.cell? ⟨R, 0, none⟩ = some (.bool false)) (kR1 : W.cell? ⟨R, 1, none⟩ = some (.slice none 0 0)) (fR0 : W.frozen? ⟨R, 0, none⟩ = false) (fR1 : W.frozen? ⟨R, 1, none⟩ = false) (zR : R < W.heap.size) (hR : w.heap.size ≤ R) (oA : OwnR W loA hiA ap (lms p).length cp (lms p)) (oB : OwnR W loB hiB aq (lms q).length cq (lms q)) (rA : R < loA ∨ hiA ≤ R) (rB : R < loB ∨ hiB ≤ R) (hA : hiA ≤ W.heap.size) (hB : hiB ≤ W.heap.size) (lA : w.heap.size ≤ loA) (lB : w.heap.size ≤ loB) (bl : Below w.heap.size w W)  : SSt w ((W.alloc (Obj.cells #[Value.bool (sgn p), Value.slice ap (lms p).length cp] 24)).alloc (Obj.cells #[Value.bool (sgn q), Value.slice aq (lms q).length cq] 24)) (W.heap.size) (W.heap.size + 1) R p q ap cp aq cq := by
  have e1 : ¬ R = W.heap.size := by omega
  have e2 : ¬ R = W.heap.size + 1 := by omega
  have e3 : ¬ W.heap.size = R := by omega
  have e4 : ¬ W.heap.size + 1 = R := by omega
  have hw := bl.size
  exact ⟨(by go_simp), (by go_simp), (by go_simp), (by go_simp), (by go_simp), (by go_simp), (by go_simp), (by go_simp), (by go_simp), (by go_simp), (by go_simp), (by go_simp), (by simp only [World.size_alloc]; omega), (by simp only [World.size_alloc]; omega), (by simp only [World.size_alloc]; omega), (by omega), (by omega), (by omega), (by omega), (by omega), (by omega), (by refine OwnR.lk (lo := loA) (hi := hiA) ?_ (by omega) (by omega) (by omega) (by omega); repeat first | refine OwnR.set ?_ (by first | omega | (dsimp only; omega)) _ | refine OwnR.alloc ?_ _ | exact oA), (by refine OwnR.lk (lo := loB) (hi := hiB) ?_ (by omega) (by omega) (by omega) (by omega); repeat first | refine OwnR.set ?_ (by first | omega | (dsimp only; omega)) _ | refine OwnR.alloc ?_ _ | exact oB), (by repeat first | refine Below.setCell ?_ (by first | omega | (dsimp only; omega)) _ | refine bl_alloc ?_ _ | exact bl)⟩
theorem sst_bb2 {w W : World} {R loA hiA loB hiB : Nat} {p q : Int} {ap aq : Option Addr} {cp cq : Nat} (kR0 : W.cell? ⟨R, 0, none⟩ = some (.bool false)) (kR1 : W.cell? ⟨R, 1, none⟩ = some (.slice none 0 0)) (fR0 : W.frozen? ⟨R, 0, none⟩ = false) (fR1 : W.frozen? ⟨R, 1, none⟩ = false) (zR : R < W.heap.size) (hR : w.heap.size ≤ R) (oA : OwnR W loA hiA ap (lms p).length cp (lms p)) (oB : OwnR W loB hiB aq (lms q).length cq (lms q)) (rA : R < loA ∨ hiA ≤ R) (rB : R < loB ∨ hiB ≤ R) (hA : hiA ≤ W.heap.size) (hB : hiB ≤ W.heap.size) (lA : w.heap.size ≤ loA) (lB : w.heap.size ≤ loB) (bl : Below w.heap.size w W)  : SSt w ((W.alloc (Obj.cells #[Value.bool (sgn q), Value.slice aq (lms q).length cq] 24)).alloc (Obj.cells #[Value.bool (sgn p), Value.slice ap (lms p).length cp] 24)) (W.heap.size + 1) (W.heap.size) R p q ap cp aq cq := by
  have e1 : ¬ R = W.heap.size := by omega
  have e2 : ¬ R = W.heap.size + 1 := by omega
  have e3 : ¬ W.heap.size = R := by omega
  have e4 : ¬ W.heap.size + 1 = R := by omega
  have hw := bl.size
  exact ⟨(by go_simp), (by go_simp), (by go_simp), (by go_simp), (by go_simp), (by go_simp), (by go_simp), (by go_simp), (by go_simp), (by go_simp), (by go_simp), (by go_simp), (by simp only [World.size_alloc]; omega), (by simp only [World.size_alloc]; omega), (by simp only [World.size_alloc]; omega), (by omega), (by omega), (by omega), (by omega), (by omega), (by omega), (by refine OwnR.lk (lo := loA) (hi := hiA) ?_ (by omega) (by omega) (by omega) (by omega); repeat first | refine OwnR.set ?_ (by first | omega | (dsimp only; omega)) _ | refine OwnR.alloc ?_ _ | exact oA), (by refine OwnR.lk (lo := loB) (hi := hiB) ?_ (by omega) (by omega) (by omega) (by omega); repeat first | refine OwnR.set ?_ (by first | omega | (dsimp only; omega)) _ | refine OwnR.alloc ?_ _ | exact oB), (by repeat first | refine Below.setCell ?_ (by first | omega | (dsimp only; omega)) _ | refine bl_alloc ?_ _ | exact bl)⟩
theorem sst_ab {w W : World} {R loA hiA loB hiB : Nat} {p q : Int} {ap aq : Option Addr} {cp cq : Nat} (kR0 : W.cell? ⟨R, 0, none⟩ = some (.bool false)) (kR1 : W.cell? ⟨R, 1, none⟩ = some (.slice none 0 0)) (fR0 : W.frozen? ⟨R, 0, none⟩ = false) (fR1 : W.frozen? ⟨R, 1, none⟩ = false) (zR : R < W.heap.size) (hR : w.heap.size ≤ R) (oA : OwnR W loA hiA ap (lms p).length cp (lms p)) (oB : OwnR W loB hiB aq (lms q).length cq (lms q)) (rA : R < loA ∨ hiA ≤ R) (rB : R < loB ∨ hiB ≤ R) (hA : hiA ≤ W.heap.size) (hB : hiB ≤ W.heap.size) (lA : w.heap.size ≤ loA) (lB : w.heap.size ≤ loB) (bl : Below w.heap.size w W) {N : Nat} (zN : Zr W N) (hN : w.heap.size ≤ N) (nA : N < loA ∨ hiA ≤ N) (nB : N < loB ∨ hiB ≤ N) (nR : N ≠ R) : SSt w (((W.setCell ⟨N, 0, none⟩ (.bool (sgn p))).setCell ⟨N, 1, none⟩ (.slice ap (lms p).length cp)).alloc (Obj.cells #[Value.bool (sgn q), Value.slice aq (lms q).length cq] 24)) (N) (W.heap.size) R p q ap cp aq cq := by
  obtain ⟨gN, cN0, cN1, fN0, fN1⟩ := zN
  have e1 : ¬ R = W.heap.size := by omega
  have e2 : ¬ R = W.heap.size + 1 := by omega
  have e3 : ¬ W.heap.size = R := by omega
  have e4 : ¬ W.heap.size + 1 = R := by omega
  have dN1 : ¬ N = W.heap.size := by omega
  have dN2 : ¬ W.heap.size = N := by omega
  have dN3 : ¬ R = N := fun e => nR e.symm
  have dN4 : ¬ N = R := nR
  have hw := bl.size
  exact ⟨(by go_simp), (by go_simp), (by go_simp), (by go_simp), (by go_simp), (by go_simp), (by go_simp), (by go_simp), (by go_simp), (by go_simp), (by go_simp), (by go_simp), (by simp only [World.size_alloc, World.size_setCell]; omega), (by simp only [World.size_alloc, World.size_setCell]; omega), (by simp only [World.size_alloc, World.size_setCell]; omega), (by omega), (by omega), (by omega), (by omega), (by omega), (by omega), (by refine OwnR.lk (lo := loA) (hi := hiA) ?_ (by omega) (by omega) (by omega) (by omega); repeat first | refine OwnR.set ?_ (by first | omega | (dsimp only; omega)) _ | refine OwnR.alloc ?_ _ | exact oA), (by refine OwnR.lk (lo := loB) (hi := hiB) ?_ (by omega) (by omega) (by omega) (by omega); repeat first | refine OwnR.set ?_ (by first | omega | (dsimp only; omega)) _ | refine OwnR.alloc ?_ _ | exact oB), (by repeat first | refine Below.setCell ?_ (by first | omega | (dsimp only; omega)) _ | refine bl_alloc ?_ _ | exact bl)⟩
theorem sst_ba {w W : World} {R loA hiA loB hiB : Nat} {p q : Int} {ap aq : Option Addr} {cp cq : Nat} (kR0 : W.cell? ⟨R, 0, none⟩ = some (.bool false)) (kR1 : W.cell? ⟨R, 1, none⟩ = some (.slice none 0 0)) (fR0 : W.frozen? ⟨R, 0, none⟩ = false) (fR1 : W.frozen? ⟨R, 1, none⟩ = false) (zR : R < W.heap.size) (hR : w.heap.size ≤ R) (oA : OwnR W loA hiA ap (lms p).length cp (lms p)) (oB : OwnR W loB hiB aq (lms q).length cq (lms q)) (rA : R < loA ∨ hiA ≤ R) (rB : R < loB ∨ hiB ≤ R) (hA : hiA ≤ W.heap.size) (hB : hiB ≤ W.heap.size) (lA : w.heap.size ≤ loA) (lB : w.heap.size ≤ loB) (bl : Below w.heap.size w W) {M : Nat} (zM : Zr W M) (hM : w.heap.size ≤ M) (mA : M < loA ∨ hiA ≤ M) (mB : M < loB ∨ hiB ≤ M) (mR : M ≠ R) : SSt w (((W.setCell ⟨M, 0, none⟩ (.bool (sgn q))).setCell ⟨M, 1, none⟩ (.slice aq (lms q).length cq)).alloc (Obj.cells #[Value.bool (sgn p), Value.slice ap (lms p).length cp] 24)) (W.heap.size) (M) R p q ap cp aq cq := by
  obtain ⟨gM, cM0, cM1, fM0, fM1⟩ := zM
  have e1 : ¬ R = W.heap.size := by omega
  have e2 : ¬ R = W.heap.size + 1 := by omega
  have e3 : ¬ W.heap.size = R := by omega
  have e4 : ¬ W.heap.size + 1 = R := by omega
  have dM1 : ¬ M = W.heap.size := by omega
  have dM2 : ¬ W.heap.size = M := by omega
  have dM3 : ¬ R = M := fun e => mR e.symm
  have dM4 : ¬ M = R := mR
  have hw := bl.size
  exact ⟨(by go_simp), (by go_simp), (by go_simp), (by go_simp), (by go_simp), (by go_simp), (by go_simp), (by go_simp), (by go_simp), (by go_simp), (by go_simp), (by go_simp), (by simp only [World.size_alloc, World.size_setCell]; omega), (by simp only [World.size_alloc, World.size_setCell]; omega), (by simp only [World.size_alloc, World.size_setCell]; omega), (by omega), (by omega), (by omega), (by omega), (by omega), (by omega), (by refine OwnR.lk (lo := loA) (hi := hiA) ?_ (by omega) (by omega) (by omega) (by omega); repeat first | refine OwnR.set ?_ (by first | omega | (dsimp only; omega)) _ | refine OwnR.alloc ?_ _ | exact oA), (by refine OwnR.lk (lo := loB) (hi := hiB) ?_ (by omega) (by omega) (by omega) (by omega); repeat first | refine OwnR.set ?_ (by first | omega | (dsimp only; omega)) _ | refine OwnR.alloc ?_ _ | exact oB), (by repeat first | refine Below.setCell ?_ (by first | omega | (dsimp only; omega)) _ | refine bl_alloc ?_ _ | exact bl)⟩
theorem sst_aa {w W : World} {R loA hiA loB hiB : Nat} {p q : Int} {ap aq : Option Addr} {cp cq : Nat} (kR0 : W.cell? ⟨R, 0, none⟩ = some (.bool false)) (kR1 : W.cell? ⟨R, 1, none⟩ = some (.slice none 0 0)) (fR0 : W.frozen? ⟨R, 0, none⟩ = false) (fR1 : W.frozen? ⟨R, 1, none⟩ = false) (zR : R < W.heap.size) (hR : w.heap.size ≤ R) (oA : OwnR W loA hiA ap (lms p).length cp (lms p)) (oB : OwnR W loB hiB aq (lms q).length cq (lms q)) (rA : R < loA ∨ hiA ≤ R) (rB : R < loB ∨ hiB ≤ R) (hA : hiA ≤ W.heap.size) (hB : hiB ≤ W.heap.size) (lA : w.heap.size ≤ loA) (lB : w.heap.size ≤ loB) (bl : Below w.heap.size w W) {N : Nat} (zN : Zr W N) (hN : w.heap.size ≤ N) (nA : N < loA ∨ hiA ≤ N) (nB : N < loB ∨ hiB ≤ N) (nR : N ≠ R) {M : Nat} (zM : Zr W M) (hM : w.heap.size ≤ M) (mA : M < loA ∨ hiA ≤ M) (mB : M < loB ∨ hiB ≤ M) (mR : M ≠ R) (nM : N ≠ M) : SSt w ((((W.setCell ⟨N, 0, none⟩ (.bool (sgn p))).setCell ⟨N, 1, none⟩ (.slice ap (lms p).length cp)).setCell ⟨M, 0, none⟩ (.bool (sgn q))).setCell ⟨M, 1, none⟩ (.slice aq (lms q).length cq)) (N) (M) R p q ap cp aq cq := by
  obtain ⟨gN, cN0, cN1, fN0, fN1⟩ := zN
  obtain ⟨gM, cM0, cM1, fM0, fM1⟩ := zM
  have dN1 : ¬ N = W.heap.size := by omega
  have dN2 : ¬ W.heap.size = N := by omega
  have dN3 : ¬ R = N := fun e => nR e.symm
  have dN4 : ¬ N = R := nR
  have dM1 : ¬ M = W.heap.size := by omega
  have dM2 : ¬ W.heap.size = M := by omega
  have dM3 : ¬ R = M := fun e => mR e.symm
  have dM4 : ¬ M = R := mR
  have dNM : ¬ M = N := fun e => nM e.symm
  have hw := bl.size
  exact ⟨(by go_simp), (by go_simp), (by go_simp), (by go_simp), (by go_simp), (by go_simp), (by go_simp), (by go_simp), (by go_simp), (by go_simp), (by go_simp), (by go_simp), (by simp only [World.size_setCell]; omega), (by simp only [World.size_setCell]; omega), (by simp only [World.size_setCell]; omega), (by omega), (by omega), (by omega), (by omega), (by omega), (by omega), (by refine OwnR.lk (lo := loA) (hi := hiA) ?_ (by omega) (by omega) (by omega) (by omega); repeat first | refine OwnR.set ?_ (by first | omega | (dsimp only; omega)) _ | refine OwnR.alloc ?_ _ | exact oA), (by refine OwnR.lk (lo := loB) (hi := hiB) ?_ (by omega) (by omega) (by omega) (by omega); repeat first | refine OwnR.set ?_ (by first | omega | (dsimp only; omega)) _ | refine OwnR.alloc ?_ _ | exact oB), (by repeat first | refine Below.setCell ?_ (by first | omega | (dsimp only; omega)) _ | refine bl_alloc ?_ _ | exact bl)⟩
end Go.Proofs.YtpmgpdlminacaaaGreatDoor

/- The walk of l02Gcd. -/
namespace Go.Proofs.YtpmgpdlminacaaaGreatDoor
open Go.RowKit
set_option linter.unusedVariables false

theorem mk_nat_lms (x : Int) : mk false (Num.nat (lms x)) = (x.natAbs : Int) := by rw [nat_lms]; rfl
theorem OwnR.below {W W' : World} {lo hi : Nat} {a : Option Addr} {n cap : Nat} {xs : List Nat} (h : OwnR W lo hi a n cap xs) (hb : Below W.heap.size W W') : OwnR W' lo hi a n cap xs := ⟨h.1.below hb, h.2⟩

set_option maxHeartbeats 8000000 in
set_option maxRecDepth 20000 in
theorem gcdS (v1 v2 : Value) (x y : Int) (w : World) (h1 : Is w v1 x) (h2 : Is w v2 y) (l1 : (lms x).length ≤ 100000) (l2 : (lms y).length ≤ 100000) :
    Calls Tryz.prog 40 #[v1, v2] w fun e w' => ∃ v, e = .returned v ∧ IsB w' w.heap.size v (Int.gcd x y : Int) ∧ Below w.heap.size w w' := by
  obtain ⟨a, ca, rfl, ha⟩ := h1
  obtain ⟨b, cb, rfl, hb⟩ := h2
  have HA := hide ha
  have HBB := hide hb
  clear ha hb
  have kA0 : (((w.alloc (Obj.cells #[Value.bool (sgn x), Value.slice a (lms x).length ca] 24)).alloc (Obj.cells #[Value.bool (sgn y), Value.slice b (lms y).length cb] 24)).alloc (Obj.cells #[Value.bool false, Value.slice none 0 0] 24)).cell? ⟨w.heap.size, 0, none⟩ = some (Value.bool (sgn x)) := by go_simp
  have kA1 : (((w.alloc (Obj.cells #[Value.bool (sgn x), Value.slice a (lms x).length ca] 24)).alloc (Obj.cells #[Value.bool (sgn y), Value.slice b (lms y).length cb] 24)).alloc (Obj.cells #[Value.bool false, Value.slice none 0 0] 24)).cell? ⟨w.heap.size, 1, none⟩ = some (Value.slice a (lms x).length ca) := by go_simp
  have zA : w.heap.size < (((w.alloc (Obj.cells #[Value.bool (sgn x), Value.slice a (lms x).length ca] 24)).alloc (Obj.cells #[Value.bool (sgn y), Value.slice b (lms y).length cb] 24)).alloc (Obj.cells #[Value.bool false, Value.slice none 0 0] 24)).heap.size := by simp only [World.size_alloc]; omega
  have kB0 : (((w.alloc (Obj.cells #[Value.bool (sgn x), Value.slice a (lms x).length ca] 24)).alloc (Obj.cells #[Value.bool (sgn y), Value.slice b (lms y).length cb] 24)).alloc (Obj.cells #[Value.bool false, Value.slice none 0 0] 24)).cell? ⟨w.heap.size + 1, 0, none⟩ = some (Value.bool (sgn y)) := by go_simp
  have kB1 : (((w.alloc (Obj.cells #[Value.bool (sgn x), Value.slice a (lms x).length ca] 24)).alloc (Obj.cells #[Value.bool (sgn y), Value.slice b (lms y).length cb] 24)).alloc (Obj.cells #[Value.bool false, Value.slice none 0 0] 24)).cell? ⟨w.heap.size + 1, 1, none⟩ = some (Value.slice b (lms y).length cb) := by go_simp
  have zB : w.heap.size + 1 < (((w.alloc (Obj.cells #[Value.bool (sgn x), Value.slice a (lms x).length ca] 24)).alloc (Obj.cells #[Value.bool (sgn y), Value.slice b (lms y).length cb] 24)).alloc (Obj.cells #[Value.bool false, Value.slice none 0 0] 24)).heap.size := by simp only [World.size_alloc]; omega
  have kR0 : (((w.alloc (Obj.cells #[Value.bool (sgn x), Value.slice a (lms x).length ca] 24)).alloc (Obj.cells #[Value.bool (sgn y), Value.slice b (lms y).length cb] 24)).alloc (Obj.cells #[Value.bool false, Value.slice none 0 0] 24)).cell? ⟨w.heap.size + 1 + 1, 0, none⟩ = some (Value.bool false) := by go_simp
  have fR0 : (((w.alloc (Obj.cells #[Value.bool (sgn x), Value.slice a (lms x).length ca] 24)).alloc (Obj.cells #[Value.bool (sgn y), Value.slice b (lms y).length cb] 24)).alloc (Obj.cells #[Value.bool false, Value.slice none 0 0] 24)).frozen? ⟨w.heap.size + 1 + 1, 0, none⟩ = false := by go_simp
  have kR1 : (((w.alloc (Obj.cells #[Value.bool (sgn x), Value.slice a (lms x).length ca] 24)).alloc (Obj.cells #[Value.bool (sgn y), Value.slice b (lms y).length cb] 24)).alloc (Obj.cells #[Value.bool false, Value.slice none 0 0] 24)).cell? ⟨w.heap.size + 1 + 1, 1, none⟩ = some (Value.slice none 0 0) := by go_simp
  have fR1 : (((w.alloc (Obj.cells #[Value.bool (sgn x), Value.slice a (lms x).length ca] 24)).alloc (Obj.cells #[Value.bool (sgn y), Value.slice b (lms y).length cb] 24)).alloc (Obj.cells #[Value.bool false, Value.slice none 0 0] 24)).frozen? ⟨w.heap.size + 1 + 1, 1, none⟩ = false := by go_simp
  have zR : w.heap.size + 1 + 1 < (((w.alloc (Obj.cells #[Value.bool (sgn x), Value.slice a (lms x).length ca] 24)).alloc (Obj.cells #[Value.bool (sgn y), Value.slice b (lms y).length cb] 24)).alloc (Obj.cells #[Value.bool false, Value.slice none 0 0] 24)).heap.size := by simp only [World.size_alloc]; omega
  have HB := hide (bl_alloc (bl_alloc (bl_alloc (bl_refl w) (Obj.cells #[Value.bool (sgn x), Value.slice a (lms x).length ca] 24)) (Obj.cells #[Value.bool (sgn y), Value.slice b (lms y).length cb] 24)) (Obj.cells #[Value.bool false, Value.slice none 0 0] 24))
  replace HA := hide (HA.out.below HB.out)
  replace HBB := hide (HBB.out.below HB.out)
  have y0 : w.heap.size + 3 ≤ (((w.alloc (Obj.cells #[Value.bool (sgn x), Value.slice a (lms x).length ca] 24)).alloc (Obj.cells #[Value.bool (sgn y), Value.slice b (lms y).length cb] 24)).alloc (Obj.cells #[Value.bool false, Value.slice none 0 0] 24)).heap.size := by simp only [World.size_alloc]; omega
  go_enter Tryz.func40, Tryz.ntmps40
  go_upto_region 1 with fail
  generalize (((w.alloc (Obj.cells #[Value.bool (sgn x), Value.slice a (lms x).length ca] 24)).alloc (Obj.cells #[Value.bool (sgn y), Value.slice b (lms y).length cb] 24)).alloc (Obj.cells #[Value.bool false, Value.slice none 0 0] 24)) = w1 at *
  go_cut [5, 6] (fun s5 s6 wc => ∃ (N M : Nat) (ap : Option Addr) (cp : Nat) (aq : Option Addr) (cq : Nat), s5 = .pointer (some ⟨N, 0, none⟩) ∧ s6 = .pointer (some ⟨M, 0, none⟩) ∧ Hid (SSt w wc N M (w.heap.size + 1 + 1) (x.natAbs : Int) (y.natAbs : Int) ap cp aq cq))
  case first =>
    have KP : Hid (∀ w', Below w1.heap.size w1 w' → (w'.cell? ⟨w.heap.size, 1, none⟩ = some (Value.slice a (lms x).length ca) ∧ w'.cell? ⟨w.heap.size + 1, 1, none⟩ = some (Value.slice b (lms y).length cb) ∧ Hid (Below w1.heap.size w1 w'))) := hide (fun w' hb => ⟨(hb.cell (p := ⟨w.heap.size, 1, none⟩) zA).trans kA1, (hb.cell (p := ⟨w.heap.size + 1, 1, none⟩) zB).trans kB1, hb⟩)
    have TT := trivial
    go_region_held3 (fun w' => w'.cell? ⟨w.heap.size, 1, none⟩ = some (Value.slice a (lms x).length ca) ∧ w'.cell? ⟨w.heap.size + 1, 1, none⟩ = some (Value.slice b (lms y).length cb) ∧ Hid (Below w1.heap.size w1 w'))
      (first | exact KP.out _ (bl_refl w1).drew | exact KP.out _ bB | exact KP.out _ bA | exact KP.out _ (by repeat first | exact bB | exact bA | exact (bl_refl w1).drew | exact bl_refl w1 | refine bl_alloc ?_ _ | refine bl_trans ?_ (bl_refl _).drew | refine Below.setCell ?_ (by first | omega | (dsimp only; omega) | (dsimp only; rw [World.size_drew]; omega)) _))
      (first
        | (go_at_call 86; (fail_if_success have := armA); refine (makeS false a _ ca (lms x) _ (HA.out.below (Hid.out (And.right (And.right (by assumption))))) (by omega)).mono ?_; rintro e wA ⟨vA, rfl, hnA, hbA⟩; have bA : Below w1.heap.size w1 wA := bl_trans (Hid.out (And.right (And.right (by assumption)))) hbA; have yA := bA.size; rw [mk_nat_lms] at hnA; obtain ⟨aA, cA, rfl, hoA⟩ := hnA; have RA := hide hoA.range; (try simp only [World.size_drew] at RA); (try simp only [World.size_alloc] at RA); (first | (have HZa0 := hide (show Zr wA w1.heap.size from (born2 hbA).1); have HZa1 := hide (show Zr wA (w1.heap.size + 1) from (born2 hbA).2)) | (have HZa0 := hide (show Zr wA w1.heap.size from (born2 (bl_trans (bl_refl ((w1.alloc (Obj.cells #[Value.bool false, Value.slice none 0 0] 24)).alloc (Obj.cells #[Value.bool false, Value.slice none 0 0] 24))).drew hbA)).1); have HZa1 := hide (show Zr wA (w1.heap.size + 1) from (born2 (bl_trans (bl_refl ((w1.alloc (Obj.cells #[Value.bool false, Value.slice none 0 0] 24)).alloc (Obj.cells #[Value.bool false, Value.slice none 0 0] 24))).drew hbA)).2)) | have HZa0 := hide (show Zr wA w1.heap.size from born1 hbA) | have HZa0 := hide (show Zr wA w1.heap.size from born1 (bl_trans (bl_refl (w1.alloc (Obj.cells #[Value.bool false, Value.slice none 0 0] 24))).drew hbA)) | skip); (try have zza0 := HZa0.out.1); (try have zza1 := HZa1.out.1); have armA := TT; clear hoA hbA)
        | (go_at_call 86; have := armA; refine (makeS false b _ cb (lms y) _ (HBB.out.below (Hid.out (And.right (And.right (by assumption))))) (by omega)).mono ?_; rintro e wB ⟨vB, rfl, hnB, hbB⟩; have bB : Below w1.heap.size w1 wB := bl_trans (Hid.out (And.right (And.right (by assumption)))) hbB; have bAB : Below wA.heap.size wA wB := (by first | exact hbB | exact bl_one hbB | exact bl_two hbB); have yB := bAB.size; rw [mk_nat_lms] at hnB; obtain ⟨aB, cB, rfl, hoB⟩ := hnB; have RB := hide hoB.range; (try simp only [World.size_drew] at RB); (try simp only [World.size_alloc] at RB); replace RA := hide (RA.out.below bAB); (try replace HZa0 := hide (HZa0.out.below bAB)); (try replace HZa1 := hide (HZa1.out.below bAB)); (first | (have HZb0 := hide (show Zr wB wA.heap.size from (born2 hbB).1); have HZb1 := hide (show Zr wB (wA.heap.size + 1) from (born2 hbB).2)) | (have HZb0 := hide (show Zr wB wA.heap.size from (born2 (bl_trans (bl_refl ((wA.alloc (Obj.cells #[Value.bool false, Value.slice none 0 0] 24)).alloc (Obj.cells #[Value.bool false, Value.slice none 0 0] 24))).drew hbB)).1); have HZb1 := hide (show Zr wB (wA.heap.size + 1) from (born2 (bl_trans (bl_refl ((wA.alloc (Obj.cells #[Value.bool false, Value.slice none 0 0] 24)).alloc (Obj.cells #[Value.bool false, Value.slice none 0 0] 24))).drew hbB)).2)) | have HZb0 := hide (show Zr wB wA.heap.size from born1 hbB) | have HZb0 := hide (show Zr wB wA.heap.size from born1 (bl_trans (bl_refl (wA.alloc (Obj.cells #[Value.bool false, Value.slice none 0 0] 24))).drew hbB)) | skip); (try have Qa0 := HZa0.out); (try have Qa1 := HZa1.out); (try obtain ⟨za0, ka0_0, ka0_1, fa0_0, fa0_1⟩ := HZa0.out); (try obtain ⟨za1, ka1_0, ka1_1, fa1_0, fa1_1⟩ := HZa1.out); (try have Qb0 := HZb0.out); (try have Qb1 := HZb1.out); (try obtain ⟨zb0, kb0_0, kb0_1, fb0_0, fb0_1⟩ := HZb0.out); (try obtain ⟨zb1, kb1_0, kb1_1, fb1_0, fb1_1⟩ := HZb1.out); have kR0 := (bB.cell (p := ⟨w.heap.size + 1 + 1, 0, none⟩) zR).trans kR0; have kR1 := (bB.cell (p := ⟨w.heap.size + 1 + 1, 1, none⟩) zR).trans kR1; have fR0 := (bB.frozen (p := ⟨w.heap.size + 1 + 1, 0, none⟩) zR).trans fR0; have fR1 := (bB.frozen (p := ⟨w.heap.size + 1 + 1, 1, none⟩) zR).trans fR1; (try have := Nat.ne_of_lt za0); (try have := Nat.ne_of_lt za1); (try have := Nat.ne_of_lt zb0); (try have := Nat.ne_of_lt zb1); (try (have := za0; have := zb0; have : ¬ w1.heap.size = wA.heap.size := by omega)); (try (have := za0; have := zb1; have : ¬ w1.heap.size = wA.heap.size + 1 := by omega)); (try (have := za1; have := zb0; have : ¬ w1.heap.size + 1 = wA.heap.size := by omega)); (try (have := za1; have := zb1; have : ¬ w1.heap.size + 1 = wA.heap.size + 1 := by omega)); (try (have := zb0; have := za0; have : ¬ wA.heap.size = w1.heap.size := by omega)); (try (have := zb0; have := za1; have : ¬ wA.heap.size = w1.heap.size + 1 := by omega)); (try (have := zb1; have := za0; have : ¬ wA.heap.size + 1 = w1.heap.size := by omega)); (try (have := zb1; have := za1; have : ¬ wA.heap.size + 1 = w1.heap.size + 1 := by omega)); (try (have := za0; have : ¬ w1.heap.size = w.heap.size + 1 + 1 := (by omega); have : ¬ w.heap.size + 1 + 1 = w1.heap.size := (by omega))); (try (have := za1; have : ¬ w1.heap.size + 1 = w.heap.size + 1 + 1 := (by omega); have : ¬ w.heap.size + 1 + 1 = w1.heap.size + 1 := (by omega))); (try (have := zb0; have : ¬ wA.heap.size = w.heap.size + 1 + 1 := (by omega); have : ¬ w.heap.size + 1 + 1 = wA.heap.size := (by omega))); (try (have := zb1; have : ¬ wA.heap.size + 1 = w.heap.size + 1 + 1 := (by omega); have : ¬ w.heap.size + 1 + 1 = wA.heap.size + 1 := (by omega))); clear hoB hbB))
    all_goals (go_wp2_with fail; go_meet)
    all_goals refine ⟨_, _, aA, cA, aB, cB, rfl, rfl, hide ?_⟩
    · exact sst_bb kR0 kR1 fR0 fR1 (by omega) (by omega) RA.out RB.out (by omega) (by omega) (by omega) (by omega) (by omega) (by omega) (bl_trans HB.out bB)
    · exact sst_bb2 kR0 kR1 fR0 fR1 (by omega) (by omega) RA.out RB.out (by omega) (by omega) (by omega) (by omega) (by omega) (by omega) (bl_trans HB.out bB)
    · exact sst_ab kR0 kR1 fR0 fR1 (by omega) (by omega) RA.out RB.out (by omega) (by omega) (by omega) (by omega) (by omega) (by omega) (bl_trans HB.out bB) Qb0 (by omega) (by omega) (by omega) (by omega)
    · exact sst_aa kR0 kR1 fR0 fR1 (by omega) (by omega) RA.out RB.out (by omega) (by omega) (by omega) (by omega) (by omega) (by omega) (bl_trans HB.out bB) Qb0 (by omega) (by omega) (by omega) (by omega) Qb1 (by omega) (by omega) (by omega) (by omega) (by omega)
    · exact sst_ba kR0 kR1 fR0 fR1 (by omega) (by omega) RA.out RB.out (by omega) (by omega) (by omega) (by omega) (by omega) (by omega) (bl_trans HB.out bB) Qb0 (by omega) (by omega) (by omega) (by omega)
    · exact sst_aa kR0 kR1 fR0 fR1 (by omega) (by omega) RA.out RB.out (by omega) (by omega) (by omega) (by omega) (by omega) (by omega) (bl_trans HB.out bB) Qb1 (by omega) (by omega) (by omega) (by omega) Qb0 (by omega) (by omega) (by omega) (by omega) (by omega)
    · exact sst_ab kR0 kR1 fR0 fR1 (by omega) (by omega) RA.out RB.out (by omega) (by omega) (by omega) (by omega) (by omega) (by omega) (bl_trans HB.out bB) Qa0 (by omega) (by omega) (by omega) (by omega)
    · exact sst_aa kR0 kR1 fR0 fR1 (by omega) (by omega) RA.out RB.out (by omega) (by omega) (by omega) (by omega) (by omega) (by omega) (bl_trans HB.out bB) Qa0 (by omega) (by omega) (by omega) (by omega) Qb0 (by omega) (by omega) (by omega) (by omega) (by omega)
    · exact sst_aa kR0 kR1 fR0 fR1 (by omega) (by omega) RA.out RB.out (by omega) (by omega) (by omega) (by omega) (by omega) (by omega) (bl_trans HB.out bB) Qa0 (by omega) (by omega) (by omega) (by omega) Qa1 (by omega) (by omega) (by omega) (by omega) (by omega)
    · exact sst_ba kR0 kR1 fR0 fR1 (by omega) (by omega) RA.out RB.out (by omega) (by omega) (by omega) (by omega) (by omega) (by omega) (bl_trans HB.out bB) Qa0 (by omega) (by omega) (by omega) (by omega)
    · exact sst_aa kR0 kR1 fR0 fR1 (by omega) (by omega) RA.out RB.out (by omega) (by omega) (by omega) (by omega) (by omega) (by omega) (bl_trans HB.out bB) Qb0 (by omega) (by omega) (by omega) (by omega) Qa0 (by omega) (by omega) (by omega) (by omega) (by omega)
    · exact sst_aa kR0 kR1 fR0 fR1 (by omega) (by omega) RA.out RB.out (by omega) (by omega) (by omega) (by omega) (by omega) (by omega) (bl_trans HB.out bB) Qa1 (by omega) (by omega) (by omega) (by omega) Qa0 (by omega) (by omega) (by omega) (by omega) (by omega)
  case rest =>
  obtain ⟨N, M, ap, cp, aq, cq, rfl, rfl, hG⟩ := hcut
  clear kA0 kA1 kB0 kB1 kR0 kR1 fR0 fR1 HA HBB HB
  have l1' : (lms (x.natAbs : Int)).length ≤ 100000 := by unfold lms; rw [Int.natAbs_natCast]; exact l1
  have l2' : (lms (y.natAbs : Int)).length ≤ 100000 := by unfold lms; rw [Int.natAbs_natCast]; exact l2
  go_wp2_with fail
  go_loopg [] y.natAbs (fun gk wr => ∃ (p q : Nat) (ap : Option Addr) (cp : Nat) (aq : Option Addr) (cq : Nat), (lms (p : Int)).length ≤ 100000 ∧ (lms (q : Int)).length ≤ 100000 ∧ Hid (gk = q) ∧ Hid (Nat.gcd p q = Int.gcd x y) ∧ Hid (SSt w wr N M (w.heap.size + 1 + 1) (p : Int) (q : Int) ap cp aq cq))
  case atStart => exact ⟨x.natAbs, y.natAbs, ap, cp, aq, cq, l1', l2', hide rfl, hide rfl, hG⟩
  case round =>
    clear hG l1' l2'
    obtain ⟨p, q, ap, cp, aq, cq, hp, hq, hgk, hgcd, hG⟩ := hrel
    obtain ⟨kA0, kA1, kB0, kB1, kR0, kR1, fA0, fA1, fB0, fB1, fR0, fR1, zN, zM, zR', hN, hM, hR, n1, n2, n3, oA, oB, bel⟩ := hG.out
    have HOA := hide oA
    have HOB := hide oB
    clear oA oB bel
    by_cases hq0 : q = 0
    · have hl : ¬ (0 : Int) < ((lms (q : Int)).length : Int) := by rw [hq0]; rw [show ((0 : Nat) : Int) = 0 from rfl, zero_lms]; simp
      have HE : Hid ((p : Int) = (Int.gcd x y : Int)) := hide (by rw [← hgcd.out, hq0, Nat.gcd_zero_right])
      clear hq0
      go_wp2
      refine bodyPost_ret (v := .agg #[.bool (sgn (p : Int)), .slice ap (lms (p : Int)).length cp]) (by simp [results, Tryz.results40, go_sem, kR0, kR1]) rfl ?_
      rw [← HE.out]
      exact ⟨_, rfl, hG.out.fin _ _⟩
    · have hl : (0 : Int) < ((lms (q : Int)).length : Int) := by
        have : (lms (q : Int)).length ≠ 0 := fun e => hq0 (by have := sgn_lms_nil e; omega)
        omega
      go_upto_region 3 with fail
      rename (0 : Nat) < _ => hl0
      clear hl hl0
      go_wp2_with fail
      refine (divS (.agg #[.bool (sgn (p : Int)), .slice ap (lms (p : Int)).length cp]) (.agg #[.bool (sgn (q : Int)), .slice aq (lms (q : Int)).length cq]) p q _ ⟨ap, cp, rfl, HOA.out.1⟩ ⟨aq, cq, rfl, HOB.out.1⟩ (by omega) hp hq).mono ?_
      rintro e w3 ⟨a1, c1, a2, c2, rfl, ho1, ho2, hb3⟩
      obtain ⟨r, hrr⟩ : ∃ r, p % q = r := ⟨_, rfl⟩
      have hr : ((p : Int) % (q : Int)) = (r : Int) := by rw [← hrr]; rfl
      have HRR := hide hrr
      rw [hr] at ho2 ⊢
      have hb4 := bl_trans hb3 (bl_alloc (bl_alloc (bl_refl w3) (Obj.cells #[Value.bool (sgn ((p : Int) / (q : Int))), Value.slice a1 (lms ((p : Int) / (q : Int))).length c1] 24)) (Obj.cells #[Value.bool (sgn (r : Int)), Value.slice a2 (lms (r : Int)).length c2] 24))
      have y3 := hb3.size
      have kS0 : ((w3.alloc (Obj.cells #[Value.bool (sgn ((p : Int) / (q : Int))), Value.slice a1 (lms ((p : Int) / (q : Int))).length c1] 24)).alloc (Obj.cells #[Value.bool (sgn (r : Int)), Value.slice a2 (lms (r : Int)).length c2] 24)).cell? ⟨w3.heap.size + 1, 0, none⟩ = some (Value.bool (sgn (r : Int))) := by go_simp
      have kS1 : ((w3.alloc (Obj.cells #[Value.bool (sgn ((p : Int) / (q : Int))), Value.slice a1 (lms ((p : Int) / (q : Int))).length c1] 24)).alloc (Obj.cells #[Value.bool (sgn (r : Int)), Value.slice a2 (lms (r : Int)).length c2] 24)).cell? ⟨w3.heap.size + 1, 1, none⟩ = some (Value.slice a2 (lms (r : Int)).length c2) := by go_simp
      have HO2 := hide ((ho2.below (bl_alloc (bl_alloc (bl_refl w3) (Obj.cells #[Value.bool (sgn ((p : Int) / (q : Int))), Value.slice a1 (lms ((p : Int) / (q : Int))).length c1] 24)) (Obj.cells #[Value.bool (sgn (r : Int)), Value.slice a2 (lms (r : Int)).length c2] 24))).lk (L := w.heap.size) (N := N) (M := M) (R := w.heap.size + 1 + 1) (by omega) zN zM zR')
      replace hG := hide (hG.out.below hb4)
      replace HOB := hide (HOB.out.below hb4)
      clear kA0 kA1 kB0 kB1 kR0 kR1 fA0 fA1 fB0 fB1 fR0 fR1 HOA ho1 ho2 hb3 hb4 hr hrr
      have e1 : ¬ N = w3.heap.size + 1 := by omega
      have e2 : ¬ w3.heap.size + 1 = N := by omega
      have e3 : ¬ M = w3.heap.size + 1 := by omega
      have e4 : ¬ w3.heap.size + 1 = M := by omega
      go_upto_region 4 with fail
      generalize ((w3.alloc (Obj.cells #[Value.bool (sgn ((p : Int) / (q : Int))), Value.slice a1 (lms ((p : Int) / (q : Int))).length c1] 24)).alloc (Obj.cells #[Value.bool (sgn (r : Int)), Value.slice a2 (lms (r : Int)).length c2] 24)) = w4 at *
      obtain ⟨kA0, kA1, kB0, kB1, kR0, kR1, fA0, fA1, fB0, fB1, fR0, fR1, zN, zM, zR', hN, hM, hR, n1, n2, n3, oA, oB, bel⟩ := hG.out
      clear oA oB bel
      have HL : Hid ((lms (r : Int)).length ≤ 100000) := hide (by rw [lms_nat'] at hp ⊢; rw [← HRR.out]; exact mod_len hp)
      have HGC : Hid (Nat.gcd q r = Int.gcd x y) := hide (by rw [← hgcd.out, ← HRR.out, Nat.gcd_comm, ← Nat.gcd_rec, Nat.gcd_comm])
      have HLT : Hid (r < gk) := hide (by rw [hgk.out, ← HRR.out]; exact Nat.mod_lt _ (by omega))
      have HFIN := hide (SSt.set2 (SSt.set1 hG.out (r := (q : Int)) HOB.out) (r := (r : Int)) ((HO2.out.set (p := ⟨N, 0, none⟩) (.inl rfl) (.bool (sgn (q : Int)))).set (p := ⟨N, 1, none⟩) (.inl rfl) (.slice aq (lms (q : Int)).length cq)))
      clear HO2 HOB hG hgcd hgk
      have n1' : ¬ M = N := fun e => n1 e.symm
      go_wp2_with fail
      go_roundg r
      all_goals first | exact HLT.out | exact ⟨q, r, _, _, _, _, hq, HL.out, hide rfl, HGC, HFIN⟩
end Go.Proofs.YtpmgpdlminacaaaGreatDoor
