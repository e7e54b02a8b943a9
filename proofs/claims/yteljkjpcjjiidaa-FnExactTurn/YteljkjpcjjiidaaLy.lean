/- What the walks say of memory: lists of numbers whose limbs lie elsewhere. -/
import Derived.Test.YteljkjpcjjiidaaGo
import Derived.Test.YteljkjpcjjiidaaGr1
namespace Go.Proofs.Yteljkjpcjjiidaa
open Go.RowKit
set_option linter.unusedVariables false
set_option maxRecDepth 20000

/-- a list that is read, its numbers' limbs at these addresses -/
def BSegA (W : World) (X : Nat → Prop) (a : Option Addr) (n cap : Nat) (E : Nat → Bool × List Nat) (A : Nat → Option Addr × Nat) : Prop :=
  n ≤ cap ∧ cap ≤ 9223372036854775807 ∧ (n = 0 ∨ ∃ g o, a = some ⟨g, o, none⟩ ∧ g < W.heap.size ∧ X g ∧ ∀ j, j < n → W.cell? ⟨g, o + j * 2, none⟩ = some (.bool (E j).1) ∧ W.cell? ⟨g, o + j * 2 + 1, none⟩ = some (.slice (A j).1 (E j).2.length (A j).2) ∧ Seg W (A j).1 (E j).2.length (A j).2 (E j).2 ∧ ∀ q, (A j).1 = some q → X q.block)
theorem BSeg.addr {W : World} {X : Nat → Prop} {a : Option Addr} {n cap : Nat} {E : Nat → Bool × List Nat} (h : BSeg W X a n cap E) : ∃ A, BSegA W X a n cap E A := by
  obtain ⟨h1, h2, h3⟩ := h
  rcases h3 with h3 | ⟨g, o, ha, hg, hx, hc⟩
  · exact ⟨fun _ => (none, 0), h1, h2, .inl h3⟩
  · have hch : ∀ j, ∃ q : Option Addr × Nat, j < n → W.cell? ⟨g, o + j * 2, none⟩ = some (.bool (E j).1) ∧ W.cell? ⟨g, o + j * 2 + 1, none⟩ = some (.slice q.1 (E j).2.length q.2) ∧ Seg W q.1 (E j).2.length q.2 (E j).2 ∧ ∀ x, q.1 = some x → X x.block := by
      intro j
      by_cases hj : j < n
      · obtain ⟨b, c, q1, q2, q3, q4⟩ := hc j hj
        exact ⟨(b, c), fun _ => ⟨q1, q2, q3, q4⟩⟩
      · exact ⟨(none, 0), fun h => absurd h hj⟩
    exact ⟨fun j => Classical.choose (hch j), h1, h2, .inr ⟨g, o, ha, hg, hx, fun j hj => Classical.choose_spec (hch j) hj⟩⟩
theorem BOwn.addr {W : World} {lo g n : Nat} {E : Nat → Bool × List Nat} {A : Nat → Option Addr × Nat} (h : BOwn W lo g n E A) : BSegA W (fun _ => True) (some ⟨g, 0, none⟩) n n E A := by
  refine ⟨Nat.le_refl _, h.max, .inr ⟨g, 0, rfl, h.lt, trivial, fun j hj => ?_⟩⟩
  obtain ⟨q1, q2, q3, q4⟩ := h.2.2.1 j hj
  rw [Nat.zero_add]
  exact ⟨q1, q2, q3.seg, fun _ _ => trivial⟩
theorem BSegA.below {W W' : World} {X : Nat → Prop} {a : Option Addr} {n cap : Nat} {E : Nat → Bool × List Nat} {A : Nat → Option Addr × Nat} (h : BSegA W X a n cap E A) (hb : Below W.heap.size W W') : BSegA W' X a n cap E A := by
  obtain ⟨h1, h2, h3⟩ := h
  refine ⟨h1, h2, ?_⟩
  rcases h3 with h3 | ⟨g, o, ha, hg, hx, hc⟩
  · exact .inl h3
  · refine .inr ⟨g, o, ha, Nat.lt_of_lt_of_le hg hb.size, hx, fun j hj => ?_⟩
    obtain ⟨q1, q2, q3, q4⟩ := hc j hj
    exact ⟨(hb.cell (p := ⟨g, o + j * 2, none⟩) hg).trans q1, (hb.cell (p := ⟨g, o + j * 2 + 1, none⟩) hg).trans q2, q3.below hb, q4⟩
/-- a list of its own whose cells hold these signs and addresses -/
def BLay (W : World) (lo g n : Nat) (E : Nat → Bool × List Nat) (A : Nat → Option Addr × Nat) : Prop :=
  lo ≤ g ∧ (∃ cs, W.ownsRow lo 54 2 (.slice (some ⟨g, 0, none⟩) n n) n cs) ∧ ∀ j, j < n → W.cell? ⟨g, j * 2, none⟩ = some (.bool (E j).1) ∧ W.cell? ⟨g, j * 2 + 1, none⟩ = some (.slice (A j).1 (E j).2.length (A j).2)
theorem BOwn.lay {W : World} {lo g n : Nat} {E : Nat → Bool × List Nat} {A : Nat → Option Addr × Nat} (h : BOwn W lo g n E A) : BLay W lo g n E A :=
  ⟨h.1, h.2.1, fun j hj => ⟨(h.2.2.1 j hj).1, (h.2.2.1 j hj).2.1⟩⟩
theorem BLay.lt {W : World} {lo g n : Nat} {E : Nat → Bool × List Nat} {A : Nat → Option Addr × Nat} (h : BLay W lo g n E A) : g < W.heap.size := by
  obtain ⟨h0, ⟨cs, h1⟩, _⟩ := h
  exact (h1.lt g rfl).2
theorem BLay.below {W W' : World} {lo g n : Nat} {E : Nat → Bool × List Nat} {A : Nat → Option Addr × Nat} (h : BLay W lo g n E A) (hb : Below W.heap.size W W') : BLay W' lo g n E A := by
  have hg := h.lt
  obtain ⟨h0, ⟨cs, h1⟩, h2⟩ := h
  exact ⟨h0, ⟨cs, h1.kept (grown_of_below hb) (.inr (by simp [Value.ownBlock]))⟩, fun j hj => ⟨(hb.cell (p := ⟨g, j * 2, none⟩) hg).trans (h2 j hj).1, (hb.cell (p := ⟨g, j * 2 + 1, none⟩) hg).trans (h2 j hj).2⟩⟩
theorem BLay.congr {W : World} {lo g n : Nat} {E F : Nat → Bool × List Nat} {A B : Nat → Option Addr × Nat} (h : BLay W lo g n E A) (he : ∀ j, j < n → E j = F j ∧ A j = B j) : BLay W lo g n F B := by
  obtain ⟨h0, h1, h2⟩ := h
  exact ⟨h0, h1, fun j hj => by rw [← (he j hj).1, ← (he j hj).2]; exact h2 j hj⟩
theorem BLay.cells {W : World} {lo g n : Nat} {E : Nat → Bool × List Nat} {A : Nat → Option Addr × Nat} (h : BLay W lo g n E A) {k : Nat} (hk : k < n) : W.cell? ⟨g, k * 2, none⟩ = some (.bool (E k).1) ∧ W.cell? ⟨g, k * 2 + 1, none⟩ = some (.slice (A k).1 (E k).2.length (A k).2) ∧ W.frozen? ⟨g, k * 2, none⟩ = false ∧ W.frozen? ⟨g, k * 2 + 1, none⟩ = false := by
  obtain ⟨h0, ⟨cs, h1⟩, h2⟩ := h
  exact ⟨(h2 k hk).1, (h2 k hk).2, h1.frozenAt _, h1.frozenAt _⟩
theorem BLay.put {W : World} {lo g n : Nat} {E : Nat → Bool × List Nat} {A : Nat → Option Addr × Nat} (h : BLay W lo g n E A) {i : Nat} (hi : i < n) (b : Bool) (ys : List Nat) (q : Option Addr) (c : Nat) :
    BLay ((W.setCell ⟨g, i * 2, none⟩ (.bool b)).setCell ⟨g, i * 2 + 1, none⟩ (.slice q ys.length c)) lo g n (upd E i (b, ys)) (upd A i (q, c)) := by
  obtain ⟨h0, ⟨cs, h1⟩, h2⟩ := h
  refine ⟨h0, ⟨_, ((h1.stored (i * 2) (.bool b)).1.stored (i * 2 + 1) (.slice q ys.length c)).1⟩, fun j hj => ?_⟩
  obtain ⟨q1, q2⟩ := h2 j hj
  by_cases e : j = i
  · subst e
    rw [upd_same, upd_same]
    refine ⟨?_, ?_⟩
    · rw [World.cell?_setCell_other _ _ _ _ (addr_ne (by omega))]
      exact World.cell?_setCell_same' _ _ _ (by rw [q1]; rfl)
    · refine World.cell?_setCell_same' _ _ _ ?_
      rw [World.cell?_setCell_other _ _ _ _ (addr_ne (by omega)), q2]; rfl
  · rw [upd_ne _ _ e, upd_ne _ _ e]
    refine ⟨?_, ?_⟩
    · rw [World.cell?_setCell_other _ _ _ _ (addr_ne (by omega)), World.cell?_setCell_other _ _ _ _ (addr_ne (by omega))]; exact q1
    · rw [World.cell?_setCell_other _ _ _ _ (addr_ne (by omega)), World.cell?_setCell_other _ _ _ _ (addr_ne (by omega))]; exact q2
theorem BLay.st {N : Nat} {W W' : World} {lo lo' g n : Nat} {E : Nat → Bool × List Nat} {A : Nat → Option Addr × Nat} (h : BLay W lo g n E A) (k : St N W W') (hN : N < lo ∧ lo' ≤ lo) : BLay W' lo' g n E A := by
  obtain ⟨h0, ⟨cs, h1⟩, h2⟩ := h
  have hne : g ≠ N := by omega
  refine ⟨by omega, ⟨cs, h1.1, ?_⟩, fun j hj => ⟨(k.cell (p := ⟨g, j * 2, none⟩) hne).trans (h2 j hj).1, (k.cell (p := ⟨g, j * 2 + 1, none⟩) hne).trans (h2 j hj).2⟩⟩
  rcases h1.2 with h' | ⟨g', cap', cur, hv, hg', hh, rest⟩
  · exact .inl h'
  · cases hv
    exact .inr ⟨g, _, cur, rfl, by omega, (k.block g hne).trans hh, rest⟩
/-- rows as columns: place i of the turned list -/
def trI (R C i : Nat) : Nat := (i % R) * C + i / R
def tr {α : Type} (R C : Nat) (f : Nat → α) (i : Nat) : α := f (trI R C i)
theorem trI_at {R C r c : Nat} (hr : r < R) : trI R C (c * R + r) = r * C + c := by
  unfold trI
  have h0 : 0 < R := by omega
  have e1 : (c * R + r) % R = r := by rw [Nat.add_comm, Nat.add_mul_mod_self_right]; exact Nat.mod_eq_of_lt hr
  have e2 : (c * R + r) / R = c := by rw [Nat.add_comm, Nat.add_mul_div_right _ _ h0, Nat.div_eq_of_lt hr, Nat.zero_add]
  rw [e1, e2]
theorem trI_lt {R C i : Nat} (hi : i < R * C) : trI R C i < R * C := by
  unfold trI
  have h0 : 0 < R := by
    rcases Nat.eq_zero_or_pos R with h | h
    · subst h; simp at hi
    · exact h
  have h1 : i % R < R := Nat.mod_lt _ h0
  have h2 : i / R < C := (Nat.div_lt_iff_lt_mul h0).2 (by rw [Nat.mul_comm]; exact hi)
  have : (i % R) * C + C ≤ R * C := by rw [← Nat.succ_mul]; exact Nat.mul_le_mul_right C h1
  omega
theorem trI_inj {R C i j : Nat} (hi : i < R * C) (hj : j < R * C) (h : trI R C i = trI R C j) : i = j := by
  unfold trI at h
  have h0 : 0 < R := by
    rcases Nat.eq_zero_or_pos R with h | h
    · subst h; simp at hi
    · exact h
  have h2 : i / R < C := (Nat.div_lt_iff_lt_mul h0).2 (by rw [Nat.mul_comm]; exact hi)
  have h3 : j / R < C := (Nat.div_lt_iff_lt_mul h0).2 (by rw [Nat.mul_comm]; exact hj)
  have hC : 0 < C := Nat.lt_of_le_of_lt (Nat.zero_le _) h2
  have e1 : (i % R * C + i / R) / C = i % R := by rw [Nat.mul_comm, Nat.mul_add_div hC, Nat.div_eq_of_lt h2, Nat.add_zero]
  have e2 : (j % R * C + j / R) / C = j % R := by rw [Nat.mul_comm, Nat.mul_add_div hC, Nat.div_eq_of_lt h3, Nat.add_zero]
  have e3 : i % R = j % R := by rw [← e1, ← e2, h]
  have e4 : i / R = j / R := by rw [e3] at h; exact Nat.add_left_cancel h
  rw [← Nat.div_add_mod i R, ← Nat.div_add_mod j R, e3, e4]
/-- a list turned, whose numbers were in memory of their own -/
theorem BLay.own {W0 W : World} {lo lo2 g0 g R C : Nat} {E : Nat → Bool × List Nat} {A : Nat → Option Addr × Nat} (h : BLay W lo2 g (C * R) (tr R C E) (tr R C A)) (ho : BOwn W0 lo g0 (R * C) E A) (hb : Below W0.heap.size W0 W) (hlo : lo ≤ lo2) (hg : W0.heap.size ≤ g) : BOwn W lo g (C * R) (tr R C E) (tr R C A) := by
  obtain ⟨h0, ⟨cs, h1⟩, h2⟩ := h
  have e : C * R = R * C := Nat.mul_comm _ _
  refine ⟨by omega, ⟨cs, h1.1, ?_⟩, fun j hj => ?_, fun i j hi hj hne x y hx hy => ?_⟩
  · rcases h1.2 with h' | ⟨g', cap', cur, hv, hg', rest⟩
    · exact .inl h'
    · exact .inr ⟨g', cap', cur, hv, by omega, rest⟩
  · have hj' := trI_lt (C := C) (show j < R * C by omega)
    obtain ⟨q1, q2, q3, q4⟩ := (ho.below hb).2.2.1 _ hj'
    refine ⟨(h2 j hj).1, (h2 j hj).2, q3, fun x hx e2 => ?_⟩
    have := (ho.blocks_lt (.inr ⟨_, x, hj', hx, rfl⟩)).2
    omega
  · exact ho.2.2.2 _ _ (trI_lt (by omega)) (trI_lt (by omega)) (fun e2 => hne (trI_inj (by omega) (by omega) e2)) x y hx hy
/-- what is turned is read -/
theorem BLay.seg {W0 W : World} {X : Nat → Prop} {lo2 g R C cap : Nat} {a : Option Addr} {E : Nat → Bool × List Nat} {A : Nat → Option Addr × Nat} (h : BLay W lo2 g (C * R) (tr R C E) (tr R C A)) (hs : BSegA W0 X a (R * C) cap E A) (hb : Below W0.heap.size W0 W) (hm : C * R ≤ 9223372036854775807) : BSeg W (fun _ => True) (some ⟨g, 0, none⟩) (C * R) (C * R) (tr R C E) := by
  have hg := h.lt
  obtain ⟨h0, h1, h2⟩ := h
  have e : C * R = R * C := Nat.mul_comm _ _
  refine ⟨Nat.le_refl _, hm, .inr ⟨g, 0, rfl, hg, trivial, fun j hj => ?_⟩⟩
  rcases (hs.below hb).2.2 with h3 | ⟨g', o', ha, hg', hx, hc⟩
  · omega
  · obtain ⟨q1, q2, q3, q4⟩ := hc (trI R C j) (trI_lt (by omega))
    rw [Nat.zero_add]
    exact ⟨(A (trI R C j)).1, (A (trI R C j)).2, (h2 j hj).1, (h2 j hj).2, q3, fun _ _ => trivial⟩
end Go.Proofs.Yteljkjpcjjiidaa
