/- What the walks say of memory: lists of lists of ints that are read, and such in memory of their own, no two lists in one block. -/
import Derived.Test.YteljkjpcjjiidaaBo
import Derived.Test.YteljkjpcjjiidaaVU
namespace Go.Proofs.Yteljkjpcjjiidaa
open Go.RowKit
set_option linter.unusedVariables false
set_option maxRecDepth 20000

/-- the lists' ints, counted -/
def itot (E : Nat → List Int) : Nat → Nat
  | 0 => 0
  | n + 1 => itot E n + (E n).length
theorem itot_le (E : Nat → List Int) {j n : Nat} (h : j < n) : itot E j + (E j).length ≤ itot E n := by
  induction n with
  | zero => omega
  | succ n ih =>
    simp only [itot]
    by_cases e : j = n
    · subst e; omega
    · have := ih (by omega); omega
theorem VSeg.chg {P : Nat → Prop} {w w' : World} {a : Option Addr} {n cap : Nat} {xs : List Int} (h : V.Seg w a n cap xs) (k : Chg P w w') (hp : ∀ q, a = some q → ¬ P q.block) : V.Seg w' a n cap xs := by
  obtain ⟨h1, h2, h3, h5⟩ := h
  refine ⟨h1, h2, h3, ?_⟩
  rcases h5 with h5 | ⟨g, o, ha, hg, hc⟩
  · exact .inl h5
  · exact .inr ⟨g, o, ha, Nat.lt_of_lt_of_le hg k.size, fun j hj => (World.cell?_of_block (a := ⟨g, o + j, none⟩) (k.block g hg (hp _ ha))).trans (hc j hj)⟩
theorem VSeg.at {w : World} {a : Option Addr} {n cap : Nat} {xs : List Int} (h : V.Seg w a n cap xs) {k : Nat} (hk : k < n) : ∃ g o, a = some ⟨g, o, none⟩ ∧ g < w.heap.size ∧ w.cell? ⟨g, o + k, none⟩ = some (.int .i64 (xs.getD k 0)) := by
  obtain ⟨h1, h2, h3, h5⟩ := h
  rcases h5 with h5 | ⟨g, o, ha, hg, hc⟩
  · omega
  · have hk' : k < xs.length := by omega
    exact ⟨g, o, ha, hg, by rw [hc k hk']; simp [hk']⟩

/-- a list that is read, at this cell -/
def IAt (W : World) (X : Nat → Prop) (g o : Nat) (e : List Int) : Prop := ∃ a c, W.cell? ⟨g, o, none⟩ = some (.slice a e.length c) ∧ V.Seg W a e.length c e ∧ ∀ q, a = some q → X q.block
theorem IAt.below {W W' : World} {X : Nat → Prop} {g o : Nat} {e : List Int} (h : IAt W X g o e) (hg : g < W.heap.size) (hb : Below W.heap.size W W') : IAt W' X g o e := by
  obtain ⟨a, c, h1, h3, h4⟩ := h
  exact ⟨a, c, (hb.cell (p := ⟨g, o, none⟩) hg).trans h1, h3.below hb, h4⟩
/-- a list of lists that is read -/
def ISeg (W : World) (X : Nat → Prop) (a : Option Addr) (n cap : Nat) (E : Nat → List Int) : Prop :=
  n ≤ cap ∧ cap ≤ 9223372036854775807 ∧ (n = 0 ∨ ∃ g o, a = some ⟨g, o, none⟩ ∧ g < W.heap.size ∧ X g ∧ ∀ j, j < n → IAt W X g (o + j) (E j))
theorem ISeg.below {W W' : World} {X : Nat → Prop} {a : Option Addr} {n cap : Nat} {E : Nat → List Int} (h : ISeg W X a n cap E) (hb : Below W.heap.size W W') : ISeg W' X a n cap E := by
  obtain ⟨h1, h2, h3⟩ := h
  refine ⟨h1, h2, ?_⟩
  rcases h3 with h3 | ⟨g, o, ha, hg, hx, hc⟩
  · exact .inl h3
  · exact .inr ⟨g, o, ha, Nat.lt_of_lt_of_le hg hb.size, hx, fun j hj => (hc j hj).below hg hb⟩
theorem ISeg.le {W : World} {X : Nat → Prop} {a : Option Addr} {n cap : Nat} {E : Nat → List Int} (h : ISeg W X a n cap E) : n ≤ 9223372036854775807 := Nat.le_trans h.1 h.2.1
theorem ISeg.at {W : World} {X : Nat → Prop} {a : Option Addr} {n cap : Nat} {E : Nat → List Int} (h : ISeg W X a n cap E) {k : Nat} (hk : k < n) : ∃ g o, a = some ⟨g, o, none⟩ ∧ g < W.heap.size ∧ ∃ b c, W.cell? ⟨g, o + k, none⟩ = some (.slice b (E k).length c) ∧ V.Seg W b (E k).length c (E k) := by
  rcases h.2.2 with h0 | ⟨g, o, e, hg, hx, hc⟩
  · omega
  · obtain ⟨b, c, h1, h3, _⟩ := hc k hk
    exact ⟨g, o, e, hg, b, c, h1, h3⟩
theorem ISeg.congr {W : World} {X : Nat → Prop} {a : Option Addr} {n cap : Nat} {E F : Nat → List Int} (h : ISeg W X a n cap E) (he : ∀ j, j < n → E j = F j) : ISeg W X a n cap F := by
  obtain ⟨h1, h2, h3⟩ := h
  refine ⟨h1, h2, ?_⟩
  rcases h3 with h3 | ⟨g, o, ha, hg, hx, hc⟩
  · exact .inl h3
  · exact .inr ⟨g, o, ha, hg, hx, fun j hj => by rw [← he j hj]; exact hc j hj⟩
theorem ISeg.mono {W : World} {X Y : Nat → Prop} {a : Option Addr} {n cap : Nat} {E : Nat → List Int} (h : ISeg W X a n cap E) (hX : ∀ k, X k → Y k) : ISeg W Y a n cap E := by
  obtain ⟨h1, h2, h3⟩ := h
  refine ⟨h1, h2, ?_⟩
  rcases h3 with h3 | ⟨g, o, ha, hg, hx, hc⟩
  · exact .inl h3
  · refine .inr ⟨g, o, ha, hg, hX _ hx, fun j hj => ?_⟩
    obtain ⟨b, c, q1, q3, q4⟩ := hc j hj
    exact ⟨b, c, q1, q3, fun q e => hX _ (q4 q e)⟩
theorem ISeg.chg {P X : Nat → Prop} {w w' : World} {a : Option Addr} {n cap : Nat} {E : Nat → List Int} (h : ISeg w X a n cap E) (k : Chg P w w') (hp : ∀ b, X b → ¬ P b) : ISeg w' X a n cap E := by
  obtain ⟨h1, h2, h3⟩ := h
  refine ⟨h1, h2, ?_⟩
  rcases h3 with h3 | ⟨g, o, ha, hg, hx, hc⟩
  · exact .inl h3
  · refine .inr ⟨g, o, ha, Nat.lt_of_lt_of_le hg k.size, hx, fun j hj => ?_⟩
    obtain ⟨b, c, q1, q3, q4⟩ := hc j hj
    exact ⟨b, c, (World.cell?_of_block (a := ⟨g, o + j, none⟩) (k.block g hg (hp _ hx))).trans q1, VSeg.chg q3 k (fun q e => hp _ (q4 q e)), q4⟩

/-- one list of a list in memory of its own -/
def ICell (W : World) (lo g j : Nat) (e : List Int) (q : Option Addr × Nat) : Prop :=
  W.cell? ⟨g, j, none⟩ = some (.slice q.1 e.length q.2) ∧ V.Own W lo q.1 e.length q.2 e ∧ ∀ x, q.1 = some x → x.block ≠ g
/-- a list of lists in memory of its own, from lo on: block g; no two lists in one block -/
def IOwn (W : World) (lo g n : Nat) (E : Nat → List Int) (A : Nat → Option Addr × Nat) : Prop :=
  lo ≤ g ∧ (∃ cs, W.ownsRow lo 59 1 (.slice (some ⟨g, 0, none⟩) n n) n cs) ∧ (∀ j, j < n → ICell W lo g j (E j) (A j)) ∧ ∀ i j, i < n → j < n → i ≠ j → ∀ x y, (A i).1 = some x → (A j).1 = some y → x.block ≠ y.block
theorem ICell.below {W W' : World} {lo g j : Nat} {e : List Int} {q : Option Addr × Nat} (h : ICell W lo g j e q) (hg : g < W.heap.size) (hb : Below W.heap.size W W') : ICell W' lo g j e q := by
  obtain ⟨h1, h3, h4⟩ := h
  exact ⟨(hb.cell (p := ⟨g, j, none⟩) hg).trans h1, h3.below hb, h4⟩
theorem IOwn.lt {W : World} {lo g n : Nat} {E : Nat → List Int} {A : Nat → Option Addr × Nat} (h : IOwn W lo g n E A) : g < W.heap.size := by
  obtain ⟨h0, ⟨cs, h1⟩, _⟩ := h
  exact (h1.lt g rfl).2
theorem IOwn.max {W : World} {lo g n : Nat} {E : Nat → List Int} {A : Nat → Option Addr × Nat} (h : IOwn W lo g n E A) : n ≤ 9223372036854775807 := by
  obtain ⟨h0, ⟨cs, h1⟩, _⟩ := h
  rcases h1.2 with ⟨h2, _⟩ | ⟨g', cap', cur, hv, _, _, _, hc, _⟩
  · cases h2
  · cases hv; exact hc
theorem IOwn.below {W W' : World} {lo g n : Nat} {E : Nat → List Int} {A : Nat → Option Addr × Nat} (h : IOwn W lo g n E A) (hb : Below W.heap.size W W') : IOwn W' lo g n E A := by
  have hg := h.lt
  obtain ⟨h0, ⟨cs, h1⟩, h2, h3⟩ := h
  exact ⟨h0, ⟨cs, h1.kept (grown_of_below hb) (.inr (by simp [Value.ownBlock]))⟩, fun j hj => (h2 j hj).below hg hb, h3⟩
theorem IOwn.mono {W : World} {lo lo' g n : Nat} {E : Nat → List Int} {A : Nat → Option Addr × Nat} (h : IOwn W lo g n E A) (hl : lo' ≤ lo) : IOwn W lo' g n E A := by
  obtain ⟨h0, ⟨cs, h1⟩, h2, h3⟩ := h
  refine ⟨by omega, ⟨cs, ⟨h1.1, ?_⟩⟩, fun j hj => ?_, h3⟩
  · rcases h1.2 with h' | ⟨g', cap', cur, hv, hg, rest⟩
    · exact .inl h'
    · exact .inr ⟨g', cap', cur, hv, by omega, rest⟩
  · obtain ⟨q1, q3, q4⟩ := h2 j hj
    exact ⟨q1, q3.mono hl, q4⟩
theorem IOwn.congr {W : World} {lo g n : Nat} {E F : Nat → List Int} {A : Nat → Option Addr × Nat} (h : IOwn W lo g n E A) (he : ∀ j, j < n → E j = F j) : IOwn W lo g n F A := by
  obtain ⟨h0, h1, h2, h3⟩ := h
  exact ⟨h0, h1, fun j hj => by rw [← he j hj]; exact h2 j hj, h3⟩
theorem IOwn.cells {W : World} {lo g n : Nat} {E : Nat → List Int} {A : Nat → Option Addr × Nat} (h : IOwn W lo g n E A) {k : Nat} (hk : k < n) : W.cell? ⟨g, k, none⟩ = some (.slice (A k).1 (E k).length (A k).2) ∧ W.frozen? ⟨g, k, none⟩ = false := by
  obtain ⟨h0, ⟨cs, h1⟩, h2, _⟩ := h
  obtain ⟨q1, q3, _⟩ := h2 k hk
  exact ⟨q1, h1.frozenAt _⟩
theorem IOwn.blocks_lt {W : World} {lo g n : Nat} {E : Nat → List Int} {A : Nat → Option Addr × Nat} (h : IOwn W lo g n E A) {b : Nat} (hb : BOwn.blocks g n A b) : lo ≤ b ∧ b < W.heap.size := by
  rcases hb with rfl | ⟨j, x, hj, e, rfl⟩
  · exact ⟨h.1, h.lt⟩
  · obtain ⟨q1, q3, _⟩ := h.2.2.1 j hj
    rcases q3.cases with ⟨h0, _⟩ | ⟨g', h0, h1, h2⟩
    · rw [h0] at e; cases e
    · rw [h0] at e; cases e; exact ⟨h1, h2⟩
theorem IOwn.seg {W : World} {lo g n : Nat} {E : Nat → List Int} {A : Nat → Option Addr × Nat} (h : IOwn W lo g n E A) : ISeg W (BOwn.blocks g n A) (some ⟨g, 0, none⟩) n n E := by
  refine ⟨Nat.le_refl _, h.max, .inr ⟨g, 0, rfl, h.lt, .inl rfl, fun j hj => ?_⟩⟩
  obtain ⟨q1, q3, q4⟩ := h.2.2.1 j hj
  rw [Nat.zero_add]
  exact ⟨(A j).1, (A j).2, q1, q3.seg, fun q e => .inr ⟨j, q, hj, e, rfl⟩⟩
/-- another place than those that turned -/
theorem IOwn.chg {P : Nat → Prop} {W W' : World} {lo g n : Nat} {E : Nat → List Int} {A : Nat → Option Addr × Nat} (h : IOwn W lo g n E A) (k : Chg P W W') (hp : ∀ b, lo ≤ b → ¬ P b) : IOwn W' lo g n E A := by
  have hg := h.lt
  obtain ⟨h0, ⟨cs, h1⟩, h2, h3⟩ := h
  have hgb := k.block g hg (hp g h0)
  refine ⟨h0, ⟨cs, h1.1, ?_⟩, fun j hj => ?_, h3⟩
  · rcases h1.2 with h' | ⟨g', cap', cur, hv, hg', hh, rest⟩
    · exact .inl h'
    · cases hv
      exact .inr ⟨g, _, cur, rfl, hg', hgb.trans hh, rest⟩
  · obtain ⟨q1, q3, q4⟩ := h2 j hj
    refine ⟨(World.cell?_of_block (a := ⟨g, j, none⟩) hgb).trans q1, ⟨q3.1, ?_⟩, q4⟩
    rcases q3.2 with h' | ⟨g', cap', cur, hv, hg', hh, rest⟩
    · exact .inl h'
    · exact .inr ⟨g', cap', cur, hv, hg', (k.block g' (Array.getElem?_eq_some_iff.1 hh).1 (hp g' hg')).trans hh, rest⟩
theorem vown_grown_other {W W' : World} {lo : Nat} {a : Option Addr} {n c : Nat} {xs : List Int} {r : Option Nat} (h : V.Own W lo a n c xs) (k : W.grownBy W' r) (hne : ∀ x, a = some x → r ≠ some x.block) : V.Own W' lo a n c xs := by
  refine h.kept k ?_
  rcases h.cases with ⟨h0, _⟩ | ⟨b, h0, _⟩
  · subst h0; exact .inl rfl
  · subst h0; exact .inr (fun e => hne _ rfl e.symm)
theorem vown_other {W : World} {lo : Nat} {a : Option Addr} {n c : Nat} {xs : List Int} (h : V.Own W lo a n c xs) {g u : Nat} (hne : ∀ x, a = some x → x.block ≠ g) (v : Value) : V.Own (W.setCell ⟨g, u, none⟩ v) lo a n c xs :=
  vown_grown_other h (St.grown ((St.refl g W).set u v)) (fun x e e2 => by cases e2; exact hne x e rfl)
/-- a list put in a place -/
theorem IOwn.put {W : World} {lo g n : Nat} {E : Nat → List Int} {A : Nat → Option Addr × Nat} (h : IOwn W lo g n E A) {i : Nat} (hi : i < n) {ys : List Int} {q : Option Addr} {c : Nat} (ho : V.Own W lo q ys.length c ys)
    (hne : ∀ x, q = some x → x.block ≠ g) (hap : ∀ j, j < n → j ≠ i → ∀ x y, q = some x → (A j).1 = some y → x.block ≠ y.block) :
    IOwn (W.setCell ⟨g, i, none⟩ (.slice q ys.length c)) lo g n (upd E i ys) (upd A i (q, c)) := by
  obtain ⟨h0, ⟨cs, h1⟩, h2, h3⟩ := h
  refine ⟨h0, ⟨_, (h1.stored i (.slice q ys.length c)).1⟩, fun j hj => ?_, ?_⟩
  · by_cases e : j = i
    · subst e
      rw [upd_same, upd_same]
      obtain ⟨q1, q3, q4⟩ := h2 j hj
      exact ⟨World.cell?_setCell_same' _ _ _ (by rw [q1]; rfl), vown_other ho hne _, hne⟩
    · rw [upd_ne _ _ e, upd_ne _ _ e]
      obtain ⟨q1, q3, q4⟩ := h2 j hj
      refine ⟨?_, vown_other q3 q4 _, q4⟩
      rw [World.cell?_setCell_other _ _ _ _ (addr_ne (by omega))]; exact q1
  · intro u v hu hv huv x y hx hy
    by_cases e1 : u = i
    · subst e1
      rw [upd_same] at hx
      rw [upd_ne _ _ (fun e => huv e.symm)] at hy
      exact hap v hv (fun e => huv e.symm) x y hx hy
    · rw [upd_ne _ _ e1] at hx
      by_cases e2 : v = i
      · subst e2
        rw [upd_same] at hy
        exact fun e => hap u hu e1 y x hy hx e.symm
      · rw [upd_ne _ _ e2] at hy
        exact h3 u v hu hv huv x y hx hy
/-- a list of newer memory put in a place -/
theorem IOwn.fresh {W W' : World} {lo g n : Nat} {E : Nat → List Int} {A : Nat → Option Addr × Nat} (h : IOwn W lo g n E A) (hb : Below W.heap.size W W') {i : Nat} (hi : i < n) {ys : List Int} {q : Option Addr} {c : Nat} (ho : V.Own W' W.heap.size q ys.length c ys) :
    IOwn (W'.setCell ⟨g, i, none⟩ (.slice q ys.length c)) lo g n (upd E i ys) (upd A i (q, c)) := by
  have hlo : ∀ x, q = some x → W.heap.size ≤ x.block := fun x e => by
    rcases ho.cases with ⟨h0, _⟩ | ⟨g', h0, h1, h2⟩
    · rw [h0] at e; cases e
    · rw [h0] at e; cases e; exact h1
  refine (h.below hb).put hi (ho.mono (Nat.le_of_lt (Nat.lt_of_le_of_lt h.1 h.lt))) (fun x e => ?_) (fun j hj _ x y e e2 => ?_)
  · have := hlo x e; have := h.lt; omega
  · have := hlo x e
    have := (h.blocks_lt (.inr ⟨j, y, hj, e2, rfl⟩)).2
    omega
/-- its ints alone -/
theorem IOwn.ints {W W' : World} {lo g n : Nat} {E : Nat → List Int} {A : Nat → Option Addr × Nat} (h : IOwn W lo g n E A) {i : Nat} (hi : i < n) {ys : List Int} (hl : ys.length = (E i).length)
    (ho : V.Own W' lo (A i).1 (E i).length (A i).2 ys) (hg : W.grownBy W' (Value.slice (A i).1 (E i).length (A i).2).ownBlock) : IOwn W' lo g n (upd E i ys) A := by
  have hgl := h.lt
  obtain ⟨h0, ⟨cs, h1⟩, h2, h3⟩ := h
  have hr : ∀ b, (Value.slice (A i).1 (E i).length (A i).2).ownBlock = some b → ∃ x, (A i).1 = some x ∧ b = x.block := by
    intro b e
    cases hA : (A i).1 with
    | none => rw [hA] at e; cases e
    | some x => rw [hA] at e; simp only [Value.ownBlock] at e; cases e; exact ⟨x, rfl, rfl⟩
  have hgne : some g ≠ (Value.slice (A i).1 (E i).length (A i).2).ownBlock := by
    intro e
    obtain ⟨x, hx, e2⟩ := hr g e.symm
    exact (h2 i hi).2.2 x hx e2.symm
  have hgb := hg.block g hgl hgne
  refine ⟨h0, ⟨cs, h1.1, ?_⟩, fun j hj => ?_, h3⟩
  · rcases h1.2 with h' | ⟨g', cap', cur, hv, hg', hh, rest⟩
    · exact .inl h'
    · cases hv
      exact .inr ⟨g, _, cur, rfl, hg', hgb.trans hh, rest⟩
  · obtain ⟨q1, q3, q4⟩ := h2 j hj
    have p1 := (World.cell?_of_block (a := ⟨g, j, none⟩) hgb).trans q1
    by_cases e : j = i
    · subst e
      rw [upd_same]
      exact ⟨by rw [hl]; exact p1, by rw [hl]; exact ho, q4⟩
    · rw [upd_ne _ _ e]
      refine ⟨p1, vown_grown_other q3 hg ?_, q4⟩
      intro x hx e2
      obtain ⟨y, hy, e3⟩ := hr _ e2
      exact h3 i j hi hj (fun e' => e e'.symm) y x hy hx e3.symm
theorem made_one (z : Value) (n i : Nat) (h : i < n) : (madeCells #[z] n).toList[i]? = some z := by
  unfold madeCells
  simp only [Array.toList_map, Array.toList_range, List.getElem?_map, List.getElem?_range h, Option.map_some]
  have : i % 1 = 0 := Nat.mod_one i
  simp [this]
theorem IOwn.made {W : World} {lo g n : Nat} (h : W.ownsRow lo 59 1 (.slice (some ⟨g, 0, none⟩) n n) n (madeCells #[Value.slice none 0 0] n).toList) : IOwn W lo g n (fun _ => []) (fun _ => (none, 0)) := by
  refine ⟨(h.lt g rfl).1, ⟨_, h⟩, fun j hj => ?_, fun i j _ _ _ x y e => by cases e⟩
  refine ⟨?_, V.Own.nil _ _, fun x e => by cases e⟩
  rw [h.cellAt j (by omega), made_one _ _ _ hj]; rfl
end Go.Proofs.Yteljkjpcjjiidaa
