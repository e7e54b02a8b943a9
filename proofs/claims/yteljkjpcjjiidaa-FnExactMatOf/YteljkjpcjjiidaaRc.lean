/- What the walks say of memory: records of signs, ints, texts, limbs and lists of ints; lists of records, with what lies within. -/
import Derived.Test.YteljkjpcjjiidaaBase
import Derived.Test.YteljkjpcjjiidaaVBase
namespace Go.Proofs.Yteljkjpcjjiidaa
open Go.RowKit
set_option linter.unusedVariables false
set_option maxRecDepth 20000

/-- what one cell of a record holds -/
inductive Lf where
  | b (x : Bool)
  | i (x : Int)
  | t (s : ByteArray)
  | l (xs : List Nat)
  | p (xs : List Int)
/-- what the law counts of it -/
def Lf.sz : Lf → Nat
  | .b _ => 0
  | .i _ => 0
  | .t s => s.size
  | .l xs => xs.length
  | .p xs => xs.length
def Lf.wf : Lf → Prop
  | .b _ => True
  | .i x => -9223372036854775808 ≤ x ∧ x ≤ 9223372036854775807
  | .t s => s.size ≤ 9223372036854775807
  | .l _ => True
  | .p xs => ∀ y ∈ xs, -9223372036854775808 ≤ y ∧ y ≤ 9223372036854775807
/-- it lies in this cell; what lies within lies in blocks of X -/
def Lf.at (W : World) (X : Nat → Prop) (g o : Nat) : Lf → Prop
  | .b x => W.cell? ⟨g, o, none⟩ = some (.bool x)
  | .i x => W.cell? ⟨g, o, none⟩ = some (.int .i64 x)
  | .t s => W.cell? ⟨g, o, none⟩ = some (.string s)
  | .l xs => ∃ a c, W.cell? ⟨g, o, none⟩ = some (.slice a xs.length c) ∧ Seg W a xs.length c xs ∧ (∀ q, a = some q → X q.block)
  | .p xs => ∃ a c, W.cell? ⟨g, o, none⟩ = some (.slice a xs.length c) ∧ V.Seg W a xs.length c xs ∧ (∀ q, a = some q → X q.block)
theorem Lf.at.below {W W' : World} {X : Nat → Prop} {g o : Nat} {f : Lf} (h : f.at W X g o) (hg : g < W.heap.size) (hb : Below W.heap.size W W') : f.at W' X g o := by
  have e := hb.cell (p := ⟨g, o, none⟩) hg
  cases f with
  | b x => exact e.trans h
  | i x => exact e.trans h
  | t x => exact e.trans h
  | l xs => obtain ⟨a, c, k, s, hx⟩ := h; exact ⟨a, c, e.trans k, s.below hb, hx⟩
  | p xs => obtain ⟨a, c, k, s, hx⟩ := h; exact ⟨a, c, e.trans k, s.below hb, hx⟩
theorem Lf.at.mono {W : World} {X Y : Nat → Prop} {g o : Nat} {f : Lf} (h : f.at W X g o) (hX : ∀ k, X k → Y k) : f.at W Y g o := by
  cases f with
  | b x => exact h
  | i x => exact h
  | t x => exact h
  | l xs => obtain ⟨a, c, k, s, hx⟩ := h; exact ⟨a, c, k, s, fun q e => hX _ (hx q e)⟩
  | p xs => obtain ⟨a, c, k, s, hx⟩ := h; exact ⟨a, c, k, s, fun q e => hX _ (hx q e)⟩
theorem Seg.setBlk {W : World} {a : Option Addr} {n cap : Nat} {xs : List Nat} (h : Seg W a n cap xs) {p : Addr} (hp : ∀ q, a = some q → q.block ≠ p.block) (v : Value) : Seg (W.setCell p v) a n cap xs := by
  obtain ⟨h1, h2, h3, h4, h5⟩ := h
  refine ⟨h1, h2, h3, h4, ?_⟩
  rcases h5 with h5 | ⟨g, o, ha, hg, hc⟩
  · exact .inl h5
  · refine .inr ⟨g, o, ha, by simp; exact hg, fun j hj => ?_⟩
    rw [World.cell?_of_block (Below.heap_setCell W p v g (hp _ ha))]
    exact hc j hj
theorem V.Seg.setBlk {W : World} {a : Option Addr} {n cap : Nat} {xs : List Int} (h : V.Seg W a n cap xs) {p : Addr} (hp : ∀ q, a = some q → q.block ≠ p.block) (v : Value) : V.Seg (W.setCell p v) a n cap xs := by
  obtain ⟨h1, h2, h3, h5⟩ := h
  refine ⟨h1, h2, h3, ?_⟩
  rcases h5 with h5 | ⟨g, o, ha, hg, hc⟩
  · exact .inl h5
  · refine .inr ⟨g, o, ha, by simp; exact hg, fun j hj => ?_⟩
    rw [World.cell?_of_block (Below.heap_setCell W p v g (hp _ ha))]
    exact hc j hj
/-- a store elsewhere -/
theorem Lf.at.set {W : World} {X : Nat → Prop} {g o : Nat} {f : Lf} (h : f.at W X g o) {b u : Nat} (hX : ∀ k, X k → k ≠ b) (hne : g ≠ b ∨ o ≠ u) (v : Value) : f.at (W.setCell ⟨b, u, none⟩ v) X g o := by
  have hab : (⟨b, u, none⟩ : Addr) ≠ ⟨g, o, none⟩ := by intro e; cases e; omega
  have e : (W.setCell ⟨b, u, none⟩ v).cell? ⟨g, o, none⟩ = W.cell? ⟨g, o, none⟩ := by apply World.cell?_setCell_other; exact hab
  cases f with
  | b x => exact e.trans h
  | i x => exact e.trans h
  | t x => exact e.trans h
  | l xs => obtain ⟨a, c, k, s, hx⟩ := h; exact ⟨a, c, e.trans k, s.setBlk (fun q e => hX _ (hx q e)) v, hx⟩
  | p xs => obtain ⟨a, c, k, s, hx⟩ := h; exact ⟨a, c, e.trans k, s.setBlk (fun q e => hX _ (hx q e)) v, hx⟩

/-- a record in the cells from here on -/
def Rec (W : World) (X : Nat → Prop) (g : Nat) : Nat → List Lf → Prop
  | _, [] => True
  | o, f :: r => f.at W X g o ∧ Rec W X g (o + 1) r
theorem Rec.below {W W' : World} {X : Nat → Prop} {g o : Nat} {r : List Lf} (h : Rec W X g o r) (hg : g < W.heap.size) (hb : Below W.heap.size W W') : Rec W' X g o r := by
  induction r generalizing o with
  | nil => trivial
  | cons f r ih => exact ⟨h.1.below hg hb, ih h.2⟩
theorem Rec.mono {W : World} {X Y : Nat → Prop} {g o : Nat} {r : List Lf} (h : Rec W X g o r) (hX : ∀ k, X k → Y k) : Rec W Y g o r := by
  induction r generalizing o with
  | nil => trivial
  | cons f r ih => exact ⟨h.1.mono hX, ih h.2⟩
theorem Rec.set {W : World} {X : Nat → Prop} {g o : Nat} {r : List Lf} (h : Rec W X g o r) {b u : Nat} (hX : ∀ k, X k → k ≠ b) (hne : g ≠ b ∨ u < o ∨ o + r.length ≤ u) (v : Value) : Rec (W.setCell ⟨b, u, none⟩ v) X g o r := by
  induction r generalizing o with
  | nil => trivial
  | cons f r ih =>
    simp only [List.length_cons] at hne
    exact ⟨h.1.set hX (by omega) v, ih h.2 (by omega)⟩
def rsz : List Lf → Nat
  | [] => 0
  | f :: r => f.sz + rsz r
def rwf (r : List Lf) : Prop := ∀ f ∈ r, f.wf

/-- a list of records that is read: s cells each -/
def RSeg (W : World) (X : Nat → Prop) (s : Nat) (a : Option Addr) (n cap : Nat) (rs : List (List Lf)) : Prop :=
  rs.length = n ∧ n ≤ cap ∧ cap ≤ 9223372036854775807 ∧ (∀ r ∈ rs, rwf r) ∧ (n = 0 ∨ ∃ g o, a = some ⟨g, o, none⟩ ∧ g < W.heap.size ∧ ∀ j (hj : j < rs.length), Rec W X g (o + j * s) rs[j])
theorem RSeg.below {W W' : World} {X : Nat → Prop} {s : Nat} {a : Option Addr} {n cap : Nat} {rs : List (List Lf)} (h : RSeg W X s a n cap rs) (hb : Below W.heap.size W W') : RSeg W' X s a n cap rs := by
  obtain ⟨h1, h2, h3, h4, h5⟩ := h
  refine ⟨h1, h2, h3, h4, ?_⟩
  rcases h5 with h5 | ⟨g, o, ha, hg, hc⟩
  · exact .inl h5
  · exact .inr ⟨g, o, ha, Nat.lt_of_lt_of_le hg hb.size, fun j hj => (hc j hj).below hg hb⟩
theorem RSeg.at {W : World} {X : Nat → Prop} {s : Nat} {a : Option Addr} {n cap : Nat} {rs : List (List Lf)} (h : RSeg W X s a n cap rs) {k : Nat} (hk : k < rs.length) : ∃ g o, a = some ⟨g, o, none⟩ ∧ g < W.heap.size ∧ Rec W X g (o + k * s) rs[k] := by
  rcases h.2.2.2.2 with h0 | ⟨g, o, e, hg, hc⟩
  · have := h.1; omega
  · exact ⟨g, o, e, hg, hc k hk⟩
theorem RSeg.mono {W : World} {X Y : Nat → Prop} {s : Nat} {a : Option Addr} {n cap : Nat} {rs : List (List Lf)} (h : RSeg W X s a n cap rs) (hX : ∀ k, X k → Y k) : RSeg W Y s a n cap rs := by
  obtain ⟨h1, h2, h3, h4, h5⟩ := h
  refine ⟨h1, h2, h3, h4, ?_⟩
  rcases h5 with h5 | ⟨g, o, ha, hg, hc⟩
  · exact .inl h5
  · exact .inr ⟨g, o, ha, hg, fun j hj => (hc j hj).mono hX⟩
theorem RSeg.le {W : World} {X : Nat → Prop} {s : Nat} {a : Option Addr} {n cap : Nat} {rs : List (List Lf)} (h : RSeg W X s a n cap rs) : n ≤ 9223372036854775807 := Nat.le_trans h.2.1 h.2.2.1
/-- the sizes that the law counts -/
def rtot : List (List Lf) → Nat
  | [] => 0
  | r :: rs => rsz r + rtot rs
theorem rtot_take (rs : List (List Lf)) (k : Nat) (h : k < rs.length) : rtot (rs.take (k + 1)) = rtot (rs.take k) + rsz rs[k] := by
  induction rs generalizing k with
  | nil => simp at h
  | cons u r ih =>
    cases k with
    | zero => simp [rtot]
    | succ k => simp only [List.take_succ_cons, rtot, List.getElem_cons_succ]; rw [ih k (by simpa using h)]; omega
theorem rtot_mono (rs : List (List Lf)) (k : Nat) (h : k < rs.length) : rtot (rs.take k) + rsz rs[k] ≤ rtot rs := by
  rw [← rtot_take rs k h]
  have : ∀ (l : List (List Lf)) (j : Nat), rtot (l.take j) ≤ rtot l := by
    intro l
    induction l with
    | nil => intro j; simp [rtot]
    | cons u r ih => intro j; cases j with
      | zero => simp [rtot]
      | succ j => simp only [List.take_succ_cons, rtot]; have := ih j; omega
  exact this rs (k + 1)
theorem rsz_mem {f : Lf} {r : List Lf} (h : f ∈ r) : f.sz ≤ rsz r := by
  induction r with
  | nil => cases h
  | cons u r ih =>
    simp only [rsz]
    rcases List.mem_cons.1 h with rfl | h
    · omega
    · have := ih h; omega
theorem rtot_mem {r : List Lf} {rs : List (List Lf)} (h : r ∈ rs) : rsz r ≤ rtot rs := by
  induction rs with
  | nil => cases h
  | cons u rs ih =>
    simp only [rtot]
    rcases List.mem_cons.1 h with rfl | h
    · omega
    · have := ih h; omega
/-- what is left of a bound -/
def rleft (L : Int) (n : Nat) : Int := if L < n then -1 else L - n
/-- a list of records that is made: its own block, the first k of them laid -/
def RMade (W : World) (base : Nat) (T : TypeId) (s g n k : Nat) (rs : List (List Lf)) : Prop :=
  base ≤ g ∧ (∃ cs, W.ownsRow base T s (.slice (some ⟨g, 0, none⟩) n n) n cs) ∧ ∀ j (hj : j < rs.length), j < k → Rec W (fun b => g < b) g (j * s) rs[j]
theorem RMade.below {W W' : World} {base : Nat} {T : TypeId} {s g n k : Nat} {rs : List (List Lf)} (h : RMade W base T s g n k rs) (hb : Below W.heap.size W W') : RMade W' base T s g n k rs := by
  obtain ⟨h0, ⟨cs, h1⟩, h2⟩ := h
  have hg := (h1.lt g rfl).2
  exact ⟨h0, ⟨cs, h1.kept (grown_of_below hb) (.inr (by simp [Value.ownBlock]))⟩, fun j hj hk => (h2 j hj hk).below hg hb⟩
theorem RMade.lt {W : World} {base : Nat} {T : TypeId} {s g n k : Nat} {rs : List (List Lf)} (h : RMade W base T s g n k rs) : g < W.heap.size := by
  obtain ⟨h0, ⟨cs, h1⟩, h2⟩ := h
  exact (h1.lt g rfl).2
theorem RMade.cellAt {W : World} {base : Nat} {T : TypeId} {s g n k m : Nat} {rs : List (List Lf)} (h : RMade W base T s g n m rs) (j : Nat) (hk : k < n) (hj : j < s) : ∃ v, W.cell? ⟨g, k * s + j, none⟩ = some v ∧ W.frozen? ⟨g, k * s + j, none⟩ = false := by
  obtain ⟨h0, ⟨cs, h1⟩, h2⟩ := h
  have e1 : k * s + s ≤ n * s := by rw [← Nat.succ_mul]; exact Nat.mul_le_mul_right s hk
  have hl : cs.length = n * s := h1.1
  have e2 := h1.cellAt (k * s + j) (by omega)
  exact ⟨cs[k * s + j]'(by omega), e2.trans (List.getElem?_eq_getElem _), h1.frozenAt _⟩
theorem RMade.set {W : World} {base : Nat} {T : TypeId} {s g n k : Nat} {rs : List (List Lf)} (h : RMade W base T s g n k rs) (u : Nat) (hu : k * s ≤ u) (hs : ∀ r ∈ rs, r.length = s) (v : Value) : RMade (W.setCell ⟨g, u, none⟩ v) base T s g n k rs := by
  obtain ⟨h0, ⟨cs, h1⟩, h2⟩ := h
  refine ⟨h0, ⟨_, (h1.stored u v).1⟩, fun j hj hk => (h2 j hj hk).set (fun b hb => by omega) (.inr (.inr ?_)) v⟩
  rw [hs _ (List.getElem_mem _)]
  have : j * s + s ≤ k * s := by rw [← Nat.succ_mul]; exact Nat.mul_le_mul_right s hk
  omega
theorem RMade.next {W : World} {base : Nat} {T : TypeId} {s g n k : Nat} {rs : List (List Lf)} (h : RMade W base T s g n k rs) (hr : ∀ hk : k < rs.length, Rec W (fun b => g < b) g (k * s) rs[k]) : RMade W base T s g n (k + 1) rs := by
  obtain ⟨h0, h1, h2⟩ := h
  refine ⟨h0, h1, fun j hj hk => ?_⟩
  by_cases e : j = k
  · subst e; exact hr hj
  · exact h2 j hj (by omega)
theorem RMade.seg {W : World} {base : Nat} {T : TypeId} {s g n : Nat} {rs : List (List Lf)} (h : RMade W base T s g n n rs) (hl : rs.length = n) (hn : n ≤ 9223372036854775807) (hw : ∀ r ∈ rs, rwf r) : RSeg W (fun b => g < b) s (some ⟨g, 0, none⟩) n n rs := by
  obtain ⟨h0, ⟨cs, h1⟩, h2⟩ := h
  exact ⟨hl, Nat.le_refl _, hn, hw, .inr ⟨g, 0, rfl, (h1.lt g rfl).2, fun j hj => by rw [Nat.zero_add]; exact h2 j hj (by omega)⟩⟩
end Go.Proofs.Yteljkjpcjjiidaa
