/- My texts Rc, Ob, in this order. -/
import Derived.Test.YthjapjbiclkhcaaPk00
import Derived.Test.YthjapjbiclkhcaaPk32
import Derived.Lib.Builder
/- What the walks say of memory: records of signs, ints, texts, limbs and lists of ints; lists of records, with what lies within. -/
namespace Go.Proofs.Ythjapjbiclkhcaa
open Go.RowKit
set_option linter.unusedVariables false
set_option maxRecDepth 20000

/-- what one cell of a record holds -/
inductive Lf where
  | b (x : Bool)
  | i (x : Int)
  | t (s : ByteArray)
  | l (xs : List Nat)
  | p (xs : List Int)
/-- what the law counts of it -/
def Lf.sz : Lf → Nat
  | .b _ => 0
  | .i _ => 0
  | .t s => s.size
  | .l xs => xs.length
  | .p xs => xs.length
def Lf.wf : Lf → Prop
  | .b _ => True
  | .i x => -9223372036854775808 ≤ x ∧ x ≤ 9223372036854775807
  | .t s => s.size ≤ 9223372036854775807
  | .l _ => True
  | .p xs => ∀ y ∈ xs, -9223372036854775808 ≤ y ∧ y ≤ 9223372036854775807
/-- it lies in this cell; what lies within lies in blocks of X -/
def Lf.at (W : World) (X : Nat → Prop) (g o : Nat) : Lf → Prop
  | .b x => W.cell? ⟨g, o, none⟩ = some (.bool x)
  | .i x => W.cell? ⟨g, o, none⟩ = some (.int .i64 x)
  | .t s => W.cell? ⟨g, o, none⟩ = some (.string s)
  | .l xs => ∃ a c, W.cell? ⟨g, o, none⟩ = some (.slice a xs.length c) ∧ Seg W a xs.length c xs ∧ (∀ q, a = some q → X q.block)
  | .p xs => ∃ a c, W.cell? ⟨g, o, none⟩ = some (.slice a xs.length c) ∧ V.Seg W a xs.length c xs ∧ (∀ q, a = some q → X q.block)
theorem Lf.at.below {W W' : World} {X : Nat → Prop} {g o : Nat} {f : Lf} (h : f.at W X g o) (hg : g < W.heap.size) (hb : Below W.heap.size W W') : f.at W' X g o := by
  have e := hb.cell (p := ⟨g, o, none⟩) hg
  cases f with
  | b x => exact e.trans h
  | i x => exact e.trans h
  | t x => exact e.trans h
  | l xs => obtain ⟨a, c, k, s, hx⟩ := h; exact ⟨a, c, e.trans k, s.below hb, hx⟩
  | p xs => obtain ⟨a, c, k, s, hx⟩ := h; exact ⟨a, c, e.trans k, s.below hb, hx⟩
theorem Lf.at.mono {W : World} {X Y : Nat → Prop} {g o : Nat} {f : Lf} (h : f.at W X g o) (hX : ∀ k, X k → Y k) : f.at W Y g o := by
  cases f with
  | b x => exact h
  | i x => exact h
  | t x => exact h
  | l xs => obtain ⟨a, c, k, s, hx⟩ := h; exact ⟨a, c, k, s, fun q e => hX _ (hx q e)⟩
  | p xs => obtain ⟨a, c, k, s, hx⟩ := h; exact ⟨a, c, k, s, fun q e => hX _ (hx q e)⟩
theorem Seg.setBlk {W : World} {a : Option Addr} {n cap : Nat} {xs : List Nat} (h : Seg W a n cap xs) {p : Addr} (hp : ∀ q, a = some q → q.block ≠ p.block) (v : Value) : Seg (W.setCell p v) a n cap xs := by
  obtain ⟨h1, h2, h3, h4, h5⟩ := h
  refine ⟨h1, h2, h3, h4, ?_⟩
  rcases h5 with h5 | ⟨g, o, ha, hg, hc⟩
  · exact .inl h5
  · refine .inr ⟨g, o, ha, by simp; exact hg, fun j hj => ?_⟩
    rw [World.cell?_of_block (Below.heap_setCell W p v g (hp _ ha))]
    exact hc j hj
theorem V.Seg.setBlk {W : World} {a : Option Addr} {n cap : Nat} {xs : List Int} (h : V.Seg W a n cap xs) {p : Addr} (hp : ∀ q, a = some q → q.block ≠ p.block) (v : Value) : V.Seg (W.setCell p v) a n cap xs := by
  obtain ⟨h1, h2, h3, h5⟩ := h
  refine ⟨h1, h2, h3, ?_⟩
  rcases h5 with h5 | ⟨g, o, ha, hg, hc⟩
  · exact .inl h5
  · refine .inr ⟨g, o, ha, by simp; exact hg, fun j hj => ?_⟩
    rw [World.cell?_of_block (Below.heap_setCell W p v g (hp _ ha))]
    exact hc j hj
/-- a store elsewhere -/
theorem Lf.at.set {W : World} {X : Nat → Prop} {g o : Nat} {f : Lf} (h : f.at W X g o) {b u : Nat} (hX : ∀ k, X k → k ≠ b) (hne : g ≠ b ∨ o ≠ u) (v : Value) : f.at (W.setCell ⟨b, u, none⟩ v) X g o := by
  have hab : (⟨b, u, none⟩ : Addr) ≠ ⟨g, o, none⟩ := by intro e; cases e; omega
  have e : (W.setCell ⟨b, u, none⟩ v).cell? ⟨g, o, none⟩ = W.cell? ⟨g, o, none⟩ := by apply World.cell?_setCell_other; exact hab
  cases f with
  | b x => exact e.trans h
  | i x => exact e.trans h
  | t x => exact e.trans h
  | l xs => obtain ⟨a, c, k, s, hx⟩ := h; exact ⟨a, c, e.trans k, s.setBlk (fun q e => hX _ (hx q e)) v, hx⟩
  | p xs => obtain ⟨a, c, k, s, hx⟩ := h; exact ⟨a, c, e.trans k, s.setBlk (fun q e => hX _ (hx q e)) v, hx⟩

/-- a record in the cells from here on -/
def Rec (W : World) (X : Nat → Prop) (g : Nat) : Nat → List Lf → Prop
  | _, [] => True
  | o, f :: r => f.at W X g o ∧ Rec W X g (o + 1) r
theorem Rec.below {W W' : World} {X : Nat → Prop} {g o : Nat} {r : List Lf} (h : Rec W X g o r) (hg : g < W.heap.size) (hb : Below W.heap.size W W') : Rec W' X g o r := by
  induction r generalizing o with
  | nil => trivial
  | cons f r ih => exact ⟨h.1.below hg hb, ih h.2⟩
theorem Rec.mono {W : World} {X Y : Nat → Prop} {g o : Nat} {r : List Lf} (h : Rec W X g o r) (hX : ∀ k, X k → Y k) : Rec W Y g o r := by
  induction r generalizing o with
  | nil => trivial
  | cons f r ih => exact ⟨h.1.mono hX, ih h.2⟩
theorem Rec.set {W : World} {X : Nat → Prop} {g o : Nat} {r : List Lf} (h : Rec W X g o r) {b u : Nat} (hX : ∀ k, X k → k ≠ b) (hne : g ≠ b ∨ u < o ∨ o + r.length ≤ u) (v : Value) : Rec (W.setCell ⟨b, u, none⟩ v) X g o r := by
  induction r generalizing o with
  | nil => trivial
  | cons f r ih =>
    simp only [List.length_cons] at hne
    exact ⟨h.1.set hX (by omega) v, ih h.2 (by omega)⟩
def rsz : List Lf → Nat
  | [] => 0
  | f :: r => f.sz + rsz r
def rwf (r : List Lf) : Prop := ∀ f ∈ r, f.wf

/-- a list of records that is read: s cells each -/
def RSeg (W : World) (X : Nat → Prop) (s : Nat) (a : Option Addr) (n cap : Nat) (rs : List (List Lf)) : Prop :=
  rs.length = n ∧ n ≤ cap ∧ cap ≤ 9223372036854775807 ∧ (∀ r ∈ rs, rwf r) ∧ (n = 0 ∨ ∃ g o, a = some ⟨g, o, none⟩ ∧ g < W.heap.size ∧ ∀ j (hj : j < rs.length), Rec W X g (o + j * s) rs[j])
theorem RSeg.below {W W' : World} {X : Nat → Prop} {s : Nat} {a : Option Addr} {n cap : Nat} {rs : List (List Lf)} (h : RSeg W X s a n cap rs) (hb : Below W.heap.size W W') : RSeg W' X s a n cap rs := by
  obtain ⟨h1, h2, h3, h4, h5⟩ := h
  refine ⟨h1, h2, h3, h4, ?_⟩
  rcases h5 with h5 | ⟨g, o, ha, hg, hc⟩
  · exact .inl h5
  · exact .inr ⟨g, o, ha, Nat.lt_of_lt_of_le hg hb.size, fun j hj => (hc j hj).below hg hb⟩
theorem RSeg.at {W : World} {X : Nat → Prop} {s : Nat} {a : Option Addr} {n cap : Nat} {rs : List (List Lf)} (h : RSeg W X s a n cap rs) {k : Nat} (hk : k < rs.length) : ∃ g o, a = some ⟨g, o, none⟩ ∧ g < W.heap.size ∧ Rec W X g (o + k * s) rs[k] := by
  rcases h.2.2.2.2 with h0 | ⟨g, o, e, hg, hc⟩
  · have := h.1; omega
  · exact ⟨g, o, e, hg, hc k hk⟩
theorem RSeg.mono {W : World} {X Y : Nat → Prop} {s : Nat} {a : Option Addr} {n cap : Nat} {rs : List (List Lf)} (h : RSeg W X s a n cap rs) (hX : ∀ k, X k → Y k) : RSeg W Y s a n cap rs := by
  obtain ⟨h1, h2, h3, h4, h5⟩ := h
  refine ⟨h1, h2, h3, h4, ?_⟩
  rcases h5 with h5 | ⟨g, o, ha, hg, hc⟩
  · exact .inl h5
  · exact .inr ⟨g, o, ha, hg, fun j hj => (hc j hj).mono hX⟩
theorem RSeg.le {W : World} {X : Nat → Prop} {s : Nat} {a : Option Addr} {n cap : Nat} {rs : List (List Lf)} (h : RSeg W X s a n cap rs) : n ≤ 9223372036854775807 := Nat.le_trans h.2.1 h.2.2.1
/-- the sizes that the law counts -/
def rtot : List (List Lf) → Nat
  | [] => 0
  | r :: rs => rsz r + rtot rs
theorem rtot_take (rs : List (List Lf)) (k : Nat) (h : k < rs.length) : rtot (rs.take (k + 1)) = rtot (rs.take k) + rsz rs[k] := by
  induction rs generalizing k with
  | nil => simp at h
  | cons u r ih =>
    cases k with
    | zero => simp [rtot]
    | succ k => simp only [List.take_succ_cons, rtot, List.getElem_cons_succ]; rw [ih k (by simpa using h)]; omega
theorem rtot_mono (rs : List (List Lf)) (k : Nat) (h : k < rs.length) : rtot (rs.take k) + rsz rs[k] ≤ rtot rs := by
  rw [← rtot_take rs k h]
  have : ∀ (l : List (List Lf)) (j : Nat), rtot (l.take j) ≤ rtot l := by
    intro l
    induction l with
    | nil => intro j; simp [rtot]
    | cons u r ih => intro j; cases j with
      | zero => simp [rtot]
      | succ j => simp only [List.take_succ_cons, rtot]; have := ih j; omega
  exact this rs (k + 1)
theorem rsz_mem {f : Lf} {r : List Lf} (h : f ∈ r) : f.sz ≤ rsz r := by
  induction r with
  | nil => cases h
  | cons u r ih =>
    simp only [rsz]
    rcases List.mem_cons.1 h with rfl | h
    · omega
    · have := ih h; omega
theorem rtot_mem {r : List Lf} {rs : List (List Lf)} (h : r ∈ rs) : rsz r ≤ rtot rs := by
  induction rs with
  | nil => cases h
  | cons u rs ih =>
    simp only [rtot]
    rcases List.mem_cons.1 h with rfl | h
    · omega
    · have := ih h; omega
/-- what is left of a bound -/
def rleft (L : Int) (n : Nat) : Int := if L < n then -1 else L - n
/-- a list of records that is made: its own block, the first k of them laid -/
def RMade (W : World) (base : Nat) (T : TypeId) (s g n k : Nat) (rs : List (List Lf)) : Prop :=
  base ≤ g ∧ (∃ cs, W.ownsRow base T s (.slice (some ⟨g, 0, none⟩) n n) n cs) ∧ ∀ j (hj : j < rs.length), j < k → Rec W (fun b => g < b) g (j * s) rs[j]
theorem RMade.below {W W' : World} {base : Nat} {T : TypeId} {s g n k : Nat} {rs : List (List Lf)} (h : RMade W base T s g n k rs) (hb : Below W.heap.size W W') : RMade W' base T s g n k rs := by
  obtain ⟨h0, ⟨cs, h1⟩, h2⟩ := h
  have hg := (h1.lt g rfl).2
  exact ⟨h0, ⟨cs, h1.kept (grown_of_below hb) (.inr (by simp [Value.ownBlock]))⟩, fun j hj hk => (h2 j hj hk).below hg hb⟩
theorem RMade.lt {W : World} {base : Nat} {T : TypeId} {s g n k : Nat} {rs : List (List Lf)} (h : RMade W base T s g n k rs) : g < W.heap.size := by
  obtain ⟨h0, ⟨cs, h1⟩, h2⟩ := h
  exact (h1.lt g rfl).2
theorem RMade.cellAt {W : World} {base : Nat} {T : TypeId} {s g n k m : Nat} {rs : List (List Lf)} (h : RMade W base T s g n m rs) (j : Nat) (hk : k < n) (hj : j < s) : ∃ v, W.cell? ⟨g, k * s + j, none⟩ = some v ∧ W.frozen? ⟨g, k * s + j, none⟩ = false := by
  obtain ⟨h0, ⟨cs, h1⟩, h2⟩ := h
  have e1 : k * s + s ≤ n * s := by rw [← Nat.succ_mul]; exact Nat.mul_le_mul_right s hk
  have hl : cs.length = n * s := h1.1
  have e2 := h1.cellAt (k * s + j) (by omega)
  exact ⟨cs[k * s + j]'(by omega), e2.trans (List.getElem?_eq_getElem _), h1.frozenAt _⟩
theorem RMade.set {W : World} {base : Nat} {T : TypeId} {s g n k : Nat} {rs : List (List Lf)} (h : RMade W base T s g n k rs) (u : Nat) (hu : k * s ≤ u) (hs : ∀ r ∈ rs, r.length = s) (v : Value) : RMade (W.setCell ⟨g, u, none⟩ v) base T s g n k rs := by
  obtain ⟨h0, ⟨cs, h1⟩, h2⟩ := h
  refine ⟨h0, ⟨_, (h1.stored u v).1⟩, fun j hj hk => (h2 j hj hk).set (fun b hb => by omega) (.inr (.inr ?_)) v⟩
  rw [hs _ (List.getElem_mem _)]
  have : j * s + s ≤ k * s := by rw [← Nat.succ_mul]; exact Nat.mul_le_mul_right s hk
  omega
theorem RMade.next {W : World} {base : Nat} {T : TypeId} {s g n k : Nat} {rs : List (List Lf)} (h : RMade W base T s g n k rs) (hr : ∀ hk : k < rs.length, Rec W (fun b => g < b) g (k * s) rs[k]) : RMade W base T s g n (k + 1) rs := by
  obtain ⟨h0, h1, h2⟩ := h
  refine ⟨h0, h1, fun j hj hk => ?_⟩
  by_cases e : j = k
  · subst e; exact hr hj
  · exact h2 j hj (by omega)
theorem RMade.seg {W : World} {base : Nat} {T : TypeId} {s g n : Nat} {rs : List (List Lf)} (h : RMade W base T s g n n rs) (hl : rs.length = n) (hn : n ≤ 9223372036854775807) (hw : ∀ r ∈ rs, rwf r) : RSeg W (fun b => g < b) s (some ⟨g, 0, none⟩) n n rs := by
  obtain ⟨h0, ⟨cs, h1⟩, h2⟩ := h
  exact ⟨hl, Nat.le_refl _, hn, hw, .inr ⟨g, 0, rfl, (h1.lt g rfl).2, fun j hj => by rw [Nat.zero_add]; exact h2 j hj (by omega)⟩⟩
end Go.Proofs.Ythjapjbiclkhcaa

/- What the walks say of memory: boxes by their heap entries; stores into one block. -/
namespace Go.Proofs.Ythjapjbiclkhcaa
open Go.RowKit
set_option linter.unusedVariables false
set_option maxRecDepth 20000

theorem hset {w : World} {b : Nat} {cs : Array Value} {T : TypeId} (hb : w.heap[b]? = some (.cells cs T (0, 0))) (i : Nat) (v : Value) :
    (w.setCell ⟨b, i, none⟩ v).heap[b]? = some (.cells (cs.setIfInBounds i v) T (0, 0)) := by
  simp [World.setCell, Array.getElem?_modify, hb]
theorem hlt {w : World} {b : Nat} {o : Obj} (hb : w.heap[b]? = some o) : b < w.heap.size := (Array.getElem?_eq_some_iff.1 hb).1
theorem hnew (w : World) (o : Obj) : (w.alloc o).heap[w.heap.size]? = some o := by
  show (w.heap.push o)[w.heap.size]? = _
  simp
theorem hnewer {w : World} {b : Nat} {o : Obj} (hb : w.heap[b]? = some o) (o' : Obj) : (w.alloc o').heap[b]? = some o := by
  show (w.heap.push o')[b]? = _
  rw [Array.getElem?_push, if_neg (by have := hlt hb; omega)]; exact hb
theorem hbel {B : Nat} {w w' : World} {b : Nat} {o : Obj} (hb : w.heap[b]? = some o) (h : Below B w w') (hB : b < B) : w'.heap[b]? = some o := (h.block b hB).trans hb

/-- stores into one block -/
structure St (N : Nat) (w w' : World) : Prop where
  os : w'.os = w.os
  tape : w'.tape = w.tape
  output : w'.output = w.output
  size : w'.heap.size = w.heap.size
  block : ∀ k, k ≠ N → w'.heap[k]? = w.heap[k]?
theorem St.refl (N : Nat) (w : World) : St N w w := ⟨rfl, rfl, rfl, rfl, fun _ _ => rfl⟩
theorem St.set {N : Nat} {w w' : World} (h : St N w w') (o : Nat) (v : Value) : St N w (w'.setCell ⟨N, o, none⟩ v) :=
  ⟨h.os, h.tape, h.output, by simp [World.setCell, h.size], fun k hk => (Below.heap_setCell _ _ _ _ hk).trans (h.block k hk)⟩
theorem St.below {N B : Nat} {a w w' : World} (h : Below B a w) (k : St N w w') (hN : B ≤ N) : Below B a w' :=
  h.trans ⟨k.os, k.tape, k.output, Nat.le_of_eq k.size.symm, fun i hi => k.block i (by omega)⟩
theorem St.heap {N : Nat} {w w' : World} (k : St N w w') {b : Nat} {o : Obj} (hb : w.heap[b]? = some o) (hN : b ≠ N) : w'.heap[b]? = some o := (k.block b hN).trans hb
theorem St.cell {N : Nat} {w w' : World} (k : St N w w') {p : Addr} (hp : p.block ≠ N) : w'.cell? p = w.cell? p := World.cell?_of_block (k.block p.block hp)
theorem St.frozen {N : Nat} {w w' : World} (k : St N w w') {p : Addr} (hp : p.block ≠ N) : w'.frozen? p = w.frozen? p := World.frozen?_of_block (k.block p.block hp)
theorem St.grown {N : Nat} {w w' : World} (h : St N w w') : w.grownBy w' (some N) := ⟨h.os, h.tape, h.output, Nat.le_of_eq h.size.symm, fun k _ hn => h.block k (fun e => hn (by rw [e]))⟩
theorem Own.st {N : Nat} {w w' : World} {base : Nat} {a : Option Addr} {n c : Nat} {xs : List Nat} (h : Own w base a n c xs) (ho : St N w w') (hB : N < base) : Own w' base a n c xs := by
  refine h.kept ho.grown ?_
  cases hk : (Value.slice a n c).ownBlock with
  | none => exact .inl rfl
  | some k => refine .inr fun e => ?_; have := (World.ownsRow.lt h.1 k hk).1; cases e; omega
theorem V.Own.st {N : Nat} {w w' : World} {base : Nat} {a : Option Addr} {n c : Nat} {xs : List Int} (h : V.Own w base a n c xs) (ho : St N w w') (hB : N < base) : V.Own w' base a n c xs := by
  refine h.kept ho.grown ?_
  cases hk : (Value.slice a n c).ownBlock with
  | none => exact .inl rfl
  | some k => refine .inr fun e => ?_; have := (World.ownsRow.lt h k hk).1; cases e; omega
theorem Own.inb {w : World} {base : Nat} {a : Option Addr} {n c : Nat} {xs : List Nat} (h : Own w base a n c xs) : ∀ q, a = some q → base ≤ q.block := by
  intro q e
  rcases h.cases with ⟨h0, _⟩ | ⟨g, h0, h1, _⟩
  · rw [h0] at e; cases e
  · rw [h0] at e; cases e; exact h1
theorem V.Own.inb {w : World} {base : Nat} {a : Option Addr} {n c : Nat} {xs : List Int} (h : V.Own w base a n c xs) : ∀ q, a = some q → base ≤ q.block := by
  intro q e
  rcases h.cases with ⟨h0, _⟩ | ⟨g, h0, h1, _⟩
  · rw [h0] at e; cases e
  · rw [h0] at e; cases e; exact h1
theorem Seg.st {N : Nat} {w w' : World} {a : Option Addr} {n cap : Nat} {xs : List Nat} (h : Seg w a n cap xs) (k : St N w w') (hp : ∀ q, a = some q → q.block ≠ N) : Seg w' a n cap xs := by
  obtain ⟨h1, h2, h3, h4, h5⟩ := h
  refine ⟨h1, h2, h3, h4, ?_⟩
  rcases h5 with h5 | ⟨g, o, ha, hg, hc⟩
  · exact .inl h5
  · exact .inr ⟨g, o, ha, by rw [k.size]; exact hg, fun j hj => (k.cell (p := ⟨g, o + j, none⟩) (show g ≠ N from hp ⟨g, o, none⟩ ha)).trans (hc j hj)⟩
theorem V.Seg.st {N : Nat} {w w' : World} {a : Option Addr} {n cap : Nat} {xs : List Int} (h : V.Seg w a n cap xs) (k : St N w w') (hp : ∀ q, a = some q → q.block ≠ N) : V.Seg w' a n cap xs := by
  obtain ⟨h1, h2, h3, h5⟩ := h
  refine ⟨h1, h2, h3, ?_⟩
  rcases h5 with h5 | ⟨g, o, ha, hg, hc⟩
  · exact .inl h5
  · exact .inr ⟨g, o, ha, by rw [k.size]; exact hg, fun j hj => (k.cell (p := ⟨g, o + j, none⟩) (show g ≠ N from hp ⟨g, o, none⟩ ha)).trans (hc j hj)⟩
theorem Lf.at.st {N : Nat} {w w' : World} {X : Nat → Prop} {g o : Nat} {f : Lf} (h : f.at w X g o) (k : St N w w') (hX : ∀ k, X k → k ≠ N) (hg : g ≠ N) : f.at w' X g o := by
  have e := k.cell (p := ⟨g, o, none⟩) hg
  cases f with
  | b x => exact e.trans h
  | i x => exact e.trans h
  | t x => exact e.trans h
  | l xs => obtain ⟨a, c, q, s, hx⟩ := h; exact ⟨a, c, e.trans q, s.st k (fun q e => hX _ (hx q e)), hx⟩
  | p xs => obtain ⟨a, c, q, s, hx⟩ := h; exact ⟨a, c, e.trans q, s.st k (fun q e => hX _ (hx q e)), hx⟩
theorem Rec.st {N : Nat} {w w' : World} {X : Nat → Prop} {g o : Nat} {r : List Lf} (h : Rec w X g o r) (k : St N w w') (hX : ∀ k, X k → k ≠ N) (hg : g ≠ N) : Rec w' X g o r := by
  induction r generalizing o with
  | nil => trivial
  | cons f r ih => exact ⟨h.1.st k hX hg, ih h.2⟩

/-- a value that stands for a leaf; what lies within lies in blocks of X -/
def Lf.val (W : World) (X : Nat → Prop) : Lf → Value → Prop
  | .b x, v => v = .bool x
  | .i x, v => v = .int .i64 x
  | .t s, v => v = .string s
  | .l xs, v => ∃ a c, v = .slice a xs.length c ∧ Seg W a xs.length c xs ∧ (∀ q, a = some q → X q.block)
  | .p xs, v => ∃ a c, v = .slice a xs.length c ∧ V.Seg W a xs.length c xs ∧ (∀ q, a = some q → X q.block)
theorem Lf.val.st {N : Nat} {w w' : World} {X : Nat → Prop} {f : Lf} {v : Value} (h : f.val w X v) (k : St N w w') (hX : ∀ k, X k → k ≠ N) : f.val w' X v := by
  cases f with
  | b x => exact h
  | i x => exact h
  | t x => exact h
  | l xs => obtain ⟨a, c, q, s, hx⟩ := h; exact ⟨a, c, q, s.st k (fun q e => hX _ (hx q e)), hx⟩
  | p xs => obtain ⟨a, c, q, s, hx⟩ := h; exact ⟨a, c, q, s.st k (fun q e => hX _ (hx q e)), hx⟩
theorem Lf.val.mk {w : World} {X : Nat → Prop} {f : Lf} {v : Value} (h : f.val w X v) {g o : Nat} (hc : w.cell? ⟨g, o, none⟩ = some v) : f.at w X g o := by
  cases f with
  | b x => exact hc.trans (by rw [show v = _ from h])
  | i x => exact hc.trans (by rw [show v = _ from h])
  | t x => exact hc.trans (by rw [show v = _ from h])
  | l xs => obtain ⟨a, c, rfl, s, hx⟩ := h; exact ⟨a, c, hc, s, hx⟩
  | p xs => obtain ⟨a, c, rfl, s, hx⟩ := h; exact ⟨a, c, hc, s, hx⟩
def RVal (W : World) (X : Nat → Prop) : List Lf → List Value → Prop
  | [], [] => True
  | f :: r, v :: vs => f.val W X v ∧ RVal W X r vs
  | _, _ => False
theorem RVal.st {N : Nat} {w w' : World} {X : Nat → Prop} (k : St N w w') (hX : ∀ k, X k → k ≠ N) : ∀ {r : List Lf} {vs : List Value}, RVal w X r vs → RVal w' X r vs
  | [], [], _ => trivial
  | _ :: _, _ :: _, h => ⟨h.1.st k hX, RVal.st k hX h.2⟩
theorem st_cells (N : Nat) : ∀ (vs : List Value) (o : Nat) (w0 w : World), St N w0 w → St N w0 (w.setCells N o vs)
  | [], _, _, _, h => h
  | v :: vs, o, w0, w, h => st_cells N vs (o + 1) w0 _ (h.set o v)
/-- a record is laid by stores, cell by cell -/
theorem Rec.put {X : Nat → Prop} {g : Nat} (hX : ∀ k, X k → k ≠ g) : ∀ (r : List Lf) (vs : List Value) (o : Nat) (W : World), RVal W X r vs → (∀ j, j < vs.length → (W.cell? ⟨g, o + j, none⟩).isSome = true) → Rec (W.setCells g o vs) X g o r
  | [], _, _, _, _, _ => trivial
  | f :: r, [], _, _, h, _ => h.elim
  | f :: r, v :: vs, o, W, h, hc => by
    have h0 := hc 0 (by simp)
    have s1 : St g W (W.setCell ⟨g, o, none⟩ v) := (St.refl g W).set o v
    have e1 : (W.setCells g o (v :: vs)) = (W.setCell ⟨g, o, none⟩ v).setCells g (o + 1) vs := rfl
    rw [e1]
    refine ⟨((h.1.st s1 hX).st (st_cells g vs (o + 1) _ _ (St.refl g _)) hX).mk ?_, Rec.put hX r vs (o + 1) _ (RVal.st s1 hX h.2) fun j hj => ?_⟩
    · rw [World.cell?_setCells_out g vs (o + 1) _ ⟨g, o, none⟩ (fun _ _ => .inl (by show o < o + 1; omega))]
      exact World.cell?_setCell_same' _ _ _ h0
    · have := hc (j + 1) (by simpa using hj)
      obtain ⟨u, hu⟩ := Option.isSome_iff_exists.1 this
      obtain ⟨u', hu'⟩ := cell?_setCell_some (p := ⟨g, o, none⟩) (x := v) hu
      rw [show o + 1 + j = o + (j + 1) by omega, hu']; rfl
theorem RMade.sets {base : Nat} {T : TypeId} {s g n k : Nat} {rs : List (List Lf)} (hs : ∀ r ∈ rs, r.length = s) : ∀ (vs : List Value) (u : Nat) (W : World), k * s ≤ u → RMade W base T s g n k rs → RMade (W.setCells g u vs) base T s g n k rs
  | [], _, _, _, h => h
  | v :: vs, u, W, hu, h => RMade.sets hs vs (u + 1) _ (by omega) (h.set u hu hs v)
/-- the next record is laid -/
theorem RMade.put {W : World} {base : Nat} {T : TypeId} {s g n k : Nat} {rs : List (List Lf)} (h : RMade W base T s g n k rs) (hs : ∀ r ∈ rs, r.length = s) (hk : k < n) (vs : List Value) (hv : vs.length = s) (hr : ∀ hk : k < rs.length, RVal W (fun b => g < b) rs[k] vs) : RMade (W.setCells g (k * s) vs) base T s g n (k + 1) rs :=
  RMade.next (RMade.sets hs vs (k * s) W (Nat.le_refl _) h) fun hk' => Rec.put (fun b hb => by omega) _ vs _ W (hr hk') fun j hj => by
    obtain ⟨v, e, _⟩ := h.cellAt j hk (by omega)
    rw [e]; rfl
end Go.Proofs.Ythjapjbiclkhcaa
