/- My texts Ob, Bo, in this order. -/
import Derived.Test.YthjapjbiclkhcaaPk07
import Derived.Lib.Builder
import Derived.Test.YthjapjbiclkhcaaPk01
/- What the walks say of memory: boxes by their heap entries; stores into one block. -/
namespace Go.Proofs.Ythjapjbiclkhcaa
open Go.RowKit
set_option linter.unusedVariables false
set_option maxRecDepth 20000

theorem hset {w : World} {b : Nat} {cs : Array Value} {T : TypeId} (hb : w.heap[b]? = some (.cells cs T (0, 0))) (i : Nat) (v : Value) :
    (w.setCell ⟨b, i, none⟩ v).heap[b]? = some (.cells (cs.setIfInBounds i v) T (0, 0)) := by
  simp [World.setCell, Array.getElem?_modify, hb]
theorem hlt {w : World} {b : Nat} {o : Obj} (hb : w.heap[b]? = some o) : b < w.heap.size := (Array.getElem?_eq_some_iff.1 hb).1
theorem hnew (w : World) (o : Obj) : (w.alloc o).heap[w.heap.size]? = some o := by
  show (w.heap.push o)[w.heap.size]? = _
  simp
theorem hnewer {w : World} {b : Nat} {o : Obj} (hb : w.heap[b]? = some o) (o' : Obj) : (w.alloc o').heap[b]? = some o := by
  show (w.heap.push o')[b]? = _
  rw [Array.getElem?_push, if_neg (by have := hlt hb; omega)]; exact hb
theorem hbel {B : Nat} {w w' : World} {b : Nat} {o : Obj} (hb : w.heap[b]? = some o) (h : Below B w w') (hB : b < B) : w'.heap[b]? = some o := (h.block b hB).trans hb

/-- stores into one block -/
structure St (N : Nat) (w w' : World) : Prop where
  os : w'.os = w.os
  tape : w'.tape = w.tape
  output : w'.output = w.output
  size : w'.heap.size = w.heap.size
  block : ∀ k, k ≠ N → w'.heap[k]? = w.heap[k]?
theorem St.refl (N : Nat) (w : World) : St N w w := ⟨rfl, rfl, rfl, rfl, fun _ _ => rfl⟩
theorem St.set {N : Nat} {w w' : World} (h : St N w w') (o : Nat) (v : Value) : St N w (w'.setCell ⟨N, o, none⟩ v) :=
  ⟨h.os, h.tape, h.output, by simp [World.setCell, h.size], fun k hk => (Below.heap_setCell _ _ _ _ hk).trans (h.block k hk)⟩
theorem St.below {N B : Nat} {a w w' : World} (h : Below B a w) (k : St N w w') (hN : B ≤ N) : Below B a w' :=
  h.trans ⟨k.os, k.tape, k.output, Nat.le_of_eq k.size.symm, fun i hi => k.block i (by omega)⟩
theorem St.heap {N : Nat} {w w' : World} (k : St N w w') {b : Nat} {o : Obj} (hb : w.heap[b]? = some o) (hN : b ≠ N) : w'.heap[b]? = some o := (k.block b hN).trans hb
theorem St.cell {N : Nat} {w w' : World} (k : St N w w') {p : Addr} (hp : p.block ≠ N) : w'.cell? p = w.cell? p := World.cell?_of_block (k.block p.block hp)
theorem St.frozen {N : Nat} {w w' : World} (k : St N w w') {p : Addr} (hp : p.block ≠ N) : w'.frozen? p = w.frozen? p := World.frozen?_of_block (k.block p.block hp)
theorem St.grown {N : Nat} {w w' : World} (h : St N w w') : w.grownBy w' (some N) := ⟨h.os, h.tape, h.output, Nat.le_of_eq h.size.symm, fun k _ hn => h.block k (fun e => hn (by rw [e]))⟩
theorem Own.st {N : Nat} {w w' : World} {base : Nat} {a : Option Addr} {n c : Nat} {xs : List Nat} (h : Own w base a n c xs) (ho : St N w w') (hB : N < base) : Own w' base a n c xs := by
  refine h.kept ho.grown ?_
  cases hk : (Value.slice a n c).ownBlock with
  | none => exact .inl rfl
  | some k => refine .inr fun e => ?_; have := (World.ownsRow.lt h.1 k hk).1; cases e; omega
theorem V.Own.st {N : Nat} {w w' : World} {base : Nat} {a : Option Addr} {n c : Nat} {xs : List Int} (h : V.Own w base a n c xs) (ho : St N w w') (hB : N < base) : V.Own w' base a n c xs := by
  refine h.kept ho.grown ?_
  cases hk : (Value.slice a n c).ownBlock with
  | none => exact .inl rfl
  | some k => refine .inr fun e => ?_; have := (World.ownsRow.lt h k hk).1; cases e; omega
theorem Own.inb {w : World} {base : Nat} {a : Option Addr} {n c : Nat} {xs : List Nat} (h : Own w base a n c xs) : ∀ q, a = some q → base ≤ q.block := by
  intro q e
  rcases h.cases with ⟨h0, _⟩ | ⟨g, h0, h1, _⟩
  · rw [h0] at e; cases e
  · rw [h0] at e; cases e; exact h1
theorem V.Own.inb {w : World} {base : Nat} {a : Option Addr} {n c : Nat} {xs : List Int} (h : V.Own w base a n c xs) : ∀ q, a = some q → base ≤ q.block := by
  intro q e
  rcases h.cases with ⟨h0, _⟩ | ⟨g, h0, h1, _⟩
  · rw [h0] at e; cases e
  · rw [h0] at e; cases e; exact h1
theorem Seg.st {N : Nat} {w w' : World} {a : Option Addr} {n cap : Nat} {xs : List Nat} (h : Seg w a n cap xs) (k : St N w w') (hp : ∀ q, a = some q → q.block ≠ N) : Seg w' a n cap xs := by
  obtain ⟨h1, h2, h3, h4, h5⟩ := h
  refine ⟨h1, h2, h3, h4, ?_⟩
  rcases h5 with h5 | ⟨g, o, ha, hg, hc⟩
  · exact .inl h5
  · exact .inr ⟨g, o, ha, by rw [k.size]; exact hg, fun j hj => (k.cell (p := ⟨g, o + j, none⟩) (show g ≠ N from hp ⟨g, o, none⟩ ha)).trans (hc j hj)⟩
theorem V.Seg.st {N : Nat} {w w' : World} {a : Option Addr} {n cap : Nat} {xs : List Int} (h : V.Seg w a n cap xs) (k : St N w w') (hp : ∀ q, a = some q → q.block ≠ N) : V.Seg w' a n cap xs := by
  obtain ⟨h1, h2, h3, h5⟩ := h
  refine ⟨h1, h2, h3, ?_⟩
  rcases h5 with h5 | ⟨g, o, ha, hg, hc⟩
  · exact .inl h5
  · exact .inr ⟨g, o, ha, by rw [k.size]; exact hg, fun j hj => (k.cell (p := ⟨g, o + j, none⟩) (show g ≠ N from hp ⟨g, o, none⟩ ha)).trans (hc j hj)⟩
theorem Lf.at.st {N : Nat} {w w' : World} {X : Nat → Prop} {g o : Nat} {f : Lf} (h : f.at w X g o) (k : St N w w') (hX : ∀ k, X k → k ≠ N) (hg : g ≠ N) : f.at w' X g o := by
  have e := k.cell (p := ⟨g, o, none⟩) hg
  cases f with
  | b x => exact e.trans h
  | i x => exact e.trans h
  | t x => exact e.trans h
  | l xs => obtain ⟨a, c, q, s, hx⟩ := h; exact ⟨a, c, e.trans q, s.st k (fun q e => hX _ (hx q e)), hx⟩
  | p xs => obtain ⟨a, c, q, s, hx⟩ := h; exact ⟨a, c, e.trans q, s.st k (fun q e => hX _ (hx q e)), hx⟩
theorem Rec.st {N : Nat} {w w' : World} {X : Nat → Prop} {g o : Nat} {r : List Lf} (h : Rec w X g o r) (k : St N w w') (hX : ∀ k, X k → k ≠ N) (hg : g ≠ N) : Rec w' X g o r := by
  induction r generalizing o with
  | nil => trivial
  | cons f r ih => exact ⟨h.1.st k hX hg, ih h.2⟩

/-- a value that stands for a leaf; what lies within lies in blocks of X -/
def Lf.val (W : World) (X : Nat → Prop) : Lf → Value → Prop
  | .b x, v => v = .bool x
  | .i x, v => v = .int .i64 x
  | .t s, v => v = .string s
  | .l xs, v => ∃ a c, v = .slice a xs.length c ∧ Seg W a xs.length c xs ∧ (∀ q, a = some q → X q.block)
  | .p xs, v => ∃ a c, v = .slice a xs.length c ∧ V.Seg W a xs.length c xs ∧ (∀ q, a = some q → X q.block)
theorem Lf.val.st {N : Nat} {w w' : World} {X : Nat → Prop} {f : Lf} {v : Value} (h : f.val w X v) (k : St N w w') (hX : ∀ k, X k → k ≠ N) : f.val w' X v := by
  cases f with
  | b x => exact h
  | i x => exact h
  | t x => exact h
  | l xs => obtain ⟨a, c, q, s, hx⟩ := h; exact ⟨a, c, q, s.st k (fun q e => hX _ (hx q e)), hx⟩
  | p xs => obtain ⟨a, c, q, s, hx⟩ := h; exact ⟨a, c, q, s.st k (fun q e => hX _ (hx q e)), hx⟩
theorem Lf.val.mk {w : World} {X : Nat → Prop} {f : Lf} {v : Value} (h : f.val w X v) {g o : Nat} (hc : w.cell? ⟨g, o, none⟩ = some v) : f.at w X g o := by
  cases f with
  | b x => exact hc.trans (by rw [show v = _ from h])
  | i x => exact hc.trans (by rw [show v = _ from h])
  | t x => exact hc.trans (by rw [show v = _ from h])
  | l xs => obtain ⟨a, c, rfl, s, hx⟩ := h; exact ⟨a, c, hc, s, hx⟩
  | p xs => obtain ⟨a, c, rfl, s, hx⟩ := h; exact ⟨a, c, hc, s, hx⟩
def RVal (W : World) (X : Nat → Prop) : List Lf → List Value → Prop
  | [], [] => True
  | f :: r, v :: vs => f.val W X v ∧ RVal W X r vs
  | _, _ => False
theorem RVal.st {N : Nat} {w w' : World} {X : Nat → Prop} (k : St N w w') (hX : ∀ k, X k → k ≠ N) : ∀ {r : List Lf} {vs : List Value}, RVal w X r vs → RVal w' X r vs
  | [], [], _ => trivial
  | _ :: _, _ :: _, h => ⟨h.1.st k hX, RVal.st k hX h.2⟩
theorem st_cells (N : Nat) : ∀ (vs : List Value) (o : Nat) (w0 w : World), St N w0 w → St N w0 (w.setCells N o vs)
  | [], _, _, _, h => h
  | v :: vs, o, w0, w, h => st_cells N vs (o + 1) w0 _ (h.set o v)
/-- a record is laid by stores, cell by cell -/
theorem Rec.put {X : Nat → Prop} {g : Nat} (hX : ∀ k, X k → k ≠ g) : ∀ (r : List Lf) (vs : List Value) (o : Nat) (W : World), RVal W X r vs → (∀ j, j < vs.length → (W.cell? ⟨g, o + j, none⟩).isSome = true) → Rec (W.setCells g o vs) X g o r
  | [], _, _, _, _, _ => trivial
  | f :: r, [], _, _, h, _ => h.elim
  | f :: r, v :: vs, o, W, h, hc => by
    have h0 := hc 0 (by simp)
    have s1 : St g W (W.setCell ⟨g, o, none⟩ v) := (St.refl g W).set o v
    have e1 : (W.setCells g o (v :: vs)) = (W.setCell ⟨g, o, none⟩ v).setCells g (o + 1) vs := rfl
    rw [e1]
    refine ⟨((h.1.st s1 hX).st (st_cells g vs (o + 1) _ _ (St.refl g _)) hX).mk ?_, Rec.put hX r vs (o + 1) _ (RVal.st s1 hX h.2) fun j hj => ?_⟩
    · rw [World.cell?_setCells_out g vs (o + 1) _ ⟨g, o, none⟩ (fun _ _ => .inl (by show o < o + 1; omega))]
      exact World.cell?_setCell_same' _ _ _ h0
    · have := hc (j + 1) (by simpa using hj)
      obtain ⟨u, hu⟩ := Option.isSome_iff_exists.1 this
      obtain ⟨u', hu'⟩ := cell?_setCell_some (p := ⟨g, o, none⟩) (x := v) hu
      rw [show o + 1 + j = o + (j + 1) by omega, hu']; rfl
theorem RMade.sets {base : Nat} {T : TypeId} {s g n k : Nat} {rs : List (List Lf)} (hs : ∀ r ∈ rs, r.length = s) : ∀ (vs : List Value) (u : Nat) (W : World), k * s ≤ u → RMade W base T s g n k rs → RMade (W.setCells g u vs) base T s g n k rs
  | [], _, _, _, h => h
  | v :: vs, u, W, hu, h => RMade.sets hs vs (u + 1) _ (by omega) (h.set u hu hs v)
/-- the next record is laid -/
theorem RMade.put {W : World} {base : Nat} {T : TypeId} {s g n k : Nat} {rs : List (List Lf)} (h : RMade W base T s g n k rs) (hs : ∀ r ∈ rs, r.length = s) (hk : k < n) (vs : List Value) (hv : vs.length = s) (hr : ∀ hk : k < rs.length, RVal W (fun b => g < b) rs[k] vs) : RMade (W.setCells g (k * s) vs) base T s g n (k + 1) rs :=
  RMade.next (RMade.sets hs vs (k * s) W (Nat.le_refl _) h) fun hk' => Rec.put (fun b hb => by omega) _ vs _ W (hr hk') fun j hj => by
    obtain ⟨v, e, _⟩ := h.cellAt j hk (by omega)
    rw [e]; rfl
end Go.Proofs.Ythjapjbiclkhcaa

/- What the walks say of memory: lists of numbers that are read, and such in memory of their own, no two lists in one block. -/
namespace Go.Proofs.Ythjapjbiclkhcaa
open Go.RowKit
set_option linter.unusedVariables false
set_option maxRecDepth 20000

/-- the entries' limbs, counted -/
def etot (E : Nat → Bool × List Nat) : Nat → Nat
  | 0 => 0
  | n + 1 => etot E n + (E n).2.length
theorem etot_le (E : Nat → Bool × List Nat) {j n : Nat} (h : j < n) : etot E j + (E j).2.length ≤ etot E n := by
  induction n with
  | zero => omega
  | succ n ih =>
    simp only [etot]
    by_cases e : j = n
    · subst e; omega
    · have := ih (by omega); omega
theorem etot_congr {E F : Nat → Bool × List Nat} {n : Nat} (h : ∀ j, j < n → (E j).2.length = (F j).2.length) : etot E n = etot F n := by
  induction n with
  | zero => rfl
  | succ n ih => simp only [etot]; rw [ih (fun j hj => h j (by omega)), h n (by omega)]
/-- what is left of a bound -/
def bleft (L : Int) (n : Nat) : Int := if L < n then -1 else L - n

/-- a number that is read, from this cell on -/
def BAt (W : World) (X : Nat → Prop) (g o : Nat) (e : Bool × List Nat) : Prop := ∃ a c, W.cell? ⟨g, o, none⟩ = some (.bool e.1) ∧ W.cell? ⟨g, o + 1, none⟩ = some (.slice a e.2.length c) ∧ Seg W a e.2.length c e.2 ∧ ∀ q, a = some q → X q.block
theorem BAt.below {W W' : World} {X : Nat → Prop} {g o : Nat} {e : Bool × List Nat} (h : BAt W X g o e) (hg : g < W.heap.size) (hb : Below W.heap.size W W') : BAt W' X g o e := by
  obtain ⟨a, c, h1, h2, h3, h4⟩ := h
  exact ⟨a, c, (hb.cell (p := ⟨g, o, none⟩) hg).trans h1, (hb.cell (p := ⟨g, o + 1, none⟩) hg).trans h2, h3.below hb, h4⟩
/-- a list of numbers that is read -/
def BSeg (W : World) (X : Nat → Prop) (a : Option Addr) (n cap : Nat) (E : Nat → Bool × List Nat) : Prop :=
  n ≤ cap ∧ cap ≤ 9223372036854775807 ∧ (n = 0 ∨ ∃ g o, a = some ⟨g, o, none⟩ ∧ g < W.heap.size ∧ X g ∧ ∀ j, j < n → BAt W X g (o + j * 2) (E j))
theorem BSeg.below {W W' : World} {X : Nat → Prop} {a : Option Addr} {n cap : Nat} {E : Nat → Bool × List Nat} (h : BSeg W X a n cap E) (hb : Below W.heap.size W W') : BSeg W' X a n cap E := by
  obtain ⟨h1, h2, h3⟩ := h
  refine ⟨h1, h2, ?_⟩
  rcases h3 with h3 | ⟨g, o, ha, hg, hx, hc⟩
  · exact .inl h3
  · exact .inr ⟨g, o, ha, Nat.lt_of_lt_of_le hg hb.size, hx, fun j hj => (hc j hj).below hg hb⟩
theorem BSeg.le {W : World} {X : Nat → Prop} {a : Option Addr} {n cap : Nat} {E : Nat → Bool × List Nat} (h : BSeg W X a n cap E) : n ≤ 9223372036854775807 := Nat.le_trans h.1 h.2.1
theorem BSeg.at {W : World} {X : Nat → Prop} {a : Option Addr} {n cap : Nat} {E : Nat → Bool × List Nat} (h : BSeg W X a n cap E) {k : Nat} (hk : k < n) : ∃ g o, a = some ⟨g, o, none⟩ ∧ g < W.heap.size ∧ ∃ b c, W.cell? ⟨g, o + k * 2, none⟩ = some (.bool (E k).1) ∧ W.cell? ⟨g, o + k * 2 + 1, none⟩ = some (.slice b (E k).2.length c) ∧ Seg W b (E k).2.length c (E k).2 := by
  rcases h.2.2 with h0 | ⟨g, o, e, hg, hx, hc⟩
  · omega
  · obtain ⟨b, c, h1, h2, h3, _⟩ := hc k hk
    exact ⟨g, o, e, hg, b, c, h1, h2, h3⟩
theorem BSeg.congr {W : World} {X : Nat → Prop} {a : Option Addr} {n cap : Nat} {E F : Nat → Bool × List Nat} (h : BSeg W X a n cap E) (he : ∀ j, j < n → E j = F j) : BSeg W X a n cap F := by
  obtain ⟨h1, h2, h3⟩ := h
  refine ⟨h1, h2, ?_⟩
  rcases h3 with h3 | ⟨g, o, ha, hg, hx, hc⟩
  · exact .inl h3
  · exact .inr ⟨g, o, ha, hg, hx, fun j hj => by rw [← he j hj]; exact hc j hj⟩
theorem BSeg.mono {W : World} {X Y : Nat → Prop} {a : Option Addr} {n cap : Nat} {E : Nat → Bool × List Nat} (h : BSeg W X a n cap E) (hX : ∀ k, X k → Y k) : BSeg W Y a n cap E := by
  obtain ⟨h1, h2, h3⟩ := h
  refine ⟨h1, h2, ?_⟩
  rcases h3 with h3 | ⟨g, o, ha, hg, hx, hc⟩
  · exact .inl h3
  · refine .inr ⟨g, o, ha, hg, hX _ hx, fun j hj => ?_⟩
    obtain ⟨b, c, q1, q2, q3, q4⟩ := hc j hj
    exact ⟨b, c, q1, q2, q3, fun q e => hX _ (q4 q e)⟩

/-- blocks of P may have turned, and new ones come -/
structure Chg (P : Nat → Prop) (w w' : World) : Prop where
  os : w'.os = w.os
  tape : w'.tape = w.tape
  output : w'.output = w.output
  size : w.heap.size ≤ w'.heap.size
  block : ∀ k, k < w.heap.size → ¬ P k → w'.heap[k]? = w.heap[k]?
theorem Chg.refl (P : Nat → Prop) (w : World) : Chg P w w := ⟨rfl, rfl, rfl, Nat.le_refl _, fun _ _ _ => rfl⟩
theorem Chg.trans {P : Nat → Prop} {a b c : World} (h : Chg P a b) (k : Chg P b c) : Chg P a c :=
  ⟨k.os.trans h.os, k.tape.trans h.tape, k.output.trans h.output, Nat.le_trans h.size k.size, fun j hj hn => (k.block j (Nat.lt_of_lt_of_le hj h.size) hn).trans (h.block j hj hn)⟩
theorem Chg.grown {P : Nat → Prop} {a b : World} {r : Option Nat} (h : a.grownBy b r) (hr : ∀ k, r = some k → P k) : Chg P a b :=
  ⟨h.os, h.tape, h.output, h.size, fun k hk hn => h.block k hk (fun e => hn (hr k e.symm))⟩
theorem Chg.below {P : Nat → Prop} {a b : World} (h : Below a.heap.size a b) : Chg P a b := ⟨h.os, h.tape, h.output, h.size, fun k hk _ => h.block k hk⟩
theorem Chg.drew {P : Nat → Prop} {a w : World} (h : Chg P a w) : Chg P a w.drew := ⟨h.os, h.tape, h.output, h.size, h.block⟩
theorem Chg.set {P : Nat → Prop} {a w : World} (h : Chg P a w) {b u : Nat} (hp : P b) (v : Value) : Chg P a (w.setCell ⟨b, u, none⟩ v) :=
  h.trans (Chg.grown (St.grown ((St.refl b w).set u v)) (fun k e => by cases e; exact hp))
theorem Chg.alloc {P : Nat → Prop} {a w : World} (h : Chg P a w) (o : Obj) : Chg P a (w.alloc o) := h.trans (Chg.below (bl_alloc (bl_refl w) o))
theorem Chg.cell {P : Nat → Prop} {w w' : World} (h : Chg P w w') {p : Addr} (hl : p.block < w.heap.size) (hp : ¬ P p.block) : w'.cell? p = w.cell? p := World.cell?_of_block (h.block p.block hl hp)
theorem Chg.frozen {P : Nat → Prop} {w w' : World} (h : Chg P w w') {p : Addr} (hl : p.block < w.heap.size) (hp : ¬ P p.block) : w'.frozen? p = w.frozen? p := World.frozen?_of_block (h.block p.block hl hp)
theorem Chg.heap {P : Nat → Prop} {w w' : World} (h : Chg P w w') {b : Nat} {o : Obj} (hb : w.heap[b]? = some o) (hp : ¬ P b) : w'.heap[b]? = some o := (h.block b (hlt hb) hp).trans hb
/-- what lies below is as it was -/
theorem Chg.keep {P : Nat → Prop} {B : Nat} {a w w' : World} (h : Below B a w) (k : Chg P w w') (hP : ∀ k, P k → B ≤ k) (hs : B ≤ w.heap.size) : Below B a w' :=
  h.trans ⟨k.os, k.tape, k.output, k.size, fun j hj => k.block j (Nat.lt_of_lt_of_le hj hs) (fun hp => by have := hP j hp; omega)⟩
theorem Seg.chg {P : Nat → Prop} {w w' : World} {a : Option Addr} {n cap : Nat} {xs : List Nat} (h : Seg w a n cap xs) (k : Chg P w w') (hp : ∀ q, a = some q → ¬ P q.block) : Seg w' a n cap xs := by
  obtain ⟨h1, h2, h3, h4, h5⟩ := h
  refine ⟨h1, h2, h3, h4, ?_⟩
  rcases h5 with h5 | ⟨g, o, ha, hg, hc⟩
  · exact .inl h5
  · exact .inr ⟨g, o, ha, Nat.lt_of_lt_of_le hg k.size, fun j hj => (World.cell?_of_block (a := ⟨g, o + j, none⟩) (k.block g hg (hp _ ha))).trans (hc j hj)⟩
theorem BSeg.chg {P X : Nat → Prop} {w w' : World} {a : Option Addr} {n cap : Nat} {E : Nat → Bool × List Nat} (h : BSeg w X a n cap E) (k : Chg P w w') (hp : ∀ b, X b → ¬ P b) : BSeg w' X a n cap E := by
  obtain ⟨h1, h2, h3⟩ := h
  refine ⟨h1, h2, ?_⟩
  rcases h3 with h3 | ⟨g, o, ha, hg, hx, hc⟩
  · exact .inl h3
  · refine .inr ⟨g, o, ha, Nat.lt_of_lt_of_le hg k.size, hx, fun j hj => ?_⟩
    obtain ⟨b, c, q1, q2, q3, q4⟩ := hc j hj
    exact ⟨b, c, (World.cell?_of_block (a := ⟨g, o + j * 2, none⟩) (k.block g hg (hp _ hx))).trans q1, (World.cell?_of_block (a := ⟨g, o + j * 2 + 1, none⟩) (k.block g hg (hp _ hx))).trans q2, q3.chg k (fun q e => hp _ (q4 q e)), q4⟩

theorem addr_ne {g i j : Nat} (h : i ≠ j) : (⟨g, i, none⟩ : Addr) ≠ ⟨g, j, none⟩ := fun e => h (by injection e)
/-- one place of a function turned -/
def upd {α : Type} (f : Nat → α) (i : Nat) (x : α) : Nat → α := fun j => if j = i then x else f j
theorem upd_same {α : Type} (f : Nat → α) (i : Nat) (x : α) : upd f i x i = x := by simp [upd]
theorem upd_ne {α : Type} (f : Nat → α) {i j : Nat} (x : α) (h : j ≠ i) : upd f i x j = f j := by simp [upd, h]

/-- one number of a list in memory of its own -/
def BCell (W : World) (lo g j : Nat) (e : Bool × List Nat) (q : Option Addr × Nat) : Prop :=
  W.cell? ⟨g, j * 2, none⟩ = some (.bool e.1) ∧ W.cell? ⟨g, j * 2 + 1, none⟩ = some (.slice q.1 e.2.length q.2) ∧ Own W lo q.1 e.2.length q.2 e.2 ∧ ∀ x, q.1 = some x → x.block ≠ g
/-- a list of numbers in memory of its own, from lo on: block g; no two lists in one block -/
def BOwn (W : World) (lo g n : Nat) (E : Nat → Bool × List Nat) (A : Nat → Option Addr × Nat) : Prop :=
  lo ≤ g ∧ (∃ cs, W.ownsRow lo 26 2 (.slice (some ⟨g, 0, none⟩) n n) n cs) ∧ (∀ j, j < n → BCell W lo g j (E j) (A j)) ∧ ∀ i j, i < n → j < n → i ≠ j → ∀ x y, (A i).1 = some x → (A j).1 = some y → x.block ≠ y.block
theorem BCell.below {W W' : World} {lo g j : Nat} {e : Bool × List Nat} {q : Option Addr × Nat} (h : BCell W lo g j e q) (hg : g < W.heap.size) (hb : Below W.heap.size W W') : BCell W' lo g j e q := by
  obtain ⟨h1, h2, h3, h4⟩ := h
  exact ⟨(hb.cell (p := ⟨g, j * 2, none⟩) hg).trans h1, (hb.cell (p := ⟨g, j * 2 + 1, none⟩) hg).trans h2, h3.below hb, h4⟩
theorem BOwn.lt {W : World} {lo g n : Nat} {E : Nat → Bool × List Nat} {A : Nat → Option Addr × Nat} (h : BOwn W lo g n E A) : g < W.heap.size := by
  obtain ⟨h0, ⟨cs, h1⟩, _⟩ := h
  exact (h1.lt g rfl).2
theorem BOwn.max {W : World} {lo g n : Nat} {E : Nat → Bool × List Nat} {A : Nat → Option Addr × Nat} (h : BOwn W lo g n E A) : n ≤ 9223372036854775807 := by
  obtain ⟨h0, ⟨cs, h1⟩, _⟩ := h
  rcases h1.2 with ⟨h2, _⟩ | ⟨g', cap', cur, hv, _, _, _, hc, _⟩
  · cases h2
  · cases hv; exact hc
theorem BOwn.below {W W' : World} {lo g n : Nat} {E : Nat → Bool × List Nat} {A : Nat → Option Addr × Nat} (h : BOwn W lo g n E A) (hb : Below W.heap.size W W') : BOwn W' lo g n E A := by
  have hg := h.lt
  obtain ⟨h0, ⟨cs, h1⟩, h2, h3⟩ := h
  exact ⟨h0, ⟨cs, h1.kept (grown_of_below hb) (.inr (by simp [Value.ownBlock]))⟩, fun j hj => (h2 j hj).below hg hb, h3⟩
theorem BOwn.mono {W : World} {lo lo' g n : Nat} {E : Nat → Bool × List Nat} {A : Nat → Option Addr × Nat} (h : BOwn W lo g n E A) (hl : lo' ≤ lo) : BOwn W lo' g n E A := by
  obtain ⟨h0, ⟨cs, h1⟩, h2, h3⟩ := h
  refine ⟨by omega, ⟨cs, ⟨h1.1, ?_⟩⟩, fun j hj => ?_, h3⟩
  · rcases h1.2 with h' | ⟨g', cap', cur, hv, hg, rest⟩
    · exact .inl h'
    · exact .inr ⟨g', cap', cur, hv, by omega, rest⟩
  · obtain ⟨q1, q2, q3, q4⟩ := h2 j hj
    exact ⟨q1, q2, q3.mono hl, q4⟩
theorem BOwn.congr {W : World} {lo g n : Nat} {E F : Nat → Bool × List Nat} {A : Nat → Option Addr × Nat} (h : BOwn W lo g n E A) (he : ∀ j, j < n → E j = F j) : BOwn W lo g n F A := by
  obtain ⟨h0, h1, h2, h3⟩ := h
  exact ⟨h0, h1, fun j hj => by rw [← he j hj]; exact h2 j hj, h3⟩
theorem BOwn.cells {W : World} {lo g n : Nat} {E : Nat → Bool × List Nat} {A : Nat → Option Addr × Nat} (h : BOwn W lo g n E A) {k : Nat} (hk : k < n) : W.cell? ⟨g, k * 2, none⟩ = some (.bool (E k).1) ∧ W.cell? ⟨g, k * 2 + 1, none⟩ = some (.slice (A k).1 (E k).2.length (A k).2) ∧ W.frozen? ⟨g, k * 2, none⟩ = false ∧ W.frozen? ⟨g, k * 2 + 1, none⟩ = false := by
  obtain ⟨h0, ⟨cs, h1⟩, h2, _⟩ := h
  obtain ⟨q1, q2, q3, _⟩ := h2 k hk
  exact ⟨q1, q2, h1.frozenAt _, h1.frozenAt _⟩
/-- the blocks that it lies in -/
def BOwn.blocks (g n : Nat) (A : Nat → Option Addr × Nat) (b : Nat) : Prop := b = g ∨ ∃ j x, j < n ∧ (A j).1 = some x ∧ b = x.block
theorem BOwn.blocks_lt {W : World} {lo g n : Nat} {E : Nat → Bool × List Nat} {A : Nat → Option Addr × Nat} (h : BOwn W lo g n E A) {b : Nat} (hb : BOwn.blocks g n A b) : lo ≤ b ∧ b < W.heap.size := by
  rcases hb with rfl | ⟨j, x, hj, e, rfl⟩
  · exact ⟨h.1, h.lt⟩
  · obtain ⟨q1, q2, q3, _⟩ := h.2.2.1 j hj
    rcases q3.cases with ⟨h0, _⟩ | ⟨g', h0, h1, h2⟩
    · rw [h0] at e; cases e
    · rw [h0] at e; cases e; exact ⟨h1, h2⟩
theorem BOwn.seg {W : World} {lo g n : Nat} {E : Nat → Bool × List Nat} {A : Nat → Option Addr × Nat} (h : BOwn W lo g n E A) : BSeg W (BOwn.blocks g n A) (some ⟨g, 0, none⟩) n n E := by
  refine ⟨Nat.le_refl _, h.max, .inr ⟨g, 0, rfl, h.lt, .inl rfl, fun j hj => ?_⟩⟩
  obtain ⟨q1, q2, q3, q4⟩ := h.2.2.1 j hj
  rw [Nat.zero_add]
  exact ⟨(A j).1, (A j).2, q1, q2, q3.seg, fun q e => .inr ⟨j, q, hj, e, rfl⟩⟩
/-- another place than those that turned -/
theorem BOwn.chg {P : Nat → Prop} {W W' : World} {lo g n : Nat} {E : Nat → Bool × List Nat} {A : Nat → Option Addr × Nat} (h : BOwn W lo g n E A) (k : Chg P W W') (hp : ∀ b, lo ≤ b → ¬ P b) : BOwn W' lo g n E A := by
  have hg := h.lt
  obtain ⟨h0, ⟨cs, h1⟩, h2, h3⟩ := h
  have hgb := k.block g hg (hp g h0)
  refine ⟨h0, ⟨cs, h1.1, ?_⟩, fun j hj => ?_, h3⟩
  · rcases h1.2 with h' | ⟨g', cap', cur, hv, hg', hh, rest⟩
    · exact .inl h'
    · cases hv
      exact .inr ⟨g, _, cur, rfl, hg', hgb.trans hh, rest⟩
  · obtain ⟨q1, q2, q3, q4⟩ := h2 j hj
    refine ⟨(World.cell?_of_block (a := ⟨g, j * 2, none⟩) hgb).trans q1, (World.cell?_of_block (a := ⟨g, j * 2 + 1, none⟩) hgb).trans q2, ⟨⟨q3.1.1, ?_⟩, q3.2⟩, q4⟩
    rcases q3.1.2 with h' | ⟨g', cap', cur, hv, hg', hh, rest⟩
    · exact .inl h'
    · exact .inr ⟨g', cap', cur, hv, hg', (k.block g' (Array.getElem?_eq_some_iff.1 hh).1 (hp g' hg')).trans hh, rest⟩
theorem own_other {W : World} {lo : Nat} {a : Option Addr} {n c : Nat} {xs : List Nat} (h : Own W lo a n c xs) {g u : Nat} (hne : ∀ x, a = some x → x.block ≠ g) (v : Value) : Own (W.setCell ⟨g, u, none⟩ v) lo a n c xs := by
  refine h.kept (St.grown ((St.refl g W).set u v)) ?_
  rcases h.cases with ⟨h0, _⟩ | ⟨b, h0, _⟩
  · subst h0; exact .inl rfl
  · subst h0; exact .inr (by simp only [Value.ownBlock]; intro e; cases e; exact hne _ rfl rfl)
theorem own_grown_other {W W' : World} {lo : Nat} {a : Option Addr} {n c : Nat} {xs : List Nat} {r : Option Nat} (h : Own W lo a n c xs) (k : W.grownBy W' r) (hne : ∀ x, a = some x → r ≠ some x.block) : Own W' lo a n c xs := by
  refine h.kept k ?_
  rcases h.cases with ⟨h0, _⟩ | ⟨b, h0, _⟩
  · subst h0; exact .inl rfl
  · subst h0; exact .inr (fun e => hne _ rfl e.symm)
/-- a number put in a place -/
theorem BOwn.put {W : World} {lo g n : Nat} {E : Nat → Bool × List Nat} {A : Nat → Option Addr × Nat} (h : BOwn W lo g n E A) {i : Nat} (hi : i < n) (b : Bool) {ys : List Nat} {q : Option Addr} {c : Nat} (ho : Own W lo q ys.length c ys)
    (hne : ∀ x, q = some x → x.block ≠ g) (hap : ∀ j, j < n → j ≠ i → ∀ x y, q = some x → (A j).1 = some y → x.block ≠ y.block) :
    BOwn ((W.setCell ⟨g, i * 2, none⟩ (.bool b)).setCell ⟨g, i * 2 + 1, none⟩ (.slice q ys.length c)) lo g n (upd E i (b, ys)) (upd A i (q, c)) := by
  obtain ⟨h0, ⟨cs, h1⟩, h2, h3⟩ := h
  have hlt : ∀ j, j < n → ∀ x, (A j).1 = some x → x.block ≠ g := fun j hj => (h2 j hj).2.2.2
  refine ⟨h0, ⟨_, ((h1.stored (i * 2) (.bool b)).1.stored (i * 2 + 1) (.slice q ys.length c)).1⟩, fun j hj => ?_, ?_⟩
  · by_cases e : j = i
    · subst e
      rw [upd_same, upd_same]
      obtain ⟨q1, q2, q3, q4⟩ := h2 j hj
      refine ⟨?_, ?_, own_other (own_other ho hne _) hne _, hne⟩
      · rw [World.cell?_setCell_other _ _ _ _ (addr_ne (by omega))]
        exact World.cell?_setCell_same' _ _ _ (by rw [q1]; rfl)
      · refine World.cell?_setCell_same' _ _ _ ?_
        rw [World.cell?_setCell_other _ _ _ _ (addr_ne (by omega)), q2]; rfl
    · rw [upd_ne _ _ e, upd_ne _ _ e]
      obtain ⟨q1, q2, q3, q4⟩ := h2 j hj
      refine ⟨?_, ?_, own_other (own_other q3 q4 _) q4 _, q4⟩
      · rw [World.cell?_setCell_other _ _ _ _ (addr_ne (by omega)), World.cell?_setCell_other _ _ _ _ (addr_ne (by omega))]; exact q1
      · rw [World.cell?_setCell_other _ _ _ _ (addr_ne (by omega)), World.cell?_setCell_other _ _ _ _ (addr_ne (by omega))]; exact q2
  · intro u v hu hv huv x y hx hy
    by_cases e1 : u = i
    · subst e1
      rw [upd_same] at hx
      rw [upd_ne _ _ (fun e => huv e.symm)] at hy
      exact hap v hv (fun e => huv e.symm) x y hx hy
    · rw [upd_ne _ _ e1] at hx
      by_cases e2 : v = i
      · subst e2
        rw [upd_same] at hy
        exact fun e => hap u hu e1 y x hy hx e.symm
      · rw [upd_ne _ _ e2] at hy
        exact h3 u v hu hv huv x y hx hy
/-- a number of newer memory put in a place -/
theorem BOwn.fresh {W W' : World} {lo g n : Nat} {E : Nat → Bool × List Nat} {A : Nat → Option Addr × Nat} (h : BOwn W lo g n E A) (hb : Below W.heap.size W W') {i : Nat} (hi : i < n) (b : Bool) {ys : List Nat} {q : Option Addr} {c : Nat} (ho : Own W' W.heap.size q ys.length c ys) :
    BOwn ((W'.setCell ⟨g, i * 2, none⟩ (.bool b)).setCell ⟨g, i * 2 + 1, none⟩ (.slice q ys.length c)) lo g n (upd E i (b, ys)) (upd A i (q, c)) := by
  have hlo : ∀ x, q = some x → W.heap.size ≤ x.block := fun x e => ho.inb x e
  refine (h.below hb).put hi b (ho.mono (Nat.le_of_lt (Nat.lt_of_le_of_lt h.1 h.lt))) (fun x e => ?_) (fun j hj _ x y e e2 => ?_)
  · have := hlo x e; have := h.lt; omega
  · have := hlo x e
    have := (h.blocks_lt (.inr ⟨j, y, hj, e2, rfl⟩)).2
    omega
/-- its sign alone -/
theorem BOwn.sign {W : World} {lo g n : Nat} {E : Nat → Bool × List Nat} {A : Nat → Option Addr × Nat} (h : BOwn W lo g n E A) {i : Nat} (hi : i < n) (b : Bool) :
    BOwn (W.setCell ⟨g, i * 2, none⟩ (.bool b)) lo g n (upd E i (b, (E i).2)) A := by
  obtain ⟨h0, ⟨cs, h1⟩, h2, h3⟩ := h
  refine ⟨h0, ⟨_, (h1.stored (i * 2) (.bool b)).1⟩, fun j hj => ?_, h3⟩
  obtain ⟨q1, q2, q3, q4⟩ := h2 j hj
  by_cases e : j = i
  · subst e
    rw [upd_same]
    refine ⟨World.cell?_setCell_same' _ _ _ (by rw [q1]; rfl), ?_, own_other q3 q4 _, q4⟩
    rw [World.cell?_setCell_other _ _ _ _ (addr_ne (by omega))]; exact q2
  · rw [upd_ne _ _ e]
    refine ⟨?_, ?_, own_other q3 q4 _, q4⟩
    · rw [World.cell?_setCell_other _ _ _ _ (addr_ne (by omega))]; exact q1
    · rw [World.cell?_setCell_other _ _ _ _ (addr_ne (by omega))]; exact q2
/-- its limbs alone -/
theorem BOwn.limbs {W W' : World} {lo g n : Nat} {E : Nat → Bool × List Nat} {A : Nat → Option Addr × Nat} (h : BOwn W lo g n E A) {i : Nat} (hi : i < n) {ys : List Nat} (hl : ys.length = (E i).2.length)
    (ho : Own W' lo (A i).1 (E i).2.length (A i).2 ys) (hg : W.grownBy W' (Value.slice (A i).1 (E i).2.length (A i).2).ownBlock) : BOwn W' lo g n (upd E i ((E i).1, ys)) A := by
  have hgl := h.lt
  obtain ⟨h0, ⟨cs, h1⟩, h2, h3⟩ := h
  have hr : ∀ b, (Value.slice (A i).1 (E i).2.length (A i).2).ownBlock = some b → ∃ x, (A i).1 = some x ∧ b = x.block := by
    intro b e
    cases hA : (A i).1 with
    | none => rw [hA] at e; cases e
    | some x => rw [hA] at e; simp only [Value.ownBlock] at e; cases e; exact ⟨x, rfl, rfl⟩
  have hgne : some g ≠ (Value.slice (A i).1 (E i).2.length (A i).2).ownBlock := by
    intro e
    obtain ⟨x, hx, e2⟩ := hr g e.symm
    exact (h2 i hi).2.2.2 x hx e2.symm
  have hgb := hg.block g hgl hgne
  refine ⟨h0, ⟨cs, h1.1, ?_⟩, fun j hj => ?_, h3⟩
  · rcases h1.2 with h' | ⟨g', cap', cur, hv, hg', hh, rest⟩
    · exact .inl h'
    · cases hv
      exact .inr ⟨g, _, cur, rfl, hg', hgb.trans hh, rest⟩
  · obtain ⟨q1, q2, q3, q4⟩ := h2 j hj
    have p1 := (World.cell?_of_block (a := ⟨g, j * 2, none⟩) hgb).trans q1
    have p2 := (World.cell?_of_block (a := ⟨g, j * 2 + 1, none⟩) hgb).trans q2
    by_cases e : j = i
    · subst e
      rw [upd_same]
      exact ⟨p1, by rw [hl]; exact p2, by rw [hl]; exact ho, q4⟩
    · rw [upd_ne _ _ e]
      refine ⟨p1, p2, own_grown_other q3 hg ?_, q4⟩
      intro x hx e2
      obtain ⟨y, hy, e3⟩ := hr _ e2
      exact h3 i j hi hj (fun e' => e e'.symm) y x hy hx e3.symm
/-- one that is made: noughts -/
theorem made_at (z0 z1 : Value) (n i : Nat) (h : i < n) : (madeCells #[z0, z1] n).toList[i]? = some (if i % 2 = 0 then z0 else z1) := by
  unfold madeCells
  simp only [Array.toList_map, Array.toList_range, List.getElem?_map, List.getElem?_range h, Option.map_some]
  have : i % 2 < 2 := Nat.mod_lt _ (by decide)
  by_cases e : i % 2 = 0
  · simp [e]
  · have : i % 2 = 1 := by omega
    simp [this]
theorem BOwn.made {W : World} {lo g n : Nat} (h : W.ownsRow lo 26 2 (.slice (some ⟨g, 0, none⟩) n n) n (madeCells #[Value.bool false, Value.slice none 0 0] (n * 2)).toList) : BOwn W lo g n (fun _ => (false, [])) (fun _ => (none, 0)) := by
  refine ⟨(h.lt g rfl).1, ⟨_, h⟩, fun j hj => ?_, fun i j _ _ _ x y e => by cases e⟩
  refine ⟨?_, ?_, Own.nil _ _, fun x e => by cases e⟩
  · rw [h.cellAt (j * 2) (by omega), made_at _ _ _ _ (by omega), if_pos (by omega)]
  · rw [h.cellAt (j * 2 + 1) (by omega), made_at _ _ _ _ (by omega), if_neg (by omega)]; rfl
end Go.Proofs.Ythjapjbiclkhcaa
