/- My texts Ob, Tr, in this order. -/
import Derived.Test.YtlknhheafmifnaaGreatDoorPk01
import Derived.Lib.Builder
/- What the walks say of memory: boxes by their heap entries; stores into one block. -/
namespace Go.Proofs.YtlknhheafmifnaaGreatDoor
open Go.RowKit
set_option linter.unusedVariables false
set_option maxRecDepth 20000

theorem hset {w : World} {b : Nat} {cs : Array Value} {T : TypeId} (hb : w.heap[b]? = some (.cells cs T (0, 0))) (i : Nat) (v : Value) :
    (w.setCell ⟨b, i, none⟩ v).heap[b]? = some (.cells (cs.setIfInBounds i v) T (0, 0)) := by
  simp [World.setCell, Array.getElem?_modify, hb]
theorem hlt {w : World} {b : Nat} {o : Obj} (hb : w.heap[b]? = some o) : b < w.heap.size := (Array.getElem?_eq_some_iff.1 hb).1
theorem hnew (w : World) (o : Obj) : (w.alloc o).heap[w.heap.size]? = some o := by
  show (w.heap.push o)[w.heap.size]? = _
  simp
theorem hnewer {w : World} {b : Nat} {o : Obj} (hb : w.heap[b]? = some o) (o' : Obj) : (w.alloc o').heap[b]? = some o := by
  show (w.heap.push o')[b]? = _
  rw [Array.getElem?_push, if_neg (by have := hlt hb; omega)]; exact hb
theorem hbel {B : Nat} {w w' : World} {b : Nat} {o : Obj} (hb : w.heap[b]? = some o) (h : Below B w w') (hB : b < B) : w'.heap[b]? = some o := (h.block b hB).trans hb

/-- stores into one block -/
structure St (N : Nat) (w w' : World) : Prop where
  os : w'.os = w.os
  tape : w'.tape = w.tape
  output : w'.output = w.output
  size : w'.heap.size = w.heap.size
  block : ∀ k, k ≠ N → w'.heap[k]? = w.heap[k]?
theorem St.refl (N : Nat) (w : World) : St N w w := ⟨rfl, rfl, rfl, rfl, fun _ _ => rfl⟩
theorem St.set {N : Nat} {w w' : World} (h : St N w w') (o : Nat) (v : Value) : St N w (w'.setCell ⟨N, o, none⟩ v) :=
  ⟨h.os, h.tape, h.output, by simp [World.setCell, h.size], fun k hk => (Below.heap_setCell _ _ _ _ hk).trans (h.block k hk)⟩
theorem St.below {N B : Nat} {a w w' : World} (h : Below B a w) (k : St N w w') (hN : B ≤ N) : Below B a w' :=
  h.trans ⟨k.os, k.tape, k.output, Nat.le_of_eq k.size.symm, fun i hi => k.block i (by omega)⟩
theorem St.heap {N : Nat} {w w' : World} (k : St N w w') {b : Nat} {o : Obj} (hb : w.heap[b]? = some o) (hN : b ≠ N) : w'.heap[b]? = some o := (k.block b hN).trans hb
theorem St.cell {N : Nat} {w w' : World} (k : St N w w') {p : Addr} (hp : p.block ≠ N) : w'.cell? p = w.cell? p := World.cell?_of_block (k.block p.block hp)
theorem St.frozen {N : Nat} {w w' : World} (k : St N w w') {p : Addr} (hp : p.block ≠ N) : w'.frozen? p = w.frozen? p := World.frozen?_of_block (k.block p.block hp)
theorem St.grown {N : Nat} {w w' : World} (h : St N w w') : w.grownBy w' (some N) := ⟨h.os, h.tape, h.output, Nat.le_of_eq h.size.symm, fun k _ hn => h.block k (fun e => hn (by rw [e]))⟩
theorem Own.st {N : Nat} {w w' : World} {base : Nat} {a : Option Addr} {n c : Nat} {xs : List Nat} (h : Own w base a n c xs) (ho : St N w w') (hB : N < base) : Own w' base a n c xs := by
  refine h.kept ho.grown ?_
  cases hk : (Value.slice a n c).ownBlock with
  | none => exact .inl rfl
  | some k => refine .inr fun e => ?_; have := (World.ownsRow.lt h.1 k hk).1; cases e; omega
theorem V.Own.st {N : Nat} {w w' : World} {base : Nat} {a : Option Addr} {n c : Nat} {xs : List Int} (h : V.Own w base a n c xs) (ho : St N w w') (hB : N < base) : V.Own w' base a n c xs := by
  refine h.kept ho.grown ?_
  cases hk : (Value.slice a n c).ownBlock with
  | none => exact .inl rfl
  | some k => refine .inr fun e => ?_; have := (World.ownsRow.lt h k hk).1; cases e; omega
theorem Own.inb {w : World} {base : Nat} {a : Option Addr} {n c : Nat} {xs : List Nat} (h : Own w base a n c xs) : ∀ q, a = some q → base ≤ q.block := by
  intro q e
  rcases h.cases with ⟨h0, _⟩ | ⟨g, h0, h1, _⟩
  · rw [h0] at e; cases e
  · rw [h0] at e; cases e; exact h1
theorem V.Own.inb {w : World} {base : Nat} {a : Option Addr} {n c : Nat} {xs : List Int} (h : V.Own w base a n c xs) : ∀ q, a = some q → base ≤ q.block := by
  intro q e
  rcases h.cases with ⟨h0, _⟩ | ⟨g, h0, h1, _⟩
  · rw [h0] at e; cases e
  · rw [h0] at e; cases e; exact h1
theorem Seg.st {N : Nat} {w w' : World} {a : Option Addr} {n cap : Nat} {xs : List Nat} (h : Seg w a n cap xs) (k : St N w w') (hp : ∀ q, a = some q → q.block ≠ N) : Seg w' a n cap xs := by
  obtain ⟨h1, h2, h3, h4, h5⟩ := h
  refine ⟨h1, h2, h3, h4, ?_⟩
  rcases h5 with h5 | ⟨g, o, ha, hg, hc⟩
  · exact .inl h5
  · exact .inr ⟨g, o, ha, by rw [k.size]; exact hg, fun j hj => (k.cell (p := ⟨g, o + j, none⟩) (show g ≠ N from hp ⟨g, o, none⟩ ha)).trans (hc j hj)⟩
theorem V.Seg.st {N : Nat} {w w' : World} {a : Option Addr} {n cap : Nat} {xs : List Int} (h : V.Seg w a n cap xs) (k : St N w w') (hp : ∀ q, a = some q → q.block ≠ N) : V.Seg w' a n cap xs := by
  obtain ⟨h1, h2, h3, h5⟩ := h
  refine ⟨h1, h2, h3, ?_⟩
  rcases h5 with h5 | ⟨g, o, ha, hg, hc⟩
  · exact .inl h5
  · exact .inr ⟨g, o, ha, by rw [k.size]; exact hg, fun j hj => (k.cell (p := ⟨g, o + j, none⟩) (show g ≠ N from hp ⟨g, o, none⟩ ha)).trans (hc j hj)⟩
theorem Lf.at.st {N : Nat} {w w' : World} {X : Nat → Prop} {g o : Nat} {f : Lf} (h : f.at w X g o) (k : St N w w') (hX : ∀ k, X k → k ≠ N) (hg : g ≠ N) : f.at w' X g o := by
  have e := k.cell (p := ⟨g, o, none⟩) hg
  cases f with
  | b x => exact e.trans h
  | i x => exact e.trans h
  | t x => exact e.trans h
  | l xs => obtain ⟨a, c, q, s, hx⟩ := h; exact ⟨a, c, e.trans q, s.st k (fun q e => hX _ (hx q e)), hx⟩
  | p xs => obtain ⟨a, c, q, s, hx⟩ := h; exact ⟨a, c, e.trans q, s.st k (fun q e => hX _ (hx q e)), hx⟩
theorem Rec.st {N : Nat} {w w' : World} {X : Nat → Prop} {g o : Nat} {r : List Lf} (h : Rec w X g o r) (k : St N w w') (hX : ∀ k, X k → k ≠ N) (hg : g ≠ N) : Rec w' X g o r := by
  induction r generalizing o with
  | nil => trivial
  | cons f r ih => exact ⟨h.1.st k hX hg, ih h.2⟩

/-- a value that stands for a leaf; what lies within lies in blocks of X -/
def Lf.val (W : World) (X : Nat → Prop) : Lf → Value → Prop
  | .b x, v => v = .bool x
  | .i x, v => v = .int .i64 x
  | .t s, v => v = .string s
  | .l xs, v => ∃ a c, v = .slice a xs.length c ∧ Seg W a xs.length c xs ∧ (∀ q, a = some q → X q.block)
  | .p xs, v => ∃ a c, v = .slice a xs.length c ∧ V.Seg W a xs.length c xs ∧ (∀ q, a = some q → X q.block)
theorem Lf.val.st {N : Nat} {w w' : World} {X : Nat → Prop} {f : Lf} {v : Value} (h : f.val w X v) (k : St N w w') (hX : ∀ k, X k → k ≠ N) : f.val w' X v := by
  cases f with
  | b x => exact h
  | i x => exact h
  | t x => exact h
  | l xs => obtain ⟨a, c, q, s, hx⟩ := h; exact ⟨a, c, q, s.st k (fun q e => hX _ (hx q e)), hx⟩
  | p xs => obtain ⟨a, c, q, s, hx⟩ := h; exact ⟨a, c, q, s.st k (fun q e => hX _ (hx q e)), hx⟩
theorem Lf.val.mk {w : World} {X : Nat → Prop} {f : Lf} {v : Value} (h : f.val w X v) {g o : Nat} (hc : w.cell? ⟨g, o, none⟩ = some v) : f.at w X g o := by
  cases f with
  | b x => exact hc.trans (by rw [show v = _ from h])
  | i x => exact hc.trans (by rw [show v = _ from h])
  | t x => exact hc.trans (by rw [show v = _ from h])
  | l xs => obtain ⟨a, c, rfl, s, hx⟩ := h; exact ⟨a, c, hc, s, hx⟩
  | p xs => obtain ⟨a, c, rfl, s, hx⟩ := h; exact ⟨a, c, hc, s, hx⟩
def RVal (W : World) (X : Nat → Prop) : List Lf → List Value → Prop
  | [], [] => True
  | f :: r, v :: vs => f.val W X v ∧ RVal W X r vs
  | _, _ => False
theorem RVal.st {N : Nat} {w w' : World} {X : Nat → Prop} (k : St N w w') (hX : ∀ k, X k → k ≠ N) : ∀ {r : List Lf} {vs : List Value}, RVal w X r vs → RVal w' X r vs
  | [], [], _ => trivial
  | _ :: _, _ :: _, h => ⟨h.1.st k hX, RVal.st k hX h.2⟩
theorem st_cells (N : Nat) : ∀ (vs : List Value) (o : Nat) (w0 w : World), St N w0 w → St N w0 (w.setCells N o vs)
  | [], _, _, _, h => h
  | v :: vs, o, w0, w, h => st_cells N vs (o + 1) w0 _ (h.set o v)
/-- a record is laid by stores, cell by cell -/
theorem Rec.put {X : Nat → Prop} {g : Nat} (hX : ∀ k, X k → k ≠ g) : ∀ (r : List Lf) (vs : List Value) (o : Nat) (W : World), RVal W X r vs → (∀ j, j < vs.length → (W.cell? ⟨g, o + j, none⟩).isSome = true) → Rec (W.setCells g o vs) X g o r
  | [], _, _, _, _, _ => trivial
  | f :: r, [], _, _, h, _ => h.elim
  | f :: r, v :: vs, o, W, h, hc => by
    have h0 := hc 0 (by simp)
    have s1 : St g W (W.setCell ⟨g, o, none⟩ v) := (St.refl g W).set o v
    have e1 : (W.setCells g o (v :: vs)) = (W.setCell ⟨g, o, none⟩ v).setCells g (o + 1) vs := rfl
    rw [e1]
    refine ⟨((h.1.st s1 hX).st (st_cells g vs (o + 1) _ _ (St.refl g _)) hX).mk ?_, Rec.put hX r vs (o + 1) _ (RVal.st s1 hX h.2) fun j hj => ?_⟩
    · rw [World.cell?_setCells_out g vs (o + 1) _ ⟨g, o, none⟩ (fun _ _ => .inl (by show o < o + 1; omega))]
      exact World.cell?_setCell_same' _ _ _ h0
    · have := hc (j + 1) (by simpa using hj)
      obtain ⟨u, hu⟩ := Option.isSome_iff_exists.1 this
      obtain ⟨u', hu'⟩ := cell?_setCell_some (p := ⟨g, o, none⟩) (x := v) hu
      rw [show o + 1 + j = o + (j + 1) by omega, hu']; rfl
theorem RMade.sets {base : Nat} {T : TypeId} {s g n k : Nat} {rs : List (List Lf)} (hs : ∀ r ∈ rs, r.length = s) : ∀ (vs : List Value) (u : Nat) (W : World), k * s ≤ u → RMade W base T s g n k rs → RMade (W.setCells g u vs) base T s g n k rs
  | [], _, _, _, h => h
  | v :: vs, u, W, hu, h => RMade.sets hs vs (u + 1) _ (by omega) (h.set u hu hs v)
/-- the next record is laid -/
theorem RMade.put {W : World} {base : Nat} {T : TypeId} {s g n k : Nat} {rs : List (List Lf)} (h : RMade W base T s g n k rs) (hs : ∀ r ∈ rs, r.length = s) (hk : k < n) (vs : List Value) (hv : vs.length = s) (hr : ∀ hk : k < rs.length, RVal W (fun b => g < b) rs[k] vs) : RMade (W.setCells g (k * s) vs) base T s g n (k + 1) rs :=
  RMade.next (RMade.sets hs vs (k * s) W (Nat.le_refl _) h) fun hk' => Rec.put (fun b hb => by omega) _ vs _ W (hr hk') fun j hj => by
    obtain ⟨v, e, _⟩ := h.cellAt j hk (by omega)
    rw [e]; rfl
end Go.Proofs.YtlknhheafmifnaaGreatDoor

/- What the walks say of memory: formulas as trees. -/
namespace Go.Proofs.YtlknhheafmifnaaGreatDoor
open Go.RowKit
set_option linter.unusedVariables false
set_option maxRecDepth 20000

/-- a formula -/
inductive Ex where
  | mk (kind : Int) (n : Bool) (xs : List Nat) (m : Bool) (ys : List Nat) (nm : ByteArray) (p q : Int) (kids : List Ex)
def Ex.ks : Ex → List Ex
  | .mk _ _ _ _ _ _ _ _ ks => ks
/-- what it holds of its own -/
def Ex.own : Ex → List Lf
  | .mk k n xs m ys nm p q _ => [.i k, .b n, .l xs, .b m, .l ys, .t nm, .i p, .i q]
mutual
/-- the size that the law counts -/
def Ex.sz : Ex → Nat
  | .mk k n xs m ys nm p q ks => xs.length + ys.length + nm.size + ksz ks
def ksz : List Ex → Nat
  | [] => 0
  | e :: r => 1 + e.sz + ksz r
end
mutual
/-- how many it is, itself too -/
def Ex.cnt : Ex → Nat
  | .mk _ _ _ _ _ _ _ _ ks => 1 + kcnt ks
def kcnt : List Ex → Nat
  | [] => 0
  | e :: r => e.cnt + kcnt r
end
theorem cnt_ks (e : Ex) : e.cnt = 1 + kcnt e.ks := by cases e; rw [Ex.cnt]; rfl
theorem kcnt_mem {e : Ex} {ks : List Ex} (h : e ∈ ks) : e.cnt ≤ kcnt ks := by
  induction ks with
  | nil => cases h
  | cons u r ih =>
    rw [kcnt]
    rcases List.mem_cons.1 h with rfl | h
    · omega
    · have := ih h; omega
theorem ksz_mem {e : Ex} {ks : List Ex} (h : e ∈ ks) : 1 + e.sz ≤ ksz ks := by
  induction ks with
  | nil => cases h
  | cons u r ih =>
    rw [ksz]
    rcases List.mem_cons.1 h with rfl | h
    · omega
    · have := ih h; omega
theorem ksz_len (ks : List Ex) : ks.length ≤ ksz ks := by
  induction ks with
  | nil => exact Nat.zero_le _
  | cons u r ih => rw [ksz]; simp only [List.length_cons]; omega
def kszs : List Ex → Nat
  | [] => 0
  | e :: r => e.sz + kszs r
theorem ksz_eq (ks : List Ex) : ksz ks = ks.length + kszs ks := by
  induction ks with
  | nil => rfl
  | cons u r ih => rw [ksz, kszs, ih]; simp only [List.length_cons]; omega
theorem kszs_take (ks : List Ex) (k : Nat) (h : k < ks.length) : kszs (ks.take (k + 1)) = kszs (ks.take k) + ks[k].sz := by
  induction ks generalizing k with
  | nil => simp at h
  | cons u r ih =>
    cases k with
    | zero => simp [kszs]
    | succ k => simp only [List.take_succ_cons, kszs, List.getElem_cons_succ]; rw [ih k (by simpa using h)]; omega
theorem kszs_mono (ks : List Ex) (k : Nat) (h : k < ks.length) : kszs (ks.take k) + ks[k].sz ≤ kszs ks := by
  rw [← kszs_take ks k h]
  have : ∀ (l : List Ex) (j : Nat), kszs (l.take j) ≤ kszs l := by
    intro l
    induction l with
    | nil => intro j; simp [kszs]
    | cons u r ih => intro j; cases j with
      | zero => simp [kszs]
      | succ j => simp only [List.take_succ_cons, kszs]; have := ih j; omega
  exact this ks (k + 1)

mutual
/-- a formula in the nine cells from here on; what lies within lies in blocks of X -/
def ExAt (W : World) (X : Nat → Prop) (g o : Nat) : Ex → Prop
  | .mk k n xs m ys nm p q ks => Rec W X g o [.i k, .b n, .l xs, .b m, .l ys, .t nm, .i p, .i q] ∧ rwf [.i k, .b n, .l xs, .b m, .l ys, .t nm, .i p, .i q] ∧
    ∃ a c, W.cell? ⟨g, o + 8, none⟩ = some (.slice a ks.length c) ∧ (ks.length ≤ c ∧ c ≤ 9223372036854775807) ∧ (∀ q, a = some q → X q.block) ∧ (ks = [] ∨ ∃ g' o', a = some ⟨g', o', none⟩ ∧ g' < W.heap.size ∧ KsAt W X g' o' ks)
def KsAt (W : World) (X : Nat → Prop) (g o : Nat) : List Ex → Prop
  | [] => True
  | e :: r => ExAt W X g o e ∧ KsAt W X g (o + 9) r
end
theorem KsAt.get {W : World} {X : Nat → Prop} {g : Nat} : ∀ {ks : List Ex} {o : Nat}, KsAt W X g o ks → ∀ j (hj : j < ks.length), ExAt W X g (o + j * 9) ks[j]
  | [], _, _, j, hj => by simp at hj
  | e :: r, o, h, 0, _ => by rw [KsAt] at h; simpa using h.1
  | e :: r, o, h, j + 1, hj => by
    rw [KsAt] at h
    have := KsAt.get h.2 j (by simpa using hj)
    simp only [List.getElem_cons_succ]
    rw [show o + (j + 1) * 9 = o + 9 + j * 9 by omega]
    exact this
theorem KsAt.mk {W : World} {X : Nat → Prop} {g : Nat} : ∀ {ks : List Ex} {o : Nat}, (∀ j (hj : j < ks.length), ExAt W X g (o + j * 9) ks[j]) → KsAt W X g o ks
  | [], _, _ => by rw [KsAt]; trivial
  | e :: r, o, h => by
    rw [KsAt]
    refine ⟨by have := h 0 (by simp); rw [Nat.zero_mul, Nat.add_zero] at this; exact this, KsAt.mk fun j hj => ?_⟩
    have := h (j + 1) (by simpa using hj)
    simp only [List.getElem_cons_succ] at this
    rw [show o + 9 + j * 9 = o + (j + 1) * 9 by omega]
    exact this
mutual
theorem ExAt.turn {W W' : World} {X : Nat → Prop} (hsz : W.heap.size ≤ W'.heap.size) (hc : ∀ (g o : Nat) (f : Lf), (g < W.heap.size ∧ X g) → f.at W X g o → f.at W' X g o) (hc2 : ∀ (g o : Nat) v, (g < W.heap.size ∧ X g) → W.cell? ⟨g, o, none⟩ = some v → W'.cell? ⟨g, o, none⟩ = some v) :
    ∀ (e : Ex) (g o : Nat), g < W.heap.size → X g → ExAt W X g o e → ExAt W' X g o e
  | .mk k n xs m ys nm p q ks, g, o, hg, hx, h => by
    rw [ExAt] at h ⊢
    obtain ⟨h1, h2, a, c, h3, h4, h5, h6⟩ := h
    refine ⟨?_, h2, a, c, hc2 _ _ _ ⟨hg, hx⟩ h3, h4, h5, ?_⟩
    · obtain ⟨t0, t1, t2, t3, t4, t5, t6, t7, _⟩ := h1
      exact ⟨hc _ _ _ ⟨hg, hx⟩ t0, hc _ _ _ ⟨hg, hx⟩ t1, hc _ _ _ ⟨hg, hx⟩ t2, hc _ _ _ ⟨hg, hx⟩ t3, hc _ _ _ ⟨hg, hx⟩ t4, hc _ _ _ ⟨hg, hx⟩ t5, hc _ _ _ ⟨hg, hx⟩ t6, hc _ _ _ ⟨hg, hx⟩ t7, trivial⟩
    · rcases h6 with h6 | ⟨g', o', ha, hg', hk⟩
      · exact .inl h6
      · exact .inr ⟨g', o', ha, Nat.lt_of_lt_of_le hg' hsz, KsAt.turn hsz hc hc2 ks g' o' hg' (h5 _ ha) hk⟩
theorem KsAt.turn {W W' : World} {X : Nat → Prop} (hsz : W.heap.size ≤ W'.heap.size) (hc : ∀ (g o : Nat) (f : Lf), (g < W.heap.size ∧ X g) → f.at W X g o → f.at W' X g o) (hc2 : ∀ (g o : Nat) v, (g < W.heap.size ∧ X g) → W.cell? ⟨g, o, none⟩ = some v → W'.cell? ⟨g, o, none⟩ = some v) :
    ∀ (ks : List Ex) (g o : Nat), g < W.heap.size → X g → KsAt W X g o ks → KsAt W' X g o ks
  | [], _, _, _, _, _ => by rw [KsAt]; trivial
  | e :: r, g, o, hg, hx, h => by
    rw [KsAt] at h ⊢
    exact ⟨ExAt.turn hsz hc hc2 e g o hg hx h.1, KsAt.turn hsz hc hc2 r g (o + 9) hg hx h.2⟩
end
mutual
theorem ExAt.mono {W : World} {X Y : Nat → Prop} (hX : ∀ k, X k → Y k) : ∀ (e : Ex) (g o : Nat), ExAt W X g o e → ExAt W Y g o e
  | .mk k n xs m ys nm p q ks, g, o, h => by
    rw [ExAt] at h ⊢
    obtain ⟨h1, h2, a, c, h3, h4, h5, h6⟩ := h
    refine ⟨h1.mono hX, h2, a, c, h3, h4, fun q e => hX _ (h5 q e), ?_⟩
    rcases h6 with h6 | ⟨g', o', ha, hg', hk⟩
    · exact .inl h6
    · exact .inr ⟨g', o', ha, hg', KsAt.mono hX ks g' o' hk⟩
theorem KsAt.mono {W : World} {X Y : Nat → Prop} (hX : ∀ k, X k → Y k) : ∀ (ks : List Ex) (g o : Nat), KsAt W X g o ks → KsAt W Y g o ks
  | [], _, _, _ => by rw [KsAt]; trivial
  | e :: r, g, o, h => by
    rw [KsAt] at h ⊢
    exact ⟨ExAt.mono hX e g o h.1, KsAt.mono hX r g (o + 9) h.2⟩
end
/-- kids in a list that is read -/
def KSeg (W : World) (X : Nat → Prop) (a : Option Addr) (n cap : Nat) (ks : List Ex) : Prop :=
  ks.length = n ∧ n ≤ cap ∧ cap ≤ 9223372036854775807 ∧ (∀ q, a = some q → X q.block) ∧ (n = 0 ∨ ∃ g o, a = some ⟨g, o, none⟩ ∧ g < W.heap.size ∧ KsAt W X g o ks)
theorem KSeg.at {W : World} {X : Nat → Prop} {a : Option Addr} {n cap : Nat} {ks : List Ex} (h : KSeg W X a n cap ks) {k : Nat} (hk : k < ks.length) : ∃ g o, a = some ⟨g, o, none⟩ ∧ g < W.heap.size ∧ X g ∧ ExAt W X g (o + k * 9) ks[k] := by
  obtain ⟨h1, h2, h3, h4, h5⟩ := h
  rcases h5 with h0 | ⟨g, o, e, hg, hc⟩
  · omega
  · exact ⟨g, o, e, hg, h4 _ e, hc.get k hk⟩
theorem ExAt.below {W W' : World} {X : Nat → Prop} {e : Ex} {g o : Nat} (h : ExAt W X g o e) (hg : g < W.heap.size) (hx : X g) (hb : Below W.heap.size W W') : ExAt W' X g o e :=
  ExAt.turn hb.size (fun _ _ _ h1 h2 => h2.below h1.1 hb) (fun _ _ _ h1 h2 => (hb.cell (p := ⟨_, _, none⟩) h1.1).trans h2) e g o hg hx h
theorem KSeg.below {W W' : World} {X : Nat → Prop} {a : Option Addr} {n cap : Nat} {ks : List Ex} (h : KSeg W X a n cap ks) (hb : Below W.heap.size W W') : KSeg W' X a n cap ks := by
  obtain ⟨h1, h2, h3, h4, h5⟩ := h
  refine ⟨h1, h2, h3, h4, ?_⟩
  rcases h5 with h5 | ⟨g, o, ha, hg, hk⟩
  · exact .inl h5
  · exact .inr ⟨g, o, ha, Nat.lt_of_lt_of_le hg hb.size, KsAt.turn hb.size (fun _ _ _ h1 h2 => h2.below h1.1 hb) (fun _ _ _ h1 h2 => (hb.cell (p := ⟨_, _, none⟩) h1.1).trans h2) ks g o hg (h4 _ ha) hk⟩
theorem KSeg.st {N : Nat} {W W' : World} {X : Nat → Prop} {a : Option Addr} {n cap : Nat} {ks : List Ex} (h : KSeg W X a n cap ks) (hb : St N W W') (hX : ∀ k, X k → k ≠ N) : KSeg W' X a n cap ks := by
  obtain ⟨h1, h2, h3, h4, h5⟩ := h
  refine ⟨h1, h2, h3, h4, ?_⟩
  rcases h5 with h5 | ⟨g, o, ha, hg, hk⟩
  · exact .inl h5
  · exact .inr ⟨g, o, ha, by rw [hb.size]; exact hg, KsAt.turn (Nat.le_of_eq hb.size.symm) (fun _ _ _ h1 h2 => h2.st hb hX (hX _ h1.2)) (fun _ _ _ h1 h2 => (hb.cell (p := ⟨_, _, none⟩) (hX _ h1.2)).trans h2) ks g o hg (h4 _ ha) hk⟩
theorem KSeg.mono {W : World} {X Y : Nat → Prop} {a : Option Addr} {n cap : Nat} {ks : List Ex} (h : KSeg W X a n cap ks) (hX : ∀ k, X k → Y k) : KSeg W Y a n cap ks := by
  obtain ⟨h1, h2, h3, h4, h5⟩ := h
  refine ⟨h1, h2, h3, fun q e => hX _ (h4 q e), ?_⟩
  rcases h5 with h5 | ⟨g, o, ha, hg, hk⟩
  · exact .inl h5
  · exact .inr ⟨g, o, ha, hg, KsAt.mono hX ks g o hk⟩
theorem KSeg.le {W : World} {X : Nat → Prop} {a : Option Addr} {n cap : Nat} {ks : List Ex} (h : KSeg W X a n cap ks) : n ≤ 9223372036854775807 := Nat.le_trans h.2.1 h.2.2.1
/-- a formula in a block below what lies within -/
theorem ExAt.belowG {W W' : World} {X : Nat → Prop} {e : Ex} {g o : Nat} (h : ExAt W X g o e) (hg : g < W.heap.size) (hb : Below W.heap.size W W') : ExAt W' X g o e := by
  obtain ⟨k, n, xs, m, ys, nm, p, q, ks⟩ := e
  rw [ExAt] at h ⊢
  obtain ⟨h1, h2, a, c, h3, h4, h5, h6⟩ := h
  refine ⟨h1.below hg hb, h2, a, c, (hb.cell (p := ⟨g, o + 8, none⟩) hg).trans h3, h4, h5, ?_⟩
  rcases h6 with h6 | ⟨g', o', ha, hg', hk⟩
  · exact .inl h6
  · exact .inr ⟨g', o', ha, Nat.lt_of_lt_of_le hg' hb.size, KsAt.turn hb.size (fun _ _ _ h1 h2 => h2.below h1.1 hb) (fun _ _ _ h1 h2 => (hb.cell (p := ⟨_, _, none⟩) h1.1).trans h2) ks g' o' hg' (h5 _ ha) hk⟩
theorem ExAt.stG {W : World} {X : Nat → Prop} {e : Ex} {g o : Nat} (h : ExAt W X g o e) (hX : ∀ k, X k → k ≠ g) (u : Nat) (vs : List Value) (hne : o + 9 ≤ u ∨ u + vs.length ≤ o) : ExAt (W.setCells g u vs) X g o e := by
  have S : St g W (W.setCells g u vs) := st_cells g vs u W W (St.refl _ _)
  obtain ⟨k, n, xs, m, ys, nm, p, q, ks⟩ := e
  rw [ExAt] at h ⊢
  obtain ⟨⟨t0, t1, ⟨a1, c1, t2, s1, x1⟩, t3, ⟨a2, c2, t4, s2, x2⟩, t5, t6, t7, _⟩, h2, a, c, h3, h4, h5, h6⟩ := h
  have hc : ∀ i, i < 9 → (W.setCells g u vs).cell? ⟨g, o + i, none⟩ = W.cell? ⟨g, o + i, none⟩ := fun i hi => World.cell?_setCells_out g vs u W ⟨g, o + i, none⟩ (fun _ _ => by simp only; omega)
  have c0 := (hc 0 (by omega)).trans t0
  have c1' := (hc 1 (by omega)).trans t1
  have c2' := (hc 2 (by omega)).trans t2
  have c3' := (hc 3 (by omega)).trans t3
  have c4' := (hc 4 (by omega)).trans t4
  have c5' := (hc 5 (by omega)).trans t5
  have c6' := (hc 6 (by omega)).trans t6
  have c7' := (hc 7 (by omega)).trans t7
  have c8' := (hc 8 (by omega)).trans h3
  refine ⟨⟨c0, c1', ⟨a1, c1, c2', s1.st S (fun q e => hX _ (x1 q e)), x1⟩, c3', ⟨a2, c2, c4', s2.st S (fun q e => hX _ (x2 q e)), x2⟩, c5', c6', c7', trivial⟩, h2, a, c, c8', h4, h5, ?_⟩
  rcases h6 with h6 | ⟨g', o', ha, hg', hk⟩
  · exact .inl h6
  · exact .inr ⟨g', o', ha, by rw [S.size]; exact hg', KsAt.turn (Nat.le_of_eq S.size.symm) (fun g1 _ _ h1 h2 => h2.st S hX (hX _ h1.2)) (fun g1 _ _ h1 h2 => (S.cell (p := ⟨_, _, none⟩) (hX _ h1.2)).trans h2) ks g' o' hg' (h5 _ ha) hk⟩
/-- the cells of a formula -/
theorem openEx {W : World} {X : Nat → Prop} {g o : Nat} {kd : Int} {n : Bool} {xs : List Nat} {m : Bool} {ys : List Nat} {nm : ByteArray} {p q : Int} {ks : List Ex} (h : ExAt W X g o (.mk kd n xs m ys nm p q ks)) :
    ∃ a1 c1 a2 c2 a c, W.cell? ⟨g, o, none⟩ = some (.int .i64 kd) ∧ W.cell? ⟨g, o + 1, none⟩ = some (.bool n) ∧ W.cell? ⟨g, o + 2, none⟩ = some (.slice a1 xs.length c1) ∧ W.cell? ⟨g, o + 3, none⟩ = some (.bool m) ∧ W.cell? ⟨g, o + 4, none⟩ = some (.slice a2 ys.length c2) ∧ W.cell? ⟨g, o + 5, none⟩ = some (.string nm) ∧ W.cell? ⟨g, o + 6, none⟩ = some (.int .i64 p) ∧ W.cell? ⟨g, o + 7, none⟩ = some (.int .i64 q) ∧ W.cell? ⟨g, o + 8, none⟩ = some (.slice a ks.length c) ∧
      Seg W a1 xs.length c1 xs ∧ Seg W a2 ys.length c2 ys ∧ KSeg W X a ks.length c ks ∧ nm.size ≤ 9223372036854775807 := by
  rw [ExAt] at h
  obtain ⟨⟨t0, t1, ⟨a1, c1, t2, s1, x1⟩, t3, ⟨a2, c2, t4, s2, x2⟩, t5, t6, t7, _⟩, hw, a, c, t8, hl, hx, hk⟩ := h
  refine ⟨a1, c1, a2, c2, a, c, t0, t1, t2, t3, t4, t5, t6, t7, t8, s1, s2, ⟨rfl, hl.1, hl.2, hx, ?_⟩, hw (.t nm) (by simp)⟩
  rcases hk with h0 | h0
  · exact .inl (by rw [h0]; rfl)
  · exact .inr h0
theorem openEx' {W : World} {X : Nat → Prop} {g o : Nat} {kd : Int} {n : Bool} {xs : List Nat} {m : Bool} {ys : List Nat} {nm : ByteArray} {p q : Int} {ks : List Ex} (h : ExAt W X g o (.mk kd n xs m ys nm p q ks)) : rwf [.i kd, .b n, .l xs, .b m, .l ys, .t nm, .i p, .i q] := by
  rw [ExAt] at h; exact h.2.1
end Go.Proofs.YtlknhheafmifnaaGreatDoor
