/- My texts Base, Help, Ok, Make, Blk, From, Trim2, ToInt, DivZ, Field, in this order. -/
import Derived.Test.YthjapjbiclkhcaaChecked
import Derived.Test.YthjapjbiclkhcaaPk00
import Derived.WalkKit
import Derived.WalkLawsBesides
import Derived.Deep.QuietTactic
import Derived.BigQuiet
import Derived.OwnWalk
import Derived.Laws.OwnMore
import Derived.Maps.AppendAt
import Derived.Lib.QuietBelow
/- What the walks of this seat say of memory: a list of limbs that is read, one that is owned, a number as a structure of a sign and limbs. -/
namespace Go.Proofs.Ythjapjbiclkhcaa
open Go.RowKit
set_option linter.unusedVariables false

theorem hide {p : Prop} (h : p) : Hid p := h
theorem ret_int {k : IntKind} {a b : Int} (h : a = b) : Ending.returned (.int k a) = .returned (.int k b) := by rw [h]
theorem ret_bool {a b : Bool} (h : a = b) : Ending.returned (.bool a) = .returned (.bool b) := by rw [h]
theorem below_drewN {B : Nat} {a w : World} (h : Below B a w) (n : Nat) : Below B a (w.drewN n) := h.trans ⟨rfl, rfl, rfl, Nat.le_refl _, fun _ _ => rfl⟩
theorem grown_of_below {A B : World} (h : Below A.heap.size A B) : A.grownBy B none :=
  ⟨h.os, h.tape, h.output, h.size, fun k hk _ => h.block k hk⟩
theorem grown_trans {A B C : World} {r : Option Nat} (h : A.grownBy B r) (k : B.grownBy C r) : A.grownBy C r :=
  ⟨k.os.trans h.os, k.tape.trans h.tape, k.output.trans h.output, Nat.le_trans h.size k.size, fun j hj hn => (k.block j (Nat.lt_of_lt_of_le hj h.size) hn).trans (h.block j hj hn)⟩
theorem grown_any {A B : World} {r : Option Nat} (h : A.grownBy B none) : A.grownBy B r :=
  ⟨h.os, h.tape, h.output, h.size, fun j hj _ => h.block j hj (by simp)⟩

theorem bl_alloc {a w : World} (h : Below a.heap.size a w) (o : Obj) : Below a.heap.size a (w.alloc o) := h.alloc h.size o
theorem bl_trans {a b c : World} (h : Below a.heap.size a b) (k : Below b.heap.size b c) : Below a.heap.size a c := h.trans (k.mono h.size)
theorem bl_refl (a : World) : Below a.heap.size a a := Below.refl _ _
/-- a limb as a value -/
def lim (x : Nat) : Value := .int .u32 x
/-- a list of limbs that is read -/
def Seg (W : World) (a : Option Addr) (n cap : Nat) (xs : List Nat) : Prop :=
  xs.length = n ∧ n ≤ cap ∧ cap ≤ 9223372036854775807 ∧ Num.Small xs ∧ (n = 0 ∨ ∃ g o, a = some ⟨g, o, none⟩ ∧ g < W.heap.size ∧ ∀ j (hj : j < xs.length), W.cell? ⟨g, o + j, none⟩ = some (.int .u32 xs[j]))
/-- a list of limbs in memory of its own, behind a base -/
def Own (W : World) (base : Nat) (a : Option Addr) (n cap : Nat) (xs : List Nat) : Prop :=
  W.ownsRow base 56 1 (.slice a n cap) n (xs.map lim) ∧ Num.Small xs
theorem Seg.below {W W' : World} {a : Option Addr} {n cap : Nat} {xs : List Nat} (h : Seg W a n cap xs) (hb : Below W.heap.size W W') : Seg W' a n cap xs := by
  obtain ⟨h1, h2, h3, h4, h5⟩ := h
  refine ⟨h1, h2, h3, h4, ?_⟩
  rcases h5 with h5 | ⟨g, o, ha, hg, hc⟩
  · exact .inl h5
  · exact .inr ⟨g, o, ha, Nat.lt_of_lt_of_le hg hb.size, fun j hj => (hb.cell (p := ⟨g, o + j, none⟩) hg).trans (hc j hj)⟩
theorem Seg.grown {W W' : World} {a : Option Addr} {n cap : Nat} {xs : List Nat} {r : Option Nat} (h : Seg W a n cap xs) (hb : W.grownBy W' r) (hne : ∀ g o s, a = some ⟨g, o, s⟩ → r ≠ some g) : Seg W' a n cap xs := by
  obtain ⟨h1, h2, h3, h4, h5⟩ := h
  refine ⟨h1, h2, h3, h4, ?_⟩
  rcases h5 with h5 | ⟨g, o, ha, hg, hc⟩
  · exact .inl h5
  · exact .inr ⟨g, o, ha, Nat.lt_of_lt_of_le hg hb.size, fun j hj => hb.cell (hc j hj) (fun e => hne g o none ha e.symm)⟩
theorem Own.len {W : World} {base : Nat} {a : Option Addr} {n cap : Nat} {xs : List Nat} (h : Own W base a n cap xs) : xs.length = n := by
  have := h.1.1; simpa using this
theorem Own.seg {W : World} {base : Nat} {a : Option Addr} {n cap : Nat} {xs : List Nat} (h : Own W base a n cap xs) : Seg W a n cap xs := by
  have hl := h.len
  rcases h.1.2 with ⟨h1, h2⟩ | ⟨g, cap', cur, hv, hg, hh, hn, hc, _⟩
  · cases h1
    exact ⟨hl, Nat.le_refl _, by omega, h.2, .inl rfl⟩
  · cases hv
    exact ⟨hl, hn, hc, h.2, .inr ⟨g, 0, rfl, (Array.getElem?_eq_some_iff.1 hh).1, fun j hj => by rw [Nat.zero_add, h.1.cellAt j (by omega)]; simp [hj, lim]⟩⟩
theorem Own.mono {W : World} {base base' : Nat} {a : Option Addr} {n cap : Nat} {xs : List Nat} (h : Own W base a n cap xs) (hb : base' ≤ base) : Own W base' a n cap xs := by
  refine ⟨⟨h.1.1, ?_⟩, h.2⟩
  rcases h.1.2 with h' | ⟨g, cap', cur, hv, hg, rest⟩
  · exact .inl h'
  · exact .inr ⟨g, cap', cur, hv, Nat.le_trans hb hg, rest⟩
theorem Own.kept {W W' : World} {base : Nat} {a : Option Addr} {n cap : Nat} {xs : List Nat} {r : Option Nat} (h : Own W base a n cap xs) (hb : W.grownBy W' r) (hne : (Value.slice a n cap).ownBlock = none ∨ (Value.slice a n cap).ownBlock ≠ r) : Own W' base a n cap xs :=
  ⟨h.1.kept hb hne, h.2⟩
theorem Own.below {W W' : World} {base : Nat} {a : Option Addr} {n cap : Nat} {xs : List Nat} (h : Own W base a n cap xs) (hb : Below W.heap.size W W') : Own W' base a n cap xs :=
  h.kept (grown_of_below hb) (by cases a <;> simp [Value.ownBlock])
theorem Own.lt {W : World} {base : Nat} {g o n cap : Nat} {s : Option Nat} {xs : List Nat} (h : Own W base (some ⟨g, o, none⟩) n cap xs) : base ≤ g ∧ g < W.heap.size := h.1.lt g rfl
theorem Own.setCell {W : World} {base : Nat} {a : Option Addr} {n cap : Nat} {xs : List Nat} (h : Own W base a n cap xs) {p : Addr} (hp : p.block < base) (v : Value) : Own (W.setCell p v) base a n cap xs := ⟨ownsRow_setCell_below h.1 hp v, h.2⟩
theorem Own.nil (W : World) (base : Nat) : Own W base none 0 0 [] := ⟨World.ownsRow_nil _ _ _ _, fun _ h => by cases h⟩
theorem Own.cases {W : World} {base : Nat} {a : Option Addr} {n cap : Nat} {xs : List Nat} (h : Own W base a n cap xs) :
    (a = none ∧ n = 0 ∧ cap = 0 ∧ xs = []) ∨ ∃ g, a = some ⟨g, 0, none⟩ ∧ base ≤ g ∧ g < W.heap.size := by
  have hl := h.len
  rcases h.1.2 with ⟨h1, h2⟩ | ⟨g, cap', cur, hv, hg, hh, hn, hc, _⟩
  · cases h1; exact .inl ⟨rfl, rfl, rfl, List.eq_nil_of_length_eq_zero hl⟩
  · cases hv; exact .inr ⟨g, rfl, hg, (Array.getElem?_eq_some_iff.1 hh).1⟩
theorem own_apart {W W' : World} {b n m c c' : Nat} {a a' : Option Addr} {xs ys : List Nat} (h : Own W b a n c xs) (h' : Own W' W.heap.size a' m c' ys) : (Value.slice a n c).ownBlock = none ∨ (Value.slice a n c).ownBlock ≠ (Value.slice a' m c').ownBlock := by
  cases hk : (Value.slice a n c).ownBlock with
  | none => exact .inl rfl
  | some k =>
    refine .inr fun e => ?_
    have h1 := (h.1.lt k hk).2
    have h2 := (h'.1.lt k e.symm).1
    omega
/-- the list's first m limbs, cut off it -/
theorem Own.cut {W : World} {base : Nat} {g n cap : Nat} {xs : List Nat} (h : Own W base (some ⟨g, 0, none⟩) n cap xs) (m : Nat) (hm : m ≤ n) : Own W base (some ⟨g, 0, none⟩) m cap (xs.take m) := by
  have hl := h.len
  refine ⟨⟨by simp; omega, ?_⟩, Num.small_take h.2 m⟩
  rcases h.1.2 with ⟨h1, h2⟩ | ⟨g', cap', cur, hv, hg, hh, hn, hc, hs, ht⟩
  · cases h1
  · cases hv
    refine .inr ⟨g, cap, cur, rfl, hg, hh, by omega, hc, hs, ?_⟩
    rw [List.map_take, ← ht, List.take_take]; congr 1; omega

theorem own_made {W : World} {base : Nat} {a : Option Addr} {n : Nat} (h : W.ownsRow base 56 1 (.slice a n n) n (madeCells #[Value.int IntKind.u32 0] n).toList) : Own W base a n n (List.replicate n 0) := by
  refine ⟨?_, Num.small_replicate n⟩
  rw [toList_madeCells_one] at h
  simpa [lim] using h
theorem own_set {W : World} {base g n cap : Nat} {xs : List Nat} (h : Own W base (some ⟨g, 0, none⟩) n cap xs) (j x : Nat) (hx : x < 4294967296) :
    Own (W.setCell ⟨g, j, none⟩ (.int .u32 x)) base (some ⟨g, 0, none⟩) n cap (xs.set j x) ∧ W.grownBy (W.setCell ⟨g, j, none⟩ (.int .u32 x)) (some g) := by
  have := h.1.stored j (lim x)
  rw [← List.map_set] at this
  exact ⟨⟨this.1, Num.small_set h.2 j x hx⟩, this.2⟩
theorem own_cell {W : World} {base g n cap : Nat} {xs : List Nat} (h : Own W base (some ⟨g, 0, none⟩) n cap xs) (j : Nat) (hj : j < xs.length) : W.cell? ⟨g, j, none⟩ = some (.int .u32 xs[j]) := by
  have hl := h.len
  rw [h.1.cellAt j (by omega)]; simp [hj, lim]
theorem own_has {W : World} {base g n cap : Nat} {xs : List Nat} (h : Own W base (some ⟨g, 0, none⟩) n cap xs) (j : Nat) (hj : j < n) : ∃ y : Nat, W.cell? ⟨g, j, none⟩ = some (.int .u32 y) := ⟨_, own_cell h j (by rw [h.len]; exact hj)⟩
theorem row_val {W : World} {base n : Nat} {v : Value} {ys : List Value} (h : W.ownsRow base 56 1 v n ys) : ∃ a cap, v = .slice a n cap := by
  rcases h.2 with ⟨h1, h2⟩ | ⟨g, cap, cur, hv, _⟩
  · exact ⟨none, 0, by rw [h1, h2]⟩
  · exact ⟨_, _, hv⟩
theorem one_lims (xs : List Nat) : ∀ u ∈ xs.map lim, u.oneCell' = true := by
  intro u hu
  obtain ⟨x, _, rfl⟩ := List.mem_map.1 hu
  rfl
theorem grown_frozen {w w' : World} {r : Option Nat} (hg : w.grownBy w' r) {p : Addr} (hp : p.block < w.heap.size) (hne : some p.block ≠ r) : w'.frozen? p = w.frozen? p := World.frozen?_of_block (hg.block p.block hp hne)
/-- a structure of a sign and limbs that is read -/
def Raw (W : World) (v : Value) (neg : Bool) (xs : List Nat) : Prop := ∃ a cap, v = .agg #[.bool neg, .slice a xs.length cap] ∧ Seg W a xs.length cap xs
/-- one in memory of its own -/
def Got (W : World) (base : Nat) (v : Value) (neg : Bool) (xs : List Nat) : Prop := ∃ a cap, v = .agg #[.bool neg, .slice a xs.length cap] ∧ Own W base a xs.length cap xs
theorem Raw.below {W W' : World} {v : Value} {neg : Bool} {xs : List Nat} (h : Raw W v neg xs) (hb : Below W.heap.size W W') : Raw W' v neg xs := by
  obtain ⟨a, cap, rfl, h⟩ := h; exact ⟨a, cap, rfl, h.below hb⟩
theorem Got.raw {W : World} {base : Nat} {v : Value} {neg : Bool} {xs : List Nat} (h : Got W base v neg xs) : Raw W v neg xs := by
  obtain ⟨a, cap, rfl, h⟩ := h; exact ⟨a, cap, rfl, h.seg⟩
theorem Got.below {W W' : World} {base : Nat} {v : Value} {neg : Bool} {xs : List Nat} (h : Got W base v neg xs) (hb : Below W.heap.size W W') : Got W' base v neg xs := by
  obtain ⟨a, cap, rfl, h⟩ := h; exact ⟨a, cap, rfl, h.below hb⟩
theorem Got.mono {W : World} {base base' : Nat} {v : Value} {neg : Bool} {xs : List Nat} (h : Got W base v neg xs) (hb : base' ≤ base) : Got W base' v neg xs := by
  obtain ⟨a, cap, rfl, h⟩ := h; exact ⟨a, cap, rfl, h.mono hb⟩
end Go.Proofs.Ythjapjbiclkhcaa

/- The walks of what the laws ask of numbers: a copy of one, whether two are alike, marks written into one, whether they are held. -/
namespace Go.Proofs.Ythjapjbiclkhcaa
open Go.RowKit
set_option linter.unusedVariables false

theorem Try.info56 : (Try.prog.info? 56).map (fun i => (i.zero, i.size, i.bytes)) = some (some (.int .u32 0), 1, 4) := by kernel_rfl

/-- the marks from k on -/
def marks (k n : Nat) : List Nat := (List.range n).map fun j => k + j
theorem marks_length (k n : Nat) : (marks k n).length = n := by simp [marks]
theorem marks_succ (k n : Nat) : marks k (n + 1) = marks k n ++ [k + n] := by simp [marks, List.range_succ]
theorem marks_at (k n j : Nat) (h : j < (marks k n).length) : (marks k n)[j] = k + j := by simp [marks]
theorem marks_set (xs : List Nat) (k0 k : Nat) (h : k < xs.length) : (marks k0 k ++ xs.drop k).set k (k0 + k) = marks k0 (k + 1) ++ xs.drop (k + 1) := by
  have hl := marks_length k0 k
  rw [List.set_append_right _ _ (by omega), hl, Nat.sub_self, marks_succ, List.drop_eq_getElem_cons h, List.set_cons_zero, List.append_assoc]
  rfl

end Go.Proofs.Ythjapjbiclkhcaa

/- The walks of the two BigOk: whether a sign and limbs are a right number; nothing that was there turns. -/
namespace Go.Proofs.Ythjapjbiclkhcaa
open Go.RowKit
set_option linter.unusedVariables false

/-- a sign and limbs are right -/
def okB (neg : Bool) (xs : List Nat) : Bool :=
  if xs.length ≤ 40 then (if xs.length = 0 then !neg else decide (xs.getD (xs.length - 1) 0 ≠ 0)) else false
theorem ok_long {neg : Bool} {xs : List Nat} (h : ¬ xs.length ≤ 40) : okB neg xs = false := by simp [okB, h]
theorem ok_nil {neg : Bool} {xs : List Nat} (h : xs.length = 0) : okB neg xs = !neg := by simp [okB, h]
theorem ok_some {neg : Bool} {xs : List Nat} (h : xs.length ≤ 40) (h0 : xs.length ≠ 0) : okB neg xs = decide (xs.getD (xs.length - 1) 0 ≠ 0) := by
  simp only [okB, if_pos h, if_neg h0]

/-- the sign of a number, and its limbs -/
def sgn (z : Int) : Bool := decide (z < 0)
def lms (z : Int) : List Nat := Num.limbs z.natAbs
theorem ok_num {neg : Bool} {xs : List Nat} (hs : Num.Small xs) (h : okB neg xs = true) : ∃ z : Int, neg = sgn z ∧ xs = lms z ∧ z.natAbs < 4294967296 ^ 40 := by
  have h40 : xs.length ≤ 40 := by
    refine Classical.byContradiction fun hc => ?_
    rw [ok_long hc] at h; cases h
  have ht : Num.Tidy xs := Num.tidy_of_at fun k hk hk' => by
    rw [ok_some h40 (by omega)] at h
    have := of_decide_eq_true h
    rw [hk, Nat.add_sub_cancel] at this
    simpa [hk'] using this
  have hl := Num.limbs_nat hs ht
  have hlt : Num.nat xs < 4294967296 ^ 40 := by
    have := Num.limbs_len (n := Num.nat xs) (k := 40)
    rw [hl] at this; exact this.1 h40
  cases neg with
  | false => exact ⟨(Num.nat xs : Int), by simp [sgn], by simp [lms, hl], by simpa using hlt⟩
  | true =>
    have h0 : xs ≠ [] := fun e => by subst e; simp [okB] at h
    have hp := Num.nat_pos_of_tidy ht h0
    exact ⟨-(Num.nat xs : Int), by simp [sgn]; omega, by simp [lms, hl], by simpa using hlt⟩
theorem lms_small (z : Int) : Num.Small (lms z) := Num.limbs_small _
theorem sgn_lms_nil {z : Int} (h : (lms z).length = 0) : z = 0 := by
  have : lms z = [] := List.eq_nil_of_length_eq_zero h
  have := Num.limbs_eq_nil.1 this
  omega
theorem lms_last (z : Int) (h : (lms z).length ≠ 0) : (lms z).getD ((lms z).length - 1) 0 ≠ 0 := by
  have hne : lms z ≠ [] := fun e => h (by rw [e]; rfl)
  have : (lms z).getLast hne ≠ 0 := Num.limbs_tidy z.natAbs hne
  rw [List.getLast_eq_getElem] at this
  have hlt : (lms z).length - 1 < (lms z).length := by omega
  simpa [List.getD, hlt] using this
theorem ok_of_num (z : Int) : okB (sgn z) (lms z) = decide (z.natAbs < 4294967296 ^ 40) := by
  by_cases h : z.natAbs < 4294967296 ^ 40
  · rw [decide_eq_true h]
    have h40 : (lms z).length ≤ 40 := Num.limbs_len.2 h
    by_cases h0 : (lms z).length = 0
    · rw [ok_nil h0, sgn_lms_nil h0]; rfl
    · rw [ok_some h40 h0]; exact decide_eq_true (lms_last z h0)
  · rw [decide_eq_false h]
    exact ok_long fun hc => h (Num.limbs_len.1 hc)

theorem bne_nat (x : Nat) : ((x : Int) != 0) = decide (x ≠ 0) := by
  by_cases h : x = 0
  · subst h; rfl
  · rw [decide_eq_true h, bne_iff_ne]; omega
theorem raw_last {w : World} {a : Option Addr} {cap : Nat} {xs : List Nat} (hs : Seg w a xs.length cap xs) (h0 : xs.length ≠ 0) : ∃ g o, a = some ⟨g, o, none⟩ ∧ g < w.heap.size ∧ w.cell? ⟨g, o + (xs.length - 1), none⟩ = some (.int .u32 (xs.getD (xs.length - 1) 0)) := by
  rcases hs.2.2.2.2 with h | ⟨g, o, ha, hg, hc⟩
  · exact absurd h h0
  · refine ⟨g, o, ha, hg, ?_⟩
    have hlt : xs.length - 1 < xs.length := by omega
    rw [hc _ hlt]; simp [List.getD, hlt]

set_option maxHeartbeats 1000000 in
theorem okI (v : Value) (neg : Bool) (xs : List Nat) (w : World) (h : Raw w v neg xs) :
    Calls Try.prog 30 #[v] w fun e w' => e = .returned (.bool (okB neg xs)) ∧ Below w.heap.size w w' := by
  obtain ⟨a, cap, rfl, hs⟩ := h
  have hcap := hs.2.1
  have hcm := hs.2.2.1
  by_cases h0 : xs.length = 0
  · rw [ok_nil h0]
    clear hs
    cases neg
    all_goals
      go_enter Try.func30, Try.ntmps30
      go_wp2
      go_ret
      exact ⟨rfl, bl_alloc (bl_refl w) _⟩
  · by_cases h40 : xs.length ≤ 40
    · rw [ok_some h40 h0]
      obtain ⟨g, o, rfl, hg, hc⟩ := raw_last hs h0
      have hc' : (w.alloc (.cells #[.bool neg, .slice (some ⟨g, o, none⟩) xs.length cap] 26)).cell? ⟨g, o + (xs.length - 1), none⟩ = some (.int .u32 (xs.getD (xs.length - 1) 0)) := ((bl_alloc (bl_refl w) _).cell (p := ⟨g, o + (xs.length - 1), none⟩) hg).trans hc
      clear hs hc
      generalize xs.getD (xs.length - 1) 0 = x at *
      go_enter Try.func30, Try.ntmps30
      go_wp2
      go_ret
      exact ⟨ret_bool (bne_nat x), bl_alloc (bl_refl w) _⟩
    · rw [ok_long h40]
      clear hs
      go_enter Try.func30, Try.ntmps30
      go_wp2
      go_ret
      exact ⟨rfl, bl_alloc (bl_refl w) _⟩

set_option maxHeartbeats 1000000 in
theorem okS (v : Value) (neg : Bool) (xs : List Nat) (w : World) (h : Raw w v neg xs) :
    Calls Try.prog 8 #[v] w fun e w' => e = .returned (.bool (okB neg xs)) ∧ Below w.heap.size w w' := by
  obtain ⟨a, cap, rfl, hs⟩ := h
  have hcap := hs.2.1
  have hcm := hs.2.2.1
  by_cases h0 : xs.length = 0
  · rw [ok_nil h0]
    clear hs
    cases neg
    all_goals
      go_enter Try.func8, Try.ntmps8
      go_wp2
      go_ret
      exact ⟨rfl, bl_alloc (bl_refl w) _⟩
  · by_cases h40 : xs.length ≤ 40
    · rw [ok_some h40 h0]
      obtain ⟨g, o, rfl, hg, hc⟩ := raw_last hs h0
      have hc' : (w.alloc (.cells #[.bool neg, .slice (some ⟨g, o, none⟩) xs.length cap] 26)).cell? ⟨g, o + (xs.length - 1), none⟩ = some (.int .u32 (xs.getD (xs.length - 1) 0)) := ((bl_alloc (bl_refl w) _).cell (p := ⟨g, o + (xs.length - 1), none⟩) hg).trans hc
      clear hs hc
      generalize xs.getD (xs.length - 1) 0 = x at *
      go_enter Try.func8, Try.ntmps8
      go_wp2
      go_ret
      exact ⟨ret_bool (bne_nat x), bl_alloc (bl_refl w) _⟩
    · rw [ok_long h40]
      clear hs
      go_enter Try.func8, Try.ntmps8
      go_wp2
      go_ret
      exact ⟨rfl, bl_alloc (bl_refl w) _⟩

end Go.Proofs.Ythjapjbiclkhcaa

/- The walks of what makes a number of a sign and limbs: l02Make, trimLimbs, bigOf; noughts at the end are gone, and nought has no sign. -/
namespace Go.Proofs.Ythjapjbiclkhcaa
open Go.RowKit
set_option linter.unusedVariables false

/-- a number of a sign and a size -/
def mk (neg : Bool) (m : Nat) : Int := if neg then -(m : Int) else m
theorem mk_lms (neg : Bool) (m : Nat) : lms (mk neg m) = Num.limbs m := by unfold mk lms; cases neg <;> simp
theorem mk_sgn (neg : Bool) (m : Nat) : sgn (mk neg m) = (neg && decide (0 < m)) := by
  unfold mk sgn; cases neg
  · simp
  · by_cases h : 0 < m
    · rw [decide_eq_true h]; simp; omega
    · obtain rfl : m = 0 := by omega
      simp
theorem mk_abs (neg : Bool) (m : Nat) : (mk neg m).natAbs = m := by unfold mk; cases neg <;> simp
theorem mk_self (z : Int) : mk (sgn z) z.natAbs = z := by
  unfold mk sgn
  by_cases h : z < 0
  · rw [decide_eq_true h, if_pos rfl]; omega
  · rw [decide_eq_false h, if_neg (by simp)]; omega
theorem nat_lms (z : Int) : Num.nat (lms z) = z.natAbs := Num.nat_limbs _
/-- the number z, read; and in memory of its own -/
def Is (W : World) (v : Value) (z : Int) : Prop := Raw W v (sgn z) (lms z)
def New (W : World) (base : Nat) (v : Value) (z : Int) : Prop := Got W base v (sgn z) (lms z)
theorem New.is {W : World} {base : Nat} {v : Value} {z : Int} (h : New W base v z) : Is W v z := Got.raw h
theorem Is.below {W W' : World} {v : Value} {z : Int} (h : Is W v z) (hb : Below W.heap.size W W') : Is W' v z := Raw.below h hb
theorem New.below {W W' : World} {base : Nat} {v : Value} {z : Int} (h : New W base v z) (hb : Below W.heap.size W W') : New W' base v z := Got.below h hb
theorem New.mono {W : World} {base base' : Nat} {v : Value} {z : Int} (h : New W base v z) (hb : base' ≤ base) : New W base' v z := Got.mono h hb
theorem Got.setCell {W : World} {base : Nat} {v : Value} {neg : Bool} {xs : List Nat} (h : Got W base v neg xs) {p : Addr} (hp : p.block < base) (u : Value) : Got (W.setCell p u) base v neg xs := by
  obtain ⟨a, cap, rfl, h⟩ := h; exact ⟨a, cap, rfl, h.setCell hp u⟩
theorem New.setCell {W : World} {base : Nat} {v : Value} {z : Int} (h : New W base v z) {p : Addr} (hp : p.block < base) (u : Value) : New (W.setCell p u) base v z := Got.setCell h hp u
theorem limbs_len_le {xs : List Nat} (hs : Num.Small xs) : (Num.limbs (Num.nat xs)).length ≤ xs.length := Num.limbs_len.2 (Num.nat_lt hs)

theorem apart_of {x y : Option Nat} {l1 h1 l2 h2 : Nat} (hx : ∀ k, x = some k → l1 ≤ k ∧ k < h1) (hy : ∀ k, y = some k → l2 ≤ k ∧ k < h2) (h : h1 ≤ l2 ∨ h2 ≤ l1) : x = none ∨ x ≠ y := by
  cases x with
  | none => exact .inl rfl
  | some k => refine .inr fun e => ?_; have a := hx k rfl; have b := hy k e.symm; omega
/-- a box of two cells stands behind a call -/
theorem box_keep {W w1 : World} {N : Nat} {c0 c1 : Value} (hb : Below W.heap.size W w1) (hlt : N < W.heap.size) (h0 : W.cell? ⟨N, 0, none⟩ = some c0) (h1 : W.cell? ⟨N, 1, none⟩ = some c1) (g0 : W.frozen? ⟨N, 0, none⟩ = false) (g1 : W.frozen? ⟨N, 1, none⟩ = false) :
    w1.cell? ⟨N, 0, none⟩ = some c0 ∧ w1.cell? ⟨N, 1, none⟩ = some c1 ∧ w1.frozen? ⟨N, 0, none⟩ = false ∧ w1.frozen? ⟨N, 1, none⟩ = false :=
  ⟨(hb.cell (p := ⟨N, 0, none⟩) hlt).trans h0, (hb.cell (p := ⟨N, 1, none⟩) hlt).trans h1, (hb.frozen (p := ⟨N, 0, none⟩) hlt).trans g0, (hb.frozen (p := ⟨N, 1, none⟩) hlt).trans g1⟩
/-- a number is stored in a box of the call's own -/
theorem fin_box {w w1 : World} {N base : Nat} {v x y : Value} {z : Int} (hn : New w1 base v z) (hN : N < base) (hwN : w.heap.size ≤ N) (hb : Below w.heap.size w w1) :
    New ((w1.setCell ⟨N, 0, none⟩ x).setCell ⟨N, 1, none⟩ y) w.heap.size v z ∧ Below w.heap.size w ((w1.setCell ⟨N, 0, none⟩ x).setCell ⟨N, 1, none⟩ y) :=
  ⟨((hn.setCell (p := ⟨N, 0, none⟩) hN x).setCell (p := ⟨N, 1, none⟩) hN y).mono (by omega), (hb.setCell (p := ⟨N, 0, none⟩) hwN x).setCell (p := ⟨N, 1, none⟩) hwN y⟩
set_option maxHeartbeats 1000000 in
theorem trimI (a : Option Addr) (n cap : Nat) (xs : List Nat) (base : Nat) (w : World) (ho : Own w base a n cap xs) :
    Calls Try.prog 89 #[.slice a n cap] w fun e w' => w' = w ∧ ∃ a' c', e = .returned (.slice a' (Num.limbs (Num.nat xs)).length c') ∧ ∀ W, Own W base a n cap xs → Own W base a' (Num.limbs (Num.nat xs)).length c' (Num.limbs (Num.nat xs)) := by
  obtain rfl := ho.len
  have hs := ho.seg
  have hcap := hs.2.1
  have hcm := hs.2.2.1
  have hcell := hs.2.2.2.2
  have HO := hide ho
  have HC := hide hcell
  clear hs ho hcell
  go_enter Try.func89, Try.ntmps89
  go_wp2
  go_loopw [3] (fun i wr => ∃ k : Nat, k ≤ xs.length ∧ i = .int .i64 k ∧ wr = w ∧ Hid (Num.nat (xs.drop k) = 0)) (fun i _ => (intOf i).toNat)
  case atStart => exact ⟨xs.length, Nat.le_refl _, rfl, rfl, hide (by rw [List.drop_eq_nil_of_le (Nat.le_refl _)]; rfl)⟩
  case round =>
    obtain ⟨k, hk, rfl, rfl, hz⟩ := hrel
    by_cases h0 : k = 0
    · subst h0
      have HN : Hid (Num.limbs (Num.nat xs) = []) := hide (by have := hz.out; rw [List.drop_zero] at this; rw [this, Num.limbs_zero])
      go_wp2
      go_ret
      rw [HN.out]
      exact ⟨rfl, none, 0, rfl, fun W _ => Own.nil _ _⟩
    · obtain ⟨j, rfl⟩ : ∃ j, k = j + 1 := ⟨k - 1, by omega⟩
      have hj : j < xs.length := by omega
      rcases HO.out.cases with ⟨rfl, h0, _, _⟩ | ⟨g, rfl, hg, hgl⟩
      · omega
      have hc := own_cell HO.out j hj
      by_cases hx : xs[j] = 0
      · have HZ : Hid (Num.nat (xs.drop j) = 0) := hide (by rw [Num.nat_drop xs j hj, hz.out, hx])
        rw [hx] at hc
        clear hz
        go_wp2
        exact ⟨⟨j, by omega, by go_num, trivial, HZ⟩, by simp [intOf]⟩
      · have hne : ((xs[j] : Int) != 0) = true := by rw [bne_iff_ne]; omega
        have ht := Num.limbs_of_trim HO.out.2 hk hz.out (fun i hi e => by cases e; exact hx)
        have HL : Hid ((Num.limbs (Num.nat xs)).length = j + 1) := hide (by rw [← ht, List.length_take]; omega)
        have HOX : Hid (∀ W, Own W base (some ⟨g, 0, none⟩) xs.length cap xs → Own W base (some ⟨g, 0, none⟩) (j + 1) cap (Num.limbs (Num.nat xs))) := hide (fun W h => by have := h.cut (j + 1) hk; rw [ht] at this; exact this)
        clear hz ht hx
        generalize xs[j] = x at *
        go_wp2
        go_ret
        rw [HL.out]
        exact ⟨rfl, _, _, rfl, HOX.out⟩

set_option maxHeartbeats 1000000 in
theorem bigOfI (neg : Bool) (a : Option Addr) (n cap : Nat) (xs : List Nat) (base : Nat) (w : World) (ho : Own w base a n cap xs) (hbase : base ≤ w.heap.size) :
    Calls Try.prog 67 #[.bool neg, .slice a n cap] w fun e w' => ∃ v, e = .returned v ∧ New w' base v (mk neg (Num.nat xs)) ∧ Below w.heap.size w w' := by
  unfold New Got
  rw [mk_lms, mk_sgn]
  have HO := hide ho
  have hcm := ho.seg.2.2.1
  have hcap := ho.seg.2.1
  have hll := limbs_len_le ho.2
  rw [ho.len] at hll
  clear ho
  go_enter Try.func67, Try.ntmps67
  go_wp2_with fail
  refine (trimI a n cap xs base _ (HO.out.below (bl_alloc (bl_refl w) _))).mono ?_
  rintro e w1 ⟨hw, a', c', rfl, ho'⟩
  subst w1
  have HO' := hide ho'
  have HP : Hid (decide (0 < Num.nat xs) = decide (0 < ((Num.limbs (Num.nat xs)).length : Int))) := hide (by
    by_cases h : Num.nat xs = 0
    · rw [h, Num.limbs_zero]; rfl
    · have : Num.limbs (Num.nat xs) ≠ [] := fun e => h (Num.limbs_eq_nil.1 e)
      have := List.length_pos_iff.2 this
      rw [decide_eq_true (by omega), decide_eq_true (by omega)])
  clear ho'
  cases neg
  · go_wp2
    refine bodyPost_ret (v := .agg #[.bool false, .slice a' (Num.limbs (Num.nat xs)).length c']) (by simp [results, Try.results67, go_sem, *]) rfl ?_
    exact ⟨_, rfl, ⟨a', c', rfl, HO'.out _ (HO.out.below (bl_alloc (bl_refl w) _))⟩, bl_alloc (bl_refl w) _⟩
  · go_wp2
    refine bodyPost_ret (v := .agg #[.bool (decide (0 < ((Num.limbs (Num.nat xs)).length : Int))), .slice a' (Num.limbs (Num.nat xs)).length c']) (by simp [results, Try.results67, go_sem, *]) rfl ?_
    refine ⟨_, rfl, ⟨a', c', ?_, HO'.out _ (HO.out.below (bl_alloc (bl_refl w) _))⟩, bl_alloc (bl_refl w) _⟩
    rw [HP.out]; rfl

set_option maxHeartbeats 2000000 in
set_option maxRecDepth 20000 in
theorem makeS (neg : Bool) (a : Option Addr) (n cap : Nat) (xs : List Nat) (w : World) (hs : Seg w a n cap xs) (hn : n ≤ 1048576) :
    Calls Try.prog 25 #[.bool neg, .slice a n cap] w fun e w' => ∃ v, e = .returned v ∧ New w' w.heap.size v (mk neg (Num.nat xs)) ∧ Below w.heap.size w w' := by
  obtain ⟨i0, hi, hz0, hz1, hz2⟩ := info_parts Try.info56
  unfold New Got
  rw [mk_lms, mk_sgn]
  obtain rfl := hs.1
  have hcap := hs.2.1
  have hcm := hs.2.2.1
  have HS := hide hs
  clear hs
  go_enter Try.func25, Try.ntmps25
  go_wp2
  go_loopw [5] (fun i wr => ∃ k : Nat, k ≤ xs.length ∧ i = .int .i64 k ∧ wr = w.alloc (Obj.cells #[Value.bool false, Value.slice none 0 0] 26) ∧ Hid (Num.nat (xs.drop k) = 0)) (fun i _ => (intOf i).toNat)
  case atStart => exact ⟨xs.length, Nat.le_refl _, rfl, rfl, hide (by rw [List.drop_eq_nil_of_le (Nat.le_refl _)]; rfl)⟩
  case round =>
    obtain ⟨k, hk, rfl, rfl, hz⟩ := hrel
    by_cases h0 : k = 0
    · subst h0
      have HN : Hid (Num.nat xs = 0) := hide (by have := hz.out; rw [List.drop_zero] at this; exact this)
      go_wp2
      refine bodyPost_ret (v := .agg #[.bool false, .slice none 0 0]) (by simp [results, Try.results25, go_sem, *]) rfl ?_
      rw [HN.out, Num.limbs_zero]
      exact ⟨_, rfl, ⟨none, 0, by simp, Own.nil _ _⟩, bl_alloc (bl_refl w) _⟩
    · obtain ⟨j, rfl⟩ : ∃ j, k = j + 1 := ⟨k - 1, by omega⟩
      have hj : j < xs.length := by omega
      rcases HS.out.2.2.2.2 with h0 | ⟨g, o, rfl, hg, hc⟩
      · omega
      have hcj : (w.alloc (Obj.cells #[Value.bool false, Value.slice none 0 0] 26)).cell? ⟨g, o + j, none⟩ = some (.int .u32 xs[j]) := ((bl_alloc (bl_refl w) _).cell (p := ⟨g, o + j, none⟩) hg).trans (hc j hj)
      have HC := hide hc
      clear hc
      by_cases hx : xs[j] = 0
      · have HZ : Hid (Num.nat (xs.drop j) = 0) := hide (by rw [Num.nat_drop xs j hj, hz.out, hx])
        rw [hx] at hcj
        clear hz
        go_wp2
        exact ⟨⟨j, by omega, by go_num, trivial, HZ⟩, by simp [intOf]⟩
      · have hne : ((xs[j] : Int) == 0) = false := by rw [beq_eq_false_iff_ne]; omega
        have ht := Num.limbs_of_trim HS.out.2.2.2.1 hk hz.out (fun i hi e => by cases e; exact hx)
        have HT := hide ht
        have HL : Hid ((Num.limbs (Num.nat xs)).length = j + 1) := hide (by rw [← ht, List.length_take]; omega)
        have HN : Hid (0 < Num.nat xs) := hide (by
          refine Nat.pos_of_ne_zero fun e => ?_
          have := HL.out
          rw [e, Num.limbs_zero] at this; simp at this)
        clear hz ht hx
        generalize xs[j] = x at *
        have hnews : ∀ j' u, (((xs.take (j + 1)).map lim)[j']? = some u) → ((w.alloc (Obj.cells #[Value.bool false, Value.slice none 0 0] 26)).alloc (Obj.cells #[] 56)).cell? ((⟨g, o, none⟩ : Addr).add j') = some u := by
          intro j' u hu
          have hj' : j' < (xs.take (j + 1)).length := by have := (List.getElem?_eq_some_iff.1 hu).1; simpa using this
          have hjx : j' < xs.length := by simp at hj'; omega
          have hu' : u = .int .u32 xs[j'] := by
            have := (List.getElem?_eq_some_iff.1 hu).2
            simp [lim] at this; exact this.symm
          rw [hu', Addr.add_lit]
          exact ((bl_alloc (bl_alloc (bl_refl w) _) _).cell (p := ⟨g, o + j', none⟩) hg).trans (HC.out j' hjx)
        have HNEWS := hide hnews
        clear hnews
        have hrow0 : ((w.alloc (Obj.cells #[Value.bool false, Value.slice none 0 0] 26)).alloc (Obj.cells #[] 56)).ownsRow (w.heap.size + 1) 56 1 (.slice (some ⟨w.heap.size + 1, 0, none⟩) 0 0) 0 [] := by
          have := World.ownsRow_lit (base := w.heap.size + 1) (e := 56) (size := 1) (w.alloc (Obj.cells #[Value.bool false, Value.slice none 0 0] 26)) #[] 0 (by simp) (by unfold maxLen; omega) rfl
          simpa using this
        have HROW := hide hrow0
        clear hrow0
        go_wp2_with (at_builtin; refine wpList_append_own _ rfl _ _ 24 rfl (w.heap.size + 1) 56 i0 (.int .u32 0) 1 4 Try.underlying24 hi hz0 hz1 hz2 rfl (by decide) _ 0 [] rfl HROW.out ⟨g, o, none⟩ (j + 1) cap ((xs.take (j + 1)).map lim) rfl (by simp; omega) HNEWS.out (one_lims _) (by unfold maxLen; omega) (by omega) (by simp) ?_; intro v' w1 hown' hgrow' _; have hgrow := (show ((w.alloc (Obj.cells #[Value.bool false, Value.slice none 0 0] 26)).alloc (Obj.cells #[] 56)).grownBy w1 (some (w.heap.size + 1)) from hgrow'); clear hgrow'; obtain ⟨a', c', rfl⟩ := row_val hown'; have k0 : w1.cell? ⟨w.heap.size, 0, none⟩ = some (.bool false) := hgrow.cell (by go_simp) (by simp); have k1 : w1.cell? ⟨w.heap.size, 1, none⟩ = some (.slice none 0 0) := hgrow.cell (by go_simp) (by simp); have f0 : w1.frozen? ⟨w.heap.size, 0, none⟩ = false := (grown_frozen hgrow (by simp only [World.size_alloc]; omega) (by simp)).trans (by go_simp); have f1 : w1.frozen? ⟨w.heap.size, 1, none⟩ = false := (grown_frozen hgrow (by simp only [World.size_alloc]; omega) (by simp)).trans (by go_simp); have HG := hide hgrow; have HO := hide hown'; clear hgrow hown')
        refine bodyPost_ret (v := .agg #[.bool neg, .slice a' (j + 1) c']) (by simp [results, Try.results25, go_sem, *]) rfl ?_
        refine ⟨_, rfl, ⟨a', c', ?_, ?_⟩, ?_⟩
        · rw [decide_eq_true HN.out, HL.out, Bool.and_true]
        · have ho : Own w1 (w.heap.size + 1) a' (j + 1) c' (xs.take (j + 1)) := ⟨by have := HO.out; rw [Nat.zero_add, List.nil_append] at this; exact this, Num.small_take HS.out.2.2.2.1 _⟩
          rw [HL.out, ← HT.out]
          exact ((ho.setCell (p := ⟨w.heap.size, 0, none⟩) (by simp) _).setCell (p := ⟨w.heap.size, 1, none⟩) (by simp) _).mono (by omega)
        · exact (((bl_alloc (bl_alloc (bl_refl w) _) _).grown HG.out (by simp only [World.size_alloc]; omega) (fun k e => by cases e; omega)).setCell (p := ⟨w.heap.size, 0, none⟩) (Nat.le_refl _) _).setCell (p := ⟨w.heap.size, 1, none⟩) (Nat.le_refl _) _
end Go.Proofs.Ythjapjbiclkhcaa

/- A whole block of limbs, and a part of one that is written into. -/
namespace Go.Proofs.Ythjapjbiclkhcaa
open Go.RowKit
set_option linter.unusedVariables false

/-- block g holds these limbs and nothing else -/
def Blk (W : World) (g : Nat) (ys : List Nat) : Prop := W.heap[g]? = some (.cells (ys.map lim).toArray 56 (0, 0)) ∧ Num.Small ys
theorem Blk.cell {W : World} {g : Nat} {ys : List Nat} (h : Blk W g ys) (j : Nat) (hj : j < ys.length) : W.cell? ⟨g, j, none⟩ = some (.int .u32 ys[j]) := by
  rw [cell_of_row W g j _ 56 (0, 0) h.1]; simp [hj, lim]
theorem Blk.frozen {W : World} {g : Nat} {ys : List Nat} (h : Blk W g ys) (j : Nat) : W.frozen? ⟨g, j, none⟩ = false := frozen_of_row W g j _ 56 h.1
theorem Blk.lt {W : World} {g : Nat} {ys : List Nat} (h : Blk W g ys) : g < W.heap.size := (Array.getElem?_eq_some_iff.1 h.1).1
theorem Blk.set {W : World} {g : Nat} {ys : List Nat} (h : Blk W g ys) (j x : Nat) (hx : x < 4294967296) :
    Blk (W.setCell ⟨g, j, none⟩ (.int .u32 x)) g (ys.set j x) ∧ W.grownBy (W.setCell ⟨g, j, none⟩ (.int .u32 x)) (some g) := by
  refine ⟨⟨?_, Num.small_set h.2 j x hx⟩, ⟨rfl, rfl, rfl, by simp, fun k _ hk => heap_setCell_other W ⟨g, j, none⟩ k _ (fun e => hk (by simp [e]))⟩⟩
  rw [heap_setCell_same W g j _ 56 _ h.1]
  congr 2
  apply Array.ext'
  rw [Array.toList_setIfInBounds, List.map_set]; rfl
theorem Blk.kept {W W' : World} {g : Nat} {ys : List Nat} {r : Option Nat} (h : Blk W g ys) (hg : W.grownBy W' r) (hne : some g ≠ r) : Blk W' g ys := ⟨(hg.block g h.lt hne).trans h.1, h.2⟩
theorem Blk.below {W W' : World} {g : Nat} {ys : List Nat} (h : Blk W g ys) (hb : Below W.heap.size W W') : Blk W' g ys := ⟨(hb.block g h.lt).trans h.1, h.2⟩
theorem Blk.own {W : World} {g base : Nat} {ys : List Nat} (h : Blk W g ys) (hb : base ≤ g) (hl : ys.length ≤ 9223372036854775807) : Own W base (some ⟨g, 0, none⟩) ys.length ys.length ys := by
  refine ⟨⟨by simp, .inr ⟨g, ys.length, _, rfl, hb, h.1, Nat.le_refl _, by unfold maxLen; omega, by simp, by rw [Nat.mul_one]; exact List.take_of_length_le (by simp)⟩⟩, h.2⟩
theorem Own.blk {W : World} {g base n : Nat} {ys : List Nat} (h : Own W base (some ⟨g, 0, none⟩) n n ys) : Blk W g ys := by
  have hl := h.len
  refine ⟨?_, h.2⟩
  rcases h.1.2 with ⟨h1, h2⟩ | ⟨g', cap', cur, hv, hg, hh, hn, hc, hs, ht⟩
  · cases h1
  · cases hv
    rw [hh]
    congr 2
    apply Array.ext'
    rw [← ht, List.take_of_length_le (by rw [Array.length_toList]; omega)]
/-- a part of a block, read -/
theorem Blk.seg {W : World} {g : Nat} {ys : List Nat} (h : Blk W g ys) (o n cap : Nat) (hn : o + n ≤ ys.length) (hc : n ≤ cap) (hm : cap ≤ 9223372036854775807) : Seg W (some ⟨g, o, none⟩) n cap ((ys.drop o).take n) := by
  have hl : ((ys.drop o).take n).length = n := by simp; omega
  refine ⟨hl, hc, hm, Num.small_take (Num.small_drop h.2 o) n, .inr ⟨g, o, rfl, h.lt, fun j hj => ?_⟩⟩
  rw [h.cell (o + j) (by omega)]; simp
end Go.Proofs.Ythjapjbiclkhcaa

/- The walks of the two FromInt: the number of an int, in new memory. -/
namespace Go.Proofs.Ythjapjbiclkhcaa
open Go.RowKit
set_option linter.unusedVariables false

theorem and32 (n : Int) (h0 : 0 ≤ n) (h1 : n < 18446744073709551616) : bits .and .u64 n 4294967295 = n % 4294967296 := by
  have h255 : (BitVec.ofInt 64 4294967295).toNat = 2 ^ 32 - 1 := by decide
  have key : (BitVec.ofInt 64 n &&& BitVec.ofInt 64 4294967295).toNat = (n % ((2 ^ 64 : Nat) : Int)).toNat % 2 ^ 32 := by
    rw [BitVec.toNat_and, BitVec.toNat_ofInt, h255, Nat.and_two_pow_sub_one_eq_mod]
  show IntKind.u64.wrap ((BitVec.ofInt 64 n &&& BitVec.ofInt 64 4294967295).toNat : Nat) = n % 4294967296
  rw [key, IntKind.wrap_u64]
  omega
theorem own_two (w : World) (p q : Nat) (hp : p < 4294967296) (hq : q < 4294967296) : Own (w.alloc (Obj.cells #[Value.int .u32 p, Value.int .u32 q] 56)) w.heap.size (some ⟨w.heap.size, 0, none⟩) 2 2 [p, q] := by
  refine ⟨?_, fun x hx => ?_⟩
  · have := World.ownsRow_lit (base := w.heap.size) (e := 56) (size := 1) w #[Value.int .u32 p, Value.int .u32 q] 2 (Nat.le_refl _) (by unfold maxLen; omega) rfl
    simpa [lim] using this
  · simp at hx; omega

set_option maxHeartbeats 1000000 in
set_option maxRecDepth 20000 in
theorem fromI (n : Int) (w : World) (h1 : -9223372036854775808 ≤ n) (h2 : n ≤ 9223372036854775807) :
    Calls Try.prog 58 #[.int .i64 n] w fun e w' => ∃ v, e = .returned v ∧ New w' w.heap.size v n ∧ Below w.heap.size w w' := by
  by_cases hn : n < 0
  · have e1 : IntKind.u64.wrap (-IntKind.u64.wrap n) % 4294967296 = ((n.natAbs % 4294967296 : Nat) : Int) := by rw [IntKind.wrap_u64, IntKind.wrap_u64]; omega
    have e2 : IntKind.u64.wrap (-IntKind.u64.wrap n) / 4294967296 % 4294967296 = ((n.natAbs / 4294967296 : Nat) : Int) := by rw [IntKind.wrap_u64, IntKind.wrap_u64]; omega
    have e3 : bits BinOp.and IntKind.u64 (-(n + 1) + 1) 4294967295 % 4294967296 = ((n.natAbs % 4294967296 : Nat) : Int) := by rw [and32 _ (by omega) (by omega)]; omega
    have e4 : (-(n + 1) + 1) / 4294967296 = ((n.natAbs / 4294967296 : Nat) : Int) := by omega
    have E1 := hide e1
    have E2 := hide e2
    have E3 := hide e3
    have E4 := hide e4
    clear e1 e2 e3 e4
    go_enter Try.func58, Try.ntmps58
    go_wp2_with fail
    rw [E1.out, E2.out]
    have HO := hide (own_two (w.alloc (Obj.cells #[Value.bool false, Value.slice none 0 0] 26)) (n.natAbs % 4294967296) (n.natAbs / 4294967296) (by omega) (by omega))
    rw [World.size_alloc] at HO
    have hval : mk true (Num.nat [n.natAbs % 4294967296, n.natAbs / 4294967296]) = n := by unfold mk Num.nat Num.nat Num.nat; simp; omega
    refine (bigOfI true _ _ _ [n.natAbs % 4294967296, n.natAbs / 4294967296] (w.heap.size + 1) _ HO.out (by simp)).mono ?_
    rintro e w1 ⟨v1, rfl, hn1, hb1⟩
    rw [hval] at hn1
    obtain ⟨k0, k1, f0, f1⟩ := box_keep (N := w.heap.size) (c0 := .bool false) (c1 := .slice none 0 0) hb1 (by simp only [World.size_alloc]; omega) (by go_simp) (by go_simp) (by go_simp) (by go_simp)
    have HF := hide (fun x y => fin_box (N := w.heap.size) (x := x) (y := y) hn1 (by first | omega | (simp only [World.size_alloc]; omega)) (Nat.le_refl _) (bl_trans (bl_alloc (bl_alloc (bl_refl w) _) _) hb1))
    obtain ⟨a1, c1, rfl, ho1⟩ := hn1
    clear hb1 ho1 HO
    go_wp2
    refine bodyPost_ret (v := .agg #[.bool (sgn n), .slice a1 (lms n).length c1]) (by simp [results, Try.results58, go_sem, *]) rfl ?_
    exact ⟨_, rfl, HF.out _ _⟩
  · have e1 : n % 4294967296 = ((n.natAbs % 4294967296 : Nat) : Int) := by omega
    have e2 : n / 4294967296 = ((n.natAbs / 4294967296 : Nat) : Int) := by omega
    have e3 : bits BinOp.and IntKind.u64 n 4294967295 % 4294967296 = ((n.natAbs % 4294967296 : Nat) : Int) := by rw [and32 _ (by omega) (by omega)]; omega
    have E1 := hide e1
    have E2 := hide e2
    have E3 := hide e3
    clear e1 e2 e3
    go_enter Try.func58, Try.ntmps58
    go_wp2_with fail
    rw [E1.out, E2.out]
    have HO := hide (own_two (w.alloc (Obj.cells #[Value.bool false, Value.slice none 0 0] 26)) (n.natAbs % 4294967296) (n.natAbs / 4294967296) (by omega) (by omega))
    rw [World.size_alloc] at HO
    have hval : mk false (Num.nat [n.natAbs % 4294967296, n.natAbs / 4294967296]) = n := by unfold mk Num.nat Num.nat Num.nat; simp; omega
    refine (bigOfI false _ _ _ [n.natAbs % 4294967296, n.natAbs / 4294967296] (w.heap.size + 1) _ HO.out (by simp)).mono ?_
    rintro e w1 ⟨v1, rfl, hn1, hb1⟩
    rw [hval] at hn1
    obtain ⟨k0, k1, f0, f1⟩ := box_keep (N := w.heap.size) (c0 := .bool false) (c1 := .slice none 0 0) hb1 (by simp only [World.size_alloc]; omega) (by go_simp) (by go_simp) (by go_simp) (by go_simp)
    have HF := hide (fun x y => fin_box (N := w.heap.size) (x := x) (y := y) hn1 (by first | omega | (simp only [World.size_alloc]; omega)) (Nat.le_refl _) (bl_trans (bl_alloc (bl_alloc (bl_refl w) _) _) hb1))
    obtain ⟨a1, c1, rfl, ho1⟩ := hn1
    clear hb1 ho1 HO
    go_wp2
    refine bodyPost_ret (v := .agg #[.bool (sgn n), .slice a1 (lms n).length c1]) (by simp [results, Try.results58, go_sem, *]) rfl ?_
    exact ⟨_, rfl, HF.out _ _⟩

set_option maxHeartbeats 1000000 in
set_option maxRecDepth 20000 in
theorem fromS (n : Int) (w : World) (h1 : -9223372036854775808 ≤ n) (h2 : n ≤ 9223372036854775807) :
    Calls Try.prog 11 #[.int .i64 n] w fun e w' => ∃ v, e = .returned v ∧ New w' w.heap.size v n ∧ Below w.heap.size w w' := by
  by_cases hn : n < 0
  · have e1 : IntKind.u64.wrap (-IntKind.u64.wrap n) % 4294967296 = ((n.natAbs % 4294967296 : Nat) : Int) := by rw [IntKind.wrap_u64, IntKind.wrap_u64]; omega
    have e2 : IntKind.u64.wrap (-IntKind.u64.wrap n) / 4294967296 % 4294967296 = ((n.natAbs / 4294967296 : Nat) : Int) := by rw [IntKind.wrap_u64, IntKind.wrap_u64]; omega
    have e3 : bits BinOp.and IntKind.u64 (-(n + 1) + 1) 4294967295 % 4294967296 = ((n.natAbs % 4294967296 : Nat) : Int) := by rw [and32 _ (by omega) (by omega)]; omega
    have e4 : (-(n + 1) + 1) / 4294967296 = ((n.natAbs / 4294967296 : Nat) : Int) := by omega
    have E1 := hide e1
    have E2 := hide e2
    have E3 := hide e3
    have E4 := hide e4
    clear e1 e2 e3 e4
    go_enter Try.func11, Try.ntmps11
    go_wp2_with fail
    rw [E3.out, E4.out]
    have HO := hide (own_two (w.alloc (Obj.cells #[Value.bool false, Value.slice none 0 0] 26)) (n.natAbs % 4294967296) (n.natAbs / 4294967296) (by omega) (by omega))
    rw [World.size_alloc] at HO
    have hval : mk true (Num.nat [n.natAbs % 4294967296, n.natAbs / 4294967296]) = n := by unfold mk Num.nat Num.nat Num.nat; simp; omega
    refine (makeS true _ _ _ [n.natAbs % 4294967296, n.natAbs / 4294967296] _ HO.out.seg (by omega)).mono ?_
    rintro e w1 ⟨v1, rfl, hn1, hb1⟩
    rw [hval] at hn1
    obtain ⟨k0, k1, f0, f1⟩ := box_keep (N := w.heap.size) (c0 := .bool false) (c1 := .slice none 0 0) hb1 (by simp only [World.size_alloc]; omega) (by go_simp) (by go_simp) (by go_simp) (by go_simp)
    have HF := hide (fun x y => fin_box (N := w.heap.size) (x := x) (y := y) hn1 (by first | omega | (simp only [World.size_alloc]; omega)) (Nat.le_refl _) (bl_trans (bl_alloc (bl_alloc (bl_refl w) _) _) hb1))
    obtain ⟨a1, c1, rfl, ho1⟩ := hn1
    clear hb1 ho1 HO
    go_wp2
    refine bodyPost_ret (v := .agg #[.bool (sgn n), .slice a1 (lms n).length c1]) (by simp [results, Try.results11, go_sem, *]) rfl ?_
    exact ⟨_, rfl, HF.out _ _⟩
  · have e1 : n % 4294967296 = ((n.natAbs % 4294967296 : Nat) : Int) := by omega
    have e2 : n / 4294967296 = ((n.natAbs / 4294967296 : Nat) : Int) := by omega
    have e3 : bits BinOp.and IntKind.u64 n 4294967295 % 4294967296 = ((n.natAbs % 4294967296 : Nat) : Int) := by rw [and32 _ (by omega) (by omega)]; omega
    have E1 := hide e1
    have E2 := hide e2
    have E3 := hide e3
    clear e1 e2 e3
    go_enter Try.func11, Try.ntmps11
    go_wp2_with fail
    rw [E3.out, E2.out]
    have HO := hide (own_two (w.alloc (Obj.cells #[Value.bool false, Value.slice none 0 0] 26)) (n.natAbs % 4294967296) (n.natAbs / 4294967296) (by omega) (by omega))
    rw [World.size_alloc] at HO
    have hval : mk false (Num.nat [n.natAbs % 4294967296, n.natAbs / 4294967296]) = n := by unfold mk Num.nat Num.nat Num.nat; simp; omega
    refine (makeS false _ _ _ [n.natAbs % 4294967296, n.natAbs / 4294967296] _ HO.out.seg (by omega)).mono ?_
    rintro e w1 ⟨v1, rfl, hn1, hb1⟩
    rw [hval] at hn1
    obtain ⟨k0, k1, f0, f1⟩ := box_keep (N := w.heap.size) (c0 := .bool false) (c1 := .slice none 0 0) hb1 (by simp only [World.size_alloc]; omega) (by go_simp) (by go_simp) (by go_simp) (by go_simp)
    have HF := hide (fun x y => fin_box (N := w.heap.size) (x := x) (y := y) hn1 (by first | omega | (simp only [World.size_alloc]; omega)) (Nat.le_refl _) (bl_trans (bl_alloc (bl_alloc (bl_refl w) _) _) hb1))
    obtain ⟨a1, c1, rfl, ho1⟩ := hn1
    clear hb1 ho1 HO
    go_wp2
    refine bodyPost_ret (v := .agg #[.bool (sgn n), .slice a1 (lms n).length c1]) (by simp [results, Try.results11, go_sem, *]) rfl ?_
    exact ⟨_, rfl, HF.out _ _⟩

end Go.Proofs.Ythjapjbiclkhcaa

/- The walks of trimLimbs and bigOf once more, with where their answers lie, and of slices.Clone over limbs. -/
namespace Go.Proofs.Ythjapjbiclkhcaa
open Go.RowKit
set_option linter.unusedVariables false

set_option maxHeartbeats 1000000 in
theorem trimI2 (a : Option Addr) (n cap : Nat) (xs : List Nat) (base : Nat) (w : World) (ho : Own w base a n cap xs) :
    Calls Try.prog 89 #[.slice a n cap] w fun e w' => w' = w ∧ ∃ a' c', e = .returned (.slice a' (Num.limbs (Num.nat xs)).length c') ∧ (∀ W, Own W base a n cap xs → Own W base a' (Num.limbs (Num.nat xs)).length c' (Num.limbs (Num.nat xs))) ∧ (a' = none ∨ a' = a) := by
  obtain rfl := ho.len
  have hs := ho.seg
  have hcap := hs.2.1
  have hcm := hs.2.2.1
  have hcell := hs.2.2.2.2
  have HO := hide ho
  have HC := hide hcell
  clear hs ho hcell
  go_enter Try.func89, Try.ntmps89
  go_wp2
  go_loopw [3] (fun i wr => ∃ k : Nat, k ≤ xs.length ∧ i = .int .i64 k ∧ wr = w ∧ Hid (Num.nat (xs.drop k) = 0)) (fun i _ => (intOf i).toNat)
  case atStart => exact ⟨xs.length, Nat.le_refl _, rfl, rfl, hide (by rw [List.drop_eq_nil_of_le (Nat.le_refl _)]; rfl)⟩
  case round =>
    obtain ⟨k, hk, rfl, rfl, hz⟩ := hrel
    by_cases h0 : k = 0
    · subst h0
      have HN : Hid (Num.limbs (Num.nat xs) = []) := hide (by have := hz.out; rw [List.drop_zero] at this; rw [this, Num.limbs_zero])
      go_wp2
      go_ret
      rw [HN.out]
      exact ⟨rfl, none, 0, rfl, fun W _ => Own.nil _ _, .inl rfl⟩
    · obtain ⟨j, rfl⟩ : ∃ j, k = j + 1 := ⟨k - 1, by omega⟩
      have hj : j < xs.length := by omega
      rcases HO.out.cases with ⟨rfl, h0, _, _⟩ | ⟨g, rfl, hg, hgl⟩
      · omega
      have hc := own_cell HO.out j hj
      by_cases hx : xs[j] = 0
      · have HZ : Hid (Num.nat (xs.drop j) = 0) := hide (by rw [Num.nat_drop xs j hj, hz.out, hx])
        rw [hx] at hc
        clear hz
        go_wp2
        exact ⟨⟨j, by omega, by go_num, trivial, HZ⟩, by simp [intOf]⟩
      · have hne : ((xs[j] : Int) != 0) = true := by rw [bne_iff_ne]; omega
        have ht := Num.limbs_of_trim HO.out.2 hk hz.out (fun i hi e => by cases e; exact hx)
        have HL : Hid ((Num.limbs (Num.nat xs)).length = j + 1) := hide (by rw [← ht, List.length_take]; omega)
        have HOX : Hid (∀ W, Own W base (some ⟨g, 0, none⟩) xs.length cap xs → Own W base (some ⟨g, 0, none⟩) (j + 1) cap (Num.limbs (Num.nat xs))) := hide (fun W h => by have := h.cut (j + 1) hk; rw [ht] at this; exact this)
        clear hz ht hx
        generalize xs[j] = x at *
        go_wp2
        go_ret
        rw [HL.out]
        exact ⟨rfl, _, _, rfl, HOX.out, .inr rfl⟩


set_option maxHeartbeats 2000000 in
set_option maxRecDepth 20000 in
theorem bigOfI2 (neg : Bool) (a : Option Addr) (n cap : Nat) (xs : List Nat) (base : Nat) (w : World) (ho : Own w base a n cap xs) :
    Calls Try.prog 67 #[.bool neg, .slice a n cap] w fun e w' => ∃ a' c', e = .returned (.agg #[.bool (sgn (mk neg (Num.nat xs))), .slice a' (lms (mk neg (Num.nat xs))).length c']) ∧ (∀ W, Own W base a n cap xs → Own W base a' (lms (mk neg (Num.nat xs))).length c' (lms (mk neg (Num.nat xs)))) ∧ (a' = none ∨ a' = a) ∧ Below w.heap.size w w' := by
  rw [mk_lms, mk_sgn]
  have HO := hide ho
  have hcm := ho.seg.2.2.1
  have hcap := ho.seg.2.1
  have hll := limbs_len_le ho.2
  rw [ho.len] at hll
  clear ho
  go_enter Try.func67, Try.ntmps67
  go_wp2_with fail
  refine (trimI2 a n cap xs base _ (HO.out.below (bl_alloc (bl_refl w) _))).mono ?_
  rintro e w1 ⟨hw, a', c', rfl, ho', ha'⟩
  subst w1
  have HO' := hide ho'
  have HA' := hide ha'
  have HP : Hid (decide (0 < Num.nat xs) = decide (0 < ((Num.limbs (Num.nat xs)).length : Int))) := hide (by
    by_cases h : Num.nat xs = 0
    · rw [h, Num.limbs_zero]; rfl
    · have : Num.limbs (Num.nat xs) ≠ [] := fun e => h (Num.limbs_eq_nil.1 e)
      have := List.length_pos_iff.2 this
      rw [decide_eq_true (by omega), decide_eq_true (by omega)])
  clear ho' ha'
  cases neg
  · go_wp2
    refine bodyPost_ret (v := .agg #[.bool false, .slice a' (Num.limbs (Num.nat xs)).length c']) (by simp [results, Try.results67, go_sem, *]) rfl ?_
    exact ⟨a', c', rfl, HO'.out, HA'.out, bl_alloc (bl_refl w) _⟩
  · go_wp2
    refine bodyPost_ret (v := .agg #[.bool (decide (0 < ((Num.limbs (Num.nat xs)).length : Int))), .slice a' (Num.limbs (Num.nat xs)).length c']) (by simp [results, Try.results67, go_sem, *]) rfl ?_
    refine ⟨a', c', ?_, HO'.out, HA'.out, bl_alloc (bl_refl w) _⟩
    rw [HP.out]; rfl

set_option maxHeartbeats 2000000 in
set_option maxRecDepth 20000 in
theorem cloneI (a : Option Addr) (n cap : Nat) (xs : List Nat) (w : World) (hs : Seg w a n cap xs) (hn : n ≤ 1048576) :
    Calls Try.prog 77 #[.slice a n cap] w fun e w' => ∃ a' c', e = .returned (.slice a' n c') ∧ Own w' w.heap.size a' n c' xs ∧ Below w.heap.size w w' := by
  obtain ⟨i0, hi, hz0, hz1, hz2⟩ := info_parts Try.info56
  obtain rfl := hs.1
  have hcap := hs.2.1
  have hcm := hs.2.2.1
  cases a with
  | none =>
    have h0 : xs = [] := by
      rcases hs.2.2.2.2 with h | ⟨g, o, h, _⟩
      · exact List.eq_nil_of_length_eq_zero h
      · cases h
    subst h0
    clear hs
    have q24 : ∀ (W : World) (n c n' c' : Nat), (binOp .eql 24 (.slice none n c) (.slice none n' c')).run Try.prog W = .ok (.bool true) W := fun W n c n' c' => Lib.run_eql_slice_nil W _ _ none n c n' c' Try.underlying24
    go_enter Try.func77, Try.ntmps77
    go_wp2
    go_ret
    exact ⟨none, 0, rfl, Own.nil _ _, bl_refl w⟩
  | some x =>
    have hnews : ∀ j u, ((xs.map lim)[j]? = some u) → (w.alloc (Obj.cells #[] 56)).cell? (x.add j) = some u := by
      intro j u hu
      have hj : j < xs.length := by have := (List.getElem?_eq_some_iff.1 hu).1; simpa using this
      have hu' : u = .int .u32 xs[j] := by
        have := (List.getElem?_eq_some_iff.1 hu).2
        simp [lim] at this; exact this.symm
      rcases hs.2.2.2.2 with h | ⟨g, o, h, hg, hc⟩
      · omega
      · cases h
        rw [hu', Addr.add_lit]
        exact ((bl_alloc (bl_refl w) _).cell (p := ⟨g, o + j, none⟩) hg).trans (hc j hj)
    have HNEWS := hide hnews
    have hrow0 : (w.alloc (Obj.cells #[] 56)).ownsRow w.heap.size 56 1 (.slice (some ⟨w.heap.size, 0, none⟩) 0 0) 0 [] := by
      have := World.ownsRow_lit (base := w.heap.size) (e := 56) (size := 1) w #[] 0 (by simp) (by unfold maxLen; omega) rfl
      simpa using this
    have HROW := hide hrow0
    have HS := hide hs.2.2.2.1
    clear hrow0 hnews hs
    have q24 : ∀ (W : World) (n c n' c' : Nat), (binOp .eql 24 (.slice (some x) n c) (.slice none n' c')).run Try.prog W = .ok (.bool false) W := fun W n c n' c' => Lib.run_eql_slice_nil W _ _ (some x) n c n' c' Try.underlying24
    go_enter Try.func77, Try.ntmps77
    go_wp2_with (at_builtin; refine wpList_append_own _ rfl _ _ 24 rfl w.heap.size 56 i0 (.int .u32 0) 1 4 Try.underlying24 hi hz0 hz1 hz2 rfl (by decide) _ 0 [] rfl HROW.out x xs.length cap (xs.map lim) rfl (by simp) HNEWS.out (one_lims _) (by unfold maxLen; omega) (by omega) (by simp) ?_; intro v' w1 hown' hgrow' _; have hgrow := (show (w.alloc (Obj.cells #[] 56)).grownBy w1 (some w.heap.size) from hgrow'); clear hgrow'; obtain ⟨a', c', rfl⟩ := row_val hown'; have HG := hide hgrow; have HO := hide hown'; clear hgrow hown')
    go_ret

    refine ⟨a', c', rfl, ⟨by have := HO.out; rw [Nat.zero_add, List.nil_append] at this; exact this, HS.out⟩, ?_⟩
    exact (bl_alloc (bl_refl w) _).grown HG.out (by simp only [World.size_alloc]; omega) (fun k e => by cases e; exact Nat.le_refl _)
end Go.Proofs.Ythjapjbiclkhcaa

/- The walks of the two ToInt: the int that a number is; nothing that was there turns. -/
namespace Go.Proofs.Ythjapjbiclkhcaa
open Go.RowKit
set_option linter.unusedVariables false

/-- the int that a sign and limbs are, and whether they are one -/
def fitsI (neg : Bool) (xs : List Nat) : Bool := okB neg xs && decide (-9223372036854775808 ≤ mk neg (Num.nat xs) ∧ mk neg (Num.nat xs) ≤ 9223372036854775807)
def toIntR (neg : Bool) (xs : List Nat) : Int := if fitsI neg xs then mk neg (Num.nat xs) else 0

theorem ret_two {a b : Int} {t : Bool} (h : a = b) : Ending.returned (.tuple #[.int .i64 a, .bool t]) = .returned (.tuple #[.int .i64 b, .bool t]) := by rw [h]
theorem or32 (m x : Int) (h0 : 0 ≤ m) (h1 : m < 4294967296) (hx : 0 ≤ x) (hx1 : x < 4294967296) : bits .or .u64 m (x * 4294967296) = m + x * 4294967296 := by
  obtain ⟨m, rfl⟩ := Int.eq_ofNat_of_zero_le h0
  obtain ⟨x, rfl⟩ := Int.eq_ofNat_of_zero_le hx
  have key : (BitVec.ofInt 64 (m : Int) ||| BitVec.ofInt 64 ((x : Int) * 4294967296)).toNat = m + x * 4294967296 := by
    rw [BitVec.toNat_or, BitVec.toNat_ofInt, BitVec.toNat_ofInt]
    have e1 : ((m : Int) % ((2 ^ 64 : Nat) : Int)).toNat = m := by omega
    have e2 : (((x : Int) * 4294967296) % ((2 ^ 64 : Nat) : Int)).toNat = 2 ^ 32 * x := by omega
    rw [e1, e2, Nat.or_comm, ← Nat.two_pow_add_eq_or_of_lt (by omega)]
    omega
  show IntKind.u64.wrap ((BitVec.ofInt 64 (m : Int) ||| BitVec.ofInt 64 ((x : Int) * 4294967296)).toNat : Nat) = _
  rw [key, IntKind.wrap_u64]
  omega
theorem or0 (x : Int) (hx : 0 ≤ x) (hx1 : x < 4294967296) : bits .or .u64 0 x = x := by
  obtain ⟨x, rfl⟩ := Int.eq_ofNat_of_zero_le hx
  have key : (BitVec.ofInt 64 (0 : Int) ||| BitVec.ofInt 64 (x : Int)).toNat = x := by
    rw [BitVec.toNat_or, BitVec.toNat_ofInt, BitVec.toNat_ofInt]
    have e2 : ((x : Int) % ((2 ^ 64 : Nat) : Int)).toNat = x := by omega
    rw [e2]; simp
  show IntKind.u64.wrap ((BitVec.ofInt 64 (0 : Int) ||| BitVec.ofInt 64 (x : Int)).toNat : Nat) = _
  rw [key, IntKind.wrap_u64]
  omega

end Go.Proofs.Ythjapjbiclkhcaa

/- Plain facts on a quotient and a rest of whole numbers with signs; nothing of the program stands here. -/
namespace Go.Proofs.Ythjapjbiclkhcaa
set_option linter.unusedVariables false
theorem div_uniq {x y q r : Int} (h : q * y + r = x) (h0 : 0 ≤ r) (h1 : r < (y.natAbs : Int)) : x / y = q ∧ x % y = r := by
  have hy : y ≠ 0 := by intro e; subst e; simp at h1; omega
  have hr : r % y = r := by
    by_cases hp : 0 ≤ y
    · exact Int.emod_eq_of_lt h0 (by omega)
    · have : r % (-y) = r := Int.emod_eq_of_lt h0 (by omega)
      rwa [Int.emod_neg] at this
  have h2 : x % y = r := by rw [← h, Int.add_comm, Int.add_mul_emod_self_right, hr]
  refine ⟨?_, h2⟩
  have h3 := Int.mul_ediv_add_emod x y
  rw [h2, ← h, Int.mul_comm q y] at h3
  have h4 : y * (x / y) = y * q := by
    have e : y * q + r = x := by rw [Int.mul_comm]; exact h
    rw [e] at h3
    omega
  exact Int.eq_of_mul_eq_mul_left hy h4
theorem bxor (a b : Bool) : (!a == b) = (a != b) := by cases a <;> cases b <;> rfl
theorem div_eq (x y : Int) : x.natAbs = y.natAbs * (x.natAbs / y.natAbs) + x.natAbs % y.natAbs := (Nat.div_add_mod _ _).symm
theorem mk_prod (x y : Int) (k : Nat) : mk (!sgn x == sgn y) k * y = if x < 0 then -((y.natAbs * k : Nat) : Int) else ((y.natAbs * k : Nat) : Int) := by
  unfold mk sgn
  by_cases hx : x < 0 <;> by_cases hy : y < 0 <;> simp [hx, hy]
  · have : (y.natAbs : Int) = -y := by omega
    rw [this, Int.neg_mul, Int.neg_neg, Int.mul_comm]
  · have : (y.natAbs : Int) = y := by omega
    rw [this, Int.mul_comm y, Int.neg_mul]
  · have : (y.natAbs : Int) = -y := by omega
    rw [this, Int.neg_mul, Int.neg_mul, Int.mul_comm]
  · have : (y.natAbs : Int) = y := by omega
    rw [this, Int.mul_comm]
theorem div_same (x y : Int) (hy : y ≠ 0) (h : 0 ≤ x ∨ x.natAbs % y.natAbs = 0) : x / y = mk (!sgn x == sgn y) (x.natAbs / y.natAbs) ∧ x % y = ((x.natAbs % y.natAbs : Nat) : Int) := by
  have hp : 0 < y.natAbs := by omega
  have hlt := Nat.mod_lt x.natAbs hp
  refine div_uniq ?_ (by omega) (by omega)
  have e := div_eq x y
  rw [mk_prod]
  generalize y.natAbs * (x.natAbs / y.natAbs) = P at *
  generalize x.natAbs % y.natAbs = r at *
  by_cases hx : x < 0
  · rw [if_pos hx]; omega
  · rw [if_neg hx]; omega
theorem div_more (x y : Int) (hy : y ≠ 0) (hx : x < 0) (h : x.natAbs % y.natAbs ≠ 0) : x / y = mk (!sgn x == sgn y) (x.natAbs / y.natAbs + 1) ∧ x % y = ((y.natAbs - x.natAbs % y.natAbs : Nat) : Int) := by
  have hp : 0 < y.natAbs := by omega
  have hlt := Nat.mod_lt x.natAbs hp
  refine div_uniq ?_ (by omega) (by omega)
  have e := div_eq x y
  rw [mk_prod, if_pos hx, Nat.mul_add, Nat.mul_one]
  generalize y.natAbs * (x.natAbs / y.natAbs) = P at *
  generalize x.natAbs % y.natAbs = r at *
  omega
/-- what bigDivide makes where the rest is below 0 -/
theorem div_back (x y : Int) (hy : y ≠ 0) (hx : x < 0) (h : x.natAbs % y.natAbs ≠ 0) :
    (y < 0 → mk (!sgn x == sgn y) (x.natAbs / y.natAbs) + 1 = x / y ∧ mk (sgn x) (x.natAbs % y.natAbs) - y = x % y) ∧ (0 < y → mk (!sgn x == sgn y) (x.natAbs / y.natAbs) - 1 = x / y ∧ mk (sgn x) (x.natAbs % y.natAbs) + y = x % y) := by
  obtain ⟨h1, h2⟩ := div_more x y hy hx h
  have hlt := Nat.mod_lt x.natAbs (show 0 < y.natAbs by omega)
  rw [h1, h2]
  unfold mk sgn
  generalize x.natAbs / y.natAbs = q at *
  generalize x.natAbs % y.natAbs = r at *
  refine ⟨fun h => ?_, fun h => ?_⟩
  · simp [hx, h]; omega
  · have : ¬ y < 0 := by omega
    simp [hx, this]; omega
end Go.Proofs.Ythjapjbiclkhcaa

/- A number's limbs, taken off its structure. -/
namespace Go.Proofs.Ythjapjbiclkhcaa
open Go.RowKit
theorem field_limbs (x y : Value) (w : World) (hy : ∃ a n c, y = .slice a n c) : Sem.run Try.prog (Instr.field 26 (.agg #[x, y]) 1) w = .ok y w := by
  obtain ⟨a, n, c, rfl⟩ := hy
  simp [Instr.field, go_sem, asAgg]


end Go.Proofs.Ythjapjbiclkhcaa
