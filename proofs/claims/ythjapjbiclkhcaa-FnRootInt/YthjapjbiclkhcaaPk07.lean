/- My texts Bit2, VBase, Rc, in this order. -/
import Derived.Test.YthjapjbiclkhcaaPk01
import Derived.Test.YthjapjbiclkhcaaChecked
import Derived.WalkKit
import Derived.WalkLawsBesides
import Derived.Deep.QuietTactic
import Derived.BigQuiet
import Derived.OwnWalk
import Derived.Laws.OwnMore
import Derived.Maps.AppendAt
import Derived.Lib.QuietBelow
/- The walk of l02Bit: 2 to the k. -/
namespace Go.Proofs.Ythjapjbiclkhcaa
open Go.RowKit
set_option linter.unusedVariables false

theorem bit_nat (k : Nat) : Num.nat ((List.replicate (k / 32 + 1) 0).set (k / 32) (2 ^ (k % 32))) = 2 ^ k := by
  have h := Num.nat_set (List.replicate (k / 32 + 1) 0) (k / 32) (2 ^ (k % 32)) (by simp)
  rw [Num.nat_replicate] at h
  simp only [List.getElem_replicate, Nat.mul_zero, Nat.add_zero, Nat.zero_add] at h
  rw [h, show (4294967296 : Nat) = 2 ^ 32 from rfl, ← Nat.pow_mul, ← Nat.pow_add]
  congr 1; omega
theorem shl_fact : ∀ m : Nat, m < 32 → (2 : Int) ^ m % 4294967296 = ((2 ^ m : Nat) : Int) ∧ 2 ^ m < 4294967296 := by decide +kernel

set_option maxHeartbeats 2000000 in
set_option maxRecDepth 20000 in
theorem bitS (k : Nat) (w : World) (hk : k ≤ 2000) :
    Calls Try.prog 82 #[.int .i64 (k : Int)] w fun e w' => ∃ v, e = .returned v ∧ New w' w.heap.size v ((2 ^ k : Nat) : Int) ∧ Below w.heap.size w w' := by
  obtain ⟨i0, hi, hz0, hz1, hz2⟩ := info_parts Try.info56


  have kr0 : (w.alloc (Obj.cells #[Value.bool false, Value.slice none 0 0] 26)).cell? ⟨w.heap.size, 0, none⟩ = some (Value.bool false) := by go_simp
  have kr1 : (w.alloc (Obj.cells #[Value.bool false, Value.slice none 0 0] 26)).cell? ⟨w.heap.size, 1, none⟩ = some (Value.slice none 0 0) := by go_simp
  have fr0 : (w.alloc (Obj.cells #[Value.bool false, Value.slice none 0 0] 26)).frozen? ⟨w.heap.size, 0, none⟩ = false := by go_simp
  have fr1 : (w.alloc (Obj.cells #[Value.bool false, Value.slice none 0 0] 26)).frozen? ⟨w.heap.size, 1, none⟩ = false := by go_simp
  have zr : w.heap.size < (w.alloc (Obj.cells #[Value.bool false, Value.slice none 0 0] 26)).heap.size := by simp only [World.size_alloc]; omega
  have HB := hide (bl_alloc (bl_refl w) (Obj.cells #[Value.bool false, Value.slice none 0 0] 26))
  obtain ⟨q, hq0⟩ : ∃ q, k / 32 = q := ⟨_, rfl⟩
  obtain ⟨m, hm0⟩ : ∃ m, k % 32 = m := ⟨_, rfl⟩
  have hq : (k : Int) / 32 = (q : Int) := by omega
  have hm : (k : Int) % 32 = (m : Int) := by omega
  have hm32 : m < 32 := by omega
  have hN := hide (bit_nat k)
  rw [hq0, hm0] at hN
  have hsh := hide (shl_fact m hm32)
  have hq1 : IntKind.i64.wrap ((q : Int) + 1) = (q : Int) + 1 := by rw [IntKind.wrap_i64]; omega
  have hq9 : q ≤ 70 := by omega
  go_enter Try.func82, Try.ntmps82
  go_wp2_with (at_make; refine wpList_make_full _ rfl _ _ 24 rfl (w.heap.size + 1) 56 i0 (.int .u32 0) 1 Try.underlying24 hi hz0 hz1 _ _ _ _ (q + 1) rfl rfl rfl rfl (by rw [hz2]; omega) (by unfold maxLen; omega) (by simp) ?_)
  intro w1 hown hgrow
  have hb1 : Below (w.alloc (Obj.cells #[Value.bool false, Value.slice none 0 0] 26)).heap.size (w.alloc (Obj.cells #[Value.bool false, Value.slice none 0 0] 26)) w1 := (Below.refl _ _).grown hgrow (Nat.le_refl _) (by simp)
  have HO := hide (own_made hown)
  replace kr0 := (hb1.cell (p := ⟨w.heap.size, 0, none⟩) zr).trans kr0
  replace kr1 := (hb1.cell (p := ⟨w.heap.size, 1, none⟩) zr).trans kr1
  replace fr0 := (hb1.frozen (p := ⟨w.heap.size, 0, none⟩) zr).trans fr0
  replace fr1 := (hb1.frozen (p := ⟨w.heap.size, 1, none⟩) zr).trans fr1
  replace zr := Nat.lt_of_lt_of_le zr hb1.size
  replace HB := hide (bl_trans HB.out hb1)
  obtain ⟨y, hy⟩ := own_has HO.out q (by omega)
  have fy := HO.out.1.frozenAt q
  clear hb1 hown hgrow
  have hq2 : (q : Int) < (q : Int) + 1 := by omega
  have hm2 : (m : Int) < 32 := by omega
  go_wp2_with fail
  rw [hsh.out.1]
  have hset := own_set HO.out q (2 ^ m) hsh.out.2
  have HS := hide hset.1
  have hzz := HB.out.size
  have k0 : (w1.setCell ⟨w.heap.size + 1, q, none⟩ (Value.int .u32 ((2 ^ m : Nat) : Int))).cell? ⟨w.heap.size, 0, none⟩ = some (Value.bool false) := by go_simp
  have k1 : (w1.setCell ⟨w.heap.size + 1, q, none⟩ (Value.int .u32 ((2 ^ m : Nat) : Int))).cell? ⟨w.heap.size, 1, none⟩ = some (Value.slice none 0 0) := by go_simp
  have f0 : (w1.setCell ⟨w.heap.size + 1, q, none⟩ (Value.int .u32 ((2 ^ m : Nat) : Int))).frozen? ⟨w.heap.size, 0, none⟩ = false := by go_simp
  have f1 : (w1.setCell ⟨w.heap.size + 1, q, none⟩ (Value.int .u32 ((2 ^ m : Nat) : Int))).frozen? ⟨w.heap.size, 1, none⟩ = false := by go_simp
  have zr2 : w.heap.size < (w1.setCell ⟨w.heap.size + 1, q, none⟩ (Value.int .u32 ((2 ^ m : Nat) : Int))).heap.size := by simp only [World.size_setCell]; omega
  have HB2 := hide (HB.out.setCell (p := ⟨w.heap.size + 1, q, none⟩) (by dsimp only; omega) (Value.int .u32 ((2 ^ m : Nat) : Int)))
  clear hset kr0 kr1 fr0 fr1 hy fy zr HO HB
  generalize (w1.setCell ⟨w.heap.size + 1, q, none⟩ (Value.int .u32 ((2 ^ m : Nat) : Int))) = w2 at *
  have HMK := hide (makeS false (some ⟨w.heap.size + 1, 0, none⟩) (q + 1) (q + 1) _ w2 HS.out.seg (by omega))
  rw [hN.out] at HMK
  refine HMK.out.mono ?_
  rintro e w3 ⟨v, rfl, hn, hb⟩
  rw [show mk false (2 ^ k) = ((2 ^ k : Nat) : Int) from rfl] at hn
  obtain ⟨a3, c3, rfl, ho⟩ := hn
  replace k0 := (hb.cell (p := ⟨w.heap.size, 0, none⟩) zr2).trans k0
  replace k1 := (hb.cell (p := ⟨w.heap.size, 1, none⟩) zr2).trans k1
  replace f0 := (hb.frozen (p := ⟨w.heap.size, 0, none⟩) zr2).trans f0
  replace f1 := (hb.frozen (p := ⟨w.heap.size, 1, none⟩) zr2).trans f1
  have HB3 := hide (bl_trans HB2.out hb)
  have HO3 := hide ho
  clear hb ho HMK HS hsh hN
  go_wp2
  refine bodyPost_ret (v := .agg #[.bool (sgn ((2 ^ k : Nat) : Int)), .slice a3 (lms ((2 ^ k : Nat) : Int)).length c3]) (by simp [results, Try.results82, go_sem, k0, k1]) rfl ?_
  exact ⟨_, rfl, ⟨a3, c3, rfl, ((HO3.out.setCell (p := ⟨w.heap.size, 0, none⟩) (by dsimp only; omega) _).setCell (p := ⟨w.heap.size, 1, none⟩) (by dsimp only; omega) _).mono (by omega)⟩, (HB3.out.setCell (p := ⟨w.heap.size, 0, none⟩) (by dsimp only; omega) _).setCell (p := ⟨w.heap.size, 1, none⟩) (by dsimp only; omega) _⟩
end Go.Proofs.Ythjapjbiclkhcaa

/- What the walks of this seat say of memory: a list of ints that is read, one that is owned, powers as a structure of a number and a list. -/
namespace Go.Proofs.Ythjapjbiclkhcaa.V
open Go.RowKit
set_option linter.unusedVariables false
set_option maxRecDepth 20000

theorem hide {p : Prop} (h : p) : Hid p := h
theorem ret_int {k : IntKind} {a b : Int} (h : a = b) : Ending.returned (.int k a) = .returned (.int k b) := by rw [h]
theorem ret_bool {a b : Bool} (h : a = b) : Ending.returned (.bool a) = .returned (.bool b) := by rw [h]
theorem below_drewN {B : Nat} {a w : World} (h : Below B a w) (n : Nat) : Below B a (w.drewN n) := h.trans ⟨rfl, rfl, rfl, Nat.le_refl _, fun _ _ => rfl⟩
theorem grown_of_below {A B : World} (h : Below A.heap.size A B) : A.grownBy B none :=
  ⟨h.os, h.tape, h.output, h.size, fun k hk _ => h.block k hk⟩
theorem grown_trans {A B C : World} {r : Option Nat} (h : A.grownBy B r) (k : B.grownBy C r) : A.grownBy C r :=
  ⟨k.os.trans h.os, k.tape.trans h.tape, k.output.trans h.output, Nat.le_trans h.size k.size, fun j hj hn => (k.block j (Nat.lt_of_lt_of_le hj h.size) hn).trans (h.block j hj hn)⟩
theorem grown_any {A B : World} {r : Option Nat} (h : A.grownBy B none) : A.grownBy B r :=
  ⟨h.os, h.tape, h.output, h.size, fun j hj _ => h.block j hj (by simp)⟩

theorem bl_alloc {a w : World} (h : Below a.heap.size a w) (o : Obj) : Below a.heap.size a (w.alloc o) := h.alloc h.size o
theorem bl_trans {a b c : World} (h : Below a.heap.size a b) (k : Below b.heap.size b c) : Below a.heap.size a c := h.trans (k.mono h.size)
theorem bl_refl (a : World) : Below a.heap.size a a := Below.refl _ _
/-- an int as a value -/
def lim (x : Int) : Value := .int .i64 x
/-- a list of ints that is read -/
def Seg (W : World) (a : Option Addr) (n cap : Nat) (xs : List Int) : Prop :=
  xs.length = n ∧ n ≤ cap ∧ cap ≤ 9223372036854775807 ∧ (n = 0 ∨ ∃ g o, a = some ⟨g, o, none⟩ ∧ g < W.heap.size ∧ ∀ j (hj : j < xs.length), W.cell? ⟨g, o + j, none⟩ = some (.int .i64 xs[j]))
/-- a list of ints in memory of its own, behind a base -/
def Own (W : World) (base : Nat) (a : Option Addr) (n cap : Nat) (xs : List Int) : Prop :=
  W.ownsRow base 3 1 (.slice a n cap) n (xs.map lim)
theorem Seg.below {W W' : World} {a : Option Addr} {n cap : Nat} {xs : List Int} (h : Seg W a n cap xs) (hb : Below W.heap.size W W') : Seg W' a n cap xs := by
  obtain ⟨h1, h2, h3, h5⟩ := h
  refine ⟨h1, h2, h3, ?_⟩
  rcases h5 with h5 | ⟨g, o, ha, hg, hc⟩
  · exact .inl h5
  · exact .inr ⟨g, o, ha, Nat.lt_of_lt_of_le hg hb.size, fun j hj => (hb.cell (p := ⟨g, o + j, none⟩) hg).trans (hc j hj)⟩
theorem Seg.grown {W W' : World} {a : Option Addr} {n cap : Nat} {xs : List Int} {r : Option Nat} (h : Seg W a n cap xs) (hb : W.grownBy W' r) (hne : ∀ g o s, a = some ⟨g, o, s⟩ → r ≠ some g) : Seg W' a n cap xs := by
  obtain ⟨h1, h2, h3, h5⟩ := h
  refine ⟨h1, h2, h3, ?_⟩
  rcases h5 with h5 | ⟨g, o, ha, hg, hc⟩
  · exact .inl h5
  · exact .inr ⟨g, o, ha, Nat.lt_of_lt_of_le hg hb.size, fun j hj => hb.cell (hc j hj) (fun e => hne g o none ha e.symm)⟩
theorem Own.len {W : World} {base : Nat} {a : Option Addr} {n cap : Nat} {xs : List Int} (h : Own W base a n cap xs) : xs.length = n := by
  have := h.1; simpa using this
theorem Own.seg {W : World} {base : Nat} {a : Option Addr} {n cap : Nat} {xs : List Int} (h : Own W base a n cap xs) : Seg W a n cap xs := by
  have hl := h.len
  rcases h.2 with ⟨h1, h2⟩ | ⟨g, cap', cur, hv, hg, hh, hn, hc, _⟩
  · cases h1
    exact ⟨hl, Nat.le_refl _, by omega, .inl rfl⟩
  · cases hv
    exact ⟨hl, hn, hc, .inr ⟨g, 0, rfl, (Array.getElem?_eq_some_iff.1 hh).1, fun j hj => by rw [Nat.zero_add, h.cellAt j (by omega)]; simp [hj, lim]⟩⟩
theorem Own.mono {W : World} {base base' : Nat} {a : Option Addr} {n cap : Nat} {xs : List Int} (h : Own W base a n cap xs) (hb : base' ≤ base) : Own W base' a n cap xs := by
  refine ⟨h.1, ?_⟩
  rcases h.2 with h' | ⟨g, cap', cur, hv, hg, rest⟩
  · exact .inl h'
  · exact .inr ⟨g, cap', cur, hv, Nat.le_trans hb hg, rest⟩
theorem Own.kept {W W' : World} {base : Nat} {a : Option Addr} {n cap : Nat} {xs : List Int} {r : Option Nat} (h : Own W base a n cap xs) (hb : W.grownBy W' r) (hne : (Value.slice a n cap).ownBlock = none ∨ (Value.slice a n cap).ownBlock ≠ r) : Own W' base a n cap xs :=
  World.ownsRow.kept h hb hne
theorem Own.below {W W' : World} {base : Nat} {a : Option Addr} {n cap : Nat} {xs : List Int} (h : Own W base a n cap xs) (hb : Below W.heap.size W W') : Own W' base a n cap xs :=
  h.kept (grown_of_below hb) (by cases a <;> simp [Value.ownBlock])
theorem Own.lt {W : World} {base : Nat} {g o n cap : Nat} {s : Option Nat} {xs : List Int} (h : Own W base (some ⟨g, o, none⟩) n cap xs) : base ≤ g ∧ g < W.heap.size := World.ownsRow.lt h g rfl
theorem Own.setCell {W : World} {base : Nat} {a : Option Addr} {n cap : Nat} {xs : List Int} (h : Own W base a n cap xs) {p : Addr} (hp : p.block < base) (v : Value) : Own (W.setCell p v) base a n cap xs := ownsRow_setCell_below h hp v
theorem Own.nil (W : World) (base : Nat) : Own W base none 0 0 [] := World.ownsRow_nil _ _ _ _
theorem Own.cases {W : World} {base : Nat} {a : Option Addr} {n cap : Nat} {xs : List Int} (h : Own W base a n cap xs) :
    (a = none ∧ n = 0 ∧ cap = 0 ∧ xs = []) ∨ ∃ g, a = some ⟨g, 0, none⟩ ∧ base ≤ g ∧ g < W.heap.size := by
  have hl := h.len
  rcases h.2 with ⟨h1, h2⟩ | ⟨g, cap', cur, hv, hg, hh, hn, hc, _⟩
  · cases h1; exact .inl ⟨rfl, rfl, rfl, List.eq_nil_of_length_eq_zero hl⟩
  · cases hv; exact .inr ⟨g, rfl, hg, (Array.getElem?_eq_some_iff.1 hh).1⟩
theorem own_apart {W W' : World} {b n m c c' : Nat} {a a' : Option Addr} {xs ys : List Int} (h : Own W b a n c xs) (h' : Own W' W.heap.size a' m c' ys) : (Value.slice a n c).ownBlock = none ∨ (Value.slice a n c).ownBlock ≠ (Value.slice a' m c').ownBlock := by
  cases hk : (Value.slice a n c).ownBlock with
  | none => exact .inl rfl
  | some k =>
    refine .inr fun e => ?_
    have h1 := (World.ownsRow.lt h k hk).2
    have h2 := (World.ownsRow.lt h' k e.symm).1
    omega
/-- the list's first m ints, cut off it -/
theorem Own.cut {W : World} {base : Nat} {g n cap : Nat} {xs : List Int} (h : Own W base (some ⟨g, 0, none⟩) n cap xs) (m : Nat) (hm : m ≤ n) : Own W base (some ⟨g, 0, none⟩) m cap (xs.take m) := by
  have hl := h.len
  refine ⟨by simp; omega, ?_⟩
  rcases h.2 with ⟨h1, h2⟩ | ⟨g', cap', cur, hv, hg, hh, hn, hc, hs, ht⟩
  · cases h1
  · cases hv
    refine .inr ⟨g, cap, cur, rfl, hg, hh, by omega, hc, hs, ?_⟩
    rw [List.map_take, ← ht, List.take_take]; congr 1; omega

theorem own_made {W : World} {base : Nat} {a : Option Addr} {n : Nat} (h : W.ownsRow base 3 1 (.slice a n n) n (madeCells #[Value.int IntKind.i64 0] n).toList) : Own W base a n n (List.replicate n 0) := by
  rw [toList_madeCells_one] at h
  simpa [Own, lim] using h
theorem own_set {W : World} {base g n cap : Nat} {xs : List Int} (h : Own W base (some ⟨g, 0, none⟩) n cap xs) (j : Nat) (x : Int) :
    Own (W.setCell ⟨g, j, none⟩ (.int .i64 x)) base (some ⟨g, 0, none⟩) n cap (xs.set j x) ∧ W.grownBy (W.setCell ⟨g, j, none⟩ (.int .i64 x)) (some g) := by
  have := World.ownsRow.stored h j (lim x)
  rw [← List.map_set] at this
  exact this
theorem own_cell {W : World} {base g n cap : Nat} {xs : List Int} (h : Own W base (some ⟨g, 0, none⟩) n cap xs) (j : Nat) (hj : j < xs.length) : W.cell? ⟨g, j, none⟩ = some (.int .i64 xs[j]) := by
  have hl := h.len
  rw [h.cellAt j (by omega)]; simp [hj, lim]
theorem own_has {W : World} {base g n cap : Nat} {xs : List Int} (h : Own W base (some ⟨g, 0, none⟩) n cap xs) (j : Nat) (hj : j < n) : ∃ y : Int, W.cell? ⟨g, j, none⟩ = some (.int .i64 y) := ⟨_, own_cell h j (by rw [h.len]; exact hj)⟩
theorem row_val {W : World} {base n : Nat} {v : Value} {ys : List Value} (h : W.ownsRow base 3 1 v n ys) : ∃ a cap, v = .slice a n cap := by
  rcases h.2 with ⟨h1, h2⟩ | ⟨g, cap, cur, hv, _⟩
  · exact ⟨none, 0, by rw [h1, h2]⟩
  · exact ⟨_, _, hv⟩
theorem one_lims (xs : List Int) : ∀ u ∈ xs.map lim, u.oneCell' = true := by
  intro u hu
  obtain ⟨x, _, rfl⟩ := List.mem_map.1 hu
  rfl
theorem grown_frozen {w w' : World} {r : Option Nat} (hg : w.grownBy w' r) {p : Addr} (hp : p.block < w.heap.size) (hne : some p.block ≠ r) : w'.frozen? p = w.frozen? p := World.frozen?_of_block (hg.block p.block hp hne)
/-- a structure of a number and a list that is read -/
def Raw (W : World) (v : Value) (den : Int) (xs : List Int) : Prop := ∃ a cap, v = .agg #[.int .i64 den, .slice a xs.length cap] ∧ Seg W a xs.length cap xs
/-- one in memory of its own -/
def Got (W : World) (base : Nat) (v : Value) (den : Int) (xs : List Int) : Prop := ∃ a cap, v = .agg #[.int .i64 den, .slice a xs.length cap] ∧ Own W base a xs.length cap xs
theorem Raw.below {W W' : World} {v : Value} {den : Int} {xs : List Int} (h : Raw W v den xs) (hb : Below W.heap.size W W') : Raw W' v den xs := by
  obtain ⟨a, cap, rfl, h⟩ := h; exact ⟨a, cap, rfl, h.below hb⟩
theorem Got.raw {W : World} {base : Nat} {v : Value} {den : Int} {xs : List Int} (h : Got W base v den xs) : Raw W v den xs := by
  obtain ⟨a, cap, rfl, h⟩ := h; exact ⟨a, cap, rfl, h.seg⟩
theorem Got.below {W W' : World} {base : Nat} {v : Value} {den : Int} {xs : List Int} (h : Got W base v den xs) (hb : Below W.heap.size W W') : Got W' base v den xs := by
  obtain ⟨a, cap, rfl, h⟩ := h; exact ⟨a, cap, rfl, h.below hb⟩
theorem Got.mono {W : World} {base base' : Nat} {v : Value} {den : Int} {xs : List Int} (h : Got W base v den xs) (hb : base' ≤ base) : Got W base' v den xs := by
  obtain ⟨a, cap, rfl, h⟩ := h; exact ⟨a, cap, rfl, h.mono hb⟩
end Go.Proofs.Ythjapjbiclkhcaa.V

/- What the walks say of memory: records of signs, ints, texts, limbs and lists of ints; lists of records, with what lies within. -/
namespace Go.Proofs.Ythjapjbiclkhcaa
open Go.RowKit
set_option linter.unusedVariables false
set_option maxRecDepth 20000

/-- what one cell of a record holds -/
inductive Lf where
  | b (x : Bool)
  | i (x : Int)
  | t (s : ByteArray)
  | l (xs : List Nat)
  | p (xs : List Int)
/-- what the law counts of it -/
def Lf.sz : Lf → Nat
  | .b _ => 0
  | .i _ => 0
  | .t s => s.size
  | .l xs => xs.length
  | .p xs => xs.length
def Lf.wf : Lf → Prop
  | .b _ => True
  | .i x => -9223372036854775808 ≤ x ∧ x ≤ 9223372036854775807
  | .t s => s.size ≤ 9223372036854775807
  | .l _ => True
  | .p xs => ∀ y ∈ xs, -9223372036854775808 ≤ y ∧ y ≤ 9223372036854775807
/-- it lies in this cell; what lies within lies in blocks of X -/
def Lf.at (W : World) (X : Nat → Prop) (g o : Nat) : Lf → Prop
  | .b x => W.cell? ⟨g, o, none⟩ = some (.bool x)
  | .i x => W.cell? ⟨g, o, none⟩ = some (.int .i64 x)
  | .t s => W.cell? ⟨g, o, none⟩ = some (.string s)
  | .l xs => ∃ a c, W.cell? ⟨g, o, none⟩ = some (.slice a xs.length c) ∧ Seg W a xs.length c xs ∧ (∀ q, a = some q → X q.block)
  | .p xs => ∃ a c, W.cell? ⟨g, o, none⟩ = some (.slice a xs.length c) ∧ V.Seg W a xs.length c xs ∧ (∀ q, a = some q → X q.block)
theorem Lf.at.below {W W' : World} {X : Nat → Prop} {g o : Nat} {f : Lf} (h : f.at W X g o) (hg : g < W.heap.size) (hb : Below W.heap.size W W') : f.at W' X g o := by
  have e := hb.cell (p := ⟨g, o, none⟩) hg
  cases f with
  | b x => exact e.trans h
  | i x => exact e.trans h
  | t x => exact e.trans h
  | l xs => obtain ⟨a, c, k, s, hx⟩ := h; exact ⟨a, c, e.trans k, s.below hb, hx⟩
  | p xs => obtain ⟨a, c, k, s, hx⟩ := h; exact ⟨a, c, e.trans k, s.below hb, hx⟩
theorem Lf.at.mono {W : World} {X Y : Nat → Prop} {g o : Nat} {f : Lf} (h : f.at W X g o) (hX : ∀ k, X k → Y k) : f.at W Y g o := by
  cases f with
  | b x => exact h
  | i x => exact h
  | t x => exact h
  | l xs => obtain ⟨a, c, k, s, hx⟩ := h; exact ⟨a, c, k, s, fun q e => hX _ (hx q e)⟩
  | p xs => obtain ⟨a, c, k, s, hx⟩ := h; exact ⟨a, c, k, s, fun q e => hX _ (hx q e)⟩
theorem Seg.setBlk {W : World} {a : Option Addr} {n cap : Nat} {xs : List Nat} (h : Seg W a n cap xs) {p : Addr} (hp : ∀ q, a = some q → q.block ≠ p.block) (v : Value) : Seg (W.setCell p v) a n cap xs := by
  obtain ⟨h1, h2, h3, h4, h5⟩ := h
  refine ⟨h1, h2, h3, h4, ?_⟩
  rcases h5 with h5 | ⟨g, o, ha, hg, hc⟩
  · exact .inl h5
  · refine .inr ⟨g, o, ha, by simp; exact hg, fun j hj => ?_⟩
    rw [World.cell?_of_block (Below.heap_setCell W p v g (hp _ ha))]
    exact hc j hj
theorem V.Seg.setBlk {W : World} {a : Option Addr} {n cap : Nat} {xs : List Int} (h : V.Seg W a n cap xs) {p : Addr} (hp : ∀ q, a = some q → q.block ≠ p.block) (v : Value) : V.Seg (W.setCell p v) a n cap xs := by
  obtain ⟨h1, h2, h3, h5⟩ := h
  refine ⟨h1, h2, h3, ?_⟩
  rcases h5 with h5 | ⟨g, o, ha, hg, hc⟩
  · exact .inl h5
  · refine .inr ⟨g, o, ha, by simp; exact hg, fun j hj => ?_⟩
    rw [World.cell?_of_block (Below.heap_setCell W p v g (hp _ ha))]
    exact hc j hj
/-- a store elsewhere -/
theorem Lf.at.set {W : World} {X : Nat → Prop} {g o : Nat} {f : Lf} (h : f.at W X g o) {b u : Nat} (hX : ∀ k, X k → k ≠ b) (hne : g ≠ b ∨ o ≠ u) (v : Value) : f.at (W.setCell ⟨b, u, none⟩ v) X g o := by
  have hab : (⟨b, u, none⟩ : Addr) ≠ ⟨g, o, none⟩ := by intro e; cases e; omega
  have e : (W.setCell ⟨b, u, none⟩ v).cell? ⟨g, o, none⟩ = W.cell? ⟨g, o, none⟩ := by apply World.cell?_setCell_other; exact hab
  cases f with
  | b x => exact e.trans h
  | i x => exact e.trans h
  | t x => exact e.trans h
  | l xs => obtain ⟨a, c, k, s, hx⟩ := h; exact ⟨a, c, e.trans k, s.setBlk (fun q e => hX _ (hx q e)) v, hx⟩
  | p xs => obtain ⟨a, c, k, s, hx⟩ := h; exact ⟨a, c, e.trans k, s.setBlk (fun q e => hX _ (hx q e)) v, hx⟩

/-- a record in the cells from here on -/
def Rec (W : World) (X : Nat → Prop) (g : Nat) : Nat → List Lf → Prop
  | _, [] => True
  | o, f :: r => f.at W X g o ∧ Rec W X g (o + 1) r
theorem Rec.below {W W' : World} {X : Nat → Prop} {g o : Nat} {r : List Lf} (h : Rec W X g o r) (hg : g < W.heap.size) (hb : Below W.heap.size W W') : Rec W' X g o r := by
  induction r generalizing o with
  | nil => trivial
  | cons f r ih => exact ⟨h.1.below hg hb, ih h.2⟩
theorem Rec.mono {W : World} {X Y : Nat → Prop} {g o : Nat} {r : List Lf} (h : Rec W X g o r) (hX : ∀ k, X k → Y k) : Rec W Y g o r := by
  induction r generalizing o with
  | nil => trivial
  | cons f r ih => exact ⟨h.1.mono hX, ih h.2⟩
theorem Rec.set {W : World} {X : Nat → Prop} {g o : Nat} {r : List Lf} (h : Rec W X g o r) {b u : Nat} (hX : ∀ k, X k → k ≠ b) (hne : g ≠ b ∨ u < o ∨ o + r.length ≤ u) (v : Value) : Rec (W.setCell ⟨b, u, none⟩ v) X g o r := by
  induction r generalizing o with
  | nil => trivial
  | cons f r ih =>
    simp only [List.length_cons] at hne
    exact ⟨h.1.set hX (by omega) v, ih h.2 (by omega)⟩
def rsz : List Lf → Nat
  | [] => 0
  | f :: r => f.sz + rsz r
def rwf (r : List Lf) : Prop := ∀ f ∈ r, f.wf

/-- a list of records that is read: s cells each -/
def RSeg (W : World) (X : Nat → Prop) (s : Nat) (a : Option Addr) (n cap : Nat) (rs : List (List Lf)) : Prop :=
  rs.length = n ∧ n ≤ cap ∧ cap ≤ 9223372036854775807 ∧ (∀ r ∈ rs, rwf r) ∧ (n = 0 ∨ ∃ g o, a = some ⟨g, o, none⟩ ∧ g < W.heap.size ∧ ∀ j (hj : j < rs.length), Rec W X g (o + j * s) rs[j])
theorem RSeg.below {W W' : World} {X : Nat → Prop} {s : Nat} {a : Option Addr} {n cap : Nat} {rs : List (List Lf)} (h : RSeg W X s a n cap rs) (hb : Below W.heap.size W W') : RSeg W' X s a n cap rs := by
  obtain ⟨h1, h2, h3, h4, h5⟩ := h
  refine ⟨h1, h2, h3, h4, ?_⟩
  rcases h5 with h5 | ⟨g, o, ha, hg, hc⟩
  · exact .inl h5
  · exact .inr ⟨g, o, ha, Nat.lt_of_lt_of_le hg hb.size, fun j hj => (hc j hj).below hg hb⟩
theorem RSeg.at {W : World} {X : Nat → Prop} {s : Nat} {a : Option Addr} {n cap : Nat} {rs : List (List Lf)} (h : RSeg W X s a n cap rs) {k : Nat} (hk : k < rs.length) : ∃ g o, a = some ⟨g, o, none⟩ ∧ g < W.heap.size ∧ Rec W X g (o + k * s) rs[k] := by
  rcases h.2.2.2.2 with h0 | ⟨g, o, e, hg, hc⟩
  · have := h.1; omega
  · exact ⟨g, o, e, hg, hc k hk⟩
theorem RSeg.mono {W : World} {X Y : Nat → Prop} {s : Nat} {a : Option Addr} {n cap : Nat} {rs : List (List Lf)} (h : RSeg W X s a n cap rs) (hX : ∀ k, X k → Y k) : RSeg W Y s a n cap rs := by
  obtain ⟨h1, h2, h3, h4, h5⟩ := h
  refine ⟨h1, h2, h3, h4, ?_⟩
  rcases h5 with h5 | ⟨g, o, ha, hg, hc⟩
  · exact .inl h5
  · exact .inr ⟨g, o, ha, hg, fun j hj => (hc j hj).mono hX⟩
theorem RSeg.le {W : World} {X : Nat → Prop} {s : Nat} {a : Option Addr} {n cap : Nat} {rs : List (List Lf)} (h : RSeg W X s a n cap rs) : n ≤ 9223372036854775807 := Nat.le_trans h.2.1 h.2.2.1
/-- the sizes that the law counts -/
def rtot : List (List Lf) → Nat
  | [] => 0
  | r :: rs => rsz r + rtot rs
theorem rtot_take (rs : List (List Lf)) (k : Nat) (h : k < rs.length) : rtot (rs.take (k + 1)) = rtot (rs.take k) + rsz rs[k] := by
  induction rs generalizing k with
  | nil => simp at h
  | cons u r ih =>
    cases k with
    | zero => simp [rtot]
    | succ k => simp only [List.take_succ_cons, rtot, List.getElem_cons_succ]; rw [ih k (by simpa using h)]; omega
theorem rtot_mono (rs : List (List Lf)) (k : Nat) (h : k < rs.length) : rtot (rs.take k) + rsz rs[k] ≤ rtot rs := by
  rw [← rtot_take rs k h]
  have : ∀ (l : List (List Lf)) (j : Nat), rtot (l.take j) ≤ rtot l := by
    intro l
    induction l with
    | nil => intro j; simp [rtot]
    | cons u r ih => intro j; cases j with
      | zero => simp [rtot]
      | succ j => simp only [List.take_succ_cons, rtot]; have := ih j; omega
  exact this rs (k + 1)
theorem rsz_mem {f : Lf} {r : List Lf} (h : f ∈ r) : f.sz ≤ rsz r := by
  induction r with
  | nil => cases h
  | cons u r ih =>
    simp only [rsz]
    rcases List.mem_cons.1 h with rfl | h
    · omega
    · have := ih h; omega
theorem rtot_mem {r : List Lf} {rs : List (List Lf)} (h : r ∈ rs) : rsz r ≤ rtot rs := by
  induction rs with
  | nil => cases h
  | cons u rs ih =>
    simp only [rtot]
    rcases List.mem_cons.1 h with rfl | h
    · omega
    · have := ih h; omega
/-- what is left of a bound -/
def rleft (L : Int) (n : Nat) : Int := if L < n then -1 else L - n
/-- a list of records that is made: its own block, the first k of them laid -/
def RMade (W : World) (base : Nat) (T : TypeId) (s g n k : Nat) (rs : List (List Lf)) : Prop :=
  base ≤ g ∧ (∃ cs, W.ownsRow base T s (.slice (some ⟨g, 0, none⟩) n n) n cs) ∧ ∀ j (hj : j < rs.length), j < k → Rec W (fun b => g < b) g (j * s) rs[j]
theorem RMade.below {W W' : World} {base : Nat} {T : TypeId} {s g n k : Nat} {rs : List (List Lf)} (h : RMade W base T s g n k rs) (hb : Below W.heap.size W W') : RMade W' base T s g n k rs := by
  obtain ⟨h0, ⟨cs, h1⟩, h2⟩ := h
  have hg := (h1.lt g rfl).2
  exact ⟨h0, ⟨cs, h1.kept (grown_of_below hb) (.inr (by simp [Value.ownBlock]))⟩, fun j hj hk => (h2 j hj hk).below hg hb⟩
theorem RMade.lt {W : World} {base : Nat} {T : TypeId} {s g n k : Nat} {rs : List (List Lf)} (h : RMade W base T s g n k rs) : g < W.heap.size := by
  obtain ⟨h0, ⟨cs, h1⟩, h2⟩ := h
  exact (h1.lt g rfl).2
theorem RMade.cellAt {W : World} {base : Nat} {T : TypeId} {s g n k m : Nat} {rs : List (List Lf)} (h : RMade W base T s g n m rs) (j : Nat) (hk : k < n) (hj : j < s) : ∃ v, W.cell? ⟨g, k * s + j, none⟩ = some v ∧ W.frozen? ⟨g, k * s + j, none⟩ = false := by
  obtain ⟨h0, ⟨cs, h1⟩, h2⟩ := h
  have e1 : k * s + s ≤ n * s := by rw [← Nat.succ_mul]; exact Nat.mul_le_mul_right s hk
  have hl : cs.length = n * s := h1.1
  have e2 := h1.cellAt (k * s + j) (by omega)
  exact ⟨cs[k * s + j]'(by omega), e2.trans (List.getElem?_eq_getElem _), h1.frozenAt _⟩
theorem RMade.set {W : World} {base : Nat} {T : TypeId} {s g n k : Nat} {rs : List (List Lf)} (h : RMade W base T s g n k rs) (u : Nat) (hu : k * s ≤ u) (hs : ∀ r ∈ rs, r.length = s) (v : Value) : RMade (W.setCell ⟨g, u, none⟩ v) base T s g n k rs := by
  obtain ⟨h0, ⟨cs, h1⟩, h2⟩ := h
  refine ⟨h0, ⟨_, (h1.stored u v).1⟩, fun j hj hk => (h2 j hj hk).set (fun b hb => by omega) (.inr (.inr ?_)) v⟩
  rw [hs _ (List.getElem_mem _)]
  have : j * s + s ≤ k * s := by rw [← Nat.succ_mul]; exact Nat.mul_le_mul_right s hk
  omega
theorem RMade.next {W : World} {base : Nat} {T : TypeId} {s g n k : Nat} {rs : List (List Lf)} (h : RMade W base T s g n k rs) (hr : ∀ hk : k < rs.length, Rec W (fun b => g < b) g (k * s) rs[k]) : RMade W base T s g n (k + 1) rs := by
  obtain ⟨h0, h1, h2⟩ := h
  refine ⟨h0, h1, fun j hj hk => ?_⟩
  by_cases e : j = k
  · subst e; exact hr hj
  · exact h2 j hj (by omega)
theorem RMade.seg {W : World} {base : Nat} {T : TypeId} {s g n : Nat} {rs : List (List Lf)} (h : RMade W base T s g n n rs) (hl : rs.length = n) (hn : n ≤ 9223372036854775807) (hw : ∀ r ∈ rs, rwf r) : RSeg W (fun b => g < b) s (some ⟨g, 0, none⟩) n n rs := by
  obtain ⟨h0, ⟨cs, h1⟩, h2⟩ := h
  exact ⟨hl, Nat.le_refl _, hn, hw, .inr ⟨g, 0, rfl, (h1.lt g rfl).2, fun j hj => by rw [Nat.zero_add]; exact h2 j hj (by omega)⟩⟩
end Go.Proofs.Ythjapjbiclkhcaa
