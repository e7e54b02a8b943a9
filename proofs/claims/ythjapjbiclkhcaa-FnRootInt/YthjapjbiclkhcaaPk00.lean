/- My texts Num, Base, in this order. -/
import Derived.Test.YthjapjbiclkhcaaChecked
import Derived.WalkKit
import Derived.WalkLawsBesides
import Derived.Deep.QuietTactic
import Derived.BigQuiet
import Derived.OwnWalk
import Derived.Laws.OwnMore
import Derived.Maps.AppendAt
import Derived.Lib.QuietBelow
/- Plain facts on numbers in limbs: what a list of limbs is as a number, the one list without a nought at its end, and how one limb turns it; nothing of the program stands here. -/
namespace Go.Proofs.Ythjapjbiclkhcaa.Num
/-- the number of a list of limbs -/
def nat : List Nat → Nat
  | [] => 0
  | x :: r => x + 4294967296 * nat r
/-- the limbs of a number, none at its end a nought -/
def limbs (n : Nat) : List Nat := if h : n = 0 then [] else n % 4294967296 :: limbs (n / 4294967296)
termination_by n
decreasing_by exact Nat.div_lt_self (Nat.pos_of_ne_zero h) (by decide)
def Small (xs : List Nat) : Prop := ∀ x, x ∈ xs → x < 4294967296
theorem limbs_zero : limbs 0 = [] := by rw [limbs]; simp
theorem limbs_pos {n : Nat} (h : n ≠ 0) : limbs n = n % 4294967296 :: limbs (n / 4294967296) := by rw [limbs]; simp [h]
theorem nat_limbs (n : Nat) : nat (limbs n) = n := by
  induction n using Nat.strongRecOn with
  | _ n ih =>
    by_cases h : n = 0
    · subst h; rw [limbs_zero]; rfl
    · rw [limbs_pos h, nat, ih _ (Nat.div_lt_self (Nat.pos_of_ne_zero h) (by decide))]; omega
theorem limbs_small (n : Nat) : Small (limbs n) := by
  induction n using Nat.strongRecOn with
  | _ n ih =>
    by_cases h : n = 0
    · subst h; rw [limbs_zero]; intro x hx; cases hx
    · rw [limbs_pos h]
      intro x hx
      cases hx with
      | head => exact Nat.mod_lt _ (by decide)
      | tail _ hx => exact ih _ (Nat.div_lt_self (Nat.pos_of_ne_zero h) (by decide)) x hx
theorem limbs_eq_nil {n : Nat} : limbs n = [] ↔ n = 0 := by
  constructor
  · intro h
    have := nat_limbs n
    rw [h] at this; exact this.symm
  · rintro rfl; exact limbs_zero
theorem limbs_last (n : Nat) : ∀ h : limbs n ≠ [], (limbs n).getLast h ≠ 0 := by
  induction n using Nat.strongRecOn with
  | _ n ih =>
    intro h
    have hn : n ≠ 0 := fun e => h (limbs_eq_nil.2 e)
    by_cases hd : n / 4294967296 = 0
    · have e : limbs n = [n % 4294967296] := by rw [limbs_pos hn, hd, limbs_zero]
      simp only [e, List.getLast_singleton]; omega
    · have hne : limbs (n / 4294967296) ≠ [] := fun e => hd (limbs_eq_nil.1 e)
      have e := limbs_pos hn
      have hl : (limbs n).getLast h = (limbs (n / 4294967296)).getLast hne := by
        simp only [e]; exact List.getLast_cons hne
      rw [hl]; exact ih _ (Nat.div_lt_self (Nat.pos_of_ne_zero hn) (by decide)) hne
/-- no nought at the end -/
def Tidy (xs : List Nat) : Prop := ∀ h : xs ≠ [], xs.getLast h ≠ 0
theorem nat_pos_of_tidy {xs : List Nat} (ht : Tidy xs) (h : xs ≠ []) : nat xs ≠ 0 := by
  induction xs with
  | nil => exact absurd rfl h
  | cons x r ih =>
    rw [nat]
    by_cases hr : r = []
    · subst hr; have := ht (by simp); simp at this; simp [nat]; exact this
    · have h2 : Tidy r := fun h' => by have := ht (by simp); rwa [List.getLast_cons h'] at this
      have := ih h2 hr
      omega
theorem limbs_nat {xs : List Nat} (hs : Small xs) (ht : Tidy xs) : limbs (nat xs) = xs := by
  induction xs with
  | nil => exact limbs_zero
  | cons x r ih =>
    have h0 := nat_pos_of_tidy ht (by simp)
    have hx := hs x (by simp)
    have h2 : Tidy r := fun h' => by have := ht (by simp); rwa [List.getLast_cons h'] at this
    have hr := ih (fun y hy => hs y (List.mem_cons_of_mem _ hy)) h2
    rw [limbs_pos h0, nat]
    rw [show (x + 4294967296 * nat r) % 4294967296 = x by omega, show (x + 4294967296 * nat r) / 4294967296 = nat r by omega, hr]
theorem limbs_tidy (n : Nat) : Tidy (limbs n) := limbs_last n
theorem nat_append (xs ys : List Nat) : nat (xs ++ ys) = nat xs + 4294967296 ^ xs.length * nat ys := by
  induction xs with
  | nil => simp [nat]
  | cons x r ih =>
    rw [List.cons_append, nat, ih, nat, List.length_cons, Nat.pow_succ, Nat.mul_add, Nat.mul_comm (4294967296 ^ r.length) 4294967296, Nat.mul_assoc]
    omega
theorem nat_lt {xs : List Nat} (hs : Small xs) : nat xs < 4294967296 ^ xs.length := by
  induction xs with
  | nil => simp [nat]
  | cons x r ih =>
    have h1 := ih (fun y hy => hs y (List.mem_cons_of_mem _ hy))
    have hx := hs x (by simp)
    rw [nat, List.length_cons, Nat.pow_succ]
    omega
theorem limbs_len {n k : Nat} : (limbs n).length ≤ k ↔ n < 4294967296 ^ k := by
  constructor
  · intro h
    have h1 := nat_lt (limbs_small n)
    rw [nat_limbs] at h1
    exact Nat.lt_of_lt_of_le h1 (Nat.pow_le_pow_right (by decide) h)
  · induction k generalizing n with
    | zero => intro h; have : n = 0 := by simpa using h
              subst this; rw [limbs_zero]; simp
    | succ k ih =>
      intro h
      by_cases h0 : n = 0
      · subst h0; rw [limbs_zero]; simp
      · rw [limbs_pos h0, List.length_cons]
        have : n / 4294967296 < 4294967296 ^ k := by
          rw [Nat.div_lt_iff_lt_mul (by decide)]; rwa [Nat.pow_succ] at h
        have := ih this
        omega
theorem nat_set (xs : List Nat) (i v : Nat) (h : i < xs.length) : nat (xs.set i v) + 4294967296 ^ i * xs[i] = nat xs + 4294967296 ^ i * v := by
  induction xs generalizing i with
  | nil => simp at h
  | cons x r ih =>
    cases i with
    | zero => simp [nat]; omega
    | succ i =>
      have := ih i (by simpa using h)
      rw [List.set_cons_succ, nat, nat, Nat.pow_succ, Nat.mul_comm (4294967296 ^ i), Nat.mul_assoc, Nat.mul_assoc]
      simp only [List.getElem_cons_succ]
      omega
theorem small_set {xs : List Nat} (hs : Small xs) (i v : Nat) (hv : v < 4294967296) : Small (xs.set i v) := by
  intro x hx
  rcases List.mem_or_eq_of_mem_set hx with h | h
  · exact hs x h
  · subst h; exact hv
theorem small_at {xs : List Nat} (hs : Small xs) {i : Nat} (h : i < xs.length) : xs[i] < 4294967296 := hs _ (List.getElem_mem _)
theorem small_append {xs ys : List Nat} (h : Small xs) (k : Small ys) : Small (xs ++ ys) := fun x hx => by
  rcases List.mem_append.1 hx with h1 | h1
  · exact h x h1
  · exact k x h1
theorem small_take {xs : List Nat} (h : Small xs) (n : Nat) : Small (xs.take n) := fun x hx => h x (List.mem_of_mem_take hx)
theorem small_drop {xs : List Nat} (h : Small xs) (n : Nat) : Small (xs.drop n) := fun x hx => h x (List.mem_of_mem_drop hx)
theorem small_replicate (n : Nat) : Small (List.replicate n 0) := fun x hx => by rw [(List.mem_replicate.1 hx).2]; decide
theorem nat_replicate (n : Nat) : nat (List.replicate n 0) = 0 := by
  induction n with
  | zero => rfl
  | succ n ih => rw [List.replicate_succ, nat, ih]
theorem nat_take_drop (xs : List Nat) (n : Nat) (h : n ≤ xs.length) : nat xs = nat (xs.take n) + 4294967296 ^ n * nat (xs.drop n) := by
  conv => lhs; rw [← List.take_append_drop n xs]
  rw [nat_append, List.length_take, Nat.min_eq_left h]
theorem nat_take_succ (xs : List Nat) (n : Nat) (h : n < xs.length) : nat (xs.take (n + 1)) = nat (xs.take n) + 4294967296 ^ n * xs[n] := by
  rw [List.take_succ_eq_append_getElem h, nat_append, List.length_take, Nat.min_eq_left (by omega)]
  simp [nat]
theorem nat_drop (xs : List Nat) (n : Nat) (h : n < xs.length) : nat (xs.drop n) = xs[n] + 4294967296 * nat (xs.drop (n + 1)) := by
  rw [List.drop_eq_getElem_cons h, nat]
/-- only noughts behind the first n: the number is that of the first n -/
theorem nat_take_of_zero {xs : List Nat} {n : Nat} (h : n ≤ xs.length) (hz : nat (xs.drop n) = 0) : nat (xs.take n) = nat xs := by
  rw [nat_take_drop xs n h, hz]; omega
theorem tidy_of_at {xs : List Nat} (h : ∀ k, xs.length = k + 1 → ∀ hk : k < xs.length, xs[k] ≠ 0) : Tidy xs := by
  intro hne
  rw [List.getLast_eq_getElem]
  exact h (xs.length - 1) (by have := List.length_pos_iff.2 hne; omega) _
/-- the first n limbs, the last of which is none, and noughts behind: these are the number's limbs -/
theorem limbs_of_trim {xs : List Nat} (hs : Small xs) {n : Nat} (h : n ≤ xs.length) (hz : nat (xs.drop n) = 0) (hl : ∀ k (hk : k < xs.length), n = k + 1 → xs[k] ≠ 0) : xs.take n = limbs (nat xs) := by
  rw [← nat_take_of_zero h hz]
  refine (limbs_nat (small_take hs n) (tidy_of_at fun k hk hk' => ?_)).symm
  rw [List.length_take, Nat.min_eq_left h] at hk
  rw [List.getElem_take]
  exact hl k (by omega) hk
/-- lists of one length that are one behind place i, and part there -/
theorem nat_lt_at {xs ys : List Nat} (hx : Small xs) (hl : xs.length = ys.length) {i : Nat} (h : i < xs.length) (h' : i < ys.length) (hd : xs.drop (i + 1) = ys.drop (i + 1)) (hlt : xs[i] < ys[i]) : nat xs < nat ys := by
  rw [nat_take_drop xs (i + 1) (by omega), nat_take_drop ys (i + 1) (by omega), hd, nat_take_succ xs i h, nat_take_succ ys i h']
  have h1 : nat (xs.take i) < 4294967296 ^ i := by
    have := nat_lt (small_take hx i)
    rwa [List.length_take, Nat.min_eq_left (by omega)] at this
  have h2 : 4294967296 ^ i * (xs[i] + 1) ≤ 4294967296 ^ i * ys[i] := Nat.mul_le_mul_left _ hlt
  rw [Nat.mul_add] at h2
  omega
theorem len_lt {a b : Nat} (h : (limbs a).length < (limbs b).length) : a < b := by
  have h1 : a < 4294967296 ^ (limbs a).length := limbs_len.1 (Nat.le_refl _)
  have h2 : ¬ b < 4294967296 ^ (limbs a).length := fun hb => by have := limbs_len.2 hb; omega
  omega
theorem limbs_inj {a b : Nat} (h : limbs a = limbs b) : a = b := by rw [← nat_limbs a, h, nat_limbs]
theorem set_copy (xs : List Nat) (n k : Nat) (hk : k < xs.length) (hn : k < n) : (xs.take k ++ List.replicate (n - k) 0).set k xs[k] = xs.take (k + 1) ++ List.replicate (n - (k + 1)) 0 := by
  have hl : (xs.take k).length = k := by rw [List.length_take]; omega
  rw [List.set_append_right _ _ (by omega), hl, Nat.sub_self, List.take_succ_eq_append_getElem hk, show n - k = (n - (k + 1)) + 1 by omega, List.replicate_succ, List.set_cons_zero, List.append_assoc]
  rfl
end Go.Proofs.Ythjapjbiclkhcaa.Num

/- What the walks of this seat say of memory: a list of limbs that is read, one that is owned, a number as a structure of a sign and limbs. -/
namespace Go.Proofs.Ythjapjbiclkhcaa
open Go.RowKit
set_option linter.unusedVariables false

theorem hide {p : Prop} (h : p) : Hid p := h
theorem ret_int {k : IntKind} {a b : Int} (h : a = b) : Ending.returned (.int k a) = .returned (.int k b) := by rw [h]
theorem ret_bool {a b : Bool} (h : a = b) : Ending.returned (.bool a) = .returned (.bool b) := by rw [h]
theorem below_drewN {B : Nat} {a w : World} (h : Below B a w) (n : Nat) : Below B a (w.drewN n) := h.trans ⟨rfl, rfl, rfl, Nat.le_refl _, fun _ _ => rfl⟩
theorem grown_of_below {A B : World} (h : Below A.heap.size A B) : A.grownBy B none :=
  ⟨h.os, h.tape, h.output, h.size, fun k hk _ => h.block k hk⟩
theorem grown_trans {A B C : World} {r : Option Nat} (h : A.grownBy B r) (k : B.grownBy C r) : A.grownBy C r :=
  ⟨k.os.trans h.os, k.tape.trans h.tape, k.output.trans h.output, Nat.le_trans h.size k.size, fun j hj hn => (k.block j (Nat.lt_of_lt_of_le hj h.size) hn).trans (h.block j hj hn)⟩
theorem grown_any {A B : World} {r : Option Nat} (h : A.grownBy B none) : A.grownBy B r :=
  ⟨h.os, h.tape, h.output, h.size, fun j hj _ => h.block j hj (by simp)⟩

theorem bl_alloc {a w : World} (h : Below a.heap.size a w) (o : Obj) : Below a.heap.size a (w.alloc o) := h.alloc h.size o
theorem bl_trans {a b c : World} (h : Below a.heap.size a b) (k : Below b.heap.size b c) : Below a.heap.size a c := h.trans (k.mono h.size)
theorem bl_refl (a : World) : Below a.heap.size a a := Below.refl _ _
/-- a limb as a value -/
def lim (x : Nat) : Value := .int .u32 x
/-- a list of limbs that is read -/
def Seg (W : World) (a : Option Addr) (n cap : Nat) (xs : List Nat) : Prop :=
  xs.length = n ∧ n ≤ cap ∧ cap ≤ 9223372036854775807 ∧ Num.Small xs ∧ (n = 0 ∨ ∃ g o, a = some ⟨g, o, none⟩ ∧ g < W.heap.size ∧ ∀ j (hj : j < xs.length), W.cell? ⟨g, o + j, none⟩ = some (.int .u32 xs[j]))
/-- a list of limbs in memory of its own, behind a base -/
def Own (W : World) (base : Nat) (a : Option Addr) (n cap : Nat) (xs : List Nat) : Prop :=
  W.ownsRow base 56 1 (.slice a n cap) n (xs.map lim) ∧ Num.Small xs
theorem Seg.below {W W' : World} {a : Option Addr} {n cap : Nat} {xs : List Nat} (h : Seg W a n cap xs) (hb : Below W.heap.size W W') : Seg W' a n cap xs := by
  obtain ⟨h1, h2, h3, h4, h5⟩ := h
  refine ⟨h1, h2, h3, h4, ?_⟩
  rcases h5 with h5 | ⟨g, o, ha, hg, hc⟩
  · exact .inl h5
  · exact .inr ⟨g, o, ha, Nat.lt_of_lt_of_le hg hb.size, fun j hj => (hb.cell (p := ⟨g, o + j, none⟩) hg).trans (hc j hj)⟩
theorem Seg.grown {W W' : World} {a : Option Addr} {n cap : Nat} {xs : List Nat} {r : Option Nat} (h : Seg W a n cap xs) (hb : W.grownBy W' r) (hne : ∀ g o s, a = some ⟨g, o, s⟩ → r ≠ some g) : Seg W' a n cap xs := by
  obtain ⟨h1, h2, h3, h4, h5⟩ := h
  refine ⟨h1, h2, h3, h4, ?_⟩
  rcases h5 with h5 | ⟨g, o, ha, hg, hc⟩
  · exact .inl h5
  · exact .inr ⟨g, o, ha, Nat.lt_of_lt_of_le hg hb.size, fun j hj => hb.cell (hc j hj) (fun e => hne g o none ha e.symm)⟩
theorem Own.len {W : World} {base : Nat} {a : Option Addr} {n cap : Nat} {xs : List Nat} (h : Own W base a n cap xs) : xs.length = n := by
  have := h.1.1; simpa using this
theorem Own.seg {W : World} {base : Nat} {a : Option Addr} {n cap : Nat} {xs : List Nat} (h : Own W base a n cap xs) : Seg W a n cap xs := by
  have hl := h.len
  rcases h.1.2 with ⟨h1, h2⟩ | ⟨g, cap', cur, hv, hg, hh, hn, hc, _⟩
  · cases h1
    exact ⟨hl, Nat.le_refl _, by omega, h.2, .inl rfl⟩
  · cases hv
    exact ⟨hl, hn, hc, h.2, .inr ⟨g, 0, rfl, (Array.getElem?_eq_some_iff.1 hh).1, fun j hj => by rw [Nat.zero_add, h.1.cellAt j (by omega)]; simp [hj, lim]⟩⟩
theorem Own.mono {W : World} {base base' : Nat} {a : Option Addr} {n cap : Nat} {xs : List Nat} (h : Own W base a n cap xs) (hb : base' ≤ base) : Own W base' a n cap xs := by
  refine ⟨⟨h.1.1, ?_⟩, h.2⟩
  rcases h.1.2 with h' | ⟨g, cap', cur, hv, hg, rest⟩
  · exact .inl h'
  · exact .inr ⟨g, cap', cur, hv, Nat.le_trans hb hg, rest⟩
theorem Own.kept {W W' : World} {base : Nat} {a : Option Addr} {n cap : Nat} {xs : List Nat} {r : Option Nat} (h : Own W base a n cap xs) (hb : W.grownBy W' r) (hne : (Value.slice a n cap).ownBlock = none ∨ (Value.slice a n cap).ownBlock ≠ r) : Own W' base a n cap xs :=
  ⟨h.1.kept hb hne, h.2⟩
theorem Own.below {W W' : World} {base : Nat} {a : Option Addr} {n cap : Nat} {xs : List Nat} (h : Own W base a n cap xs) (hb : Below W.heap.size W W') : Own W' base a n cap xs :=
  h.kept (grown_of_below hb) (by cases a <;> simp [Value.ownBlock])
theorem Own.lt {W : World} {base : Nat} {g o n cap : Nat} {s : Option Nat} {xs : List Nat} (h : Own W base (some ⟨g, o, none⟩) n cap xs) : base ≤ g ∧ g < W.heap.size := h.1.lt g rfl
theorem Own.setCell {W : World} {base : Nat} {a : Option Addr} {n cap : Nat} {xs : List Nat} (h : Own W base a n cap xs) {p : Addr} (hp : p.block < base) (v : Value) : Own (W.setCell p v) base a n cap xs := ⟨ownsRow_setCell_below h.1 hp v, h.2⟩
theorem Own.nil (W : World) (base : Nat) : Own W base none 0 0 [] := ⟨World.ownsRow_nil _ _ _ _, fun _ h => by cases h⟩
theorem Own.cases {W : World} {base : Nat} {a : Option Addr} {n cap : Nat} {xs : List Nat} (h : Own W base a n cap xs) :
    (a = none ∧ n = 0 ∧ cap = 0 ∧ xs = []) ∨ ∃ g, a = some ⟨g, 0, none⟩ ∧ base ≤ g ∧ g < W.heap.size := by
  have hl := h.len
  rcases h.1.2 with ⟨h1, h2⟩ | ⟨g, cap', cur, hv, hg, hh, hn, hc, _⟩
  · cases h1; exact .inl ⟨rfl, rfl, rfl, List.eq_nil_of_length_eq_zero hl⟩
  · cases hv; exact .inr ⟨g, rfl, hg, (Array.getElem?_eq_some_iff.1 hh).1⟩
theorem own_apart {W W' : World} {b n m c c' : Nat} {a a' : Option Addr} {xs ys : List Nat} (h : Own W b a n c xs) (h' : Own W' W.heap.size a' m c' ys) : (Value.slice a n c).ownBlock = none ∨ (Value.slice a n c).ownBlock ≠ (Value.slice a' m c').ownBlock := by
  cases hk : (Value.slice a n c).ownBlock with
  | none => exact .inl rfl
  | some k =>
    refine .inr fun e => ?_
    have h1 := (h.1.lt k hk).2
    have h2 := (h'.1.lt k e.symm).1
    omega
/-- the list's first m limbs, cut off it -/
theorem Own.cut {W : World} {base : Nat} {g n cap : Nat} {xs : List Nat} (h : Own W base (some ⟨g, 0, none⟩) n cap xs) (m : Nat) (hm : m ≤ n) : Own W base (some ⟨g, 0, none⟩) m cap (xs.take m) := by
  have hl := h.len
  refine ⟨⟨by simp; omega, ?_⟩, Num.small_take h.2 m⟩
  rcases h.1.2 with ⟨h1, h2⟩ | ⟨g', cap', cur, hv, hg, hh, hn, hc, hs, ht⟩
  · cases h1
  · cases hv
    refine .inr ⟨g, cap, cur, rfl, hg, hh, by omega, hc, hs, ?_⟩
    rw [List.map_take, ← ht, List.take_take]; congr 1; omega

theorem own_made {W : World} {base : Nat} {a : Option Addr} {n : Nat} (h : W.ownsRow base 56 1 (.slice a n n) n (madeCells #[Value.int IntKind.u32 0] n).toList) : Own W base a n n (List.replicate n 0) := by
  refine ⟨?_, Num.small_replicate n⟩
  rw [toList_madeCells_one] at h
  simpa [lim] using h
theorem own_set {W : World} {base g n cap : Nat} {xs : List Nat} (h : Own W base (some ⟨g, 0, none⟩) n cap xs) (j x : Nat) (hx : x < 4294967296) :
    Own (W.setCell ⟨g, j, none⟩ (.int .u32 x)) base (some ⟨g, 0, none⟩) n cap (xs.set j x) ∧ W.grownBy (W.setCell ⟨g, j, none⟩ (.int .u32 x)) (some g) := by
  have := h.1.stored j (lim x)
  rw [← List.map_set] at this
  exact ⟨⟨this.1, Num.small_set h.2 j x hx⟩, this.2⟩
theorem own_cell {W : World} {base g n cap : Nat} {xs : List Nat} (h : Own W base (some ⟨g, 0, none⟩) n cap xs) (j : Nat) (hj : j < xs.length) : W.cell? ⟨g, j, none⟩ = some (.int .u32 xs[j]) := by
  have hl := h.len
  rw [h.1.cellAt j (by omega)]; simp [hj, lim]
theorem own_has {W : World} {base g n cap : Nat} {xs : List Nat} (h : Own W base (some ⟨g, 0, none⟩) n cap xs) (j : Nat) (hj : j < n) : ∃ y : Nat, W.cell? ⟨g, j, none⟩ = some (.int .u32 y) := ⟨_, own_cell h j (by rw [h.len]; exact hj)⟩
theorem row_val {W : World} {base n : Nat} {v : Value} {ys : List Value} (h : W.ownsRow base 56 1 v n ys) : ∃ a cap, v = .slice a n cap := by
  rcases h.2 with ⟨h1, h2⟩ | ⟨g, cap, cur, hv, _⟩
  · exact ⟨none, 0, by rw [h1, h2]⟩
  · exact ⟨_, _, hv⟩
theorem one_lims (xs : List Nat) : ∀ u ∈ xs.map lim, u.oneCell' = true := by
  intro u hu
  obtain ⟨x, _, rfl⟩ := List.mem_map.1 hu
  rfl
theorem grown_frozen {w w' : World} {r : Option Nat} (hg : w.grownBy w' r) {p : Addr} (hp : p.block < w.heap.size) (hne : some p.block ≠ r) : w'.frozen? p = w.frozen? p := World.frozen?_of_block (hg.block p.block hp hne)
/-- a structure of a sign and limbs that is read -/
def Raw (W : World) (v : Value) (neg : Bool) (xs : List Nat) : Prop := ∃ a cap, v = .agg #[.bool neg, .slice a xs.length cap] ∧ Seg W a xs.length cap xs
/-- one in memory of its own -/
def Got (W : World) (base : Nat) (v : Value) (neg : Bool) (xs : List Nat) : Prop := ∃ a cap, v = .agg #[.bool neg, .slice a xs.length cap] ∧ Own W base a xs.length cap xs
theorem Raw.below {W W' : World} {v : Value} {neg : Bool} {xs : List Nat} (h : Raw W v neg xs) (hb : Below W.heap.size W W') : Raw W' v neg xs := by
  obtain ⟨a, cap, rfl, h⟩ := h; exact ⟨a, cap, rfl, h.below hb⟩
theorem Got.raw {W : World} {base : Nat} {v : Value} {neg : Bool} {xs : List Nat} (h : Got W base v neg xs) : Raw W v neg xs := by
  obtain ⟨a, cap, rfl, h⟩ := h; exact ⟨a, cap, rfl, h.seg⟩
theorem Got.below {W W' : World} {base : Nat} {v : Value} {neg : Bool} {xs : List Nat} (h : Got W base v neg xs) (hb : Below W.heap.size W W') : Got W' base v neg xs := by
  obtain ⟨a, cap, rfl, h⟩ := h; exact ⟨a, cap, rfl, h.below hb⟩
theorem Got.mono {W : World} {base base' : Nat} {v : Value} {neg : Bool} {xs : List Nat} (h : Got W base v neg xs) (hb : base' ≤ base) : Got W base' v neg xs := by
  obtain ⟨a, cap, rfl, h⟩ := h; exact ⟨a, cap, rfl, h.mono hb⟩
end Go.Proofs.Ythjapjbiclkhcaa
