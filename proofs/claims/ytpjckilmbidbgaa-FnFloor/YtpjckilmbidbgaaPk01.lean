/- My texts Num, Base, Help, Ok, Make, Blk, in this order. -/
import Derived.Test.YtpjckilmbidbgaaChecked
import Derived.WalkKit
import Derived.WalkLawsBesides
import Derived.Deep.QuietTactic
import Derived.BigQuiet
import Derived.OwnWalk
import Derived.Laws.OwnMore
import Derived.Maps.AppendAt
import Derived.Lib.QuietBelow
/- Plain facts on numbers in limbs: what a list of limbs is as a number, the one list without a nought at its end, and how one limb turns it; nothing of the program stands here. -/
namespace Go.Proofs.Ytpjckilmbidbgaa.Num
/-- the number of a list of limbs -/
def nat : List Nat → Nat
  | [] => 0
  | x :: r => x + 4294967296 * nat r
/-- the limbs of a number, none at its end a nought -/
def limbs (n : Nat) : List Nat := if h : n = 0 then [] else n % 4294967296 :: limbs (n / 4294967296)
termination_by n
decreasing_by exact Nat.div_lt_self (Nat.pos_of_ne_zero h) (by decide)
def Small (xs : List Nat) : Prop := ∀ x, x ∈ xs → x < 4294967296
theorem limbs_zero : limbs 0 = [] := by rw [limbs]; simp
theorem limbs_pos {n : Nat} (h : n ≠ 0) : limbs n = n % 4294967296 :: limbs (n / 4294967296) := by rw [limbs]; simp [h]
theorem nat_limbs (n : Nat) : nat (limbs n) = n := by
  induction n using Nat.strongRecOn with
  | _ n ih =>
    by_cases h : n = 0
    · subst h; rw [limbs_zero]; rfl
    · rw [limbs_pos h, nat, ih _ (Nat.div_lt_self (Nat.pos_of_ne_zero h) (by decide))]; omega
theorem limbs_small (n : Nat) : Small (limbs n) := by
  induction n using Nat.strongRecOn with
  | _ n ih =>
    by_cases h : n = 0
    · subst h; rw [limbs_zero]; intro x hx; cases hx
    · rw [limbs_pos h]
      intro x hx
      cases hx with
      | head => exact Nat.mod_lt _ (by decide)
      | tail _ hx => exact ih _ (Nat.div_lt_self (Nat.pos_of_ne_zero h) (by decide)) x hx
theorem limbs_eq_nil {n : Nat} : limbs n = [] ↔ n = 0 := by
  constructor
  · intro h
    have := nat_limbs n
    rw [h] at this; exact this.symm
  · rintro rfl; exact limbs_zero
theorem limbs_last (n : Nat) : ∀ h : limbs n ≠ [], (limbs n).getLast h ≠ 0 := by
  induction n using Nat.strongRecOn with
  | _ n ih =>
    intro h
    have hn : n ≠ 0 := fun e => h (limbs_eq_nil.2 e)
    by_cases hd : n / 4294967296 = 0
    · have e : limbs n = [n % 4294967296] := by rw [limbs_pos hn, hd, limbs_zero]
      simp only [e, List.getLast_singleton]; omega
    · have hne : limbs (n / 4294967296) ≠ [] := fun e => hd (limbs_eq_nil.1 e)
      have e := limbs_pos hn
      have hl : (limbs n).getLast h = (limbs (n / 4294967296)).getLast hne := by
        simp only [e]; exact List.getLast_cons hne
      rw [hl]; exact ih _ (Nat.div_lt_self (Nat.pos_of_ne_zero hn) (by decide)) hne
/-- no nought at the end -/
def Tidy (xs : List Nat) : Prop := ∀ h : xs ≠ [], xs.getLast h ≠ 0
theorem nat_pos_of_tidy {xs : List Nat} (ht : Tidy xs) (h : xs ≠ []) : nat xs ≠ 0 := by
  induction xs with
  | nil => exact absurd rfl h
  | cons x r ih =>
    rw [nat]
    by_cases hr : r = []
    · subst hr; have := ht (by simp); simp at this; simp [nat]; exact this
    · have h2 : Tidy r := fun h' => by have := ht (by simp); rwa [List.getLast_cons h'] at this
      have := ih h2 hr
      omega
theorem limbs_nat {xs : List Nat} (hs : Small xs) (ht : Tidy xs) : limbs (nat xs) = xs := by
  induction xs with
  | nil => exact limbs_zero
  | cons x r ih =>
    have h0 := nat_pos_of_tidy ht (by simp)
    have hx := hs x (by simp)
    have h2 : Tidy r := fun h' => by have := ht (by simp); rwa [List.getLast_cons h'] at this
    have hr := ih (fun y hy => hs y (List.mem_cons_of_mem _ hy)) h2
    rw [limbs_pos h0, nat]
    rw [show (x + 4294967296 * nat r) % 4294967296 = x by omega, show (x + 4294967296 * nat r) / 4294967296 = nat r by omega, hr]
theorem limbs_tidy (n : Nat) : Tidy (limbs n) := limbs_last n
theorem nat_append (xs ys : List Nat) : nat (xs ++ ys) = nat xs + 4294967296 ^ xs.length * nat ys := by
  induction xs with
  | nil => simp [nat]
  | cons x r ih =>
    rw [List.cons_append, nat, ih, nat, List.length_cons, Nat.pow_succ, Nat.mul_add, Nat.mul_comm (4294967296 ^ r.length) 4294967296, Nat.mul_assoc]
    omega
theorem nat_lt {xs : List Nat} (hs : Small xs) : nat xs < 4294967296 ^ xs.length := by
  induction xs with
  | nil => simp [nat]
  | cons x r ih =>
    have h1 := ih (fun y hy => hs y (List.mem_cons_of_mem _ hy))
    have hx := hs x (by simp)
    rw [nat, List.length_cons, Nat.pow_succ]
    omega
theorem limbs_len {n k : Nat} : (limbs n).length ≤ k ↔ n < 4294967296 ^ k := by
  constructor
  · intro h
    have h1 := nat_lt (limbs_small n)
    rw [nat_limbs] at h1
    exact Nat.lt_of_lt_of_le h1 (Nat.pow_le_pow_right (by decide) h)
  · induction k generalizing n with
    | zero => intro h; have : n = 0 := by simpa using h
              subst this; rw [limbs_zero]; simp
    | succ k ih =>
      intro h
      by_cases h0 : n = 0
      · subst h0; rw [limbs_zero]; simp
      · rw [limbs_pos h0, List.length_cons]
        have : n / 4294967296 < 4294967296 ^ k := by
          rw [Nat.div_lt_iff_lt_mul (by decide)]; rwa [Nat.pow_succ] at h
        have := ih this
        omega
theorem nat_set (xs : List Nat) (i v : Nat) (h : i < xs.length) : nat (xs.set i v) + 4294967296 ^ i * xs[i] = nat xs + 4294967296 ^ i * v := by
  induction xs generalizing i with
  | nil => simp at h
  | cons x r ih =>
    cases i with
    | zero => simp [nat]; omega
    | succ i =>
      have := ih i (by simpa using h)
      rw [List.set_cons_succ, nat, nat, Nat.pow_succ, Nat.mul_comm (4294967296 ^ i), Nat.mul_assoc, Nat.mul_assoc]
      simp only [List.getElem_cons_succ]
      omega
theorem small_set {xs : List Nat} (hs : Small xs) (i v : Nat) (hv : v < 4294967296) : Small (xs.set i v) := by
  intro x hx
  rcases List.mem_or_eq_of_mem_set hx with h | h
  · exact hs x h
  · subst h; exact hv
theorem small_at {xs : List Nat} (hs : Small xs) {i : Nat} (h : i < xs.length) : xs[i] < 4294967296 := hs _ (List.getElem_mem _)
theorem small_append {xs ys : List Nat} (h : Small xs) (k : Small ys) : Small (xs ++ ys) := fun x hx => by
  rcases List.mem_append.1 hx with h1 | h1
  · exact h x h1
  · exact k x h1
theorem small_take {xs : List Nat} (h : Small xs) (n : Nat) : Small (xs.take n) := fun x hx => h x (List.mem_of_mem_take hx)
theorem small_drop {xs : List Nat} (h : Small xs) (n : Nat) : Small (xs.drop n) := fun x hx => h x (List.mem_of_mem_drop hx)
theorem small_replicate (n : Nat) : Small (List.replicate n 0) := fun x hx => by rw [(List.mem_replicate.1 hx).2]; decide
theorem nat_replicate (n : Nat) : nat (List.replicate n 0) = 0 := by
  induction n with
  | zero => rfl
  | succ n ih => rw [List.replicate_succ, nat, ih]
theorem nat_take_drop (xs : List Nat) (n : Nat) (h : n ≤ xs.length) : nat xs = nat (xs.take n) + 4294967296 ^ n * nat (xs.drop n) := by
  conv => lhs; rw [← List.take_append_drop n xs]
  rw [nat_append, List.length_take, Nat.min_eq_left h]
theorem nat_take_succ (xs : List Nat) (n : Nat) (h : n < xs.length) : nat (xs.take (n + 1)) = nat (xs.take n) + 4294967296 ^ n * xs[n] := by
  rw [List.take_succ_eq_append_getElem h, nat_append, List.length_take, Nat.min_eq_left (by omega)]
  simp [nat]
theorem nat_drop (xs : List Nat) (n : Nat) (h : n < xs.length) : nat (xs.drop n) = xs[n] + 4294967296 * nat (xs.drop (n + 1)) := by
  rw [List.drop_eq_getElem_cons h, nat]
/-- only noughts behind the first n: the number is that of the first n -/
theorem nat_take_of_zero {xs : List Nat} {n : Nat} (h : n ≤ xs.length) (hz : nat (xs.drop n) = 0) : nat (xs.take n) = nat xs := by
  rw [nat_take_drop xs n h, hz]; omega
theorem tidy_of_at {xs : List Nat} (h : ∀ k, xs.length = k + 1 → ∀ hk : k < xs.length, xs[k] ≠ 0) : Tidy xs := by
  intro hne
  rw [List.getLast_eq_getElem]
  exact h (xs.length - 1) (by have := List.length_pos_iff.2 hne; omega) _
/-- the first n limbs, the last of which is none, and noughts behind: these are the number's limbs -/
theorem limbs_of_trim {xs : List Nat} (hs : Small xs) {n : Nat} (h : n ≤ xs.length) (hz : nat (xs.drop n) = 0) (hl : ∀ k (hk : k < xs.length), n = k + 1 → xs[k] ≠ 0) : xs.take n = limbs (nat xs) := by
  rw [← nat_take_of_zero h hz]
  refine (limbs_nat (small_take hs n) (tidy_of_at fun k hk hk' => ?_)).symm
  rw [List.length_take, Nat.min_eq_left h] at hk
  rw [List.getElem_take]
  exact hl k (by omega) hk
/-- lists of one length that are one behind place i, and part there -/
theorem nat_lt_at {xs ys : List Nat} (hx : Small xs) (hl : xs.length = ys.length) {i : Nat} (h : i < xs.length) (h' : i < ys.length) (hd : xs.drop (i + 1) = ys.drop (i + 1)) (hlt : xs[i] < ys[i]) : nat xs < nat ys := by
  rw [nat_take_drop xs (i + 1) (by omega), nat_take_drop ys (i + 1) (by omega), hd, nat_take_succ xs i h, nat_take_succ ys i h']
  have h1 : nat (xs.take i) < 4294967296 ^ i := by
    have := nat_lt (small_take hx i)
    rwa [List.length_take, Nat.min_eq_left (by omega)] at this
  have h2 : 4294967296 ^ i * (xs[i] + 1) ≤ 4294967296 ^ i * ys[i] := Nat.mul_le_mul_left _ hlt
  rw [Nat.mul_add] at h2
  omega
theorem len_lt {a b : Nat} (h : (limbs a).length < (limbs b).length) : a < b := by
  have h1 : a < 4294967296 ^ (limbs a).length := limbs_len.1 (Nat.le_refl _)
  have h2 : ¬ b < 4294967296 ^ (limbs a).length := fun hb => by have := limbs_len.2 hb; omega
  omega
theorem limbs_inj {a b : Nat} (h : limbs a = limbs b) : a = b := by rw [← nat_limbs a, h, nat_limbs]
theorem set_copy (xs : List Nat) (n k : Nat) (hk : k < xs.length) (hn : k < n) : (xs.take k ++ List.replicate (n - k) 0).set k xs[k] = xs.take (k + 1) ++ List.replicate (n - (k + 1)) 0 := by
  have hl : (xs.take k).length = k := by rw [List.length_take]; omega
  rw [List.set_append_right _ _ (by omega), hl, Nat.sub_self, List.take_succ_eq_append_getElem hk, show n - k = (n - (k + 1)) + 1 by omega, List.replicate_succ, List.set_cons_zero, List.append_assoc]
  rfl
end Go.Proofs.Ytpjckilmbidbgaa.Num

/- What the walks of this seat say of memory: a list of limbs that is read, one that is owned, a number as a structure of a sign and limbs. -/
namespace Go.Proofs.Ytpjckilmbidbgaa
open Go.RowKit
set_option linter.unusedVariables false

theorem hide {p : Prop} (h : p) : Hid p := h
theorem ret_int {k : IntKind} {a b : Int} (h : a = b) : Ending.returned (.int k a) = .returned (.int k b) := by rw [h]
theorem ret_bool {a b : Bool} (h : a = b) : Ending.returned (.bool a) = .returned (.bool b) := by rw [h]
theorem below_drewN {B : Nat} {a w : World} (h : Below B a w) (n : Nat) : Below B a (w.drewN n) := h.trans ⟨rfl, rfl, rfl, Nat.le_refl _, fun _ _ => rfl⟩
theorem grown_of_below {A B : World} (h : Below A.heap.size A B) : A.grownBy B none :=
  ⟨h.os, h.tape, h.output, h.size, fun k hk _ => h.block k hk⟩
theorem grown_trans {A B C : World} {r : Option Nat} (h : A.grownBy B r) (k : B.grownBy C r) : A.grownBy C r :=
  ⟨k.os.trans h.os, k.tape.trans h.tape, k.output.trans h.output, Nat.le_trans h.size k.size, fun j hj hn => (k.block j (Nat.lt_of_lt_of_le hj h.size) hn).trans (h.block j hj hn)⟩
theorem grown_any {A B : World} {r : Option Nat} (h : A.grownBy B none) : A.grownBy B r :=
  ⟨h.os, h.tape, h.output, h.size, fun j hj _ => h.block j hj (by simp)⟩

theorem bl_alloc {a w : World} (h : Below a.heap.size a w) (o : Obj) : Below a.heap.size a (w.alloc o) := h.alloc h.size o
theorem bl_trans {a b c : World} (h : Below a.heap.size a b) (k : Below b.heap.size b c) : Below a.heap.size a c := h.trans (k.mono h.size)
theorem bl_refl (a : World) : Below a.heap.size a a := Below.refl _ _
/-- a limb as a value -/
def lim (x : Nat) : Value := .int .u32 x
/-- a list of limbs that is read -/
def Seg (W : World) (a : Option Addr) (n cap : Nat) (xs : List Nat) : Prop :=
  xs.length = n ∧ n ≤ cap ∧ cap ≤ 9223372036854775807 ∧ Num.Small xs ∧ (n = 0 ∨ ∃ g o, a = some ⟨g, o, none⟩ ∧ g < W.heap.size ∧ ∀ j (hj : j < xs.length), W.cell? ⟨g, o + j, none⟩ = some (.int .u32 xs[j]))
/-- a list of limbs in memory of its own, behind a base -/
def Own (W : World) (base : Nat) (a : Option Addr) (n cap : Nat) (xs : List Nat) : Prop :=
  W.ownsRow base 51 1 (.slice a n cap) n (xs.map lim) ∧ Num.Small xs
theorem Seg.below {W W' : World} {a : Option Addr} {n cap : Nat} {xs : List Nat} (h : Seg W a n cap xs) (hb : Below W.heap.size W W') : Seg W' a n cap xs := by
  obtain ⟨h1, h2, h3, h4, h5⟩ := h
  refine ⟨h1, h2, h3, h4, ?_⟩
  rcases h5 with h5 | ⟨g, o, ha, hg, hc⟩
  · exact .inl h5
  · exact .inr ⟨g, o, ha, Nat.lt_of_lt_of_le hg hb.size, fun j hj => (hb.cell (p := ⟨g, o + j, none⟩) hg).trans (hc j hj)⟩
theorem Seg.grown {W W' : World} {a : Option Addr} {n cap : Nat} {xs : List Nat} {r : Option Nat} (h : Seg W a n cap xs) (hb : W.grownBy W' r) (hne : ∀ g o s, a = some ⟨g, o, s⟩ → r ≠ some g) : Seg W' a n cap xs := by
  obtain ⟨h1, h2, h3, h4, h5⟩ := h
  refine ⟨h1, h2, h3, h4, ?_⟩
  rcases h5 with h5 | ⟨g, o, ha, hg, hc⟩
  · exact .inl h5
  · exact .inr ⟨g, o, ha, Nat.lt_of_lt_of_le hg hb.size, fun j hj => hb.cell (hc j hj) (fun e => hne g o none ha e.symm)⟩
theorem Own.len {W : World} {base : Nat} {a : Option Addr} {n cap : Nat} {xs : List Nat} (h : Own W base a n cap xs) : xs.length = n := by
  have := h.1.1; simpa using this
theorem Own.seg {W : World} {base : Nat} {a : Option Addr} {n cap : Nat} {xs : List Nat} (h : Own W base a n cap xs) : Seg W a n cap xs := by
  have hl := h.len
  rcases h.1.2 with ⟨h1, h2⟩ | ⟨g, cap', cur, hv, hg, hh, hn, hc, _⟩
  · cases h1
    exact ⟨hl, Nat.le_refl _, by omega, h.2, .inl rfl⟩
  · cases hv
    exact ⟨hl, hn, hc, h.2, .inr ⟨g, 0, rfl, (Array.getElem?_eq_some_iff.1 hh).1, fun j hj => by rw [Nat.zero_add, h.1.cellAt j (by omega)]; simp [hj, lim]⟩⟩
theorem Own.mono {W : World} {base base' : Nat} {a : Option Addr} {n cap : Nat} {xs : List Nat} (h : Own W base a n cap xs) (hb : base' ≤ base) : Own W base' a n cap xs := by
  refine ⟨⟨h.1.1, ?_⟩, h.2⟩
  rcases h.1.2 with h' | ⟨g, cap', cur, hv, hg, rest⟩
  · exact .inl h'
  · exact .inr ⟨g, cap', cur, hv, Nat.le_trans hb hg, rest⟩
theorem Own.kept {W W' : World} {base : Nat} {a : Option Addr} {n cap : Nat} {xs : List Nat} {r : Option Nat} (h : Own W base a n cap xs) (hb : W.grownBy W' r) (hne : (Value.slice a n cap).ownBlock = none ∨ (Value.slice a n cap).ownBlock ≠ r) : Own W' base a n cap xs :=
  ⟨h.1.kept hb hne, h.2⟩
theorem Own.below {W W' : World} {base : Nat} {a : Option Addr} {n cap : Nat} {xs : List Nat} (h : Own W base a n cap xs) (hb : Below W.heap.size W W') : Own W' base a n cap xs :=
  h.kept (grown_of_below hb) (by cases a <;> simp [Value.ownBlock])
theorem Own.lt {W : World} {base : Nat} {g o n cap : Nat} {s : Option Nat} {xs : List Nat} (h : Own W base (some ⟨g, o, none⟩) n cap xs) : base ≤ g ∧ g < W.heap.size := h.1.lt g rfl
theorem Own.setCell {W : World} {base : Nat} {a : Option Addr} {n cap : Nat} {xs : List Nat} (h : Own W base a n cap xs) {p : Addr} (hp : p.block < base) (v : Value) : Own (W.setCell p v) base a n cap xs := ⟨ownsRow_setCell_below h.1 hp v, h.2⟩
theorem Own.nil (W : World) (base : Nat) : Own W base none 0 0 [] := ⟨World.ownsRow_nil _ _ _ _, fun _ h => by cases h⟩
theorem Own.cases {W : World} {base : Nat} {a : Option Addr} {n cap : Nat} {xs : List Nat} (h : Own W base a n cap xs) :
    (a = none ∧ n = 0 ∧ cap = 0 ∧ xs = []) ∨ ∃ g, a = some ⟨g, 0, none⟩ ∧ base ≤ g ∧ g < W.heap.size := by
  have hl := h.len
  rcases h.1.2 with ⟨h1, h2⟩ | ⟨g, cap', cur, hv, hg, hh, hn, hc, _⟩
  · cases h1; exact .inl ⟨rfl, rfl, rfl, List.eq_nil_of_length_eq_zero hl⟩
  · cases hv; exact .inr ⟨g, rfl, hg, (Array.getElem?_eq_some_iff.1 hh).1⟩
theorem own_apart {W W' : World} {b n m c c' : Nat} {a a' : Option Addr} {xs ys : List Nat} (h : Own W b a n c xs) (h' : Own W' W.heap.size a' m c' ys) : (Value.slice a n c).ownBlock = none ∨ (Value.slice a n c).ownBlock ≠ (Value.slice a' m c').ownBlock := by
  cases hk : (Value.slice a n c).ownBlock with
  | none => exact .inl rfl
  | some k =>
    refine .inr fun e => ?_
    have h1 := (h.1.lt k hk).2
    have h2 := (h'.1.lt k e.symm).1
    omega
/-- the list's first m limbs, cut off it -/
theorem Own.cut {W : World} {base : Nat} {g n cap : Nat} {xs : List Nat} (h : Own W base (some ⟨g, 0, none⟩) n cap xs) (m : Nat) (hm : m ≤ n) : Own W base (some ⟨g, 0, none⟩) m cap (xs.take m) := by
  have hl := h.len
  refine ⟨⟨by simp; omega, ?_⟩, Num.small_take h.2 m⟩
  rcases h.1.2 with ⟨h1, h2⟩ | ⟨g', cap', cur, hv, hg, hh, hn, hc, hs, ht⟩
  · cases h1
  · cases hv
    refine .inr ⟨g, cap, cur, rfl, hg, hh, by omega, hc, hs, ?_⟩
    rw [List.map_take, ← ht, List.take_take]; congr 1; omega

theorem own_made {W : World} {base : Nat} {a : Option Addr} {n : Nat} (h : W.ownsRow base 51 1 (.slice a n n) n (madeCells #[Value.int IntKind.u32 0] n).toList) : Own W base a n n (List.replicate n 0) := by
  refine ⟨?_, Num.small_replicate n⟩
  rw [toList_madeCells_one] at h
  simpa [lim] using h
theorem own_set {W : World} {base g n cap : Nat} {xs : List Nat} (h : Own W base (some ⟨g, 0, none⟩) n cap xs) (j x : Nat) (hx : x < 4294967296) :
    Own (W.setCell ⟨g, j, none⟩ (.int .u32 x)) base (some ⟨g, 0, none⟩) n cap (xs.set j x) ∧ W.grownBy (W.setCell ⟨g, j, none⟩ (.int .u32 x)) (some g) := by
  have := h.1.stored j (lim x)
  rw [← List.map_set] at this
  exact ⟨⟨this.1, Num.small_set h.2 j x hx⟩, this.2⟩
theorem own_cell {W : World} {base g n cap : Nat} {xs : List Nat} (h : Own W base (some ⟨g, 0, none⟩) n cap xs) (j : Nat) (hj : j < xs.length) : W.cell? ⟨g, j, none⟩ = some (.int .u32 xs[j]) := by
  have hl := h.len
  rw [h.1.cellAt j (by omega)]; simp [hj, lim]
theorem own_has {W : World} {base g n cap : Nat} {xs : List Nat} (h : Own W base (some ⟨g, 0, none⟩) n cap xs) (j : Nat) (hj : j < n) : ∃ y : Nat, W.cell? ⟨g, j, none⟩ = some (.int .u32 y) := ⟨_, own_cell h j (by rw [h.len]; exact hj)⟩
theorem row_val {W : World} {base n : Nat} {v : Value} {ys : List Value} (h : W.ownsRow base 51 1 v n ys) : ∃ a cap, v = .slice a n cap := by
  rcases h.2 with ⟨h1, h2⟩ | ⟨g, cap, cur, hv, _⟩
  · exact ⟨none, 0, by rw [h1, h2]⟩
  · exact ⟨_, _, hv⟩
theorem one_lims (xs : List Nat) : ∀ u ∈ xs.map lim, u.oneCell' = true := by
  intro u hu
  obtain ⟨x, _, rfl⟩ := List.mem_map.1 hu
  rfl
theorem grown_frozen {w w' : World} {r : Option Nat} (hg : w.grownBy w' r) {p : Addr} (hp : p.block < w.heap.size) (hne : some p.block ≠ r) : w'.frozen? p = w.frozen? p := World.frozen?_of_block (hg.block p.block hp hne)
/-- a structure of a sign and limbs that is read -/
def Raw (W : World) (v : Value) (neg : Bool) (xs : List Nat) : Prop := ∃ a cap, v = .agg #[.bool neg, .slice a xs.length cap] ∧ Seg W a xs.length cap xs
/-- one in memory of its own -/
def Got (W : World) (base : Nat) (v : Value) (neg : Bool) (xs : List Nat) : Prop := ∃ a cap, v = .agg #[.bool neg, .slice a xs.length cap] ∧ Own W base a xs.length cap xs
theorem Raw.below {W W' : World} {v : Value} {neg : Bool} {xs : List Nat} (h : Raw W v neg xs) (hb : Below W.heap.size W W') : Raw W' v neg xs := by
  obtain ⟨a, cap, rfl, h⟩ := h; exact ⟨a, cap, rfl, h.below hb⟩
theorem Got.raw {W : World} {base : Nat} {v : Value} {neg : Bool} {xs : List Nat} (h : Got W base v neg xs) : Raw W v neg xs := by
  obtain ⟨a, cap, rfl, h⟩ := h; exact ⟨a, cap, rfl, h.seg⟩
theorem Got.below {W W' : World} {base : Nat} {v : Value} {neg : Bool} {xs : List Nat} (h : Got W base v neg xs) (hb : Below W.heap.size W W') : Got W' base v neg xs := by
  obtain ⟨a, cap, rfl, h⟩ := h; exact ⟨a, cap, rfl, h.below hb⟩
theorem Got.mono {W : World} {base base' : Nat} {v : Value} {neg : Bool} {xs : List Nat} (h : Got W base v neg xs) (hb : base' ≤ base) : Got W base' v neg xs := by
  obtain ⟨a, cap, rfl, h⟩ := h; exact ⟨a, cap, rfl, h.mono hb⟩
end Go.Proofs.Ytpjckilmbidbgaa

/- The walks of what the laws ask of numbers: a copy of one, whether two are alike, marks written into one, whether they are held. -/
namespace Go.Proofs.Ytpjckilmbidbgaa
open Go.RowKit
set_option linter.unusedVariables false

theorem Try.info51 : (Try.prog.info? 51).map (fun i => (i.zero, i.size, i.bytes)) = some (some (.int .u32 0), 1, 4) := by kernel_rfl

/-- the marks from k on -/
def marks (k n : Nat) : List Nat := (List.range n).map fun j => k + j
theorem marks_length (k n : Nat) : (marks k n).length = n := by simp [marks]
theorem marks_succ (k n : Nat) : marks k (n + 1) = marks k n ++ [k + n] := by simp [marks, List.range_succ]
theorem marks_at (k n j : Nat) (h : j < (marks k n).length) : (marks k n)[j] = k + j := by simp [marks]
theorem marks_set (xs : List Nat) (k0 k : Nat) (h : k < xs.length) : (marks k0 k ++ xs.drop k).set k (k0 + k) = marks k0 (k + 1) ++ xs.drop (k + 1) := by
  have hl := marks_length k0 k
  rw [List.set_append_right _ _ (by omega), hl, Nat.sub_self, marks_succ, List.drop_eq_getElem_cons h, List.set_cons_zero, List.append_assoc]
  rfl

end Go.Proofs.Ytpjckilmbidbgaa

/- The walks of the two BigOk: whether a sign and limbs are a right number; nothing that was there turns. -/
namespace Go.Proofs.Ytpjckilmbidbgaa
open Go.RowKit
set_option linter.unusedVariables false

/-- a sign and limbs are right -/
def okB (neg : Bool) (xs : List Nat) : Bool :=
  if xs.length ≤ 40 then (if xs.length = 0 then !neg else decide (xs.getD (xs.length - 1) 0 ≠ 0)) else false
theorem ok_long {neg : Bool} {xs : List Nat} (h : ¬ xs.length ≤ 40) : okB neg xs = false := by simp [okB, h]
theorem ok_nil {neg : Bool} {xs : List Nat} (h : xs.length = 0) : okB neg xs = !neg := by simp [okB, h]
theorem ok_some {neg : Bool} {xs : List Nat} (h : xs.length ≤ 40) (h0 : xs.length ≠ 0) : okB neg xs = decide (xs.getD (xs.length - 1) 0 ≠ 0) := by
  simp only [okB, if_pos h, if_neg h0]

/-- the sign of a number, and its limbs -/
def sgn (z : Int) : Bool := decide (z < 0)
def lms (z : Int) : List Nat := Num.limbs z.natAbs
theorem ok_num {neg : Bool} {xs : List Nat} (hs : Num.Small xs) (h : okB neg xs = true) : ∃ z : Int, neg = sgn z ∧ xs = lms z ∧ z.natAbs < 4294967296 ^ 40 := by
  have h40 : xs.length ≤ 40 := by
    refine Classical.byContradiction fun hc => ?_
    rw [ok_long hc] at h; cases h
  have ht : Num.Tidy xs := Num.tidy_of_at fun k hk hk' => by
    rw [ok_some h40 (by omega)] at h
    have := of_decide_eq_true h
    rw [hk, Nat.add_sub_cancel] at this
    simpa [hk'] using this
  have hl := Num.limbs_nat hs ht
  have hlt : Num.nat xs < 4294967296 ^ 40 := by
    have := Num.limbs_len (n := Num.nat xs) (k := 40)
    rw [hl] at this; exact this.1 h40
  cases neg with
  | false => exact ⟨(Num.nat xs : Int), by simp [sgn], by simp [lms, hl], by simpa using hlt⟩
  | true =>
    have h0 : xs ≠ [] := fun e => by subst e; simp [okB] at h
    have hp := Num.nat_pos_of_tidy ht h0
    exact ⟨-(Num.nat xs : Int), by simp [sgn]; omega, by simp [lms, hl], by simpa using hlt⟩
theorem lms_small (z : Int) : Num.Small (lms z) := Num.limbs_small _
theorem sgn_lms_nil {z : Int} (h : (lms z).length = 0) : z = 0 := by
  have : lms z = [] := List.eq_nil_of_length_eq_zero h
  have := Num.limbs_eq_nil.1 this
  omega
theorem lms_last (z : Int) (h : (lms z).length ≠ 0) : (lms z).getD ((lms z).length - 1) 0 ≠ 0 := by
  have hne : lms z ≠ [] := fun e => h (by rw [e]; rfl)
  have : (lms z).getLast hne ≠ 0 := Num.limbs_tidy z.natAbs hne
  rw [List.getLast_eq_getElem] at this
  have hlt : (lms z).length - 1 < (lms z).length := by omega
  simpa [List.getD, hlt] using this
theorem ok_of_num (z : Int) : okB (sgn z) (lms z) = decide (z.natAbs < 4294967296 ^ 40) := by
  by_cases h : z.natAbs < 4294967296 ^ 40
  · rw [decide_eq_true h]
    have h40 : (lms z).length ≤ 40 := Num.limbs_len.2 h
    by_cases h0 : (lms z).length = 0
    · rw [ok_nil h0, sgn_lms_nil h0]; rfl
    · rw [ok_some h40 h0]; exact decide_eq_true (lms_last z h0)
  · rw [decide_eq_false h]
    exact ok_long fun hc => h (Num.limbs_len.1 hc)

theorem bne_nat (x : Nat) : ((x : Int) != 0) = decide (x ≠ 0) := by
  by_cases h : x = 0
  · subst h; rfl
  · rw [decide_eq_true h, bne_iff_ne]; omega
theorem raw_last {w : World} {a : Option Addr} {cap : Nat} {xs : List Nat} (hs : Seg w a xs.length cap xs) (h0 : xs.length ≠ 0) : ∃ g o, a = some ⟨g, o, none⟩ ∧ g < w.heap.size ∧ w.cell? ⟨g, o + (xs.length - 1), none⟩ = some (.int .u32 (xs.getD (xs.length - 1) 0)) := by
  rcases hs.2.2.2.2 with h | ⟨g, o, ha, hg, hc⟩
  · exact absurd h h0
  · refine ⟨g, o, ha, hg, ?_⟩
    have hlt : xs.length - 1 < xs.length := by omega
    rw [hc _ hlt]; simp [List.getD, hlt]

set_option maxHeartbeats 1000000 in
theorem okI (v : Value) (neg : Bool) (xs : List Nat) (w : World) (h : Raw w v neg xs) :
    Calls Try.prog 38 #[v] w fun e w' => e = .returned (.bool (okB neg xs)) ∧ Below w.heap.size w w' := by
  obtain ⟨a, cap, rfl, hs⟩ := h
  have hcap := hs.2.1
  have hcm := hs.2.2.1
  by_cases h0 : xs.length = 0
  · rw [ok_nil h0]
    clear hs
    cases neg
    all_goals
      go_enter Try.func38, Try.ntmps38
      go_wp2
      go_ret
      exact ⟨rfl, bl_alloc (bl_refl w) _⟩
  · by_cases h40 : xs.length ≤ 40
    · rw [ok_some h40 h0]
      obtain ⟨g, o, rfl, hg, hc⟩ := raw_last hs h0
      have hc' : (w.alloc (.cells #[.bool neg, .slice (some ⟨g, o, none⟩) xs.length cap] 26)).cell? ⟨g, o + (xs.length - 1), none⟩ = some (.int .u32 (xs.getD (xs.length - 1) 0)) := ((bl_alloc (bl_refl w) _).cell (p := ⟨g, o + (xs.length - 1), none⟩) hg).trans hc
      clear hs hc
      generalize xs.getD (xs.length - 1) 0 = x at *
      go_enter Try.func38, Try.ntmps38
      go_wp2
      go_ret
      exact ⟨ret_bool (bne_nat x), bl_alloc (bl_refl w) _⟩
    · rw [ok_long h40]
      clear hs
      go_enter Try.func38, Try.ntmps38
      go_wp2
      go_ret
      exact ⟨rfl, bl_alloc (bl_refl w) _⟩

set_option maxHeartbeats 1000000 in
theorem okS (v : Value) (neg : Bool) (xs : List Nat) (w : World) (h : Raw w v neg xs) :
    Calls Try.prog 34 #[v] w fun e w' => e = .returned (.bool (okB neg xs)) ∧ Below w.heap.size w w' := by
  obtain ⟨a, cap, rfl, hs⟩ := h
  have hcap := hs.2.1
  have hcm := hs.2.2.1
  by_cases h0 : xs.length = 0
  · rw [ok_nil h0]
    clear hs
    cases neg
    all_goals
      go_enter Try.func34, Try.ntmps34
      go_wp2
      go_ret
      exact ⟨rfl, bl_alloc (bl_refl w) _⟩
  · by_cases h40 : xs.length ≤ 40
    · rw [ok_some h40 h0]
      obtain ⟨g, o, rfl, hg, hc⟩ := raw_last hs h0
      have hc' : (w.alloc (.cells #[.bool neg, .slice (some ⟨g, o, none⟩) xs.length cap] 26)).cell? ⟨g, o + (xs.length - 1), none⟩ = some (.int .u32 (xs.getD (xs.length - 1) 0)) := ((bl_alloc (bl_refl w) _).cell (p := ⟨g, o + (xs.length - 1), none⟩) hg).trans hc
      clear hs hc
      generalize xs.getD (xs.length - 1) 0 = x at *
      go_enter Try.func34, Try.ntmps34
      go_wp2
      go_ret
      exact ⟨ret_bool (bne_nat x), bl_alloc (bl_refl w) _⟩
    · rw [ok_long h40]
      clear hs
      go_enter Try.func34, Try.ntmps34
      go_wp2
      go_ret
      exact ⟨rfl, bl_alloc (bl_refl w) _⟩

end Go.Proofs.Ytpjckilmbidbgaa

/- The walks of what makes a number of a sign and limbs: l02Make, trimLimbs, bigOf; noughts at the end are gone, and nought has no sign. -/
namespace Go.Proofs.Ytpjckilmbidbgaa
open Go.RowKit
set_option linter.unusedVariables false

/-- a number of a sign and a size -/
def mk (neg : Bool) (m : Nat) : Int := if neg then -(m : Int) else m
theorem mk_lms (neg : Bool) (m : Nat) : lms (mk neg m) = Num.limbs m := by unfold mk lms; cases neg <;> simp
theorem mk_sgn (neg : Bool) (m : Nat) : sgn (mk neg m) = (neg && decide (0 < m)) := by
  unfold mk sgn; cases neg
  · simp
  · by_cases h : 0 < m
    · rw [decide_eq_true h]; simp; omega
    · obtain rfl : m = 0 := by omega
      simp
theorem mk_abs (neg : Bool) (m : Nat) : (mk neg m).natAbs = m := by unfold mk; cases neg <;> simp
theorem mk_self (z : Int) : mk (sgn z) z.natAbs = z := by
  unfold mk sgn
  by_cases h : z < 0
  · rw [decide_eq_true h, if_pos rfl]; omega
  · rw [decide_eq_false h, if_neg (by simp)]; omega
theorem nat_lms (z : Int) : Num.nat (lms z) = z.natAbs := Num.nat_limbs _
/-- the number z, read; and in memory of its own -/
def Is (W : World) (v : Value) (z : Int) : Prop := Raw W v (sgn z) (lms z)
def New (W : World) (base : Nat) (v : Value) (z : Int) : Prop := Got W base v (sgn z) (lms z)
theorem New.is {W : World} {base : Nat} {v : Value} {z : Int} (h : New W base v z) : Is W v z := Got.raw h
theorem Is.below {W W' : World} {v : Value} {z : Int} (h : Is W v z) (hb : Below W.heap.size W W') : Is W' v z := Raw.below h hb
theorem New.below {W W' : World} {base : Nat} {v : Value} {z : Int} (h : New W base v z) (hb : Below W.heap.size W W') : New W' base v z := Got.below h hb
theorem New.mono {W : World} {base base' : Nat} {v : Value} {z : Int} (h : New W base v z) (hb : base' ≤ base) : New W base' v z := Got.mono h hb
theorem Got.setCell {W : World} {base : Nat} {v : Value} {neg : Bool} {xs : List Nat} (h : Got W base v neg xs) {p : Addr} (hp : p.block < base) (u : Value) : Got (W.setCell p u) base v neg xs := by
  obtain ⟨a, cap, rfl, h⟩ := h; exact ⟨a, cap, rfl, h.setCell hp u⟩
theorem New.setCell {W : World} {base : Nat} {v : Value} {z : Int} (h : New W base v z) {p : Addr} (hp : p.block < base) (u : Value) : New (W.setCell p u) base v z := Got.setCell h hp u
theorem limbs_len_le {xs : List Nat} (hs : Num.Small xs) : (Num.limbs (Num.nat xs)).length ≤ xs.length := Num.limbs_len.2 (Num.nat_lt hs)

theorem apart_of {x y : Option Nat} {l1 h1 l2 h2 : Nat} (hx : ∀ k, x = some k → l1 ≤ k ∧ k < h1) (hy : ∀ k, y = some k → l2 ≤ k ∧ k < h2) (h : h1 ≤ l2 ∨ h2 ≤ l1) : x = none ∨ x ≠ y := by
  cases x with
  | none => exact .inl rfl
  | some k => refine .inr fun e => ?_; have a := hx k rfl; have b := hy k e.symm; omega
/-- a box of two cells stands behind a call -/
theorem box_keep {W w1 : World} {N : Nat} {c0 c1 : Value} (hb : Below W.heap.size W w1) (hlt : N < W.heap.size) (h0 : W.cell? ⟨N, 0, none⟩ = some c0) (h1 : W.cell? ⟨N, 1, none⟩ = some c1) (g0 : W.frozen? ⟨N, 0, none⟩ = false) (g1 : W.frozen? ⟨N, 1, none⟩ = false) :
    w1.cell? ⟨N, 0, none⟩ = some c0 ∧ w1.cell? ⟨N, 1, none⟩ = some c1 ∧ w1.frozen? ⟨N, 0, none⟩ = false ∧ w1.frozen? ⟨N, 1, none⟩ = false :=
  ⟨(hb.cell (p := ⟨N, 0, none⟩) hlt).trans h0, (hb.cell (p := ⟨N, 1, none⟩) hlt).trans h1, (hb.frozen (p := ⟨N, 0, none⟩) hlt).trans g0, (hb.frozen (p := ⟨N, 1, none⟩) hlt).trans g1⟩
/-- a number is stored in a box of the call's own -/
theorem fin_box {w w1 : World} {N base : Nat} {v x y : Value} {z : Int} (hn : New w1 base v z) (hN : N < base) (hwN : w.heap.size ≤ N) (hb : Below w.heap.size w w1) :
    New ((w1.setCell ⟨N, 0, none⟩ x).setCell ⟨N, 1, none⟩ y) w.heap.size v z ∧ Below w.heap.size w ((w1.setCell ⟨N, 0, none⟩ x).setCell ⟨N, 1, none⟩ y) :=
  ⟨((hn.setCell (p := ⟨N, 0, none⟩) hN x).setCell (p := ⟨N, 1, none⟩) hN y).mono (by omega), (hb.setCell (p := ⟨N, 0, none⟩) hwN x).setCell (p := ⟨N, 1, none⟩) hwN y⟩
set_option maxHeartbeats 1000000 in
theorem trimI (a : Option Addr) (n cap : Nat) (xs : List Nat) (base : Nat) (w : World) (ho : Own w base a n cap xs) :
    Calls Try.prog 84 #[.slice a n cap] w fun e w' => w' = w ∧ ∃ a' c', e = .returned (.slice a' (Num.limbs (Num.nat xs)).length c') ∧ ∀ W, Own W base a n cap xs → Own W base a' (Num.limbs (Num.nat xs)).length c' (Num.limbs (Num.nat xs)) := by
  obtain rfl := ho.len
  have hs := ho.seg
  have hcap := hs.2.1
  have hcm := hs.2.2.1
  have hcell := hs.2.2.2.2
  have HO := hide ho
  have HC := hide hcell
  clear hs ho hcell
  go_enter Try.func84, Try.ntmps84
  go_wp2
  go_loopw [3] (fun i wr => ∃ k : Nat, k ≤ xs.length ∧ i = .int .i64 k ∧ wr = w ∧ Hid (Num.nat (xs.drop k) = 0)) (fun i _ => (intOf i).toNat)
  case atStart => exact ⟨xs.length, Nat.le_refl _, rfl, rfl, hide (by rw [List.drop_eq_nil_of_le (Nat.le_refl _)]; rfl)⟩
  case round =>
    obtain ⟨k, hk, rfl, rfl, hz⟩ := hrel
    by_cases h0 : k = 0
    · subst h0
      have HN : Hid (Num.limbs (Num.nat xs) = []) := hide (by have := hz.out; rw [List.drop_zero] at this; rw [this, Num.limbs_zero])
      go_wp2
      go_ret
      rw [HN.out]
      exact ⟨rfl, none, 0, rfl, fun W _ => Own.nil _ _⟩
    · obtain ⟨j, rfl⟩ : ∃ j, k = j + 1 := ⟨k - 1, by omega⟩
      have hj : j < xs.length := by omega
      rcases HO.out.cases with ⟨rfl, h0, _, _⟩ | ⟨g, rfl, hg, hgl⟩
      · omega
      have hc := own_cell HO.out j hj
      by_cases hx : xs[j] = 0
      · have HZ : Hid (Num.nat (xs.drop j) = 0) := hide (by rw [Num.nat_drop xs j hj, hz.out, hx])
        rw [hx] at hc
        clear hz
        go_wp2
        exact ⟨⟨j, by omega, by go_num, trivial, HZ⟩, by simp [intOf]⟩
      · have hne : ((xs[j] : Int) != 0) = true := by rw [bne_iff_ne]; omega
        have ht := Num.limbs_of_trim HO.out.2 hk hz.out (fun i hi e => by cases e; exact hx)
        have HL : Hid ((Num.limbs (Num.nat xs)).length = j + 1) := hide (by rw [← ht, List.length_take]; omega)
        have HOX : Hid (∀ W, Own W base (some ⟨g, 0, none⟩) xs.length cap xs → Own W base (some ⟨g, 0, none⟩) (j + 1) cap (Num.limbs (Num.nat xs))) := hide (fun W h => by have := h.cut (j + 1) hk; rw [ht] at this; exact this)
        clear hz ht hx
        generalize xs[j] = x at *
        go_wp2
        go_ret
        rw [HL.out]
        exact ⟨rfl, _, _, rfl, HOX.out⟩

set_option maxHeartbeats 1000000 in
theorem bigOfI (neg : Bool) (a : Option Addr) (n cap : Nat) (xs : List Nat) (base : Nat) (w : World) (ho : Own w base a n cap xs) (hbase : base ≤ w.heap.size) :
    Calls Try.prog 61 #[.bool neg, .slice a n cap] w fun e w' => ∃ v, e = .returned v ∧ New w' base v (mk neg (Num.nat xs)) ∧ Below w.heap.size w w' := by
  unfold New Got
  rw [mk_lms, mk_sgn]
  have HO := hide ho
  have hcm := ho.seg.2.2.1
  have hcap := ho.seg.2.1
  have hll := limbs_len_le ho.2
  rw [ho.len] at hll
  clear ho
  go_enter Try.func61, Try.ntmps61
  go_wp2_with fail
  refine (trimI a n cap xs base _ (HO.out.below (bl_alloc (bl_refl w) _))).mono ?_
  rintro e w1 ⟨hw, a', c', rfl, ho'⟩
  subst w1
  have HO' := hide ho'
  have HP : Hid (decide (0 < Num.nat xs) = decide (0 < ((Num.limbs (Num.nat xs)).length : Int))) := hide (by
    by_cases h : Num.nat xs = 0
    · rw [h, Num.limbs_zero]; rfl
    · have : Num.limbs (Num.nat xs) ≠ [] := fun e => h (Num.limbs_eq_nil.1 e)
      have := List.length_pos_iff.2 this
      rw [decide_eq_true (by omega), decide_eq_true (by omega)])
  clear ho'
  cases neg
  · go_wp2
    refine bodyPost_ret (v := .agg #[.bool false, .slice a' (Num.limbs (Num.nat xs)).length c']) (by simp [results, Try.results61, go_sem, *]) rfl ?_
    exact ⟨_, rfl, ⟨a', c', rfl, HO'.out _ (HO.out.below (bl_alloc (bl_refl w) _))⟩, bl_alloc (bl_refl w) _⟩
  · go_wp2
    refine bodyPost_ret (v := .agg #[.bool (decide (0 < ((Num.limbs (Num.nat xs)).length : Int))), .slice a' (Num.limbs (Num.nat xs)).length c']) (by simp [results, Try.results61, go_sem, *]) rfl ?_
    refine ⟨_, rfl, ⟨a', c', ?_, HO'.out _ (HO.out.below (bl_alloc (bl_refl w) _))⟩, bl_alloc (bl_refl w) _⟩
    rw [HP.out]; rfl

set_option maxHeartbeats 2000000 in
set_option maxRecDepth 20000 in
theorem makeS (neg : Bool) (a : Option Addr) (n cap : Nat) (xs : List Nat) (w : World) (hs : Seg w a n cap xs) (hn : n ≤ 1048576) :
    Calls Try.prog 41 #[.bool neg, .slice a n cap] w fun e w' => ∃ v, e = .returned v ∧ New w' w.heap.size v (mk neg (Num.nat xs)) ∧ Below w.heap.size w w' := by
  obtain ⟨i0, hi, hz0, hz1, hz2⟩ := info_parts Try.info51
  unfold New Got
  rw [mk_lms, mk_sgn]
  obtain rfl := hs.1
  have hcap := hs.2.1
  have hcm := hs.2.2.1
  have HS := hide hs
  clear hs
  go_enter Try.func41, Try.ntmps41
  go_wp2
  go_loopw [5] (fun i wr => ∃ k : Nat, k ≤ xs.length ∧ i = .int .i64 k ∧ wr = w.alloc (Obj.cells #[Value.bool false, Value.slice none 0 0] 26) ∧ Hid (Num.nat (xs.drop k) = 0)) (fun i _ => (intOf i).toNat)
  case atStart => exact ⟨xs.length, Nat.le_refl _, rfl, rfl, hide (by rw [List.drop_eq_nil_of_le (Nat.le_refl _)]; rfl)⟩
  case round =>
    obtain ⟨k, hk, rfl, rfl, hz⟩ := hrel
    by_cases h0 : k = 0
    · subst h0
      have HN : Hid (Num.nat xs = 0) := hide (by have := hz.out; rw [List.drop_zero] at this; exact this)
      go_wp2
      refine bodyPost_ret (v := .agg #[.bool false, .slice none 0 0]) (by simp [results, Try.results41, go_sem, *]) rfl ?_
      rw [HN.out, Num.limbs_zero]
      exact ⟨_, rfl, ⟨none, 0, by simp, Own.nil _ _⟩, bl_alloc (bl_refl w) _⟩
    · obtain ⟨j, rfl⟩ : ∃ j, k = j + 1 := ⟨k - 1, by omega⟩
      have hj : j < xs.length := by omega
      rcases HS.out.2.2.2.2 with h0 | ⟨g, o, rfl, hg, hc⟩
      · omega
      have hcj : (w.alloc (Obj.cells #[Value.bool false, Value.slice none 0 0] 26)).cell? ⟨g, o + j, none⟩ = some (.int .u32 xs[j]) := ((bl_alloc (bl_refl w) _).cell (p := ⟨g, o + j, none⟩) hg).trans (hc j hj)
      have HC := hide hc
      clear hc
      by_cases hx : xs[j] = 0
      · have HZ : Hid (Num.nat (xs.drop j) = 0) := hide (by rw [Num.nat_drop xs j hj, hz.out, hx])
        rw [hx] at hcj
        clear hz
        go_wp2
        exact ⟨⟨j, by omega, by go_num, trivial, HZ⟩, by simp [intOf]⟩
      · have hne : ((xs[j] : Int) == 0) = false := by rw [beq_eq_false_iff_ne]; omega
        have ht := Num.limbs_of_trim HS.out.2.2.2.1 hk hz.out (fun i hi e => by cases e; exact hx)
        have HT := hide ht
        have HL : Hid ((Num.limbs (Num.nat xs)).length = j + 1) := hide (by rw [← ht, List.length_take]; omega)
        have HN : Hid (0 < Num.nat xs) := hide (by
          refine Nat.pos_of_ne_zero fun e => ?_
          have := HL.out
          rw [e, Num.limbs_zero] at this; simp at this)
        clear hz ht hx
        generalize xs[j] = x at *
        have hnews : ∀ j' u, (((xs.take (j + 1)).map lim)[j']? = some u) → ((w.alloc (Obj.cells #[Value.bool false, Value.slice none 0 0] 26)).alloc (Obj.cells #[] 51)).cell? ((⟨g, o, none⟩ : Addr).add j') = some u := by
          intro j' u hu
          have hj' : j' < (xs.take (j + 1)).length := by have := (List.getElem?_eq_some_iff.1 hu).1; simpa using this
          have hjx : j' < xs.length := by simp at hj'; omega
          have hu' : u = .int .u32 xs[j'] := by
            have := (List.getElem?_eq_some_iff.1 hu).2
            simp [lim] at this; exact this.symm
          rw [hu', Addr.add_lit]
          exact ((bl_alloc (bl_alloc (bl_refl w) _) _).cell (p := ⟨g, o + j', none⟩) hg).trans (HC.out j' hjx)
        have HNEWS := hide hnews
        clear hnews
        have hrow0 : ((w.alloc (Obj.cells #[Value.bool false, Value.slice none 0 0] 26)).alloc (Obj.cells #[] 51)).ownsRow (w.heap.size + 1) 51 1 (.slice (some ⟨w.heap.size + 1, 0, none⟩) 0 0) 0 [] := by
          have := World.ownsRow_lit (base := w.heap.size + 1) (e := 51) (size := 1) (w.alloc (Obj.cells #[Value.bool false, Value.slice none 0 0] 26)) #[] 0 (by simp) (by unfold maxLen; omega) rfl
          simpa using this
        have HROW := hide hrow0
        clear hrow0
        go_wp2_with (at_builtin; refine wpList_append_own _ rfl _ _ 24 rfl (w.heap.size + 1) 51 i0 (.int .u32 0) 1 4 Try.underlying24 hi hz0 hz1 hz2 rfl (by decide) _ 0 [] rfl HROW.out ⟨g, o, none⟩ (j + 1) cap ((xs.take (j + 1)).map lim) rfl (by simp; omega) HNEWS.out (one_lims _) (by unfold maxLen; omega) (by omega) (by simp) ?_; intro v' w1 hown' hgrow' _; have hgrow := (show ((w.alloc (Obj.cells #[Value.bool false, Value.slice none 0 0] 26)).alloc (Obj.cells #[] 51)).grownBy w1 (some (w.heap.size + 1)) from hgrow'); clear hgrow'; obtain ⟨a', c', rfl⟩ := row_val hown'; have k0 : w1.cell? ⟨w.heap.size, 0, none⟩ = some (.bool false) := hgrow.cell (by go_simp) (by simp); have k1 : w1.cell? ⟨w.heap.size, 1, none⟩ = some (.slice none 0 0) := hgrow.cell (by go_simp) (by simp); have f0 : w1.frozen? ⟨w.heap.size, 0, none⟩ = false := (grown_frozen hgrow (by simp only [World.size_alloc]; omega) (by simp)).trans (by go_simp); have f1 : w1.frozen? ⟨w.heap.size, 1, none⟩ = false := (grown_frozen hgrow (by simp only [World.size_alloc]; omega) (by simp)).trans (by go_simp); have HG := hide hgrow; have HO := hide hown'; clear hgrow hown')
        refine bodyPost_ret (v := .agg #[.bool neg, .slice a' (j + 1) c']) (by simp [results, Try.results41, go_sem, *]) rfl ?_
        refine ⟨_, rfl, ⟨a', c', ?_, ?_⟩, ?_⟩
        · rw [decide_eq_true HN.out, HL.out, Bool.and_true]
        · have ho : Own w1 (w.heap.size + 1) a' (j + 1) c' (xs.take (j + 1)) := ⟨by have := HO.out; rw [Nat.zero_add, List.nil_append] at this; exact this, Num.small_take HS.out.2.2.2.1 _⟩
          rw [HL.out, ← HT.out]
          exact ((ho.setCell (p := ⟨w.heap.size, 0, none⟩) (by simp) _).setCell (p := ⟨w.heap.size, 1, none⟩) (by simp) _).mono (by omega)
        · exact (((bl_alloc (bl_alloc (bl_refl w) _) _).grown HG.out (by simp only [World.size_alloc]; omega) (fun k e => by cases e; omega)).setCell (p := ⟨w.heap.size, 0, none⟩) (Nat.le_refl _) _).setCell (p := ⟨w.heap.size, 1, none⟩) (Nat.le_refl _) _
end Go.Proofs.Ytpjckilmbidbgaa

/- A whole block of limbs, and a part of one that is written into. -/
namespace Go.Proofs.Ytpjckilmbidbgaa
open Go.RowKit
set_option linter.unusedVariables false

/-- block g holds these limbs and nothing else -/
def Blk (W : World) (g : Nat) (ys : List Nat) : Prop := W.heap[g]? = some (.cells (ys.map lim).toArray 51 (0, 0)) ∧ Num.Small ys
theorem Blk.cell {W : World} {g : Nat} {ys : List Nat} (h : Blk W g ys) (j : Nat) (hj : j < ys.length) : W.cell? ⟨g, j, none⟩ = some (.int .u32 ys[j]) := by
  rw [cell_of_row W g j _ 51 (0, 0) h.1]; simp [hj, lim]
theorem Blk.frozen {W : World} {g : Nat} {ys : List Nat} (h : Blk W g ys) (j : Nat) : W.frozen? ⟨g, j, none⟩ = false := frozen_of_row W g j _ 51 h.1
theorem Blk.lt {W : World} {g : Nat} {ys : List Nat} (h : Blk W g ys) : g < W.heap.size := (Array.getElem?_eq_some_iff.1 h.1).1
theorem Blk.set {W : World} {g : Nat} {ys : List Nat} (h : Blk W g ys) (j x : Nat) (hx : x < 4294967296) :
    Blk (W.setCell ⟨g, j, none⟩ (.int .u32 x)) g (ys.set j x) ∧ W.grownBy (W.setCell ⟨g, j, none⟩ (.int .u32 x)) (some g) := by
  refine ⟨⟨?_, Num.small_set h.2 j x hx⟩, ⟨rfl, rfl, rfl, by simp, fun k _ hk => heap_setCell_other W ⟨g, j, none⟩ k _ (fun e => hk (by simp [e]))⟩⟩
  rw [heap_setCell_same W g j _ 51 _ h.1]
  congr 2
  apply Array.ext'
  rw [Array.toList_setIfInBounds, List.map_set]; rfl
theorem Blk.kept {W W' : World} {g : Nat} {ys : List Nat} {r : Option Nat} (h : Blk W g ys) (hg : W.grownBy W' r) (hne : some g ≠ r) : Blk W' g ys := ⟨(hg.block g h.lt hne).trans h.1, h.2⟩
theorem Blk.below {W W' : World} {g : Nat} {ys : List Nat} (h : Blk W g ys) (hb : Below W.heap.size W W') : Blk W' g ys := ⟨(hb.block g h.lt).trans h.1, h.2⟩
theorem Blk.own {W : World} {g base : Nat} {ys : List Nat} (h : Blk W g ys) (hb : base ≤ g) (hl : ys.length ≤ 9223372036854775807) : Own W base (some ⟨g, 0, none⟩) ys.length ys.length ys := by
  refine ⟨⟨by simp, .inr ⟨g, ys.length, _, rfl, hb, h.1, Nat.le_refl _, by unfold maxLen; omega, by simp, by rw [Nat.mul_one]; exact List.take_of_length_le (by simp)⟩⟩, h.2⟩
theorem Own.blk {W : World} {g base n : Nat} {ys : List Nat} (h : Own W base (some ⟨g, 0, none⟩) n n ys) : Blk W g ys := by
  have hl := h.len
  refine ⟨?_, h.2⟩
  rcases h.1.2 with ⟨h1, h2⟩ | ⟨g', cap', cur, hv, hg, hh, hn, hc, hs, ht⟩
  · cases h1
  · cases hv
    rw [hh]
    congr 2
    apply Array.ext'
    rw [← ht, List.take_of_length_le (by rw [Array.length_toList]; omega)]
/-- a part of a block, read -/
theorem Blk.seg {W : World} {g : Nat} {ys : List Nat} (h : Blk W g ys) (o n cap : Nat) (hn : o + n ≤ ys.length) (hc : n ≤ cap) (hm : cap ≤ 9223372036854775807) : Seg W (some ⟨g, o, none⟩) n cap ((ys.drop o).take n) := by
  have hl : ((ys.drop o).take n).length = n := by simp; omega
  refine ⟨hl, hc, hm, Num.small_take (Num.small_drop h.2 o) n, .inr ⟨g, o, rfl, h.lt, fun j hj => ?_⟩⟩
  rw [h.cell (o + j) (by omega)]; simp
end Go.Proofs.Ytpjckilmbidbgaa
