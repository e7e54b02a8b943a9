/- My texts RtL, Cur, in this order. -/
import Derived.Test.YthjapjbiclkhcaaPk26
import Derived.Test.YthjapjbiclkhcaaPk27
import Derived.Test.YthjapjbiclkhcaaPk15
import Derived.Test.YthjapjbiclkhcaaPk00
import Derived.WalkKit
import Derived.WalkLawsBesides
import Derived.WalkSpells
import Derived.Deep.QuietTactic
import Derived.BigQuiet
/- What the law of roots asks of numbers. -/
namespace Go.Proofs.Ythjapjbiclkhcaa
open Go.RowKit
set_option linter.unusedVariables false

theorem ok_fit (z : Int) : okB (sgn z) (lms z) = fits z := ok_of_num z
theorem sgn_nat (x : Nat) : sgn (x : Int) = false := decide_eq_false (by omega)
theorem num_self (z : Int) : mk (sgn z) (Num.nat (lms z)) = z := by rw [nat_lms, mk_self]
theorem fits_nat {x : Nat} (h : x < 4294967296 ^ 40) : fits (x : Int) = true := by unfold fits; rw [Int.natAbs_natCast]; exact decide_eq_true h
theorem nat_fits {x : Nat} (h : fits (x : Int) = true) : x < 4294967296 ^ 40 := by unfold fits at h; rw [Int.natAbs_natCast] at h; exact of_decide_eq_true h
/-- the power of a number that is right -/
theorem pow_right {r K : Nat} (hr : r < 4294967296 ^ 40) (hK : K ≤ 63) : pwT (sgn (r : Int)) (lms (r : Int)) ((K : Int) + 1) = fits ((r ^ (K + 1) : Nat) : Int) ∧ (fits ((r ^ (K + 1) : Nat) : Int) = true → pwZ (sgn (r : Int)) (lms (r : Int)) ((K : Int) + 1) = ((r ^ (K + 1) : Nat) : Int)) := by
  have e1 : ((K : Int) + 1).toNat = K + 1 := by omega
  have e2 : (r : Int) ^ (K + 1) = ((r ^ (K + 1) : Nat) : Int) := by push_cast; rfl
  have t : pwT (sgn (r : Int)) (lms (r : Int)) ((K : Int) + 1) = fits ((r ^ (K + 1) : Nat) : Int) := by
    unfold pwT
    rw [ok_fit, fits_nat hr, num_self, e1, e2, decide_eq_true (by omega)]
    rfl
  refine ⟨t, fun h => ?_⟩
  unfold pwZ
  rw [t, h, if_pos rfl, num_self, e1, e2]
theorem cmp_right {a b : Nat} (ha : fits (a : Int) = true) (hb : fits (b : Int) = true) : cmpR (sgn (a : Int)) (lms (a : Int)) (sgn (b : Int)) (lms (b : Int)) = cmpZ (a : Int) (b : Int) := by
  unfold cmpR
  rw [ok_fit, ok_fit, ha, hb, num_self, num_self]
  rfl
theorem add_right {r : Nat} (hr : r < 4294967296 ^ 40) : opT addZ (sgn (r : Int)) (lms (r : Int)) (sgn 1) (lms 1) = fits ((r + 1 : Nat) : Int) ∧ (fits ((r + 1 : Nat) : Int) = true → opZ addZ (sgn (r : Int)) (lms (r : Int)) (sgn 1) (lms 1) = ((r + 1 : Nat) : Int)) := by
  have e1 : fits (1 : Int) = true := fits_nat (x := 1) (by decide)
  have e2 : addZ (r : Int) 1 = ((r + 1 : Nat) : Int) := by unfold addZ; push_cast; rfl
  have t : opT addZ (sgn (r : Int)) (lms (r : Int)) (sgn 1) (lms 1) = fits ((r + 1 : Nat) : Int) := by
    unfold opT
    rw [ok_fit, ok_fit, fits_nat hr, e1, num_self, num_self, e2]
    rfl
  refine ⟨t, fun h => ?_⟩
  unfold opZ
  rw [t, h, if_pos rfl, num_self, num_self, e2]
/-- what the law asks of the root -/
theorem root_law {x K r : Nat} (hx : x < 4294967296 ^ 40) (hK : K ≤ 63) (h : Root (K + 1) x r) :
    r < 4294967296 ^ 40 ∧ pwT (sgn (r : Int)) (lms (r : Int)) ((K : Int) + 1) = true ∧ ∃ c : Int, cmpR (sgn (pwZ (sgn (r : Int)) (lms (r : Int)) ((K : Int) + 1))) (lms (pwZ (sgn (r : Int)) (lms (r : Int)) ((K : Int) + 1))) (sgn (x : Int)) (lms (x : Int)) = c ∧ c ≤ 0 ∧ decide (r ^ (K + 1) = x) = (c == 0) ∧ -1 ≤ c := by
  have hr : r < 4294967296 ^ 40 := Nat.lt_of_le_of_lt (root_le h) hx
  have hf : fits ((r ^ (K + 1) : Nat) : Int) = true := fits_nat (Nat.lt_of_le_of_lt h.1 hx)
  obtain ⟨h1, h2⟩ := pow_right hr hK
  refine ⟨hr, by rw [h1, hf], _, by rw [h2 hf, cmp_right hf (fits_nat hx)], ?_⟩
  have h3 := h.1
  generalize r ^ (K + 1) = p at *
  by_cases e : p = x
  · rw [cmp_eq (by rw [e]), decide_eq_true e]; exact ⟨by omega, rfl, by omega⟩
  · rw [cmp_lt (by omega), decide_eq_false e]; exact ⟨by omega, rfl, by omega⟩
theorem root_next {x K r : Nat} (hx : x < 4294967296 ^ 40) (hK : K ≤ 63) (h : Root (K + 1) x r) (s : Int) (hs : opZ addZ (sgn (r : Int)) (lms (r : Int)) (sgn 1) (lms 1) = s)
    (hf : opT addZ (sgn (r : Int)) (lms (r : Int)) (sgn 1) (lms 1) = true) (hg : pwT (sgn s) (lms s) ((K : Int) + 1) = true) :
    cmpR (sgn (pwZ (sgn s) (lms s) ((K : Int) + 1))) (lms (pwZ (sgn s) (lms s) ((K : Int) + 1))) (sgn (x : Int)) (lms (x : Int)) = 1 := by
  have hr : r < 4294967296 ^ 40 := Nat.lt_of_le_of_lt (root_le h) hx
  obtain ⟨h1, h2⟩ := add_right hr
  rw [h1] at hf
  rw [h2 hf] at hs
  subst hs
  obtain ⟨h3, h4⟩ := pow_right (r := r + 1) (nat_fits hf) hK
  rw [h3] at hg
  rw [h4 hg, cmp_right hg (fits_nat hx)]
  have h5 := h.2
  exact cmp_gt (by omega)
end Go.Proofs.Ythjapjbiclkhcaa

/- What the draws share: a cursor that lies in one block of its own, and worlds that part in that block alone. -/
namespace Go.Proofs.Ythjapjbiclkhcaa
open Go.RowKit
set_option linter.unusedVariables false

/-- all that was there is as it was, but for block B -/
structure Only (B : Nat) (w w' : World) : Prop where
  os : w'.os = w.os
  tape : w'.tape = w.tape
  output : w'.output = w.output
  size : w.heap.size ≤ w'.heap.size
  block : ∀ k, k < w.heap.size → k ≠ B → w'.heap[k]? = w.heap[k]?
theorem Only.refl (B : Nat) (w : World) : Only B w w := ⟨rfl, rfl, rfl, Nat.le_refl _, fun _ _ _ => rfl⟩
theorem Only.trans {B : Nat} {a b c : World} (h : Only B a b) (k : Only B b c) : Only B a c :=
  ⟨k.os.trans h.os, k.tape.trans h.tape, k.output.trans h.output, Nat.le_trans h.size k.size, fun i hi hn => (k.block i (Nat.lt_of_lt_of_le hi h.size) hn).trans (h.block i hi hn)⟩
theorem Only.drewN {B : Nat} {a w : World} (h : Only B a w) (n : Nat) : Only B a (w.drewN n) := ⟨h.os, h.tape, h.output, h.size, h.block⟩
theorem Only.alloc {B : Nat} {a w : World} (h : Only B a w) (o : Obj) : Only B a (w.alloc o) :=
  h.trans ⟨rfl, rfl, rfl, by simp, fun k hk _ => Below.heap_alloc _ _ _ hk⟩
theorem Only.setCell {B : Nat} {a w : World} (h : Only B a w) {p : Addr} (hp : p.block = B) (u : Value) : Only B a (w.setCell p u) :=
  h.trans ⟨rfl, rfl, rfl, by simp [World.setCell], fun k hk hn => Below.heap_setCell _ _ _ _ (by omega)⟩
theorem Only.below {B N : Nat} {w w' : World} (h : Only B w w') (h1 : N ≤ B) (h2 : N ≤ w.heap.size) : Below N w w' :=
  ⟨h.os, h.tape, h.output, h.size, fun k hk => h.block k (by omega) (by omega)⟩
theorem Only.cell {B : Nat} {w w' : World} (h : Only B w w') {p : Addr} (h1 : p.block < w.heap.size) (h2 : p.block ≠ B) : w'.cell? p = w.cell? p := World.cell?_of_block (w := w) (h.block p.block h1 h2)
theorem Only.frozen {B : Nat} {w w' : World} (h : Only B w w') {p : Addr} (h1 : p.block < w.heap.size) (h2 : p.block ≠ B) : w'.frozen? p = w.frozen? p := World.frozen?_of_block (w := w) (h.block p.block h1 h2)

/-- a row of bytes that lies below block B -/
def Bytes (B : Nat) (a : Option Addr) (len : Nat) (w : World) : Prop :=
  len = 0 ∨ ∃ b off, a = some ⟨b, off, none⟩ ∧ b < B ∧ ∀ j, j < len → ∃ z : Nat, z ≤ 255 ∧ w.cell? ⟨b, off + j, none⟩ = some (.int .u8 z)
theorem Bytes.only {B : Nat} {a : Option Addr} {len : Nat} {w w' : World} (h : Bytes B a len w) (hB : B < w.heap.size) (ho : Only B w w') : Bytes B a len w' := by
  rcases h with h | ⟨b, off, rfl, hb, hc⟩
  · exact .inl h
  · refine .inr ⟨b, off, rfl, hb, fun j hj => ?_⟩
    obtain ⟨z, hz, hcz⟩ := hc j hj
    exact ⟨z, hz, (ho.cell (show b < w.heap.size by omega) (show b ≠ B by omega)).trans hcz⟩

/-- the cursor in block B over a row of bytes -/
structure Cur (B : Nat) (a : Option Addr) (len cap : Nat) (w : World) : Prop where
  hB : B < w.heap.size
  c0 : w.cell? ⟨B, 0, none⟩ = some (.slice a len cap)
  c1 : ∃ i : Nat, i ≤ len ∧ w.cell? ⟨B, 1, none⟩ = some (.int .i64 i)
  c2 : ∃ h : Int, w.cell? ⟨B, 2, none⟩ = some (.int .i64 h)
  f1 : w.frozen? ⟨B, 1, none⟩ = false
  f2 : w.frozen? ⟨B, 2, none⟩ = false
  row : Bytes B a len w
  le : len ≤ cap
  cp : cap ≤ 9223372036854775807
theorem Cur.alloc {B : Nat} {a : Option Addr} {len cap : Nat} {w : World} (h : Cur B a len cap w) (o : Obj) : Cur B a len cap (w.alloc o) := by
  have e : ∀ p : Addr, p.block = B → (w.alloc o).cell? p = w.cell? p := fun p hp => World.cell?_of_block (w := w) (Below.heap_alloc _ _ _ (by rw [hp]; exact h.hB))
  have ef : ∀ p : Addr, p.block = B → (w.alloc o).frozen? p = w.frozen? p := fun p hp => World.frozen?_of_block (w := w) (Below.heap_alloc _ _ _ (by rw [hp]; exact h.hB))
  exact ⟨by have := h.hB; simp; omega, (e _ rfl).trans h.c0, by obtain ⟨i, hi, hc⟩ := h.c1; exact ⟨i, hi, (e _ rfl).trans hc⟩, by obtain ⟨i, hc⟩ := h.c2; exact ⟨i, (e _ rfl).trans hc⟩,
    (ef _ rfl).trans h.f1, (ef _ rfl).trans h.f2, h.row.only h.hB ((Only.refl B w).alloc o), h.le, h.cp⟩
theorem Cur.drewN {B : Nat} {a : Option Addr} {len cap : Nat} {w : World} (h : Cur B a len cap w) (n : Nat) : Cur B a len cap (w.drewN n) :=
  ⟨h.hB, h.c0, h.c1, h.c2, h.f1, h.f2, h.row, h.le, h.cp⟩
/-- what leaves block B as it is leaves the cursor -/
theorem Cur.kept {B : Nat} {a : Option Addr} {len cap : Nat} {w w' : World} (h : Cur B a len cap w) (hb : Below (B + 1) w w') : Cur B a len cap w' := by
  have hB := h.hB
  refine ⟨by have := hb.size; omega, (hb.cell (show B < B + 1 by omega)).trans h.c0, ?_, ?_, (hb.frozen (show B < B + 1 by omega)).trans h.f1, (hb.frozen (show B < B + 1 by omega)).trans h.f2, ?_, h.le, h.cp⟩
  · obtain ⟨i, hi, hc⟩ := h.c1; exact ⟨i, hi, (hb.cell (show B < B + 1 by omega)).trans hc⟩
  · obtain ⟨i, hc⟩ := h.c2; exact ⟨i, (hb.cell (show B < B + 1 by omega)).trans hc⟩
  · rcases h.row with h | ⟨b, off, rfl, hlt, hc⟩
    · exact .inl h
    · refine .inr ⟨b, off, rfl, hlt, fun j hj => ?_⟩
      obtain ⟨z, hz, hcz⟩ := hc j hj
      exact ⟨z, hz, (hb.cell (show b < B + 1 by omega)).trans hcz⟩

theorem Cur.set2 {B : Nat} {a : Option Addr} {len cap : Nat} {w : World} (h : Cur B a len cap w) (v : Int) : Cur B a len cap (w.setCell ⟨B, 2, none⟩ (.int .i64 v)) := by
  obtain ⟨hB, c0, ⟨i, hi, c1⟩, ⟨x, c2⟩, f1, f2, row, hle, hcp⟩ := id h
  have e0 : (w.setCell ⟨B, 2, none⟩ (.int .i64 v)).cell? ⟨B, 0, none⟩ = w.cell? ⟨B, 0, none⟩ := World.cell?_setCell_other _ _ _ _ (by simp)
  have e1 : (w.setCell ⟨B, 2, none⟩ (.int .i64 v)).cell? ⟨B, 1, none⟩ = w.cell? ⟨B, 1, none⟩ := World.cell?_setCell_other _ _ _ _ (by simp)
  exact ⟨by simpa [World.setCell] using hB, e0.trans c0, ⟨i, hi, e1.trans c1⟩, ⟨v, World.cell?_setCell_same _ _ _ c2⟩, (World.frozen?_setCell _ _ _ _).trans f1, (World.frozen?_setCell _ _ _ _).trans f2,
    row.only hB ((Only.refl B w).setCell rfl _), hle, hcp⟩
theorem Cur.set1 {B : Nat} {a : Option Addr} {len cap : Nat} {w : World} (h : Cur B a len cap w) (v : Nat) (hv : v ≤ len) : Cur B a len cap (w.setCell ⟨B, 1, none⟩ (.int .i64 v)) := by
  obtain ⟨hB, c0, ⟨i, hi, c1⟩, ⟨x, c2⟩, f1, f2, row, hle, hcp⟩ := id h
  have e0 : (w.setCell ⟨B, 1, none⟩ (.int .i64 v)).cell? ⟨B, 0, none⟩ = w.cell? ⟨B, 0, none⟩ := World.cell?_setCell_other _ _ _ _ (by simp)
  have e2 : (w.setCell ⟨B, 1, none⟩ (.int .i64 v)).cell? ⟨B, 2, none⟩ = w.cell? ⟨B, 2, none⟩ := World.cell?_setCell_other _ _ _ _ (by simp)
  exact ⟨by simpa [World.setCell] using hB, e0.trans c0, ⟨v, hv, World.cell?_setCell_same _ _ _ c1⟩, ⟨x, e2.trans c2⟩, (World.frozen?_setCell _ _ _ _).trans f1, (World.frozen?_setCell _ _ _ _).trans f2,
    row.only hB ((Only.refl B w).setCell rfl _), hle, hcp⟩
end Go.Proofs.Ythjapjbiclkhcaa
