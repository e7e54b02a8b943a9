/- What the draws share: a cursor that lies in one block of its own, and worlds that part in that block alone. -/
import Derived.Test.YthjapjbiclkhcaaPk01
import Derived.WalkKit
import Derived.WalkLawsBesides
import Derived.WalkSpells
import Derived.Deep.QuietTactic
import Derived.BigQuiet
namespace Go.Proofs.Ythjapjbiclkhcaa
open Go.RowKit
set_option linter.unusedVariables false

/-- all that was there is as it was, but for block B -/
structure Only (B : Nat) (w w' : World) : Prop where
  os : w'.os = w.os
  tape : w'.tape = w.tape
  output : w'.output = w.output
  size : w.heap.size ≤ w'.heap.size
  block : ∀ k, k < w.heap.size → k ≠ B → w'.heap[k]? = w.heap[k]?
theorem Only.refl (B : Nat) (w : World) : Only B w w := ⟨rfl, rfl, rfl, Nat.le_refl _, fun _ _ _ => rfl⟩
theorem Only.trans {B : Nat} {a b c : World} (h : Only B a b) (k : Only B b c) : Only B a c :=
  ⟨k.os.trans h.os, k.tape.trans h.tape, k.output.trans h.output, Nat.le_trans h.size k.size, fun i hi hn => (k.block i (Nat.lt_of_lt_of_le hi h.size) hn).trans (h.block i hi hn)⟩
theorem Only.drewN {B : Nat} {a w : World} (h : Only B a w) (n : Nat) : Only B a (w.drewN n) := ⟨h.os, h.tape, h.output, h.size, h.block⟩
theorem Only.alloc {B : Nat} {a w : World} (h : Only B a w) (o : Obj) : Only B a (w.alloc o) :=
  h.trans ⟨rfl, rfl, rfl, by simp, fun k hk _ => Below.heap_alloc _ _ _ hk⟩
theorem Only.setCell {B : Nat} {a w : World} (h : Only B a w) {p : Addr} (hp : p.block = B) (u : Value) : Only B a (w.setCell p u) :=
  h.trans ⟨rfl, rfl, rfl, by simp [World.setCell], fun k hk hn => Below.heap_setCell _ _ _ _ (by omega)⟩
theorem Only.below {B N : Nat} {w w' : World} (h : Only B w w') (h1 : N ≤ B) (h2 : N ≤ w.heap.size) : Below N w w' :=
  ⟨h.os, h.tape, h.output, h.size, fun k hk => h.block k (by omega) (by omega)⟩
theorem Only.cell {B : Nat} {w w' : World} (h : Only B w w') {p : Addr} (h1 : p.block < w.heap.size) (h2 : p.block ≠ B) : w'.cell? p = w.cell? p := World.cell?_of_block (w := w) (h.block p.block h1 h2)
theorem Only.frozen {B : Nat} {w w' : World} (h : Only B w w') {p : Addr} (h1 : p.block < w.heap.size) (h2 : p.block ≠ B) : w'.frozen? p = w.frozen? p := World.frozen?_of_block (w := w) (h.block p.block h1 h2)

/-- a row of bytes that lies below block B -/
def Bytes (B : Nat) (a : Option Addr) (len : Nat) (w : World) : Prop :=
  len = 0 ∨ ∃ b off, a = some ⟨b, off, none⟩ ∧ b < B ∧ ∀ j, j < len → ∃ z : Nat, z ≤ 255 ∧ w.cell? ⟨b, off + j, none⟩ = some (.int .u8 z)
theorem Bytes.only {B : Nat} {a : Option Addr} {len : Nat} {w w' : World} (h : Bytes B a len w) (hB : B < w.heap.size) (ho : Only B w w') : Bytes B a len w' := by
  rcases h with h | ⟨b, off, rfl, hb, hc⟩
  · exact .inl h
  · refine .inr ⟨b, off, rfl, hb, fun j hj => ?_⟩
    obtain ⟨z, hz, hcz⟩ := hc j hj
    exact ⟨z, hz, (ho.cell (show b < w.heap.size by omega) (show b ≠ B by omega)).trans hcz⟩

/-- the cursor in block B over a row of bytes -/
structure Cur (B : Nat) (a : Option Addr) (len cap : Nat) (w : World) : Prop where
  hB : B < w.heap.size
  c0 : w.cell? ⟨B, 0, none⟩ = some (.slice a len cap)
  c1 : ∃ i : Nat, i ≤ len ∧ w.cell? ⟨B, 1, none⟩ = some (.int .i64 i)
  c2 : ∃ h : Int, w.cell? ⟨B, 2, none⟩ = some (.int .i64 h)
  f1 : w.frozen? ⟨B, 1, none⟩ = false
  f2 : w.frozen? ⟨B, 2, none⟩ = false
  row : Bytes B a len w
  le : len ≤ cap
  cp : cap ≤ 9223372036854775807
theorem Cur.alloc {B : Nat} {a : Option Addr} {len cap : Nat} {w : World} (h : Cur B a len cap w) (o : Obj) : Cur B a len cap (w.alloc o) := by
  have e : ∀ p : Addr, p.block = B → (w.alloc o).cell? p = w.cell? p := fun p hp => World.cell?_of_block (w := w) (Below.heap_alloc _ _ _ (by rw [hp]; exact h.hB))
  have ef : ∀ p : Addr, p.block = B → (w.alloc o).frozen? p = w.frozen? p := fun p hp => World.frozen?_of_block (w := w) (Below.heap_alloc _ _ _ (by rw [hp]; exact h.hB))
  exact ⟨by have := h.hB; simp; omega, (e _ rfl).trans h.c0, by obtain ⟨i, hi, hc⟩ := h.c1; exact ⟨i, hi, (e _ rfl).trans hc⟩, by obtain ⟨i, hc⟩ := h.c2; exact ⟨i, (e _ rfl).trans hc⟩,
    (ef _ rfl).trans h.f1, (ef _ rfl).trans h.f2, h.row.only h.hB ((Only.refl B w).alloc o), h.le, h.cp⟩
theorem Cur.drewN {B : Nat} {a : Option Addr} {len cap : Nat} {w : World} (h : Cur B a len cap w) (n : Nat) : Cur B a len cap (w.drewN n) :=
  ⟨h.hB, h.c0, h.c1, h.c2, h.f1, h.f2, h.row, h.le, h.cp⟩
/-- what leaves block B as it is leaves the cursor -/
theorem Cur.kept {B : Nat} {a : Option Addr} {len cap : Nat} {w w' : World} (h : Cur B a len cap w) (hb : Below (B + 1) w w') : Cur B a len cap w' := by
  have hB := h.hB
  refine ⟨by have := hb.size; omega, (hb.cell (show B < B + 1 by omega)).trans h.c0, ?_, ?_, (hb.frozen (show B < B + 1 by omega)).trans h.f1, (hb.frozen (show B < B + 1 by omega)).trans h.f2, ?_, h.le, h.cp⟩
  · obtain ⟨i, hi, hc⟩ := h.c1; exact ⟨i, hi, (hb.cell (show B < B + 1 by omega)).trans hc⟩
  · obtain ⟨i, hc⟩ := h.c2; exact ⟨i, (hb.cell (show B < B + 1 by omega)).trans hc⟩
  · rcases h.row with h | ⟨b, off, rfl, hlt, hc⟩
    · exact .inl h
    · refine .inr ⟨b, off, rfl, hlt, fun j hj => ?_⟩
      obtain ⟨z, hz, hcz⟩ := hc j hj
      exact ⟨z, hz, (hb.cell (show b < B + 1 by omega)).trans hcz⟩

theorem Cur.set2 {B : Nat} {a : Option Addr} {len cap : Nat} {w : World} (h : Cur B a len cap w) (v : Int) : Cur B a len cap (w.setCell ⟨B, 2, none⟩ (.int .i64 v)) := by
  obtain ⟨hB, c0, ⟨i, hi, c1⟩, ⟨x, c2⟩, f1, f2, row, hle, hcp⟩ := id h
  have e0 : (w.setCell ⟨B, 2, none⟩ (.int .i64 v)).cell? ⟨B, 0, none⟩ = w.cell? ⟨B, 0, none⟩ := World.cell?_setCell_other _ _ _ _ (by simp)
  have e1 : (w.setCell ⟨B, 2, none⟩ (.int .i64 v)).cell? ⟨B, 1, none⟩ = w.cell? ⟨B, 1, none⟩ := World.cell?_setCell_other _ _ _ _ (by simp)
  exact ⟨by simpa [World.setCell] using hB, e0.trans c0, ⟨i, hi, e1.trans c1⟩, ⟨v, World.cell?_setCell_same _ _ _ c2⟩, (World.frozen?_setCell _ _ _ _).trans f1, (World.frozen?_setCell _ _ _ _).trans f2,
    row.only hB ((Only.refl B w).setCell rfl _), hle, hcp⟩
theorem Cur.set1 {B : Nat} {a : Option Addr} {len cap : Nat} {w : World} (h : Cur B a len cap w) (v : Nat) (hv : v ≤ len) : Cur B a len cap (w.setCell ⟨B, 1, none⟩ (.int .i64 v)) := by
  obtain ⟨hB, c0, ⟨i, hi, c1⟩, ⟨x, c2⟩, f1, f2, row, hle, hcp⟩ := id h
  have e0 : (w.setCell ⟨B, 1, none⟩ (.int .i64 v)).cell? ⟨B, 0, none⟩ = w.cell? ⟨B, 0, none⟩ := World.cell?_setCell_other _ _ _ _ (by simp)
  have e2 : (w.setCell ⟨B, 1, none⟩ (.int .i64 v)).cell? ⟨B, 2, none⟩ = w.cell? ⟨B, 2, none⟩ := World.cell?_setCell_other _ _ _ _ (by simp)
  exact ⟨by simpa [World.setCell] using hB, e0.trans c0, ⟨v, hv, World.cell?_setCell_same _ _ _ c1⟩, ⟨x, e2.trans c2⟩, (World.frozen?_setCell _ _ _ _).trans f1, (World.frozen?_setCell _ _ _ _).trans f2,
    row.only hB ((Only.refl B w).setCell rfl _), hle, hcp⟩
end Go.Proofs.Ythjapjbiclkhcaa
