/- The walk of bigPower: a number to a power, in new memory. -/
import Derived.Test.YtbopgbpnbonkeaaProd
import Derived.Test.YtbopgbpnbonkeaaFrom
import Derived.Test.YtbopgbpnbonkeaaBits
import Derived.Deep.DeepCutAuto
namespace Go.Proofs.Ytbopgbpnbonkeaa
open Go.RowKit
set_option linter.unusedVariables false

/-- what stands at the head of a round: the argument's box A, the answer's box R, and the box V of the number so far -/
structure PSt (w W : World) (base V : Nat) (z q : Int) (a : Option Addr) (ca : Nat) (av : Option Addr) (cv : Nat) : Prop where
  kA0 : W.cell? ⟨w.heap.size, 0, none⟩ = some (.bool (sgn z))
  kA1 : W.cell? ⟨w.heap.size, 1, none⟩ = some (.slice a (lms z).length ca)
  kR0 : W.cell? ⟨w.heap.size + 1, 0, none⟩ = some (.bool false)
  kR1 : W.cell? ⟨w.heap.size + 1, 1, none⟩ = some (.slice none 0 0)
  fR0 : W.frozen? ⟨w.heap.size + 1, 0, none⟩ = false
  fR1 : W.frozen? ⟨w.heap.size + 1, 1, none⟩ = false
  kV0 : W.cell? ⟨V, 0, none⟩ = some (.bool (sgn q))
  kV1 : W.cell? ⟨V, 1, none⟩ = some (.slice av (lms q).length cv)
  fV0 : W.frozen? ⟨V, 0, none⟩ = false
  fV1 : W.frozen? ⟨V, 1, none⟩ = false
  zV : V < W.heap.size
  own : Own W base av (lms q).length cv (lms q)
  bel : Below w.heap.size w W
/-- a new number, made behind, is stored in the box V -/
theorem PSt.store {w W W' : World} {base V : Nat} {z q r : Int} {a : Option Addr} {ca : Nat} {av : Option Addr} {cv : Nat} {ar : Option Addr} {cr : Nat} (h : PSt w W base V z q a ca av cv) (hb : Below W.heap.size W W') (hN : Own W' W.heap.size ar (lms r).length cr (lms r)) (hV : w.heap.size + 2 ≤ V) (hbW : base ≤ W.heap.size) :
    PSt w ((W'.setCell ⟨V, 0, none⟩ (.bool (sgn r))).setCell ⟨V, 1, none⟩ (.slice ar (lms r).length cr)) base V z r a ca ar cr := by
  have hz := h.zV
  have hzw := h.bel.size
  have hbs := hb.size
  have c (p : Addr) (hp : p.block < W.heap.size) (hne : p.block ≠ V) : ((W'.setCell ⟨V, 0, none⟩ (.bool (sgn r))).setCell ⟨V, 1, none⟩ (.slice ar (lms r).length cr)).cell? p = W.cell? p :=
    (World.cell?_of_block ((Below.heap_setCell _ ⟨V, 1, none⟩ _ p.block hne).trans (Below.heap_setCell _ ⟨V, 0, none⟩ _ p.block hne))).trans (hb.cell hp)
  have f (p : Addr) (hp : p.block < W.heap.size) (hne : p.block ≠ V) : ((W'.setCell ⟨V, 0, none⟩ (.bool (sgn r))).setCell ⟨V, 1, none⟩ (.slice ar (lms r).length cr)).frozen? p = W.frozen? p :=
    (World.frozen?_of_block ((Below.heap_setCell _ ⟨V, 1, none⟩ _ p.block hne).trans (Below.heap_setCell _ ⟨V, 0, none⟩ _ p.block hne))).trans (hb.frozen hp)
  have v0 := (hb.cell (p := ⟨V, 0, none⟩) hz).trans h.kV0
  have v1 := (hb.cell (p := ⟨V, 1, none⟩) hz).trans h.kV1
  have g0 := (hb.frozen (p := ⟨V, 0, none⟩) hz).trans h.fV0
  have g1 := (hb.frozen (p := ⟨V, 1, none⟩) hz).trans h.fV1
  refine ⟨(c ⟨w.heap.size, 0, none⟩ (by dsimp only; omega) (by dsimp only; omega)).trans h.kA0, (c ⟨w.heap.size, 1, none⟩ (by dsimp only; omega) (by dsimp only; omega)).trans h.kA1, (c ⟨w.heap.size + 1, 0, none⟩ (by dsimp only; omega) (by dsimp only; omega)).trans h.kR0, (c ⟨w.heap.size + 1, 1, none⟩ (by dsimp only; omega) (by dsimp only; omega)).trans h.kR1,
    (f ⟨w.heap.size + 1, 0, none⟩ (by dsimp only; omega) (by dsimp only; omega)).trans h.fR0, (f ⟨w.heap.size + 1, 1, none⟩ (by dsimp only; omega) (by dsimp only; omega)).trans h.fR1, by go_simp, by go_simp, by go_simp, by go_simp, by simp; omega, ?_, ?_⟩
  · exact ((hN.setCell (p := ⟨V, 0, none⟩) hz _).setCell (p := ⟨V, 1, none⟩) hz _).mono hbW
  · exact ((bl_trans h.bel hb).setCell (p := ⟨V, 0, none⟩) (by dsimp only; omega) _).setCell (p := ⟨V, 1, none⟩) (by dsimp only; omega) _

theorem lt_bits (n : Nat) (h : n < 18446744073709551616) : n < 2 ^ Lib.bitLen n := by
  induction n using Nat.strongRecOn with
  | _ n ih =>
    by_cases h0 : n = 0
    · subst h0; decide
    · rw [Lib.bitLen_half n h0 h, Nat.add_comm, Nat.pow_succ]
      have := ih (n / 2) (by omega) (by omega)
      omega
theorem and1 (n : Int) (h0 : 0 ≤ n) (h1 : n ≤ 1000) : bits .and .i64 n 1 = n % 2 := by
  have h255 : (BitVec.ofInt 64 1).toNat = 2 ^ 1 - 1 := by decide
  have key : (BitVec.ofInt 64 n &&& BitVec.ofInt 64 1).toNat = (n % ((2 ^ 64 : Nat) : Int)).toNat % 2 ^ 1 := by
    rw [BitVec.toNat_and, BitVec.toNat_ofInt, h255, Nat.and_two_pow_sub_one_eq_mod]
  show IntKind.i64.wrap ((BitVec.ofInt 64 n &&& BitVec.ofInt 64 1).toNat : Nat) = n % 2
  rw [key, IntKind.wrap_i64]
  omega
/-- a power by the bits ahead of place j, and one bit more -/
theorem pow_bit0 (z : Int) (n j : Nat) (h : n / 2 ^ j % 2 = 0) : z ^ (n / 2 ^ (j + 1)) * z ^ (n / 2 ^ (j + 1)) = z ^ (n / 2 ^ j) := by
  rw [← Int.pow_add]; congr 1
  rw [Nat.pow_succ, ← Nat.div_div_eq_div_mul]; omega
theorem pow_bit1 (z : Int) (n j : Nat) (h : n / 2 ^ j % 2 = 1) : z ^ (n / 2 ^ (j + 1)) * z ^ (n / 2 ^ (j + 1)) * z = z ^ (n / 2 ^ j) := by
  rw [← Int.pow_add, ← Int.pow_succ]; congr 1
  rw [Nat.pow_succ, ← Nat.div_div_eq_div_mul]; omega

end Go.Proofs.Ytbopgbpnbonkeaa
