/- The walk of addOrTake: a part of a block of limbs turns into the sum, or the difference; no other block turns. -/
import Derived.Test.YtgoblagpnioflaaDoorBlk
import Derived.Test.YtgoblagpnioflaaDoorCmp
namespace Go.Proofs.YtgoblagpnioflaaDoor
open Go.RowKit
set_option linter.unusedVariables false

theorem xor0 (p : Int) (h0 : 0 ≤ p) (h1 : p < 4294967296) : bits .xor .u32 0 p = p := by
  obtain ⟨p, rfl⟩ := Int.eq_ofNat_of_zero_le h0
  have key : (BitVec.ofInt 32 (0 : Int) ^^^ BitVec.ofInt 32 (p : Int)).toNat = p := by
    rw [BitVec.toNat_xor, BitVec.toNat_ofInt, BitVec.toNat_ofInt]
    have e2 : ((p : Int) % ((2 ^ 32 : Nat) : Int)).toNat = p := by omega
    rw [e2]; simp
  show IntKind.u32.wrap ((BitVec.ofInt 32 (0 : Int) ^^^ BitVec.ofInt 32 (p : Int)).toNat : Nat) = _
  rw [key, IntKind.wrap_u32]; omega
theorem xor1 (p : Int) (h0 : 0 ≤ p) (h1 : p < 4294967296) : bits .xor .u32 4294967295 p = 4294967295 - p := by
  obtain ⟨p, rfl⟩ := Int.eq_ofNat_of_zero_le h0
  have e1 : BitVec.ofInt 32 (4294967295 : Int) = BitVec.allOnes 32 := by decide
  have key : (BitVec.ofInt 32 (4294967295 : Int) ^^^ BitVec.ofInt 32 (p : Int)).toNat = 4294967295 - p := by
    rw [e1, BitVec.allOnes_xor, BitVec.toNat_not, BitVec.toNat_ofInt]
    have e2 : ((p : Int) % ((2 ^ 32 : Nat) : Int)).toNat = p := by omega
    rw [e2]
  show IntKind.u32.wrap ((BitVec.ofInt 32 (4294967295 : Int) ^^^ BitVec.ofInt 32 (p : Int)).toNat : Nat) = _
  rw [key, IntKind.wrap_u32]; omega
theorem xor_one (c : Nat) (h : c ≤ 1) : bits .xor .u32 (c : Int) 1 = 1 - (c : Int) := by
  obtain rfl | rfl : c = 0 ∨ c = 1 := by omega
  · decide
  · decide
theorem xor_nil (c : Nat) (h : c ≤ 1) : bits .xor .u32 (c : Int) 0 = (c : Int) := by
  obtain rfl | rfl : c = 0 ∨ c = 1 := by omega
  · decide
  · decide
/-- the limb that is added -/
def oth (t : Bool) (p : Nat) : Nat := if t then 4294967295 - p else p
theorem oth_false (p : Nat) : oth false p = p := rfl
theorem oth_true (p : Nat) : oth true p = 4294967295 - p := rfl
theorem oth_lt {t : Bool} {p : Nat} (h : p < 4294967296) : oth t p < 4294967296 := by unfold oth; cases t <;> simp <;> omega
/-- the number so far -/
def Sofar (t : Bool) (seg ps zs : List Nat) (k c : Nat) : Prop :=
  zs.length = k ∧ Num.Small zs ∧ c ≤ 1 ∧ (if t then Num.nat zs + Num.nat (ps.take k) + 4294967296 ^ k * c = Num.nat (seg.take k) + 4294967296 ^ k else Num.nat zs + 4294967296 ^ k * c = Num.nat (seg.take k) + Num.nat (ps.take k))
theorem nat_take_getD (xs : List Nat) (n : Nat) : Num.nat (xs.take (n + 1)) = Num.nat (xs.take n) + 4294967296 ^ n * xs.getD n 0 := by
  by_cases h : n < xs.length
  · rw [Num.nat_take_succ xs n h]; simp [h]
  · rw [List.take_of_length_le (by omega), List.take_of_length_le (by omega)]
    have : xs.getD n 0 = 0 := by simp [List.getD, List.getElem?_eq_none (Nat.le_of_not_lt h)]
    rw [this]; omega
theorem sofar_step {t : Bool} {seg ps zs : List Nat} {k c l p x c' : Nat} (h : Sofar t seg ps zs k c) (hl : seg.getD k 0 = l) (hp : ps.getD k 0 = p) (hpl : p < 4294967296) (hx : x < 4294967296) (hc' : c' ≤ 1) (he : x + 4294967296 * c' = l + oth t p + c) :
    Sofar t seg ps (zs ++ [x]) (k + 1) c' := by
  obtain ⟨h1, h2, h3, h4⟩ := h
  refine ⟨by simp [h1], Num.small_append h2 (by intro y hy; simp at hy; omega), hc', ?_⟩
  rw [Num.nat_append, nat_take_getD seg k, nat_take_getD ps k, hl, hp, h1, Nat.pow_succ]
  have e : 4294967296 ^ k * x + 4294967296 ^ k * 4294967296 * c' = 4294967296 ^ k * l + 4294967296 ^ k * oth t p + 4294967296 ^ k * c := by
    have := congrArg (4294967296 ^ k * ·) he
    simp only [Nat.mul_add] at this
    rw [Nat.mul_assoc]; exact this
  have e0 : Num.nat [x] = x := by simp [Num.nat]
  rw [e0]
  cases t with
  | false =>
    rw [if_neg (by simp)] at h4 ⊢
    have eo : oth false p = p := rfl
    rw [eo] at e
    omega
  | true =>
    rw [if_pos rfl] at h4 ⊢
    have eo : 4294967296 ^ k * oth true p + 4294967296 ^ k * p = 4294967296 ^ k * 4294967295 := by
      rw [← Nat.mul_add]; congr 1; simp [oth]; omega
    have e5 : 4294967296 ^ k * 4294967296 = 4294967296 ^ k * 4294967295 + 4294967296 ^ k := by omega
    omega
theorem mid_at {ys zs : List Nat} {o k : Nat} (hz : zs.length = k) (ho : o + k < ys.length) (h : o + k < (ys.take o ++ zs ++ ys.drop (o + k)).length) : (ys.take o ++ zs ++ ys.drop (o + k))[o + k] = ys[o + k] := by
  have hl : (ys.take o ++ zs).length = o + k := by simp; omega
  rw [List.getElem_append_right (by omega)]
  simp [hl]
theorem mid_len {ys zs : List Nat} {o k : Nat} (hz : zs.length = k) (ho : o + k ≤ ys.length) : (ys.take o ++ zs ++ ys.drop (o + k)).length = ys.length := by
  simp; omega
theorem mid_set {ys zs : List Nat} {o k x : Nat} (hz : zs.length = k) (ho : o + k < ys.length) : (ys.take o ++ zs ++ ys.drop (o + k)).set (o + k) x = ys.take o ++ (zs ++ [x]) ++ ys.drop (o + (k + 1)) := by
  have hl : (ys.take o ++ zs).length = o + k := by simp; omega
  rw [List.set_append_right _ _ (by omega), hl, Nat.sub_self, List.drop_eq_getElem_cons ho, List.set_cons_zero]
  simp [Nat.add_assoc]
theorem seg_getD {ys : List Nat} {o n k : Nat} (hk : k < n) (ho : o + k < ys.length) : ((ys.drop o).take n).getD k 0 = ys[o + k] := by
  simp [List.getD, hk, List.getElem?_drop, ho]

theorem add_end {t : Bool} {g o n k c l p x c' : Nat} {ys ps zs : List Nat} {w wr : World} {v : Int} (hS : Sofar t ((ys.drop o).take n) ps zs k c) (hbk : Blk wr g (ys.take o ++ zs ++ ys.drop (o + k))) (hg : w.grownBy wr (some g)) (hl : ((ys.drop o).take n).getD k 0 = l) (hp : ps.getD k 0 = p) (hpl : p < 4294967296) (ho : o + k < ys.length) (hv : v = (x : Int)) (hx : x < 4294967296) (hc : c' ≤ 1) (he : x + 4294967296 * c' = l + oth t p + c) :
    Hid (Sofar t ((ys.drop o).take n) ps (zs ++ [x]) (k + 1) c') ∧ Hid (Blk (wr.setCell ⟨g, o + k, none⟩ (.int .u32 v)) g (ys.take o ++ (zs ++ [x]) ++ ys.drop (o + (k + 1)))) ∧ Hid (w.grownBy (wr.setCell ⟨g, o + k, none⟩ (.int .u32 v)) (some g)) := by
  subst hv
  have h := hbk.set (o + k) x hx
  rw [mid_set hS.1 ho] at h
  exact ⟨hide (sofar_step hS hl hp hpl hx hc he), hide h.1, hide (grown_trans hg h.2)⟩

end Go.Proofs.YtgoblagpnioflaaDoor
