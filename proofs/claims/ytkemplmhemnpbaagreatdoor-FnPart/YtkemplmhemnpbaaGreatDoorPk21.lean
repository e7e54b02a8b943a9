/- My texts RrN, RrP, in this order. -/
import Derived.Test.YtkemplmhemnpbaaGreatDoorRdC
import Derived.Test.YtkemplmhemnpbaaGreatDoorRatTI
import Derived.Lib.IndexMore
/- Plain facts on texts cut at a byte, and on a fraction's text. -/
namespace Go.Proofs.YtkemplmhemnpbaaGreatDoor
open Go.RowKit
set_option linter.unusedVariables false

theorem idx_none (c : UInt8) : ∀ l : List UInt8, c ∉ l → Lib.index l [c] = -1
  | [], _ => rfl
  | b :: l, h => by
    have hb : c ≠ b := fun e => h (by rw [e]; exact List.mem_cons_self)
    have hl := idx_none c l (fun hm => h (List.mem_cons_of_mem _ hm))
    unfold Lib.index
    rw [hl]
    simp [List.isPrefixOf, hb]
theorem idx_mid (c : UInt8) : ∀ a b : List UInt8, c ∉ a → Lib.index (a ++ c :: b) [c] = a.length
  | [], b, _ => by show Lib.index (c :: b) [c] = _; unfold Lib.index; simp [List.isPrefixOf]
  | x :: a, b, h => by
    have hx : c ≠ x := fun e => h (by rw [e]; exact List.mem_cons_self)
    have hl := idx_mid c a b (fun hm => h (List.mem_cons_of_mem _ hm))
    show Lib.index (x :: (a ++ c :: b)) [c] = _
    unfold Lib.index
    rw [hl]
    have : ((a.length : Int) == -1) = false := by rw [beq_eq_false_iff_ne]; omega
    simp [List.isPrefixOf, hx, this]
theorem cut_none {c : UInt8} {l : List UInt8} (h : c ∉ l) : Lib.cut l [c] = (l, [], false) := by
  unfold Lib.cut; rw [idx_none c l h, if_neg (by omega)]
theorem cut_mid {c : UInt8} {a b : List UInt8} (h : c ∉ a) : Lib.cut (a ++ c :: b) [c] = (a, b, true) := by
  unfold Lib.cut; rw [idx_mid c a b h, if_pos (by omega)]
  simp
end Go.Proofs.YtkemplmhemnpbaaGreatDoor

/- Plain facts on a fraction's text: to cut it at a stroke, an e and a point says what reading its digits from the left says; nothing of the program stands here. -/
namespace Go.Proofs.YtkemplmhemnpbaaGreatDoor
open Go
set_option linter.unusedVariables false

def dg (c : UInt8) : Bool := digitB (c.toNat : Int)
theorem all_dg (l : List UInt8) : digAll l = l.all dg := rfl
/-- digits alone, and one at least -/
def digL (l : List UInt8) : Bool := digAll l && decide (l ≠ [])
/-- what stands behind an e -/
def expV (t : List UInt8) : Option Int :=
  if (digL (Lib.trimPrefix t [45]) && decide ((Lib.trimPrefix t [45]).length ≤ 3)) = true then some (if Lib.hasPrefix t [45] then -(valN (Lib.trimPrefix t [45]) : Int) else (valN (Lib.trimPrefix t [45]) : Int)) else none
/-- digits, and as many places -/
def decV (ds : List UInt8) (k : Int) : Nat × Nat := if k < 0 then (valN ds, 10 ^ (-k).toNat) else (valN ds * 10 ^ k.toNat, 1)
/-- a number cut at its point -/
def ptI (num : List UInt8) (k : Int) : Option (Nat × Nat) :=
  if (digL (Lib.cut num [46]).1 && (!(Lib.cut num [46]).2.2 || digL (Lib.cut num [46]).2.1)) = true then some (decV ((Lib.cut num [46]).1 ++ (Lib.cut num [46]).2.1) (k - (Lib.cut num [46]).2.1.length)) else none
/-- one without a stroke, cut at its e -/
def decI (l : List UInt8) : Option (Nat × Nat) :=
  if (Lib.cut l [101]).2.2 = true then (expV (Lib.cut l [101]).2.1).bind (ptI (Lib.cut l [101]).1) else ptI l 0
/-- as the program reads -/
def rrI (l : List UInt8) : Option (Nat × Nat) :=
  if (Lib.cut l [47]).2.2 = true then
    (if (digL (Lib.cut l [47]).1 && (digL (Lib.cut l [47]).2.1 && decide (valN (Lib.cut l [47]).2.1 ≠ 0))) = true then some (valN (Lib.cut l [47]).1, valN (Lib.cut l [47]).2.1) else none)
  else decI l
theorem first {c : UInt8} : ∀ {l : List UInt8}, c ∈ l → ∃ a b, l = a ++ c :: b ∧ c ∉ a
  | [], h => by cases h
  | x :: l, h => by
    by_cases e : x = c
    · exact ⟨[], l, by rw [e]; rfl, by simp⟩
    · have hm : c ∈ l := by
        cases h with
        | head => exact absurd rfl e
        | tail _ h => exact h
      obtain ⟨a, b, rfl, ha⟩ := first hm
      exact ⟨x :: a, b, rfl, fun h => by
        cases h with
        | head => exact e rfl
        | tail _ h => exact ha h⟩
theorem tw_nil (p : UInt8 → Bool) : ∀ l : List UInt8, (∀ x ∈ l, p x = true) → l.takeWhile p = l ∧ l.dropWhile p = []
  | [], _ => ⟨rfl, rfl⟩
  | x :: l, h => by
    have hx := h x List.mem_cons_self
    obtain ⟨h1, h2⟩ := tw_nil p l (fun y hy => h y (List.mem_cons_of_mem _ hy))
    exact ⟨by rw [List.takeWhile_cons, hx, h1]; rfl, by rw [List.dropWhile_cons, hx, h2]; rfl⟩
theorem take_all {l : List UInt8} (h : digAll l = true) : l.takeWhile dg = l ∧ l.dropWhile dg = [] := tw_nil dg l (List.all_eq_true.1 h)
/-- a list is digits, and what begins with none -/
theorem parts : ∀ l : List UInt8, ∃ w r, l = w ++ r ∧ digAll w = true ∧ (r = [] ∨ ∃ c t, r = c :: t ∧ dg c = false)
  | [] => ⟨[], [], rfl, rfl, .inl rfl⟩
  | x :: l => by
    cases hx : dg x with
    | false => exact ⟨[], x :: l, rfl, rfl, .inr ⟨x, l, rfl, hx⟩⟩
    | true =>
      obtain ⟨w, r, rfl, hw, hr⟩ := parts l
      exact ⟨x :: w, r, rfl, by rw [all_dg, List.all_cons, hx, ← all_dg, hw]; rfl, hr⟩
end Go.Proofs.YtkemplmhemnpbaaGreatDoor
