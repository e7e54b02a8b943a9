/- Plain facts on texts cut at a byte, and on a fraction's text. -/
import Derived.Test.YtpmgpdlminacaaaGreatDoorPk23
import Derived.Test.YtpmgpdlminacaaaGreatDoorRatTI
import Derived.Lib.IndexMore
namespace Go.Proofs.YtpmgpdlminacaaaGreatDoor
open Go.RowKit
set_option linter.unusedVariables false

theorem idx_none (c : UInt8) : ∀ l : List UInt8, c ∉ l → Lib.index l [c] = -1
  | [], _ => rfl
  | b :: l, h => by
    have hb : c ≠ b := fun e => h (by rw [e]; exact List.mem_cons_self)
    have hl := idx_none c l (fun hm => h (List.mem_cons_of_mem _ hm))
    unfold Lib.index
    rw [hl]
    simp [List.isPrefixOf, hb]
theorem idx_mid (c : UInt8) : ∀ a b : List UInt8, c ∉ a → Lib.index (a ++ c :: b) [c] = a.length
  | [], b, _ => by show Lib.index (c :: b) [c] = _; unfold Lib.index; simp [List.isPrefixOf]
  | x :: a, b, h => by
    have hx : c ≠ x := fun e => h (by rw [e]; exact List.mem_cons_self)
    have hl := idx_mid c a b (fun hm => h (List.mem_cons_of_mem _ hm))
    show Lib.index (x :: (a ++ c :: b)) [c] = _
    unfold Lib.index
    rw [hl]
    have : ((a.length : Int) == -1) = false := by rw [beq_eq_false_iff_ne]; omega
    simp [List.isPrefixOf, hx, this]
theorem cut_none {c : UInt8} {l : List UInt8} (h : c ∉ l) : Lib.cut l [c] = (l, [], false) := by
  unfold Lib.cut; rw [idx_none c l h, if_neg (by omega)]
theorem cut_mid {c : UInt8} {a b : List UInt8} (h : c ∉ a) : Lib.cut (a ++ c :: b) [c] = (a, b, true) := by
  unfold Lib.cut; rw [idx_mid c a b h, if_pos (by omega)]
  simp
theorem dig_not {l : List UInt8} (h : digAll l = true) {c : UInt8} (hc : c.toNat < 48 ∨ 57 < c.toNat) : c ∉ l := fun hm => by
  have := dig_bounds (List.all_eq_true.1 h c hm)
  omega
end Go.Proofs.YtpmgpdlminacaaaGreatDoor
