/- Plain facts on numerals read: a text is its number's numeral just where it is digits behind a minus or none, with no nought ahead. -/
import Derived.Test.YtpmgpdlminacaaaGreatDoorPk36
namespace Go.Proofs.YtpmgpdlminacaaaGreatDoor
open Go.RowKit
set_option linter.unusedVariables false

theorem rd_cut (s : ByteArray) : s.data.toList = if rdNeg s then 45 :: (rdD s).data.toList else (rdD s).data.toList := by
  have e : (rdD s).data.toList = Lib.trimPrefix s.data.toList [45] := rfl
  unfold rdNeg
  rw [e]
  unfold Lib.trimPrefix
  cases h : Lib.hasPrefix s.data.toList [45] with
  | false => simp
  | true =>
    simp only [if_true]
    unfold Lib.hasPrefix at h
    cases hl : s.data.toList with
    | nil => rw [hl] at h; simp at h
    | cons c t =>
      rw [hl] at h
      simp at h
      simp [h]
theorem lead_iff (d : List UInt8) (h : d ≠ []) : noLead d = true ↔ (decide (d.head? = some 48) && !(d == [48])) = false := by
  cases d with
  | nil => exact absurd rfl h
  | cons c t =>
    cases t with
    | nil =>
      simp only [noLead, List.head?_cons, Option.some.injEq, true_iff]
      by_cases hc : c = 48
      · subst hc; rfl
      · rw [decide_eq_false hc]; rfl
    | cons b r =>
      simp only [noLead, List.head?_cons, Option.some.injEq, bne_iff_ne, ne_eq]
      have e : ((c :: b :: r) == [48]) = false := by simp
      rw [e]
      by_cases hc : c = 48
      · simp [hc]
      · simp [hc]
theorem text_iff {s : ByteArray} (hd : digAll (rdD s).data.toList = true) (hn : (rdD s).data.toList ≠ []) : (itB (rdV s)).data.toList = s.data.toList ↔ rdLead s = false := by
  have hc := rd_cut s
  have hv := dec_val _ hd
  have hp := (val_digits _ hd).2.1
  rw [valI_N _ hd] at hp
  unfold rdV rdLead
  generalize (rdD s).data.toList = d at *
  cases h : rdNeg s with
  | false =>
    rw [h, if_neg (by simp)] at hc
    have e : itB (mk false (valN d)) = itB (valN d : Int) := rfl
    rw [e, it_pos (by simp [sgn]), Int.natAbs_natCast, hc, hv]
    exact lead_iff d hn
  | true =>
    rw [h, if_pos rfl] at hc
    rw [hc]
    have e0 : ((45 :: d : List UInt8) == [48]) = false := by simp
    rw [e0, Bool.not_false, Bool.and_true]
    have em : mk true (valN d) = -(valN d : Int) := rfl
    rw [em]
    by_cases hz : valN d = 0
    · have hh : d.head? = some 48 := Classical.byContradiction fun hc => by
        have := hp hc hn
        omega
      rw [hh, hz]
      have e1 : (itB (-((0 : Nat) : Int))).data.toList = [48] := by rw [show (-((0 : Nat) : Int)) = 0 from rfl, it_zero]
      rw [e1]; simp
    · have e1 : (itB (-(valN d : Int))).data.toList = 45 :: Lib.decDigits (valN d) := by
        rw [it_neg (by simp [sgn]; omega)]; simp
      rw [e1]
      simp only [List.cons.injEq, true_and]
      rw [hv]
      cases d with
      | nil => exact absurd rfl hn
      | cons c t =>
        cases t with
        | nil =>
          simp only [noLead, List.head?_cons, Option.some.injEq, true_iff, decide_eq_false_iff_not]
          intro hc; subst hc; exact hz rfl
        | cons b r => simp [noLead]
end Go.Proofs.YtpmgpdlminacaaaGreatDoor
