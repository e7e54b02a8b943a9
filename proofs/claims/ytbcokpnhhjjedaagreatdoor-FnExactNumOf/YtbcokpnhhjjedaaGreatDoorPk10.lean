/- My texts RdC, RdL, in this order. -/
import Derived.Test.YtbcokpnhhjjedaaGreatDoorRdI
import Derived.Test.YtbcokpnhhjjedaaGreatDoorPk03
import Derived.Test.YtbcokpnhhjjedaaGreatDoorTxC
import Derived.Lib.Strings
import Derived.Lib.Slices
import Derived.Lib.Walk
/- The walks of strings.CutPrefix, and what a numeral says. -/
namespace Go.Proofs.YtbcokpnhhjjedaaGreatDoor
open Go.RowKit
set_option linter.unusedVariables false

set_option maxHeartbeats 1000000 in
theorem cutPre (s p : ByteArray) (w : World) :
    Calls Tryz.prog 19 #[.string s, .string p] w fun e w' => e = .returned (.tuple #[.string ⟨(Lib.trimPrefix s.data.toList p.data.toList).toArray⟩, .bool (Lib.hasPrefix s.data.toList p.data.toList)]) ∧ w' = w := by
  go_enter Tryz.func19, Tryz.ntmps19
  go_wp2
  · have h2 : (!((s.extract 0 p.size).toList == p.toList)) = true := by assumption
    have h3 : (decide (p.size ≤ s.size) && ((s.extract 0 p.size).toList == p.toList)) = false := by
      have : ((s.extract 0 p.size).toList == p.toList) = false := by simpa using h2
      rw [this]
      simp
    go_ret2
    refine ⟨?_, rfl⟩
    rw [Lib.trimPrefix_miss s p h3, ← Lib.hasPrefix_raw, h3]
    rfl
  · have h1 : p.size ≤ s.size := by assumption
    have h2 : (!((s.extract 0 p.size).toList == p.toList)) = false := by assumption
    have h2' : ((s.extract 0 p.size).toList == p.toList) = true := by simpa using h2
    go_ret2
    refine ⟨?_, rfl⟩
    rw [Lib.trimPrefix_hit s p h1 h2', ← Lib.hasPrefix_raw, h2', decide_eq_true h1]
    rfl
  · have h1 : ¬ p.size ≤ s.size := by assumption
    have h3 : (decide (p.size ≤ s.size) && ((s.extract 0 p.size).toList == p.toList)) = false := by simp [h1]
    go_ret2
    refine ⟨?_, rfl⟩
    rw [Lib.trimPrefix_miss s p h3, ← Lib.hasPrefix_raw, h3]
    rfl

/-- what stands behind a minus, or all; whether there is one -/
def rdNeg (s : ByteArray) : Bool := Lib.hasPrefix s.data.toList [45]
def rdD (s : ByteArray) : ByteArray := ⟨(Lib.trimPrefix s.data.toList [45]).toArray⟩
end Go.Proofs.YtbcokpnhhjjedaaGreatDoor

/- Plain facts on numerals read: a text is its number's numeral just where it is digits behind a minus or none, with no nought ahead. -/
namespace Go.Proofs.YtbcokpnhhjjedaaGreatDoor
open Go.RowKit
set_option linter.unusedVariables false

theorem rd_cut (s : ByteArray) : s.data.toList = if rdNeg s then 45 :: (rdD s).data.toList else (rdD s).data.toList := by
  have e : (rdD s).data.toList = Lib.trimPrefix s.data.toList [45] := rfl
  unfold rdNeg
  rw [e]
  unfold Lib.trimPrefix
  cases h : Lib.hasPrefix s.data.toList [45] with
  | false => simp
  | true =>
    simp only [if_true]
    unfold Lib.hasPrefix at h
    cases hl : s.data.toList with
    | nil => rw [hl] at h; simp at h
    | cons c t =>
      rw [hl] at h
      simp at h
      simp [h]
end Go.Proofs.YtbcokpnhhjjedaaGreatDoor
