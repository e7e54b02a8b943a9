/- My texts RdC, IntC, in this order. -/
import Derived.Test.YtpmgpdlminacaaaGreatDoorPk34
import Derived.Test.YtpmgpdlminacaaaGreatDoorPk09
import Derived.Test.YtpmgpdlminacaaaGreatDoorPk35
import Derived.Lib.Strings
import Derived.Lib.Slices
import Derived.Lib.Walk
import Derived.Test.YtpmgpdlminacaaaGreatDoorPk03
/- The walks of strings.CutPrefix, and what a numeral says. -/
namespace Go.Proofs.YtpmgpdlminacaaaGreatDoor
open Go.RowKit
set_option linter.unusedVariables false

set_option maxHeartbeats 1000000 in
theorem cutPre (s p : ByteArray) (w : World) :
    Calls Tryz.prog 27 #[.string s, .string p] w fun e w' => e = .returned (.tuple #[.string ⟨(Lib.trimPrefix s.data.toList p.data.toList).toArray⟩, .bool (Lib.hasPrefix s.data.toList p.data.toList)]) ∧ w' = w := by
  go_enter Tryz.func27, Tryz.ntmps27
  go_wp2
  · have h2 : (!((s.extract 0 p.size).toList == p.toList)) = true := by assumption
    have h3 : (decide (p.size ≤ s.size) && ((s.extract 0 p.size).toList == p.toList)) = false := by
      have : ((s.extract 0 p.size).toList == p.toList) = false := by simpa using h2
      rw [this]
      simp
    go_ret2
    refine ⟨?_, rfl⟩
    rw [Lib.trimPrefix_miss s p h3, ← Lib.hasPrefix_raw, h3]
    rfl
  · have h1 : p.size ≤ s.size := by assumption
    have h2 : (!((s.extract 0 p.size).toList == p.toList)) = false := by assumption
    have h2' : ((s.extract 0 p.size).toList == p.toList) = true := by simpa using h2
    go_ret2
    refine ⟨?_, rfl⟩
    rw [Lib.trimPrefix_hit s p h1 h2', ← Lib.hasPrefix_raw, h2', decide_eq_true h1]
    rfl
  · have h1 : ¬ p.size ≤ s.size := by assumption
    have h3 : (decide (p.size ≤ s.size) && ((s.extract 0 p.size).toList == p.toList)) = false := by simp [h1]
    go_ret2
    refine ⟨?_, rfl⟩
    rw [Lib.trimPrefix_miss s p h3, ← Lib.hasPrefix_raw, h3]
    rfl

/-- what stands behind a minus, or all; whether there is one -/
def rdNeg (s : ByteArray) : Bool := Lib.hasPrefix s.data.toList [45]
def rdD (s : ByteArray) : ByteArray := ⟨(Lib.trimPrefix s.data.toList [45]).toArray⟩
/-- the number that is read -/
def rdV (s : ByteArray) : Int := mk (rdNeg s) (valN (rdD s).data.toList)
/-- a nought stands ahead -/
def rdLead (s : ByteArray) : Bool := decide ((rdD s).data.toList.head? = some 48) && !(s.data.toList == [48])
def rdOk (s : ByteArray) : Bool := decide (s.size ≤ 400) && (digOk (rdD s) && !rdLead s)
def rdZ (s : ByteArray) : Int := if rdOk s then fitZ (rdV s) else 0
def rdF (s : ByteArray) : Bool := rdOk s && fits (rdV s)
theorem rd_no {s : ByteArray} (h : rdOk s = false) : rdZ s = 0 ∧ rdF s = false := by unfold rdZ rdF; rw [h]; exact ⟨rfl, rfl⟩
theorem rd_yes {s : ByteArray} (h : rdOk s = true) : rdZ s = fitZ (rdV s) ∧ rdF s = fits (rdV s) := by unfold rdZ rdF; rw [h]; exact ⟨rfl, Bool.true_and _⟩
theorem rdD_size (s : ByteArray) : (rdD s).size ≤ s.size := by
  have : (rdD s).size = (Lib.trimPrefix s.data.toList [45]).length := by rw [← bsize]; rfl
  rw [this, ← bsize s]
  unfold Lib.trimPrefix; split
  · rw [List.length_drop]; omega
  · exact Nat.le_refl _
end Go.Proofs.YtpmgpdlminacaaaGreatDoor

/- The numeral of a right number, else the empty text. -/
namespace Go.Proofs.YtpmgpdlminacaaaGreatDoor
open Go.RowKit Go.Sort
set_option linter.unusedVariables false

/-- the numeral of a right number, else nothing -/
def intT (neg : Bool) (xs : List Nat) : ByteArray := if okB neg xs then itB (mk neg (Num.nat xs)) else ⟨#[]⟩
theorem intT_num (z : Int) (h : okB (sgn z) (lms z) = true) : intT (sgn z) (lms z) = itB z := by
  rw [intT, if_pos h, nat_lms, mk_self]
theorem raw_small {W : World} {v : Value} {neg : Bool} {xs : List Nat} (h : Raw W v neg xs) : Num.Small xs := by
  obtain ⟨_, _, _, hs⟩ := h; exact hs.2.2.2.1
theorem ok_len {z : Int} (h : okB (sgn z) (lms z) = true) : (lms z).length ≤ 40 := by
  refine Classical.byContradiction fun hc => ?_
  rw [ok_long hc] at h; cases h
end Go.Proofs.YtpmgpdlminacaaaGreatDoor
