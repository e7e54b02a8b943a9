/- The walk of the specification's DecText: the text of every int. -/
import Derived.Test.YtkemplmhemnpbaaGreatDoorPk01
import Derived.Test.YtkemplmhemnpbaaGreatDoorTxN
import Derived.WalkSpells
import Derived.Lib.Strings
import Derived.Lib.ItoaNum
import Derived.Lib.ItoaLen
namespace Go.Proofs.YtkemplmhemnpbaaGreatDoor
open Go.RowKit
set_option linter.unusedVariables false

/-- the digits of a number without its sign, none of nought -/
def digs (m : Int) : List UInt8 := if m = 0 then [] else Lib.decDigits m.natAbs

/-- the text of a number -/
def decB (n : Int) : ByteArray := ⟨(Lib.itoa n).toArray⟩

theorem dec_pos (n : Int) (h : 0 < n) : (decB n).data.toList = digs n := by
  unfold decB Lib.itoa digs; rw [if_neg (by omega), if_neg (by omega)]
  have : n.toNat = n.natAbs := by omega
  simp [this]

end Go.Proofs.YtkemplmhemnpbaaGreatDoor
