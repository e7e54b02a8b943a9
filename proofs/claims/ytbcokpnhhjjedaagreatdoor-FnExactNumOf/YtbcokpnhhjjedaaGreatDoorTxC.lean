/- Plain facts on texts: lengths, and nine digits more. -/
import Derived.Test.YtbcokpnhhjjedaaGreatDoorTxN
import Derived.Test.YtbcokpnhhjjedaaGreatDoorPk00
import Derived.Test.YtbcokpnhhjjedaaGreatDoorPk01
namespace Go.Proofs.YtbcokpnhhjjedaaGreatDoor
open Go.RowKit
set_option linter.unusedVariables false

theorem bsize (b : ByteArray) : b.data.toList.length = b.size := by simp only [Array.length_toList]; rfl
/-- nine digits more -/
theorem nine {M q r m : Nat} {D Z tb : ByteArray} (hE : Lib.decDigits m ++ tb.data.toList = Lib.decDigits M) (hm : m = q * 1000000000 + r) (hq : q ≠ 0) (hr : r < 1000000000) (hD : D.data.toList = Lib.decDigits r) (hZ : Z.data.toList = List.replicate (9 - D.size) 48) :
    Lib.decDigits q ++ (Z ++ D ++ tb).data.toList = Lib.decDigits M := by
  rw [hm, TxN.dec9 q r (by omega) hr, ← hD, bsize, ← hZ] at hE
  rw [← hE]; simp
end Go.Proofs.YtbcokpnhhjjedaaGreatDoor
