/- The walks of limbsText and l02Text: a list of limbs as a decimal numeral, nine digits at a time. -/
import Derived.Test.YtbcokpnhhjjedaaGreatDoorPk03
import Derived.Shelf.Strconv.Itoa3
import Derived.Shelf.Strings.Repeat
import Derived.Test.YtbcokpnhhjjedaaGreatDoorPk01
import Derived.Test.YtbcokpnhhjjedaaGreatDoorTxC
import Derived.Lib.AppendIntMem
namespace Go.Proofs.YtbcokpnhhjjedaaGreatDoor
open Go.RowKit Go.Sort
set_option linter.unusedVariables false

/-- the table of powers of ten holds what its text says -/
def Tabs (w : World) : Prop := Lib.TabIs Tryz.prog w "internal/strconv.uint64pow10" .u64 Lib.pow10Tab
theorem Tabs.below {w w' : World} (h : Tabs w) (hb : Below w.heap.size w w') : Tabs w' := Lib.tabBelow_of_tabIs h w' hb
end Go.Proofs.YtbcokpnhhjjedaaGreatDoor
