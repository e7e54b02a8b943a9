/- The walks of the program's Add and Sub. -/
import Derived.Test.YtgoblagpnioflaaFit
namespace Go.Proofs.Ytgoblagpnioflaa
open Go.RowKit
set_option linter.unusedVariables false

/-- what is told by a function on two numbers: whether it is right, and the number -/
def opT (f : Int → Int → Int) (n1 : Bool) (xs : List Nat) (n2 : Bool) (ys : List Nat) : Bool := okB n1 xs && okB n2 ys && fits (f (mk n1 (Num.nat xs)) (mk n2 (Num.nat ys)))
def opZ (f : Int → Int → Int) (n1 : Bool) (xs : List Nat) (n2 : Bool) (ys : List Nat) : Int := if opT f n1 xs n2 ys then f (mk n1 (Num.nat xs)) (mk n2 (Num.nat ys)) else 0
def addZ (x y : Int) : Int := x + y
def subZ (x y : Int) : Int := x - y
theorem len40 {x : Int} (h : x.natAbs < 4294967296 ^ 40) : (Num.limbs x.natAbs).length ≤ 1048576 := Nat.le_trans (Num.limbs_len.2 h) (by decide)
end Go.Proofs.Ytgoblagpnioflaa
