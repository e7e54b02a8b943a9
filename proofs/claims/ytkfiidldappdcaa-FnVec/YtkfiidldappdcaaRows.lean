/-
  No cell of these rows narrows 'for every input' (looked for: loops, veiled, ifaces, maps, wideKeys, modest, calm, conditions, laid).
  DERIVED. THE GIVEN ROWS OF THIS SEAT. 12 by the template 'for every input the law returns true; each argument reads behind the call as it read before'; 0 by the template 'total and deterministic' (their statements: YtkfiidldappdcaaTotals.lean).
  GIVEN WITH THE SEED: the statements are not yours to turn. If you find one false, say at which input.
  Laid BY PROGRAM, IN A SANDBOX (cutbox-rows.mjs): the forced cells as the released guide's own fill.sh prints them over the translation a94ec2c6fdcd2c36… (all of the seat's roots in one cut). By AI agents, Wed Nov 11 2026. No macro, syntax, notation, axiom, sorry.
-/
import Derived.Test.YtkfiidldappdcaaChecked
import GoSem.Claim
import GoSem.ClaimJoined
import GoSem.ClaimMapViews
import Derived.JoinedTies
import Derived.KernelRfl
namespace Go.Proofs.Ytkfiidldappdcaa
/- THE CELL 'sum', in the pinned program and in every row, IS THE sha256 OF THE DUMP (.gsa) THAT YtkfiidldappdcaaProg.lean LOADS. Nothing in Lean hashes anything: it is a label: what it is worth is what the hold of that sum in a sandbox is worth. -/
noncomputable def Try.pinned : Pinned := { name := "ytkfiidldappdcaa", sum := "a94ec2c6fdcd2c360f55cf410b0b3c1e15fbeb6ae3b843f3857f78f58783616a", checked := Try.checked }
namespace Rows
def none {H : Type} : Left H := { results := [], args := [] }

/-- 'laws.FnDivisors': WHATEVER THE INPUT: true; the input reads as it did. -/
def fnDivisorsSpec : ChangeSpec := { name := "fnDivisors", fn := fun _ => fun
  | [d] => { results := [.lit (.bool true)], args := [d] }
  | _ => none }
def fnDivisorsRow : OpenClaim := { program := "ytkfiidldappdcaa", sum := "a94ec2c6fdcd2c360f55cf410b0b3c1e15fbeb6ae3b843f3857f78f58783616a", func := "loop.example/g00676/laws.FnDivisors", spec := "fnDivisors", apart := false }
def FnDivisorsSaid : Prop := fnDivisorsRow.holds Try.pinned (OpenSpec.ofChange fnDivisorsSpec)

/-- ITS FALSE NEIGHBOUR: 'it returns false'. Refute it at one input. -/
def fnDivisorsWrong : ChangeSpec := { name := "fnDivisors", fn := fun _ => fun
  | [d] => { results := [.lit (.bool false)], args := [d] }
  | _ => none }
def FnDivisorsWrongFalsely : Prop := fnDivisorsRow.holds Try.pinned (OpenSpec.ofChange fnDivisorsWrong)

/-- 'laws.FnVec': WHATEVER THE INPUT: true; the input reads as it did. -/
def fnVecSpec : ChangeSpec := { name := "fnVec", fn := fun _ => fun
  | [d] => { results := [.lit (.bool true)], args := [d] }
  | _ => none }
def fnVecRow : OpenClaim := { program := "ytkfiidldappdcaa", sum := "a94ec2c6fdcd2c360f55cf410b0b3c1e15fbeb6ae3b843f3857f78f58783616a", func := "loop.example/g00676/laws.FnVec", spec := "fnVec", apart := false }
def FnVecSaid : Prop := fnVecRow.holds Try.pinned (OpenSpec.ofChange fnVecSpec)

/-- ITS FALSE NEIGHBOUR: 'it returns false'. Refute it at one input. -/
def fnVecWrong : ChangeSpec := { name := "fnVec", fn := fun _ => fun
  | [d] => { results := [.lit (.bool false)], args := [d] }
  | _ => none }
def FnVecWrongFalsely : Prop := fnVecRow.holds Try.pinned (OpenSpec.ofChange fnVecWrong)

/-- 'laws.FnVecOrder': WHATEVER THE INPUT: true; the input reads as it did. -/
def fnVecOrderSpec : ChangeSpec := { name := "fnVecOrder", fn := fun _ => fun
  | [d] => { results := [.lit (.bool true)], args := [d] }
  | _ => none }
def fnVecOrderRow : OpenClaim := { program := "ytkfiidldappdcaa", sum := "a94ec2c6fdcd2c360f55cf410b0b3c1e15fbeb6ae3b843f3857f78f58783616a", func := "loop.example/g00676/laws.FnVecOrder", spec := "fnVecOrder", apart := false }
def FnVecOrderSaid : Prop := fnVecOrderRow.holds Try.pinned (OpenSpec.ofChange fnVecOrderSpec)

/-- ITS FALSE NEIGHBOUR: 'it returns false'. Refute it at one input. -/
def fnVecOrderWrong : ChangeSpec := { name := "fnVecOrder", fn := fun _ => fun
  | [d] => { results := [.lit (.bool false)], args := [d] }
  | _ => none }
def FnVecOrderWrongFalsely : Prop := fnVecOrderRow.holds Try.pinned (OpenSpec.ofChange fnVecOrderWrong)

/-- 'laws.FnExactGcd': WHATEVER THE INPUT: true; the input reads as it did. -/
def fnExactGcdSpec : ChangeSpec := { name := "fnExactGcd", fn := fun _ => fun
  | [d1, d2] => { results := [.lit (.bool true)], args := [d1, d2] }
  | _ => none }
def fnExactGcdRow : OpenClaim := { program := "ytkfiidldappdcaa", sum := "a94ec2c6fdcd2c360f55cf410b0b3c1e15fbeb6ae3b843f3857f78f58783616a", func := "loop.example/g00676/laws.FnExactGcd", spec := "fnExactGcd", apart := false }
def FnExactGcdSaid : Prop := fnExactGcdRow.holds Try.pinned (OpenSpec.ofChange fnExactGcdSpec)

/-- ITS FALSE NEIGHBOUR: 'it returns false'. Refute it at one input. -/
def fnExactGcdWrong : ChangeSpec := { name := "fnExactGcd", fn := fun _ => fun
  | [d1, d2] => { results := [.lit (.bool false)], args := [d1, d2] }
  | _ => none }
def FnExactGcdWrongFalsely : Prop := fnExactGcdRow.holds Try.pinned (OpenSpec.ofChange fnExactGcdWrong)

/-- 'laws.FnExactLcm': WHATEVER THE INPUT: true; the input reads as it did. -/
def fnExactLcmSpec : ChangeSpec := { name := "fnExactLcm", fn := fun _ => fun
  | [d1, d2] => { results := [.lit (.bool true)], args := [d1, d2] }
  | _ => none }
def fnExactLcmRow : OpenClaim := { program := "ytkfiidldappdcaa", sum := "a94ec2c6fdcd2c360f55cf410b0b3c1e15fbeb6ae3b843f3857f78f58783616a", func := "loop.example/g00676/laws.FnExactLcm", spec := "fnExactLcm", apart := false }
def FnExactLcmSaid : Prop := fnExactLcmRow.holds Try.pinned (OpenSpec.ofChange fnExactLcmSpec)

/-- ITS FALSE NEIGHBOUR: 'it returns false'. Refute it at one input. -/
def fnExactLcmWrong : ChangeSpec := { name := "fnExactLcm", fn := fun _ => fun
  | [d1, d2] => { results := [.lit (.bool false)], args := [d1, d2] }
  | _ => none }
def FnExactLcmWrongFalsely : Prop := fnExactLcmRow.holds Try.pinned (OpenSpec.ofChange fnExactLcmWrong)

/-- 'laws.FnExactVecOk': WHATEVER THE INPUT: true; the input reads as it did. -/
def fnExactVecOkSpec : ChangeSpec := { name := "fnExactVecOk", fn := fun _ => fun
  | [d] => { results := [.lit (.bool true)], args := [d] }
  | _ => none }
def fnExactVecOkRow : OpenClaim := { program := "ytkfiidldappdcaa", sum := "a94ec2c6fdcd2c360f55cf410b0b3c1e15fbeb6ae3b843f3857f78f58783616a", func := "loop.example/g00676/laws.FnExactVecOk", spec := "fnExactVecOk", apart := false }
def FnExactVecOkSaid : Prop := fnExactVecOkRow.holds Try.pinned (OpenSpec.ofChange fnExactVecOkSpec)

/-- ITS FALSE NEIGHBOUR: 'it returns false'. Refute it at one input. -/
def fnExactVecOkWrong : ChangeSpec := { name := "fnExactVecOk", fn := fun _ => fun
  | [d] => { results := [.lit (.bool false)], args := [d] }
  | _ => none }
def FnExactVecOkWrongFalsely : Prop := fnExactVecOkRow.holds Try.pinned (OpenSpec.ofChange fnExactVecOkWrong)

/-- 'laws.FnExactVecMake': WHATEVER THE INPUT: true; the input reads as it did. -/
def fnExactVecMakeSpec : ChangeSpec := { name := "fnExactVecMake", fn := fun _ => fun
  | [d1, d2] => { results := [.lit (.bool true)], args := [d1, d2] }
  | _ => none }
def fnExactVecMakeRow : OpenClaim := { program := "ytkfiidldappdcaa", sum := "a94ec2c6fdcd2c360f55cf410b0b3c1e15fbeb6ae3b843f3857f78f58783616a", func := "loop.example/g00676/laws.FnExactVecMake", spec := "fnExactVecMake", apart := false }
def FnExactVecMakeSaid : Prop := fnExactVecMakeRow.holds Try.pinned (OpenSpec.ofChange fnExactVecMakeSpec)

/-- ITS FALSE NEIGHBOUR: 'it returns false'. Refute it at one input. -/
def fnExactVecMakeWrong : ChangeSpec := { name := "fnExactVecMake", fn := fun _ => fun
  | [d1, d2] => { results := [.lit (.bool false)], args := [d1, d2] }
  | _ => none }
def FnExactVecMakeWrongFalsely : Prop := fnExactVecMakeRow.holds Try.pinned (OpenSpec.ofChange fnExactVecMakeWrong)

/-- 'laws.FnExactNought': WHATEVER THE INPUT: true; the input reads as it did. -/
def fnExactNoughtSpec : ChangeSpec := { name := "fnExactNought", fn := fun _ => fun
  | [d] => { results := [.lit (.bool true)], args := [d] }
  | _ => none }
def fnExactNoughtRow : OpenClaim := { program := "ytkfiidldappdcaa", sum := "a94ec2c6fdcd2c360f55cf410b0b3c1e15fbeb6ae3b843f3857f78f58783616a", func := "loop.example/g00676/laws.FnExactNought", spec := "fnExactNought", apart := false }
def FnExactNoughtSaid : Prop := fnExactNoughtRow.holds Try.pinned (OpenSpec.ofChange fnExactNoughtSpec)

/-- ITS FALSE NEIGHBOUR: 'it returns false'. Refute it at one input. -/
def fnExactNoughtWrong : ChangeSpec := { name := "fnExactNought", fn := fun _ => fun
  | [d] => { results := [.lit (.bool false)], args := [d] }
  | _ => none }
def FnExactNoughtWrongFalsely : Prop := fnExactNoughtRow.holds Try.pinned (OpenSpec.ofChange fnExactNoughtWrong)

/-- 'laws.FnExactUnitVec': WHATEVER THE INPUT: true; the input reads as it did. -/
def fnExactUnitVecSpec : ChangeSpec := { name := "fnExactUnitVec", fn := fun _ => fun
  | [d1, d2] => { results := [.lit (.bool true)], args := [d1, d2] }
  | _ => none }
def fnExactUnitVecRow : OpenClaim := { program := "ytkfiidldappdcaa", sum := "a94ec2c6fdcd2c360f55cf410b0b3c1e15fbeb6ae3b843f3857f78f58783616a", func := "loop.example/g00676/laws.FnExactUnitVec", spec := "fnExactUnitVec", apart := false }
def FnExactUnitVecSaid : Prop := fnExactUnitVecRow.holds Try.pinned (OpenSpec.ofChange fnExactUnitVecSpec)

/-- ITS FALSE NEIGHBOUR: 'it returns false'. Refute it at one input. -/
def fnExactUnitVecWrong : ChangeSpec := { name := "fnExactUnitVec", fn := fun _ => fun
  | [d1, d2] => { results := [.lit (.bool false)], args := [d1, d2] }
  | _ => none }
def FnExactUnitVecWrongFalsely : Prop := fnExactUnitVecRow.holds Try.pinned (OpenSpec.ofChange fnExactUnitVecWrong)

/-- 'laws.FnExactVecAdd': WHATEVER THE INPUT: true; the input reads as it did. -/
def fnExactVecAddSpec : ChangeSpec := { name := "fnExactVecAdd", fn := fun _ => fun
  | [d1, d2] => { results := [.lit (.bool true)], args := [d1, d2] }
  | _ => none }
def fnExactVecAddRow : OpenClaim := { program := "ytkfiidldappdcaa", sum := "a94ec2c6fdcd2c360f55cf410b0b3c1e15fbeb6ae3b843f3857f78f58783616a", func := "loop.example/g00676/laws.FnExactVecAdd", spec := "fnExactVecAdd", apart := false }
def FnExactVecAddSaid : Prop := fnExactVecAddRow.holds Try.pinned (OpenSpec.ofChange fnExactVecAddSpec)

/-- ITS FALSE NEIGHBOUR: 'it returns false'. Refute it at one input. -/
def fnExactVecAddWrong : ChangeSpec := { name := "fnExactVecAdd", fn := fun _ => fun
  | [d1, d2] => { results := [.lit (.bool false)], args := [d1, d2] }
  | _ => none }
def FnExactVecAddWrongFalsely : Prop := fnExactVecAddRow.holds Try.pinned (OpenSpec.ofChange fnExactVecAddWrong)

/-- 'laws.FnExactVecScale': WHATEVER THE INPUT: true; the input reads as it did. -/
def fnExactVecScaleSpec : ChangeSpec := { name := "fnExactVecScale", fn := fun _ => fun
  | [d1, d2, d3] => { results := [.lit (.bool true)], args := [d1, d2, d3] }
  | _ => none }
def fnExactVecScaleRow : OpenClaim := { program := "ytkfiidldappdcaa", sum := "a94ec2c6fdcd2c360f55cf410b0b3c1e15fbeb6ae3b843f3857f78f58783616a", func := "loop.example/g00676/laws.FnExactVecScale", spec := "fnExactVecScale", apart := false }
def FnExactVecScaleSaid : Prop := fnExactVecScaleRow.holds Try.pinned (OpenSpec.ofChange fnExactVecScaleSpec)

/-- ITS FALSE NEIGHBOUR: 'it returns false'. Refute it at one input. -/
def fnExactVecScaleWrong : ChangeSpec := { name := "fnExactVecScale", fn := fun _ => fun
  | [d1, d2, d3] => { results := [.lit (.bool false)], args := [d1, d2, d3] }
  | _ => none }
def FnExactVecScaleWrongFalsely : Prop := fnExactVecScaleRow.holds Try.pinned (OpenSpec.ofChange fnExactVecScaleWrong)

/-- 'laws.FnExactVecCmp': WHATEVER THE INPUT: true; the input reads as it did. -/
def fnExactVecCmpSpec : ChangeSpec := { name := "fnExactVecCmp", fn := fun _ => fun
  | [d1, d2] => { results := [.lit (.bool true)], args := [d1, d2] }
  | _ => none }
def fnExactVecCmpRow : OpenClaim := { program := "ytkfiidldappdcaa", sum := "a94ec2c6fdcd2c360f55cf410b0b3c1e15fbeb6ae3b843f3857f78f58783616a", func := "loop.example/g00676/laws.FnExactVecCmp", spec := "fnExactVecCmp", apart := false }
def FnExactVecCmpSaid : Prop := fnExactVecCmpRow.holds Try.pinned (OpenSpec.ofChange fnExactVecCmpSpec)

/-- ITS FALSE NEIGHBOUR: 'it returns false'. Refute it at one input. -/
def fnExactVecCmpWrong : ChangeSpec := { name := "fnExactVecCmp", fn := fun _ => fun
  | [d1, d2] => { results := [.lit (.bool false)], args := [d1, d2] }
  | _ => none }
def FnExactVecCmpWrongFalsely : Prop := fnExactVecCmpRow.holds Try.pinned (OpenSpec.ofChange fnExactVecCmpWrong)

/- THE SECOND FORM. 'bulk': how many values and letters a reading holds, each counted each time it is reached (what is shared counts as often as it is met; a slice's spare places count too). A statement '..UptoSaid' is the law's where the arguments, and the package variables that the reading takes, are together of bulk at most 1048576: NARROWER than '..Said'. Prove '..Said' where nothing that the law and all that it calls make is longer than what came in: it says more and counts as full. Else prove '..UptoSaid'. A law counts once. -/
mutual
def uptoBulk {H : Type} : DataW H → Nat
  | .lit (.string bytes) => bytes.length + 1
  | .lit _ => 1
  | .nil => 1
  | .ptr d => uptoBulk d + 1
  | .slice elems spare => uptoBulkAll elems + uptoBulkAll spare + 1
  | .agg parts => uptoBulkAll parts + 1
  | .iface _ d => uptoBulk d + 1
  | .map entries => uptoBulkEntries entries + 1
  | .held _ => 1
def uptoBulkAll {H : Type} : List (DataW H) → Nat
  | [] => 0
  | d :: r => uptoBulk d + uptoBulkAll r
def uptoBulkEntries {H : Type} : List (Lit × DataW H) → Nat
  | [] => 0
  | x :: r => uptoBulkEntry x + uptoBulkEntries r
def uptoBulkEntry {H : Type} : Lit × DataW H → Nat
  | (.string bytes, d) => bytes.length + uptoBulk d + 1
  | (_, d) => uptoBulk d + 1
 end
def uptoSmall : (H : Type) → List (DataW H) → Bool := fun _ ds => decide (uptoBulkAll ds ≤ 1048576)
def OpenSpec.upto (s : _root_.Go.ChangeSpec) : _root_.Go.OpenSpec := { _root_.Go.OpenSpec.ofChange s with cond := some uptoSmall }

/-- 'laws.FnDivisors', WHERE WHAT IT READS IS OF BULK AT MOST 1048576: true; the input reads as it did. -/
def fnDivisorsUptoRow : OpenClaim := { program := "ytkfiidldappdcaa", sum := "a94ec2c6fdcd2c360f55cf410b0b3c1e15fbeb6ae3b843f3857f78f58783616a", func := "loop.example/g00676/laws.FnDivisors", spec := "fnDivisors", apart := false, narrowed := true }
def FnDivisorsUptoSaid : Prop := fnDivisorsUptoRow.holds Try.pinned (OpenSpec.upto fnDivisorsSpec)

/-- 'laws.FnVec', WHERE WHAT IT READS IS OF BULK AT MOST 1048576: true; the input reads as it did. -/
def fnVecUptoRow : OpenClaim := { program := "ytkfiidldappdcaa", sum := "a94ec2c6fdcd2c360f55cf410b0b3c1e15fbeb6ae3b843f3857f78f58783616a", func := "loop.example/g00676/laws.FnVec", spec := "fnVec", apart := false, narrowed := true }
def FnVecUptoSaid : Prop := fnVecUptoRow.holds Try.pinned (OpenSpec.upto fnVecSpec)

/-- 'laws.FnVecOrder', WHERE WHAT IT READS IS OF BULK AT MOST 1048576: true; the input reads as it did. -/
def fnVecOrderUptoRow : OpenClaim := { program := "ytkfiidldappdcaa", sum := "a94ec2c6fdcd2c360f55cf410b0b3c1e15fbeb6ae3b843f3857f78f58783616a", func := "loop.example/g00676/laws.FnVecOrder", spec := "fnVecOrder", apart := false, narrowed := true }
def FnVecOrderUptoSaid : Prop := fnVecOrderUptoRow.holds Try.pinned (OpenSpec.upto fnVecOrderSpec)

/-- 'laws.FnExactGcd', WHERE WHAT IT READS IS OF BULK AT MOST 1048576: true; the input reads as it did. -/
def fnExactGcdUptoRow : OpenClaim := { program := "ytkfiidldappdcaa", sum := "a94ec2c6fdcd2c360f55cf410b0b3c1e15fbeb6ae3b843f3857f78f58783616a", func := "loop.example/g00676/laws.FnExactGcd", spec := "fnExactGcd", apart := false, narrowed := true }
def FnExactGcdUptoSaid : Prop := fnExactGcdUptoRow.holds Try.pinned (OpenSpec.upto fnExactGcdSpec)

/-- 'laws.FnExactLcm', WHERE WHAT IT READS IS OF BULK AT MOST 1048576: true; the input reads as it did. -/
def fnExactLcmUptoRow : OpenClaim := { program := "ytkfiidldappdcaa", sum := "a94ec2c6fdcd2c360f55cf410b0b3c1e15fbeb6ae3b843f3857f78f58783616a", func := "loop.example/g00676/laws.FnExactLcm", spec := "fnExactLcm", apart := false, narrowed := true }
def FnExactLcmUptoSaid : Prop := fnExactLcmUptoRow.holds Try.pinned (OpenSpec.upto fnExactLcmSpec)

/-- 'laws.FnExactVecOk', WHERE WHAT IT READS IS OF BULK AT MOST 1048576: true; the input reads as it did. -/
def fnExactVecOkUptoRow : OpenClaim := { program := "ytkfiidldappdcaa", sum := "a94ec2c6fdcd2c360f55cf410b0b3c1e15fbeb6ae3b843f3857f78f58783616a", func := "loop.example/g00676/laws.FnExactVecOk", spec := "fnExactVecOk", apart := false, narrowed := true }
def FnExactVecOkUptoSaid : Prop := fnExactVecOkUptoRow.holds Try.pinned (OpenSpec.upto fnExactVecOkSpec)

/-- 'laws.FnExactVecMake', WHERE WHAT IT READS IS OF BULK AT MOST 1048576: true; the input reads as it did. -/
def fnExactVecMakeUptoRow : OpenClaim := { program := "ytkfiidldappdcaa", sum := "a94ec2c6fdcd2c360f55cf410b0b3c1e15fbeb6ae3b843f3857f78f58783616a", func := "loop.example/g00676/laws.FnExactVecMake", spec := "fnExactVecMake", apart := false, narrowed := true }
def FnExactVecMakeUptoSaid : Prop := fnExactVecMakeUptoRow.holds Try.pinned (OpenSpec.upto fnExactVecMakeSpec)

/-- 'laws.FnExactNought', WHERE WHAT IT READS IS OF BULK AT MOST 1048576: true; the input reads as it did. -/
def fnExactNoughtUptoRow : OpenClaim := { program := "ytkfiidldappdcaa", sum := "a94ec2c6fdcd2c360f55cf410b0b3c1e15fbeb6ae3b843f3857f78f58783616a", func := "loop.example/g00676/laws.FnExactNought", spec := "fnExactNought", apart := false, narrowed := true }
def FnExactNoughtUptoSaid : Prop := fnExactNoughtUptoRow.holds Try.pinned (OpenSpec.upto fnExactNoughtSpec)

/-- 'laws.FnExactUnitVec', WHERE WHAT IT READS IS OF BULK AT MOST 1048576: true; the input reads as it did. -/
def fnExactUnitVecUptoRow : OpenClaim := { program := "ytkfiidldappdcaa", sum := "a94ec2c6fdcd2c360f55cf410b0b3c1e15fbeb6ae3b843f3857f78f58783616a", func := "loop.example/g00676/laws.FnExactUnitVec", spec := "fnExactUnitVec", apart := false, narrowed := true }
def FnExactUnitVecUptoSaid : Prop := fnExactUnitVecUptoRow.holds Try.pinned (OpenSpec.upto fnExactUnitVecSpec)

/-- 'laws.FnExactVecAdd', WHERE WHAT IT READS IS OF BULK AT MOST 1048576: true; the input reads as it did. -/
def fnExactVecAddUptoRow : OpenClaim := { program := "ytkfiidldappdcaa", sum := "a94ec2c6fdcd2c360f55cf410b0b3c1e15fbeb6ae3b843f3857f78f58783616a", func := "loop.example/g00676/laws.FnExactVecAdd", spec := "fnExactVecAdd", apart := false, narrowed := true }
def FnExactVecAddUptoSaid : Prop := fnExactVecAddUptoRow.holds Try.pinned (OpenSpec.upto fnExactVecAddSpec)

/-- 'laws.FnExactVecScale', WHERE WHAT IT READS IS OF BULK AT MOST 1048576: true; the input reads as it did. -/
def fnExactVecScaleUptoRow : OpenClaim := { program := "ytkfiidldappdcaa", sum := "a94ec2c6fdcd2c360f55cf410b0b3c1e15fbeb6ae3b843f3857f78f58783616a", func := "loop.example/g00676/laws.FnExactVecScale", spec := "fnExactVecScale", apart := false, narrowed := true }
def FnExactVecScaleUptoSaid : Prop := fnExactVecScaleUptoRow.holds Try.pinned (OpenSpec.upto fnExactVecScaleSpec)

/-- 'laws.FnExactVecCmp', WHERE WHAT IT READS IS OF BULK AT MOST 1048576: true; the input reads as it did. -/
def fnExactVecCmpUptoRow : OpenClaim := { program := "ytkfiidldappdcaa", sum := "a94ec2c6fdcd2c360f55cf410b0b3c1e15fbeb6ae3b843f3857f78f58783616a", func := "loop.example/g00676/laws.FnExactVecCmp", spec := "fnExactVecCmp", apart := false, narrowed := true }
def FnExactVecCmpUptoSaid : Prop := fnExactVecCmpUptoRow.holds Try.pinned (OpenSpec.upto fnExactVecCmpSpec)

end Rows
end Go.Proofs.Ytkfiidldappdcaa
