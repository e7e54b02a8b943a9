/-
  No cell of these rows narrows 'for every input' (looked for: loops, veiled, ifaces, maps, wideKeys, modest, calm, conditions, laid).
  DERIVED. THE GIVEN ROWS OF THIS SEAT. 2 by the template 'for every input the law returns true; each argument reads behind the call as it read before'; 0 by the template 'total and deterministic' (their statements: YtknbfnhljblfkaaTotals.lean).
  GIVEN WITH THE SEED: the statements are not yours to turn. If you find one false, say at which input.
  Laid BY PROGRAM, IN A SANDBOX (cutbox-rows.mjs): the forced cells as the released guide's own fill.sh prints them over the translation 40cfe21899d3cd76… (all of the seat's roots in one cut). By AI agents, Wed Nov 11 2026. No macro, syntax, notation, axiom, sorry.
-/
import Derived.Test.YtknbfnhljblfkaaChecked
import GoSem.Claim
import GoSem.ClaimJoined
import GoSem.ClaimMapViews
import Derived.JoinedTies
import Derived.KernelRfl
namespace Go.Proofs.Ytknbfnhljblfkaa
/- THE CELL 'sum', in the pinned program and in every row, IS THE sha256 OF THE DUMP (.gsa) THAT YtknbfnhljblfkaaProg.lean LOADS. Nothing in Lean hashes anything: it is a label: what it is worth is what the hold of that sum in a sandbox is worth. -/
noncomputable def Try.pinned : Pinned := { name := "ytknbfnhljblfkaa", sum := "40cfe21899d3cd76d311775e348ad49f080f0b799efa1fd7da4dd6e43b82f6cc", checked := Try.checked }
namespace Rows
def none {H : Type} : Left H := { results := [], args := [] }

/-- 'laws.FnExactBezout': WHATEVER THE INPUT: true; the input reads as it did. -/
def fnExactBezoutSpec : ChangeSpec := { name := "fnExactBezout", fn := fun _ => fun
  | [d1, d2] => { results := [.lit (.bool true)], args := [d1, d2] }
  | _ => none }
def fnExactBezoutRow : OpenClaim := { program := "ytknbfnhljblfkaa", sum := "40cfe21899d3cd76d311775e348ad49f080f0b799efa1fd7da4dd6e43b82f6cc", func := "loop.example/g00676/laws.FnExactBezout", spec := "fnExactBezout", named := ["math/bits.overflowError"], apart := false }
def FnExactBezoutSaid : Prop := fnExactBezoutRow.holds Try.pinned (OpenSpec.ofChange fnExactBezoutSpec)

/-- ITS FALSE NEIGHBOUR: 'it returns false'. Refute it at one input. -/
def fnExactBezoutWrong : ChangeSpec := { name := "fnExactBezout", fn := fun _ => fun
  | [d1, d2] => { results := [.lit (.bool false)], args := [d1, d2] }
  | _ => none }
def FnExactBezoutWrongFalsely : Prop := fnExactBezoutRow.holds Try.pinned (OpenSpec.ofChange fnExactBezoutWrong)

/-- 'laws.FnExactRatPow': WHATEVER THE INPUT: true; the input reads as it did. -/
def fnExactRatPowSpec : ChangeSpec := { name := "fnExactRatPow", fn := fun _ => fun
  | [d1, d2] => { results := [.lit (.bool true)], args := [d1, d2] }
  | _ => none }
def fnExactRatPowRow : OpenClaim := { program := "ytknbfnhljblfkaa", sum := "40cfe21899d3cd76d311775e348ad49f080f0b799efa1fd7da4dd6e43b82f6cc", func := "loop.example/g00676/laws.FnExactRatPow", spec := "fnExactRatPow", unfollowed := true, recurses := true, named := ["math/bits.overflowError"], apart := false }
def FnExactRatPowSaid : Prop := fnExactRatPowRow.holds Try.pinned (OpenSpec.ofChange fnExactRatPowSpec)

/-- ITS FALSE NEIGHBOUR: 'it returns false'. Refute it at one input. -/
def fnExactRatPowWrong : ChangeSpec := { name := "fnExactRatPow", fn := fun _ => fun
  | [d1, d2] => { results := [.lit (.bool false)], args := [d1, d2] }
  | _ => none }
def FnExactRatPowWrongFalsely : Prop := fnExactRatPowRow.holds Try.pinned (OpenSpec.ofChange fnExactRatPowWrong)

/- THE SECOND FORM. 'bulk': how many values and letters a reading holds, each counted each time it is reached (what is shared counts as often as it is met; a slice's spare places count too). A statement '..UptoSaid' is the law's where the arguments, and the package variables that the reading takes, are together of bulk at most 1048576: NARROWER than '..Said'. Prove '..Said' where nothing that the law and all that it calls make is longer than what came in: it says more and counts as full. Else prove '..UptoSaid'. A law counts once. -/
mutual
def uptoBulk {H : Type} : DataW H → Nat
  | .lit (.string bytes) => bytes.length + 1
  | .lit _ => 1
  | .nil => 1
  | .ptr d => uptoBulk d + 1
  | .slice elems spare => uptoBulkAll elems + uptoBulkAll spare + 1
  | .agg parts => uptoBulkAll parts + 1
  | .iface _ d => uptoBulk d + 1
  | .map entries => uptoBulkEntries entries + 1
  | .held _ => 1
def uptoBulkAll {H : Type} : List (DataW H) → Nat
  | [] => 0
  | d :: r => uptoBulk d + uptoBulkAll r
def uptoBulkEntries {H : Type} : List (Lit × DataW H) → Nat
  | [] => 0
  | x :: r => uptoBulkEntry x + uptoBulkEntries r
def uptoBulkEntry {H : Type} : Lit × DataW H → Nat
  | (.string bytes, d) => bytes.length + uptoBulk d + 1
  | (_, d) => uptoBulk d + 1
 end
def uptoSmall : (H : Type) → List (DataW H) → Bool := fun _ ds => decide (uptoBulkAll ds ≤ 1048576)
def OpenSpec.upto (s : _root_.Go.ChangeSpec) : _root_.Go.OpenSpec := { _root_.Go.OpenSpec.ofChange s with cond := some uptoSmall }

/-- 'laws.FnExactBezout', WHERE WHAT IT READS IS OF BULK AT MOST 1048576: true; the input reads as it did. -/
def fnExactBezoutUptoRow : OpenClaim := { program := "ytknbfnhljblfkaa", sum := "40cfe21899d3cd76d311775e348ad49f080f0b799efa1fd7da4dd6e43b82f6cc", func := "loop.example/g00676/laws.FnExactBezout", spec := "fnExactBezout", named := ["math/bits.overflowError"], apart := false, narrowed := true }
def FnExactBezoutUptoSaid : Prop := fnExactBezoutUptoRow.holds Try.pinned (OpenSpec.upto fnExactBezoutSpec)

/-- 'laws.FnExactRatPow', WHERE WHAT IT READS IS OF BULK AT MOST 1048576: true; the input reads as it did. -/
def fnExactRatPowUptoRow : OpenClaim := { program := "ytknbfnhljblfkaa", sum := "40cfe21899d3cd76d311775e348ad49f080f0b799efa1fd7da4dd6e43b82f6cc", func := "loop.example/g00676/laws.FnExactRatPow", spec := "fnExactRatPow", unfollowed := true, recurses := true, named := ["math/bits.overflowError"], apart := false, narrowed := true }
def FnExactRatPowUptoSaid : Prop := fnExactRatPowUptoRow.holds Try.pinned (OpenSpec.upto fnExactRatPowSpec)

end Rows
end Go.Proofs.Ytknbfnhljblfkaa
