/-
  No cell of these rows narrows 'for every input' (looked for: loops, veiled, ifaces, maps, wideKeys, modest, calm, conditions, laid).
  DERIVED. THE GIVEN ROWS OF THIS SEAT. 2 by the template 'for every input the law returns true; each argument reads behind the call as it read before'; 0 by the template 'total and deterministic' (their statements: YthjapjbiclkhcaaTotals.lean).
  GIVEN WITH THE SEED: the statements are not yours to turn. If you find one false, say at which input.
  Laid BY PROGRAM, IN A SANDBOX (cutbox-rows.mjs): the forced cells as the released guide's own fill.sh prints them over the translation 77baf2aafbbc6086… (all of the seat's roots in one cut). By AI agents, Wed Nov 11 2026. No macro, syntax, notation, axiom, sorry.
-/
import Derived.Test.YthjapjbiclkhcaaChecked
import GoSem.Claim
import GoSem.ClaimJoined
import GoSem.ClaimMapViews
import Derived.JoinedTies
import Derived.KernelRfl
namespace Go.Proofs.Ythjapjbiclkhcaa
/- THE CELL 'sum', in the pinned program and in every row, IS THE sha256 OF THE DUMP (.gsa) THAT YthjapjbiclkhcaaProg.lean LOADS. Nothing in Lean hashes anything: it is a label: what it is worth is what the hold of that sum in a sandbox is worth. -/
noncomputable def Try.pinned : Pinned := { name := "ythjapjbiclkhcaa", sum := "77baf2aafbbc608636ab99bd597475365775f5296bad9f6ffad0962a876e07b0", checked := Try.checked }
namespace Rows
def none {H : Type} : Left H := { results := [], args := [] }

/-- 'laws.FnRootInt': WHATEVER THE INPUT: true; the input reads as it did. -/
def fnRootIntSpec : ChangeSpec := { name := "fnRootInt", fn := fun _ => fun
  | [d] => { results := [.lit (.bool true)], args := [d] }
  | _ => none }
def fnRootIntRow : OpenClaim := { program := "ythjapjbiclkhcaa", sum := "77baf2aafbbc608636ab99bd597475365775f5296bad9f6ffad0962a876e07b0", func := "loop.example/g00676/laws.FnRootInt", spec := "fnRootInt", named := ["math/bits.overflowError"], apart := false }
def FnRootIntSaid : Prop := fnRootIntRow.holds Try.pinned (OpenSpec.ofChange fnRootIntSpec)

/-- ITS FALSE NEIGHBOUR: 'it returns false'. Refute it at one input. -/
def fnRootIntWrong : ChangeSpec := { name := "fnRootInt", fn := fun _ => fun
  | [d] => { results := [.lit (.bool false)], args := [d] }
  | _ => none }
def FnRootIntWrongFalsely : Prop := fnRootIntRow.holds Try.pinned (OpenSpec.ofChange fnRootIntWrong)

/-- 'laws.FnRatRoot': WHATEVER THE INPUT: true; the input reads as it did. -/
def fnRatRootSpec : ChangeSpec := { name := "fnRatRoot", fn := fun _ => fun
  | [d] => { results := [.lit (.bool true)], args := [d] }
  | _ => none }
def fnRatRootRow : OpenClaim := { program := "ythjapjbiclkhcaa", sum := "77baf2aafbbc608636ab99bd597475365775f5296bad9f6ffad0962a876e07b0", func := "loop.example/g00676/laws.FnRatRoot", spec := "fnRatRoot", unfollowed := true, recurses := true, named := ["math/bits.overflowError"], apart := false }
def FnRatRootSaid : Prop := fnRatRootRow.holds Try.pinned (OpenSpec.ofChange fnRatRootSpec)

/-- ITS FALSE NEIGHBOUR: 'it returns false'. Refute it at one input. -/
def fnRatRootWrong : ChangeSpec := { name := "fnRatRoot", fn := fun _ => fun
  | [d] => { results := [.lit (.bool false)], args := [d] }
  | _ => none }
def FnRatRootWrongFalsely : Prop := fnRatRootRow.holds Try.pinned (OpenSpec.ofChange fnRatRootWrong)

/- THE SECOND FORM. 'bulk': how many values and letters a reading holds, each counted each time it is reached (what is shared counts as often as it is met; a slice's spare places count too). A statement '..UptoSaid' is the law's where the arguments, and the package variables that the reading takes, are together of bulk at most 1048576: NARROWER than '..Said'. Prove '..Said' where nothing that the law and all that it calls make is longer than what came in: it says more and counts as full. Else prove '..UptoSaid'. A law counts once. -/
mutual
def uptoBulk {H : Type} : DataW H → Nat
  | .lit (.string bytes) => bytes.length + 1
  | .lit _ => 1
  | .nil => 1
  | .ptr d => uptoBulk d + 1
  | .slice elems spare => uptoBulkAll elems + uptoBulkAll spare + 1
  | .agg parts => uptoBulkAll parts + 1
  | .iface _ d => uptoBulk d + 1
  | .map entries => uptoBulkEntries entries + 1
  | .held _ => 1
def uptoBulkAll {H : Type} : List (DataW H) → Nat
  | [] => 0
  | d :: r => uptoBulk d + uptoBulkAll r
def uptoBulkEntries {H : Type} : List (Lit × DataW H) → Nat
  | [] => 0
  | x :: r => uptoBulkEntry x + uptoBulkEntries r
def uptoBulkEntry {H : Type} : Lit × DataW H → Nat
  | (.string bytes, d) => bytes.length + uptoBulk d + 1
  | (_, d) => uptoBulk d + 1
 end
def uptoSmall : (H : Type) → List (DataW H) → Bool := fun _ ds => decide (uptoBulkAll ds ≤ 1048576)
def OpenSpec.upto (s : _root_.Go.ChangeSpec) : _root_.Go.OpenSpec := { _root_.Go.OpenSpec.ofChange s with cond := some uptoSmall }

/-- 'laws.FnRootInt', WHERE WHAT IT READS IS OF BULK AT MOST 1048576: true; the input reads as it did. -/
def fnRootIntUptoRow : OpenClaim := { program := "ythjapjbiclkhcaa", sum := "77baf2aafbbc608636ab99bd597475365775f5296bad9f6ffad0962a876e07b0", func := "loop.example/g00676/laws.FnRootInt", spec := "fnRootInt", named := ["math/bits.overflowError"], apart := false, narrowed := true }
def FnRootIntUptoSaid : Prop := fnRootIntUptoRow.holds Try.pinned (OpenSpec.upto fnRootIntSpec)

/-- 'laws.FnRatRoot', WHERE WHAT IT READS IS OF BULK AT MOST 1048576: true; the input reads as it did. -/
def fnRatRootUptoRow : OpenClaim := { program := "ythjapjbiclkhcaa", sum := "77baf2aafbbc608636ab99bd597475365775f5296bad9f6ffad0962a876e07b0", func := "loop.example/g00676/laws.FnRatRoot", spec := "fnRatRoot", unfollowed := true, recurses := true, named := ["math/bits.overflowError"], apart := false, narrowed := true }
def FnRatRootUptoSaid : Prop := fnRatRootUptoRow.holds Try.pinned (OpenSpec.upto fnRatRootSpec)

end Rows
end Go.Proofs.Ythjapjbiclkhcaa
