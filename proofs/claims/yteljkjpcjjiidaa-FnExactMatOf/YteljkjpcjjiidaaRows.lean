/-
  No cell of these rows narrows 'for every input' (looked for: loops, veiled, ifaces, maps, wideKeys, modest, calm, conditions, laid).
  DERIVED. THE GIVEN ROWS OF THIS SEAT. 7 by the template 'for every input the law returns true; each argument reads behind the call as it read before'; 0 by the template 'total and deterministic' (their statements: YteljkjpcjjiidaaTotals.lean).
  GIVEN WITH THE SEED: the statements are not yours to turn. If you find one false, say at which input.
  Laid BY PROGRAM, IN A SANDBOX (cutbox-rows.mjs): the forced cells as the released guide's own fill.sh prints them over the translation 7a0c15e9e35822ef… (all of the seat's roots in one cut). By AI agents, Wed Nov 11 2026. No macro, syntax, notation, axiom, sorry.
-/
import Derived.Test.YteljkjpcjjiidaaChecked
import GoSem.Claim
import GoSem.ClaimJoined
import GoSem.ClaimMapViews
import Derived.JoinedTies
import Derived.KernelRfl
namespace Go.Proofs.Yteljkjpcjjiidaa
/- THE CELL 'sum', in the pinned program and in every row, IS THE sha256 OF THE DUMP (.gsa) THAT YteljkjpcjjiidaaProg.lean LOADS. Nothing in Lean hashes anything: it is a label: what it is worth is what the hold of that sum in a sandbox is worth. -/
noncomputable def Try.pinned : Pinned := { name := "yteljkjpcjjiidaa", sum := "7a0c15e9e35822ef3bd699b94223fe730cd3fd2cfc73165d3ba149e25ed1055b", checked := Try.checked }
namespace Rows
def none {H : Type} : Left H := { results := [], args := [] }

/-- 'laws.FnExactMatOk': WHATEVER THE INPUT: true; the input reads as it did. -/
def fnExactMatOkSpec : ChangeSpec := { name := "fnExactMatOk", fn := fun _ => fun
  | [d] => { results := [.lit (.bool true)], args := [d] }
  | _ => none }
def fnExactMatOkRow : OpenClaim := { program := "yteljkjpcjjiidaa", sum := "7a0c15e9e35822ef3bd699b94223fe730cd3fd2cfc73165d3ba149e25ed1055b", func := "loop.example/g00676/laws.FnExactMatOk", spec := "fnExactMatOk", apart := false }
def FnExactMatOkSaid : Prop := fnExactMatOkRow.holds Try.pinned (OpenSpec.ofChange fnExactMatOkSpec)

/-- ITS FALSE NEIGHBOUR: 'it returns false'. Refute it at one input. -/
def fnExactMatOkWrong : ChangeSpec := { name := "fnExactMatOk", fn := fun _ => fun
  | [d] => { results := [.lit (.bool false)], args := [d] }
  | _ => none }
def FnExactMatOkWrongFalsely : Prop := fnExactMatOkRow.holds Try.pinned (OpenSpec.ofChange fnExactMatOkWrong)

/-- 'laws.FnExactMatOf': WHATEVER THE INPUT: true; the input reads as it did. -/
def fnExactMatOfSpec : ChangeSpec := { name := "fnExactMatOf", fn := fun _ => fun
  | [d] => { results := [.lit (.bool true)], args := [d] }
  | _ => none }
def fnExactMatOfRow : OpenClaim := { program := "yteljkjpcjjiidaa", sum := "7a0c15e9e35822ef3bd699b94223fe730cd3fd2cfc73165d3ba149e25ed1055b", func := "loop.example/g00676/laws.FnExactMatOf", spec := "fnExactMatOf", unfollowed := true, recurses := true, apart := false }
def FnExactMatOfSaid : Prop := fnExactMatOfRow.holds Try.pinned (OpenSpec.ofChange fnExactMatOfSpec)

/-- ITS FALSE NEIGHBOUR: 'it returns false'. Refute it at one input. -/
def fnExactMatOfWrong : ChangeSpec := { name := "fnExactMatOf", fn := fun _ => fun
  | [d] => { results := [.lit (.bool false)], args := [d] }
  | _ => none }
def FnExactMatOfWrongFalsely : Prop := fnExactMatOfRow.holds Try.pinned (OpenSpec.ofChange fnExactMatOfWrong)

/-- 'laws.FnExactOne': WHATEVER THE INPUT: true; the input reads as it did. -/
def fnExactOneSpec : ChangeSpec := { name := "fnExactOne", fn := fun _ => fun
  | [d] => { results := [.lit (.bool true)], args := [d] }
  | _ => none }
def fnExactOneRow : OpenClaim := { program := "yteljkjpcjjiidaa", sum := "7a0c15e9e35822ef3bd699b94223fe730cd3fd2cfc73165d3ba149e25ed1055b", func := "loop.example/g00676/laws.FnExactOne", spec := "fnExactOne", apart := false }
def FnExactOneSaid : Prop := fnExactOneRow.holds Try.pinned (OpenSpec.ofChange fnExactOneSpec)

/-- ITS FALSE NEIGHBOUR: 'it returns false'. Refute it at one input. -/
def fnExactOneWrong : ChangeSpec := { name := "fnExactOne", fn := fun _ => fun
  | [d] => { results := [.lit (.bool false)], args := [d] }
  | _ => none }
def FnExactOneWrongFalsely : Prop := fnExactOneRow.holds Try.pinned (OpenSpec.ofChange fnExactOneWrong)

/-- 'laws.FnExactTurn': WHATEVER THE INPUT: true; the input reads as it did. -/
def fnExactTurnSpec : ChangeSpec := { name := "fnExactTurn", fn := fun _ => fun
  | [d] => { results := [.lit (.bool true)], args := [d] }
  | _ => none }
def fnExactTurnRow : OpenClaim := { program := "yteljkjpcjjiidaa", sum := "7a0c15e9e35822ef3bd699b94223fe730cd3fd2cfc73165d3ba149e25ed1055b", func := "loop.example/g00676/laws.FnExactTurn", spec := "fnExactTurn", unfollowed := true, recurses := true, apart := false }
def FnExactTurnSaid : Prop := fnExactTurnRow.holds Try.pinned (OpenSpec.ofChange fnExactTurnSpec)

/-- ITS FALSE NEIGHBOUR: 'it returns false'. Refute it at one input. -/
def fnExactTurnWrong : ChangeSpec := { name := "fnExactTurn", fn := fun _ => fun
  | [d] => { results := [.lit (.bool false)], args := [d] }
  | _ => none }
def FnExactTurnWrongFalsely : Prop := fnExactTurnRow.holds Try.pinned (OpenSpec.ofChange fnExactTurnWrong)

/-- 'laws.FnExactMatMul': WHATEVER THE INPUT: true; the input reads as it did. -/
def fnExactMatMulSpec : ChangeSpec := { name := "fnExactMatMul", fn := fun _ => fun
  | [d1, d2] => { results := [.lit (.bool true)], args := [d1, d2] }
  | _ => none }
def fnExactMatMulRow : OpenClaim := { program := "yteljkjpcjjiidaa", sum := "7a0c15e9e35822ef3bd699b94223fe730cd3fd2cfc73165d3ba149e25ed1055b", func := "loop.example/g00676/laws.FnExactMatMul", spec := "fnExactMatMul", apart := false }
def FnExactMatMulSaid : Prop := fnExactMatMulRow.holds Try.pinned (OpenSpec.ofChange fnExactMatMulSpec)

/-- ITS FALSE NEIGHBOUR: 'it returns false'. Refute it at one input. -/
def fnExactMatMulWrong : ChangeSpec := { name := "fnExactMatMul", fn := fun _ => fun
  | [d1, d2] => { results := [.lit (.bool false)], args := [d1, d2] }
  | _ => none }
def FnExactMatMulWrongFalsely : Prop := fnExactMatMulRow.holds Try.pinned (OpenSpec.ofChange fnExactMatMulWrong)

/-- 'laws.FnTurn': WHATEVER THE INPUT: true; the input reads as it did. -/
def fnTurnSpec : ChangeSpec := { name := "fnTurn", fn := fun _ => fun
  | [d] => { results := [.lit (.bool true)], args := [d] }
  | _ => none }
def fnTurnRow : OpenClaim := { program := "yteljkjpcjjiidaa", sum := "7a0c15e9e35822ef3bd699b94223fe730cd3fd2cfc73165d3ba149e25ed1055b", func := "loop.example/g00676/laws.FnTurn", spec := "fnTurn", unfollowed := true, recurses := true, apart := false }
def FnTurnSaid : Prop := fnTurnRow.holds Try.pinned (OpenSpec.ofChange fnTurnSpec)

/-- ITS FALSE NEIGHBOUR: 'it returns false'. Refute it at one input. -/
def fnTurnWrong : ChangeSpec := { name := "fnTurn", fn := fun _ => fun
  | [d] => { results := [.lit (.bool false)], args := [d] }
  | _ => none }
def FnTurnWrongFalsely : Prop := fnTurnRow.holds Try.pinned (OpenSpec.ofChange fnTurnWrong)

/-- 'laws.FnMatMul': WHATEVER THE INPUT: true; the input reads as it did. -/
def fnMatMulSpec : ChangeSpec := { name := "fnMatMul", fn := fun _ => fun
  | [d] => { results := [.lit (.bool true)], args := [d] }
  | _ => none }
def fnMatMulRow : OpenClaim := { program := "yteljkjpcjjiidaa", sum := "7a0c15e9e35822ef3bd699b94223fe730cd3fd2cfc73165d3ba149e25ed1055b", func := "loop.example/g00676/laws.FnMatMul", spec := "fnMatMul", unfollowed := true, recurses := true, apart := false }
def FnMatMulSaid : Prop := fnMatMulRow.holds Try.pinned (OpenSpec.ofChange fnMatMulSpec)

/-- ITS FALSE NEIGHBOUR: 'it returns false'. Refute it at one input. -/
def fnMatMulWrong : ChangeSpec := { name := "fnMatMul", fn := fun _ => fun
  | [d] => { results := [.lit (.bool false)], args := [d] }
  | _ => none }
def FnMatMulWrongFalsely : Prop := fnMatMulRow.holds Try.pinned (OpenSpec.ofChange fnMatMulWrong)

/- THE SECOND FORM. 'bulk': how many values and letters a reading holds, each counted each time it is reached (what is shared counts as often as it is met; a slice's spare places count too). A statement '..UptoSaid' is the law's where the arguments, and the package variables that the reading takes, are together of bulk at most 1048576: NARROWER than '..Said'. Prove '..Said' where nothing that the law and all that it calls make is longer than what came in: it says more and counts as full. Else prove '..UptoSaid'. A law counts once. -/
mutual
def uptoBulk {H : Type} : DataW H → Nat
  | .lit (.string bytes) => bytes.length + 1
  | .lit _ => 1
  | .nil => 1
  | .ptr d => uptoBulk d + 1
  | .slice elems spare => uptoBulkAll elems + uptoBulkAll spare + 1
  | .agg parts => uptoBulkAll parts + 1
  | .iface _ d => uptoBulk d + 1
  | .map entries => uptoBulkEntries entries + 1
  | .held _ => 1
def uptoBulkAll {H : Type} : List (DataW H) → Nat
  | [] => 0
  | d :: r => uptoBulk d + uptoBulkAll r
def uptoBulkEntries {H : Type} : List (Lit × DataW H) → Nat
  | [] => 0
  | x :: r => uptoBulkEntry x + uptoBulkEntries r
def uptoBulkEntry {H : Type} : Lit × DataW H → Nat
  | (.string bytes, d) => bytes.length + uptoBulk d + 1
  | (_, d) => uptoBulk d + 1
 end
def uptoSmall : (H : Type) → List (DataW H) → Bool := fun _ ds => decide (uptoBulkAll ds ≤ 1048576)
def OpenSpec.upto (s : _root_.Go.ChangeSpec) : _root_.Go.OpenSpec := { _root_.Go.OpenSpec.ofChange s with cond := some uptoSmall }

/-- 'laws.FnExactMatOk', WHERE WHAT IT READS IS OF BULK AT MOST 1048576: true; the input reads as it did. -/
def fnExactMatOkUptoRow : OpenClaim := { program := "yteljkjpcjjiidaa", sum := "7a0c15e9e35822ef3bd699b94223fe730cd3fd2cfc73165d3ba149e25ed1055b", func := "loop.example/g00676/laws.FnExactMatOk", spec := "fnExactMatOk", apart := false, narrowed := true }
def FnExactMatOkUptoSaid : Prop := fnExactMatOkUptoRow.holds Try.pinned (OpenSpec.upto fnExactMatOkSpec)

/-- 'laws.FnExactMatOf', WHERE WHAT IT READS IS OF BULK AT MOST 1048576: true; the input reads as it did. -/
def fnExactMatOfUptoRow : OpenClaim := { program := "yteljkjpcjjiidaa", sum := "7a0c15e9e35822ef3bd699b94223fe730cd3fd2cfc73165d3ba149e25ed1055b", func := "loop.example/g00676/laws.FnExactMatOf", spec := "fnExactMatOf", unfollowed := true, recurses := true, apart := false, narrowed := true }
def FnExactMatOfUptoSaid : Prop := fnExactMatOfUptoRow.holds Try.pinned (OpenSpec.upto fnExactMatOfSpec)

/-- 'laws.FnExactOne', WHERE WHAT IT READS IS OF BULK AT MOST 1048576: true; the input reads as it did. -/
def fnExactOneUptoRow : OpenClaim := { program := "yteljkjpcjjiidaa", sum := "7a0c15e9e35822ef3bd699b94223fe730cd3fd2cfc73165d3ba149e25ed1055b", func := "loop.example/g00676/laws.FnExactOne", spec := "fnExactOne", apart := false, narrowed := true }
def FnExactOneUptoSaid : Prop := fnExactOneUptoRow.holds Try.pinned (OpenSpec.upto fnExactOneSpec)

/-- 'laws.FnExactTurn', WHERE WHAT IT READS IS OF BULK AT MOST 1048576: true; the input reads as it did. -/
def fnExactTurnUptoRow : OpenClaim := { program := "yteljkjpcjjiidaa", sum := "7a0c15e9e35822ef3bd699b94223fe730cd3fd2cfc73165d3ba149e25ed1055b", func := "loop.example/g00676/laws.FnExactTurn", spec := "fnExactTurn", unfollowed := true, recurses := true, apart := false, narrowed := true }
def FnExactTurnUptoSaid : Prop := fnExactTurnUptoRow.holds Try.pinned (OpenSpec.upto fnExactTurnSpec)

/-- 'laws.FnExactMatMul', WHERE WHAT IT READS IS OF BULK AT MOST 1048576: true; the input reads as it did. -/
def fnExactMatMulUptoRow : OpenClaim := { program := "yteljkjpcjjiidaa", sum := "7a0c15e9e35822ef3bd699b94223fe730cd3fd2cfc73165d3ba149e25ed1055b", func := "loop.example/g00676/laws.FnExactMatMul", spec := "fnExactMatMul", apart := false, narrowed := true }
def FnExactMatMulUptoSaid : Prop := fnExactMatMulUptoRow.holds Try.pinned (OpenSpec.upto fnExactMatMulSpec)

/-- 'laws.FnTurn', WHERE WHAT IT READS IS OF BULK AT MOST 1048576: true; the input reads as it did. -/
def fnTurnUptoRow : OpenClaim := { program := "yteljkjpcjjiidaa", sum := "7a0c15e9e35822ef3bd699b94223fe730cd3fd2cfc73165d3ba149e25ed1055b", func := "loop.example/g00676/laws.FnTurn", spec := "fnTurn", unfollowed := true, recurses := true, apart := false, narrowed := true }
def FnTurnUptoSaid : Prop := fnTurnUptoRow.holds Try.pinned (OpenSpec.upto fnTurnSpec)

/-- 'laws.FnMatMul', WHERE WHAT IT READS IS OF BULK AT MOST 1048576: true; the input reads as it did. -/
def fnMatMulUptoRow : OpenClaim := { program := "yteljkjpcjjiidaa", sum := "7a0c15e9e35822ef3bd699b94223fe730cd3fd2cfc73165d3ba149e25ed1055b", func := "loop.example/g00676/laws.FnMatMul", spec := "fnMatMul", unfollowed := true, recurses := true, apart := false, narrowed := true }
def FnMatMulUptoSaid : Prop := fnMatMulUptoRow.holds Try.pinned (OpenSpec.upto fnMatMulSpec)

end Rows
end Go.Proofs.Yteljkjpcjjiidaa
