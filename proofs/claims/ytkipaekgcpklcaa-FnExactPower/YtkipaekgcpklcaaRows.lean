/-
  No cell of these rows narrows 'for every input' (looked for: loops, veiled, ifaces, maps, wideKeys, modest, calm, conditions, laid).
  DERIVED. THE GIVEN ROWS OF THIS SEAT. 16 by the template 'for every input the law returns true; each argument reads behind the call as it read before'; 0 by the template 'total and deterministic' (their statements: YtkipaekgcpklcaaTotals.lean).
  GIVEN WITH THE SEED: the statements are not yours to turn. If you find one false, say at which input.
  Laid BY PROGRAM, IN A SANDBOX (cutbox-rows.mjs): the forced cells as the released guide's own fill.sh prints them over the translation 88a9f6cebd5715e3… (all of the seat's roots in one cut). By AI agents, Wed Nov 11 2026. No macro, syntax, notation, axiom, sorry.
-/
import Derived.Test.YtkipaekgcpklcaaChecked
import GoSem.Claim
import GoSem.ClaimJoined
import GoSem.ClaimMapViews
import Derived.JoinedTies
import Derived.KernelRfl
namespace Go.Proofs.Ytkipaekgcpklcaa
/- THE CELL 'sum', in the pinned program and in every row, IS THE sha256 OF THE DUMP (.gsa) THAT YtkipaekgcpklcaaProg.lean LOADS. Nothing in Lean hashes anything: it is a label: what it is worth is what the hold of that sum in a sandbox is worth. -/
noncomputable def Try.pinned : Pinned := { name := "ytkipaekgcpklcaa", sum := "88a9f6cebd5715e31c6e241bb38d13ab05e524f0a6c98477cb7d23df1154cda6", checked := Try.checked }
namespace Rows
def none {H : Type} : Left H := { results := [], args := [] }

/-- 'laws.FnPowers': WHATEVER THE INPUT: true; the input reads as it did. -/
def fnPowersSpec : ChangeSpec := { name := "fnPowers", fn := fun _ => fun
  | [d] => { results := [.lit (.bool true)], args := [d] }
  | _ => none }
def fnPowersRow : OpenClaim := { program := "ytkipaekgcpklcaa", sum := "88a9f6cebd5715e31c6e241bb38d13ab05e524f0a6c98477cb7d23df1154cda6", func := "loop.example/g00676/laws.FnPowers", spec := "fnPowers", apart := false }
def FnPowersSaid : Prop := fnPowersRow.holds Try.pinned (OpenSpec.ofChange fnPowersSpec)

/-- ITS FALSE NEIGHBOUR: 'it returns false'. Refute it at one input. -/
def fnPowersWrong : ChangeSpec := { name := "fnPowers", fn := fun _ => fun
  | [d] => { results := [.lit (.bool false)], args := [d] }
  | _ => none }
def FnPowersWrongFalsely : Prop := fnPowersRow.holds Try.pinned (OpenSpec.ofChange fnPowersWrong)

/-- 'laws.FnBits': WHATEVER THE INPUT: true; the input reads as it did. -/
def fnBitsSpec : ChangeSpec := { name := "fnBits", fn := fun _ => fun
  | [d] => { results := [.lit (.bool true)], args := [d] }
  | _ => none }
def fnBitsRow : OpenClaim := { program := "ytkipaekgcpklcaa", sum := "88a9f6cebd5715e31c6e241bb38d13ab05e524f0a6c98477cb7d23df1154cda6", func := "loop.example/g00676/laws.FnBits", spec := "fnBits", apart := false }
def FnBitsSaid : Prop := fnBitsRow.holds Try.pinned (OpenSpec.ofChange fnBitsSpec)

/-- ITS FALSE NEIGHBOUR: 'it returns false'. Refute it at one input. -/
def fnBitsWrong : ChangeSpec := { name := "fnBits", fn := fun _ => fun
  | [d] => { results := [.lit (.bool false)], args := [d] }
  | _ => none }
def FnBitsWrongFalsely : Prop := fnBitsRow.holds Try.pinned (OpenSpec.ofChange fnBitsWrong)

/-- 'laws.FnExactBigOk': WHATEVER THE INPUT: true; the input reads as it did. -/
def fnExactBigOkSpec : ChangeSpec := { name := "fnExactBigOk", fn := fun _ => fun
  | [d] => { results := [.lit (.bool true)], args := [d] }
  | _ => none }
def fnExactBigOkRow : OpenClaim := { program := "ytkipaekgcpklcaa", sum := "88a9f6cebd5715e31c6e241bb38d13ab05e524f0a6c98477cb7d23df1154cda6", func := "loop.example/g00676/laws.FnExactBigOk", spec := "fnExactBigOk", apart := false }
def FnExactBigOkSaid : Prop := fnExactBigOkRow.holds Try.pinned (OpenSpec.ofChange fnExactBigOkSpec)

/-- ITS FALSE NEIGHBOUR: 'it returns false'. Refute it at one input. -/
def fnExactBigOkWrong : ChangeSpec := { name := "fnExactBigOk", fn := fun _ => fun
  | [d] => { results := [.lit (.bool false)], args := [d] }
  | _ => none }
def FnExactBigOkWrongFalsely : Prop := fnExactBigOkRow.holds Try.pinned (OpenSpec.ofChange fnExactBigOkWrong)

/-- 'laws.FnExactFromInt': WHATEVER THE INPUT: true; the input reads as it did. -/
def fnExactFromIntSpec : ChangeSpec := { name := "fnExactFromInt", fn := fun _ => fun
  | [d] => { results := [.lit (.bool true)], args := [d] }
  | _ => none }
def fnExactFromIntRow : OpenClaim := { program := "ytkipaekgcpklcaa", sum := "88a9f6cebd5715e31c6e241bb38d13ab05e524f0a6c98477cb7d23df1154cda6", func := "loop.example/g00676/laws.FnExactFromInt", spec := "fnExactFromInt", apart := false }
def FnExactFromIntSaid : Prop := fnExactFromIntRow.holds Try.pinned (OpenSpec.ofChange fnExactFromIntSpec)

/-- ITS FALSE NEIGHBOUR: 'it returns false'. Refute it at one input. -/
def fnExactFromIntWrong : ChangeSpec := { name := "fnExactFromInt", fn := fun _ => fun
  | [d] => { results := [.lit (.bool false)], args := [d] }
  | _ => none }
def FnExactFromIntWrongFalsely : Prop := fnExactFromIntRow.holds Try.pinned (OpenSpec.ofChange fnExactFromIntWrong)

/-- 'laws.FnExactToInt': WHATEVER THE INPUT: true; the input reads as it did. -/
def fnExactToIntSpec : ChangeSpec := { name := "fnExactToInt", fn := fun _ => fun
  | [d] => { results := [.lit (.bool true)], args := [d] }
  | _ => none }
def fnExactToIntRow : OpenClaim := { program := "ytkipaekgcpklcaa", sum := "88a9f6cebd5715e31c6e241bb38d13ab05e524f0a6c98477cb7d23df1154cda6", func := "loop.example/g00676/laws.FnExactToInt", spec := "fnExactToInt", apart := false }
def FnExactToIntSaid : Prop := fnExactToIntRow.holds Try.pinned (OpenSpec.ofChange fnExactToIntSpec)

/-- ITS FALSE NEIGHBOUR: 'it returns false'. Refute it at one input. -/
def fnExactToIntWrong : ChangeSpec := { name := "fnExactToInt", fn := fun _ => fun
  | [d] => { results := [.lit (.bool false)], args := [d] }
  | _ => none }
def FnExactToIntWrongFalsely : Prop := fnExactToIntRow.holds Try.pinned (OpenSpec.ofChange fnExactToIntWrong)

/-- 'laws.FnExactCmp': WHATEVER THE INPUT: true; the input reads as it did. -/
def fnExactCmpSpec : ChangeSpec := { name := "fnExactCmp", fn := fun _ => fun
  | [d1, d2] => { results := [.lit (.bool true)], args := [d1, d2] }
  | _ => none }
def fnExactCmpRow : OpenClaim := { program := "ytkipaekgcpklcaa", sum := "88a9f6cebd5715e31c6e241bb38d13ab05e524f0a6c98477cb7d23df1154cda6", func := "loop.example/g00676/laws.FnExactCmp", spec := "fnExactCmp", apart := false }
def FnExactCmpSaid : Prop := fnExactCmpRow.holds Try.pinned (OpenSpec.ofChange fnExactCmpSpec)

/-- ITS FALSE NEIGHBOUR: 'it returns false'. Refute it at one input. -/
def fnExactCmpWrong : ChangeSpec := { name := "fnExactCmp", fn := fun _ => fun
  | [d1, d2] => { results := [.lit (.bool false)], args := [d1, d2] }
  | _ => none }
def FnExactCmpWrongFalsely : Prop := fnExactCmpRow.holds Try.pinned (OpenSpec.ofChange fnExactCmpWrong)

/-- 'laws.FnExactAdd': WHATEVER THE INPUT: true; the input reads as it did. -/
def fnExactAddSpec : ChangeSpec := { name := "fnExactAdd", fn := fun _ => fun
  | [d1, d2] => { results := [.lit (.bool true)], args := [d1, d2] }
  | _ => none }
def fnExactAddRow : OpenClaim := { program := "ytkipaekgcpklcaa", sum := "88a9f6cebd5715e31c6e241bb38d13ab05e524f0a6c98477cb7d23df1154cda6", func := "loop.example/g00676/laws.FnExactAdd", spec := "fnExactAdd", apart := false }
def FnExactAddSaid : Prop := fnExactAddRow.holds Try.pinned (OpenSpec.ofChange fnExactAddSpec)

/-- ITS FALSE NEIGHBOUR: 'it returns false'. Refute it at one input. -/
def fnExactAddWrong : ChangeSpec := { name := "fnExactAdd", fn := fun _ => fun
  | [d1, d2] => { results := [.lit (.bool false)], args := [d1, d2] }
  | _ => none }
def FnExactAddWrongFalsely : Prop := fnExactAddRow.holds Try.pinned (OpenSpec.ofChange fnExactAddWrong)

/-- 'laws.FnExactSub': WHATEVER THE INPUT: true; the input reads as it did. -/
def fnExactSubSpec : ChangeSpec := { name := "fnExactSub", fn := fun _ => fun
  | [d1, d2] => { results := [.lit (.bool true)], args := [d1, d2] }
  | _ => none }
def fnExactSubRow : OpenClaim := { program := "ytkipaekgcpklcaa", sum := "88a9f6cebd5715e31c6e241bb38d13ab05e524f0a6c98477cb7d23df1154cda6", func := "loop.example/g00676/laws.FnExactSub", spec := "fnExactSub", apart := false }
def FnExactSubSaid : Prop := fnExactSubRow.holds Try.pinned (OpenSpec.ofChange fnExactSubSpec)

/-- ITS FALSE NEIGHBOUR: 'it returns false'. Refute it at one input. -/
def fnExactSubWrong : ChangeSpec := { name := "fnExactSub", fn := fun _ => fun
  | [d1, d2] => { results := [.lit (.bool false)], args := [d1, d2] }
  | _ => none }
def FnExactSubWrongFalsely : Prop := fnExactSubRow.holds Try.pinned (OpenSpec.ofChange fnExactSubWrong)

/-- 'laws.FnExactMul': WHATEVER THE INPUT: true; the input reads as it did. -/
def fnExactMulSpec : ChangeSpec := { name := "fnExactMul", fn := fun _ => fun
  | [d1, d2] => { results := [.lit (.bool true)], args := [d1, d2] }
  | _ => none }
def fnExactMulRow : OpenClaim := { program := "ytkipaekgcpklcaa", sum := "88a9f6cebd5715e31c6e241bb38d13ab05e524f0a6c98477cb7d23df1154cda6", func := "loop.example/g00676/laws.FnExactMul", spec := "fnExactMul", apart := false }
def FnExactMulSaid : Prop := fnExactMulRow.holds Try.pinned (OpenSpec.ofChange fnExactMulSpec)

/-- ITS FALSE NEIGHBOUR: 'it returns false'. Refute it at one input. -/
def fnExactMulWrong : ChangeSpec := { name := "fnExactMul", fn := fun _ => fun
  | [d1, d2] => { results := [.lit (.bool false)], args := [d1, d2] }
  | _ => none }
def FnExactMulWrongFalsely : Prop := fnExactMulRow.holds Try.pinned (OpenSpec.ofChange fnExactMulWrong)

/-- 'laws.FnExactDivMod': WHATEVER THE INPUT: true; the input reads as it did. -/
def fnExactDivModSpec : ChangeSpec := { name := "fnExactDivMod", fn := fun _ => fun
  | [d1, d2] => { results := [.lit (.bool true)], args := [d1, d2] }
  | _ => none }
def fnExactDivModRow : OpenClaim := { program := "ytkipaekgcpklcaa", sum := "88a9f6cebd5715e31c6e241bb38d13ab05e524f0a6c98477cb7d23df1154cda6", func := "loop.example/g00676/laws.FnExactDivMod", spec := "fnExactDivMod", named := ["math/bits.overflowError"], apart := false }
def FnExactDivModSaid : Prop := fnExactDivModRow.holds Try.pinned (OpenSpec.ofChange fnExactDivModSpec)

/-- ITS FALSE NEIGHBOUR: 'it returns false'. Refute it at one input. -/
def fnExactDivModWrong : ChangeSpec := { name := "fnExactDivMod", fn := fun _ => fun
  | [d1, d2] => { results := [.lit (.bool false)], args := [d1, d2] }
  | _ => none }
def FnExactDivModWrongFalsely : Prop := fnExactDivModRow.holds Try.pinned (OpenSpec.ofChange fnExactDivModWrong)

/-- 'laws.FnExactGcdInt': WHATEVER THE INPUT: true; the input reads as it did. -/
def fnExactGcdIntSpec : ChangeSpec := { name := "fnExactGcdInt", fn := fun _ => fun
  | [d1, d2] => { results := [.lit (.bool true)], args := [d1, d2] }
  | _ => none }
def fnExactGcdIntRow : OpenClaim := { program := "ytkipaekgcpklcaa", sum := "88a9f6cebd5715e31c6e241bb38d13ab05e524f0a6c98477cb7d23df1154cda6", func := "loop.example/g00676/laws.FnExactGcdInt", spec := "fnExactGcdInt", named := ["math/bits.overflowError"], apart := false }
def FnExactGcdIntSaid : Prop := fnExactGcdIntRow.holds Try.pinned (OpenSpec.ofChange fnExactGcdIntSpec)

/-- ITS FALSE NEIGHBOUR: 'it returns false'. Refute it at one input. -/
def fnExactGcdIntWrong : ChangeSpec := { name := "fnExactGcdInt", fn := fun _ => fun
  | [d1, d2] => { results := [.lit (.bool false)], args := [d1, d2] }
  | _ => none }
def FnExactGcdIntWrongFalsely : Prop := fnExactGcdIntRow.holds Try.pinned (OpenSpec.ofChange fnExactGcdIntWrong)

/-- 'laws.FnExactBezout': WHATEVER THE INPUT: true; the input reads as it did. -/
def fnExactBezoutSpec : ChangeSpec := { name := "fnExactBezout", fn := fun _ => fun
  | [d1, d2] => { results := [.lit (.bool true)], args := [d1, d2] }
  | _ => none }
def fnExactBezoutRow : OpenClaim := { program := "ytkipaekgcpklcaa", sum := "88a9f6cebd5715e31c6e241bb38d13ab05e524f0a6c98477cb7d23df1154cda6", func := "loop.example/g00676/laws.FnExactBezout", spec := "fnExactBezout", named := ["math/bits.overflowError"], apart := false }
def FnExactBezoutSaid : Prop := fnExactBezoutRow.holds Try.pinned (OpenSpec.ofChange fnExactBezoutSpec)

/-- ITS FALSE NEIGHBOUR: 'it returns false'. Refute it at one input. -/
def fnExactBezoutWrong : ChangeSpec := { name := "fnExactBezout", fn := fun _ => fun
  | [d1, d2] => { results := [.lit (.bool false)], args := [d1, d2] }
  | _ => none }
def FnExactBezoutWrongFalsely : Prop := fnExactBezoutRow.holds Try.pinned (OpenSpec.ofChange fnExactBezoutWrong)

/-- 'laws.FnExactPower': WHATEVER THE INPUT: true; the input reads as it did. -/
def fnExactPowerSpec : ChangeSpec := { name := "fnExactPower", fn := fun _ => fun
  | [d1, d2] => { results := [.lit (.bool true)], args := [d1, d2] }
  | _ => none }
def fnExactPowerRow : OpenClaim := { program := "ytkipaekgcpklcaa", sum := "88a9f6cebd5715e31c6e241bb38d13ab05e524f0a6c98477cb7d23df1154cda6", func := "loop.example/g00676/laws.FnExactPower", spec := "fnExactPower", apart := false }
def FnExactPowerSaid : Prop := fnExactPowerRow.holds Try.pinned (OpenSpec.ofChange fnExactPowerSpec)

/-- ITS FALSE NEIGHBOUR: 'it returns false'. Refute it at one input. -/
def fnExactPowerWrong : ChangeSpec := { name := "fnExactPower", fn := fun _ => fun
  | [d1, d2] => { results := [.lit (.bool false)], args := [d1, d2] }
  | _ => none }
def FnExactPowerWrongFalsely : Prop := fnExactPowerRow.holds Try.pinned (OpenSpec.ofChange fnExactPowerWrong)

/-- 'laws.FnExactRootInt': WHATEVER THE INPUT: true; the input reads as it did. -/
def fnExactRootIntSpec : ChangeSpec := { name := "fnExactRootInt", fn := fun _ => fun
  | [d1, d2] => { results := [.lit (.bool true)], args := [d1, d2] }
  | _ => none }
def fnExactRootIntRow : OpenClaim := { program := "ytkipaekgcpklcaa", sum := "88a9f6cebd5715e31c6e241bb38d13ab05e524f0a6c98477cb7d23df1154cda6", func := "loop.example/g00676/laws.FnExactRootInt", spec := "fnExactRootInt", named := ["math/bits.overflowError"], apart := false }
def FnExactRootIntSaid : Prop := fnExactRootIntRow.holds Try.pinned (OpenSpec.ofChange fnExactRootIntSpec)

/-- ITS FALSE NEIGHBOUR: 'it returns false'. Refute it at one input. -/
def fnExactRootIntWrong : ChangeSpec := { name := "fnExactRootInt", fn := fun _ => fun
  | [d1, d2] => { results := [.lit (.bool false)], args := [d1, d2] }
  | _ => none }
def FnExactRootIntWrongFalsely : Prop := fnExactRootIntRow.holds Try.pinned (OpenSpec.ofChange fnExactRootIntWrong)

/-- 'laws.FnExactBitLen': WHATEVER THE INPUT: true; the input reads as it did. -/
def fnExactBitLenSpec : ChangeSpec := { name := "fnExactBitLen", fn := fun _ => fun
  | [d] => { results := [.lit (.bool true)], args := [d] }
  | _ => none }
def fnExactBitLenRow : OpenClaim := { program := "ytkipaekgcpklcaa", sum := "88a9f6cebd5715e31c6e241bb38d13ab05e524f0a6c98477cb7d23df1154cda6", func := "loop.example/g00676/laws.FnExactBitLen", spec := "fnExactBitLen", apart := false }
def FnExactBitLenSaid : Prop := fnExactBitLenRow.holds Try.pinned (OpenSpec.ofChange fnExactBitLenSpec)

/-- ITS FALSE NEIGHBOUR: 'it returns false'. Refute it at one input. -/
def fnExactBitLenWrong : ChangeSpec := { name := "fnExactBitLen", fn := fun _ => fun
  | [d] => { results := [.lit (.bool false)], args := [d] }
  | _ => none }
def FnExactBitLenWrongFalsely : Prop := fnExactBitLenRow.holds Try.pinned (OpenSpec.ofChange fnExactBitLenWrong)

/-- 'laws.FnExactReadBig': WHATEVER THE INPUT: true; the input reads as it did. -/
def fnExactReadBigSpec : ChangeSpec := { name := "fnExactReadBig", fn := fun _ => fun
  | [d] => { results := [.lit (.bool true)], args := [d] }
  | _ => none }
def fnExactReadBigRow : OpenClaim := { program := "ytkipaekgcpklcaa", sum := "88a9f6cebd5715e31c6e241bb38d13ab05e524f0a6c98477cb7d23df1154cda6", func := "loop.example/g00676/laws.FnExactReadBig", spec := "fnExactReadBig", apart := false }
def FnExactReadBigSaid : Prop := fnExactReadBigRow.holds Try.pinned (OpenSpec.ofChange fnExactReadBigSpec)

/-- ITS FALSE NEIGHBOUR: 'it returns false'. Refute it at one input. -/
def fnExactReadBigWrong : ChangeSpec := { name := "fnExactReadBig", fn := fun _ => fun
  | [d] => { results := [.lit (.bool false)], args := [d] }
  | _ => none }
def FnExactReadBigWrongFalsely : Prop := fnExactReadBigRow.holds Try.pinned (OpenSpec.ofChange fnExactReadBigWrong)

/- THE SECOND FORM. 'bulk': how many values and letters a reading holds, each counted each time it is reached (what is shared counts as often as it is met; a slice's spare places count too). A statement '..UptoSaid' is the law's where the arguments, and the package variables that the reading takes, are together of bulk at most 1048576: NARROWER than '..Said'. Prove '..Said' where nothing that the law and all that it calls make is longer than what came in: it says more and counts as full. Else prove '..UptoSaid'. A law counts once. -/
mutual
def uptoBulk {H : Type} : DataW H → Nat
  | .lit (.string bytes) => bytes.length + 1
  | .lit _ => 1
  | .nil => 1
  | .ptr d => uptoBulk d + 1
  | .slice elems spare => uptoBulkAll elems + uptoBulkAll spare + 1
  | .agg parts => uptoBulkAll parts + 1
  | .iface _ d => uptoBulk d + 1
  | .map entries => uptoBulkEntries entries + 1
  | .held _ => 1
def uptoBulkAll {H : Type} : List (DataW H) → Nat
  | [] => 0
  | d :: r => uptoBulk d + uptoBulkAll r
def uptoBulkEntries {H : Type} : List (Lit × DataW H) → Nat
  | [] => 0
  | x :: r => uptoBulkEntry x + uptoBulkEntries r
def uptoBulkEntry {H : Type} : Lit × DataW H → Nat
  | (.string bytes, d) => bytes.length + uptoBulk d + 1
  | (_, d) => uptoBulk d + 1
 end
def uptoSmall : (H : Type) → List (DataW H) → Bool := fun _ ds => decide (uptoBulkAll ds ≤ 1048576)
def OpenSpec.upto (s : _root_.Go.ChangeSpec) : _root_.Go.OpenSpec := { _root_.Go.OpenSpec.ofChange s with cond := some uptoSmall }

/-- 'laws.FnPowers', WHERE WHAT IT READS IS OF BULK AT MOST 1048576: true; the input reads as it did. -/
def fnPowersUptoRow : OpenClaim := { program := "ytkipaekgcpklcaa", sum := "88a9f6cebd5715e31c6e241bb38d13ab05e524f0a6c98477cb7d23df1154cda6", func := "loop.example/g00676/laws.FnPowers", spec := "fnPowers", apart := false, narrowed := true }
def FnPowersUptoSaid : Prop := fnPowersUptoRow.holds Try.pinned (OpenSpec.upto fnPowersSpec)

/-- 'laws.FnBits', WHERE WHAT IT READS IS OF BULK AT MOST 1048576: true; the input reads as it did. -/
def fnBitsUptoRow : OpenClaim := { program := "ytkipaekgcpklcaa", sum := "88a9f6cebd5715e31c6e241bb38d13ab05e524f0a6c98477cb7d23df1154cda6", func := "loop.example/g00676/laws.FnBits", spec := "fnBits", apart := false, narrowed := true }
def FnBitsUptoSaid : Prop := fnBitsUptoRow.holds Try.pinned (OpenSpec.upto fnBitsSpec)

/-- 'laws.FnExactBigOk', WHERE WHAT IT READS IS OF BULK AT MOST 1048576: true; the input reads as it did. -/
def fnExactBigOkUptoRow : OpenClaim := { program := "ytkipaekgcpklcaa", sum := "88a9f6cebd5715e31c6e241bb38d13ab05e524f0a6c98477cb7d23df1154cda6", func := "loop.example/g00676/laws.FnExactBigOk", spec := "fnExactBigOk", apart := false, narrowed := true }
def FnExactBigOkUptoSaid : Prop := fnExactBigOkUptoRow.holds Try.pinned (OpenSpec.upto fnExactBigOkSpec)

/-- 'laws.FnExactFromInt', WHERE WHAT IT READS IS OF BULK AT MOST 1048576: true; the input reads as it did. -/
def fnExactFromIntUptoRow : OpenClaim := { program := "ytkipaekgcpklcaa", sum := "88a9f6cebd5715e31c6e241bb38d13ab05e524f0a6c98477cb7d23df1154cda6", func := "loop.example/g00676/laws.FnExactFromInt", spec := "fnExactFromInt", apart := false, narrowed := true }
def FnExactFromIntUptoSaid : Prop := fnExactFromIntUptoRow.holds Try.pinned (OpenSpec.upto fnExactFromIntSpec)

/-- 'laws.FnExactToInt', WHERE WHAT IT READS IS OF BULK AT MOST 1048576: true; the input reads as it did. -/
def fnExactToIntUptoRow : OpenClaim := { program := "ytkipaekgcpklcaa", sum := "88a9f6cebd5715e31c6e241bb38d13ab05e524f0a6c98477cb7d23df1154cda6", func := "loop.example/g00676/laws.FnExactToInt", spec := "fnExactToInt", apart := false, narrowed := true }
def FnExactToIntUptoSaid : Prop := fnExactToIntUptoRow.holds Try.pinned (OpenSpec.upto fnExactToIntSpec)

/-- 'laws.FnExactCmp', WHERE WHAT IT READS IS OF BULK AT MOST 1048576: true; the input reads as it did. -/
def fnExactCmpUptoRow : OpenClaim := { program := "ytkipaekgcpklcaa", sum := "88a9f6cebd5715e31c6e241bb38d13ab05e524f0a6c98477cb7d23df1154cda6", func := "loop.example/g00676/laws.FnExactCmp", spec := "fnExactCmp", apart := false, narrowed := true }
def FnExactCmpUptoSaid : Prop := fnExactCmpUptoRow.holds Try.pinned (OpenSpec.upto fnExactCmpSpec)

/-- 'laws.FnExactAdd', WHERE WHAT IT READS IS OF BULK AT MOST 1048576: true; the input reads as it did. -/
def fnExactAddUptoRow : OpenClaim := { program := "ytkipaekgcpklcaa", sum := "88a9f6cebd5715e31c6e241bb38d13ab05e524f0a6c98477cb7d23df1154cda6", func := "loop.example/g00676/laws.FnExactAdd", spec := "fnExactAdd", apart := false, narrowed := true }
def FnExactAddUptoSaid : Prop := fnExactAddUptoRow.holds Try.pinned (OpenSpec.upto fnExactAddSpec)

/-- 'laws.FnExactSub', WHERE WHAT IT READS IS OF BULK AT MOST 1048576: true; the input reads as it did. -/
def fnExactSubUptoRow : OpenClaim := { program := "ytkipaekgcpklcaa", sum := "88a9f6cebd5715e31c6e241bb38d13ab05e524f0a6c98477cb7d23df1154cda6", func := "loop.example/g00676/laws.FnExactSub", spec := "fnExactSub", apart := false, narrowed := true }
def FnExactSubUptoSaid : Prop := fnExactSubUptoRow.holds Try.pinned (OpenSpec.upto fnExactSubSpec)

/-- 'laws.FnExactMul', WHERE WHAT IT READS IS OF BULK AT MOST 1048576: true; the input reads as it did. -/
def fnExactMulUptoRow : OpenClaim := { program := "ytkipaekgcpklcaa", sum := "88a9f6cebd5715e31c6e241bb38d13ab05e524f0a6c98477cb7d23df1154cda6", func := "loop.example/g00676/laws.FnExactMul", spec := "fnExactMul", apart := false, narrowed := true }
def FnExactMulUptoSaid : Prop := fnExactMulUptoRow.holds Try.pinned (OpenSpec.upto fnExactMulSpec)

/-- 'laws.FnExactDivMod', WHERE WHAT IT READS IS OF BULK AT MOST 1048576: true; the input reads as it did. -/
def fnExactDivModUptoRow : OpenClaim := { program := "ytkipaekgcpklcaa", sum := "88a9f6cebd5715e31c6e241bb38d13ab05e524f0a6c98477cb7d23df1154cda6", func := "loop.example/g00676/laws.FnExactDivMod", spec := "fnExactDivMod", named := ["math/bits.overflowError"], apart := false, narrowed := true }
def FnExactDivModUptoSaid : Prop := fnExactDivModUptoRow.holds Try.pinned (OpenSpec.upto fnExactDivModSpec)

/-- 'laws.FnExactGcdInt', WHERE WHAT IT READS IS OF BULK AT MOST 1048576: true; the input reads as it did. -/
def fnExactGcdIntUptoRow : OpenClaim := { program := "ytkipaekgcpklcaa", sum := "88a9f6cebd5715e31c6e241bb38d13ab05e524f0a6c98477cb7d23df1154cda6", func := "loop.example/g00676/laws.FnExactGcdInt", spec := "fnExactGcdInt", named := ["math/bits.overflowError"], apart := false, narrowed := true }
def FnExactGcdIntUptoSaid : Prop := fnExactGcdIntUptoRow.holds Try.pinned (OpenSpec.upto fnExactGcdIntSpec)

/-- 'laws.FnExactBezout', WHERE WHAT IT READS IS OF BULK AT MOST 1048576: true; the input reads as it did. -/
def fnExactBezoutUptoRow : OpenClaim := { program := "ytkipaekgcpklcaa", sum := "88a9f6cebd5715e31c6e241bb38d13ab05e524f0a6c98477cb7d23df1154cda6", func := "loop.example/g00676/laws.FnExactBezout", spec := "fnExactBezout", named := ["math/bits.overflowError"], apart := false, narrowed := true }
def FnExactBezoutUptoSaid : Prop := fnExactBezoutUptoRow.holds Try.pinned (OpenSpec.upto fnExactBezoutSpec)

/-- 'laws.FnExactPower', WHERE WHAT IT READS IS OF BULK AT MOST 1048576: true; the input reads as it did. -/
def fnExactPowerUptoRow : OpenClaim := { program := "ytkipaekgcpklcaa", sum := "88a9f6cebd5715e31c6e241bb38d13ab05e524f0a6c98477cb7d23df1154cda6", func := "loop.example/g00676/laws.FnExactPower", spec := "fnExactPower", apart := false, narrowed := true }
def FnExactPowerUptoSaid : Prop := fnExactPowerUptoRow.holds Try.pinned (OpenSpec.upto fnExactPowerSpec)

/-- 'laws.FnExactRootInt', WHERE WHAT IT READS IS OF BULK AT MOST 1048576: true; the input reads as it did. -/
def fnExactRootIntUptoRow : OpenClaim := { program := "ytkipaekgcpklcaa", sum := "88a9f6cebd5715e31c6e241bb38d13ab05e524f0a6c98477cb7d23df1154cda6", func := "loop.example/g00676/laws.FnExactRootInt", spec := "fnExactRootInt", named := ["math/bits.overflowError"], apart := false, narrowed := true }
def FnExactRootIntUptoSaid : Prop := fnExactRootIntUptoRow.holds Try.pinned (OpenSpec.upto fnExactRootIntSpec)

/-- 'laws.FnExactBitLen', WHERE WHAT IT READS IS OF BULK AT MOST 1048576: true; the input reads as it did. -/
def fnExactBitLenUptoRow : OpenClaim := { program := "ytkipaekgcpklcaa", sum := "88a9f6cebd5715e31c6e241bb38d13ab05e524f0a6c98477cb7d23df1154cda6", func := "loop.example/g00676/laws.FnExactBitLen", spec := "fnExactBitLen", apart := false, narrowed := true }
def FnExactBitLenUptoSaid : Prop := fnExactBitLenUptoRow.holds Try.pinned (OpenSpec.upto fnExactBitLenSpec)

/-- 'laws.FnExactReadBig', WHERE WHAT IT READS IS OF BULK AT MOST 1048576: true; the input reads as it did. -/
def fnExactReadBigUptoRow : OpenClaim := { program := "ytkipaekgcpklcaa", sum := "88a9f6cebd5715e31c6e241bb38d13ab05e524f0a6c98477cb7d23df1154cda6", func := "loop.example/g00676/laws.FnExactReadBig", spec := "fnExactReadBig", apart := false, narrowed := true }
def FnExactReadBigUptoSaid : Prop := fnExactReadBigUptoRow.holds Try.pinned (OpenSpec.upto fnExactReadBigSpec)

end Rows
end Go.Proofs.Ytkipaekgcpklcaa
