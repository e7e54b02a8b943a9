/-
  DERIVED. GIVEN WITH THE SEED: THE CARDS: each row of YtgoblagpnioflaaDoorRows.lean that lists a variable, with what it lists TIED to the program's text (the seventh form; the later family's looks); each row that meets fmt, with fmt's text TOLD by the authors' own Lean function (tested against real Go, not proved from fmt's source: count such statements apart). THE CARD IS WHAT COUNTS. Prove the row's statement (the work); the ties are given (YtgoblagpnioflaaDoorTie.lean); close each card by the builder's one call (the guide's Derived/Test/ToyasCard.lean, 'card_holds'). Laid BY PROGRAM, IN A SANDBOX (cutbox-door.mjs). By AI agents, Wed Nov 11 2026. No macro, syntax, notation, axiom, sorry.
-/
import Derived.Test.YtgoblagpnioflaaDoorRows
import GoSem.ClaimSeven
namespace Go.Proofs.YtgoblagpnioflaaDoor
namespace Rows

/-- THE TIED CARD OF 'laws.FnBigText'. -/
def fnBigTextCard : Claim7 := { stood := { row := fnBigTextRow, standIns := [], harness := (true, "d1ee672812e2e66064a372dca69926ba3d310929c7586de1a433698a467a7438"), looks := false }, kinds := [], alts := [], laidByText := true, laidKinds := [.data, .data, .data], laidTests := true, laidLooks := .later }
def FnBigTextCardSaid : Prop := Claim7.holds Tryd.pinned (.plain (OpenSpec.ofChange fnBigTextSpec)) fnBigTextCard

/-- THE SECOND FORM's CARD OF 'laws.FnBigText'. -/
def fnBigTextUptoCard : Claim7 := { stood := { row := fnBigTextUptoRow, standIns := [], harness := (true, "d1ee672812e2e66064a372dca69926ba3d310929c7586de1a433698a467a7438"), looks := false }, kinds := [], alts := [], laidByText := true, laidKinds := [.data, .data, .data], laidTests := true, laidLooks := .later }
def FnBigTextUptoCardSaid : Prop := Claim7.holds Tryd.pinned (.plain (OpenSpec.upto fnBigTextSpec)) fnBigTextUptoCard
end Rows
end Go.Proofs.YtgoblagpnioflaaDoor
