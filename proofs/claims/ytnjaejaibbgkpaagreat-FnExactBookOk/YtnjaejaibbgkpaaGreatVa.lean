/- Both VarAt: where the first measure with a name stands. -/
import Derived.Test.YtnjaejaibbgkpaaGreatPk14
import Derived.WideShapes
namespace Go.Proofs.YtnjaejaibbgkpaaGreat
open Go.RowKit
set_option linter.unusedVariables false
set_option maxRecDepth 20000

theorem txt_ne {a b : ByteArray} (h : ¬ a = b) : (a.toList == b.toList) = false := by
  rw [beq_eq_false_iff_ne]
  intro e
  rw [ByteArray.toList_eq, ByteArray.toList_eq] at e
  exact h (Go.WideShapes.bytes_inj e)
theorem txt_eq {a b : ByteArray} (h : a = b) : (a.toList == b.toList) = true := by rw [h]; simp
/-- the name of a record -/
def nmOf : List Lf → ByteArray
  | .t s :: _ => s
  | _ => ⟨#[]⟩
/-- the first place of a name, from k on -/
def vAt (nm : ByteArray) : List (List Lf) → Nat → Int
  | [], _ => -1
  | r :: rs, k => if nmOf r = nm then k else vAt nm rs (k + 1)
theorem vAt_step (nm : ByteArray) (rs : List (List Lf)) (k : Nat) (h : k < rs.length) : vAt nm (rs.drop k) k = if nmOf rs[k] = nm then (k : Int) else vAt nm (rs.drop (k + 1)) (k + 1) := by
  rw [List.drop_eq_getElem_cons h]; rfl
theorem vAt_end (nm : ByteArray) (rs : List (List Lf)) (k : Nat) (h : rs.length ≤ k) : vAt nm (rs.drop k) k = -1 := by
  rw [List.drop_eq_nil_of_le h]; rfl

end Go.Proofs.YtnjaejaibbgkpaaGreat
