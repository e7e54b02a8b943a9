/- A number's limbs, taken off its structure. -/
import Derived.Test.YtbnjgfaojaimlaaMake
namespace Go.Proofs.Ytbnjgfaojaimlaa
open Go.RowKit
theorem field_limbs (x y : Value) (w : World) (hy : ∃ a n c, y = .slice a n c) : Sem.run Try.prog (Instr.field 26 (.agg #[x, y]) 1) w = .ok y w := by
  obtain ⟨a, n, c, rfl⟩ := hy
  simp [Instr.field, go_sem, asAgg]


end Go.Proofs.Ytbnjgfaojaimlaa
