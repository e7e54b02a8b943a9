/- Two arrays of eight held against each other as a whole. -/
import Derived.Test.YteeifaleneneeaaGreatDoorVTimes
import Derived.ChangeKeysEq
namespace Go.Proofs.YteeifaleneneeaaGreatDoor.V
open Go.RowKit
set_option linter.unusedVariables false
set_option maxRecDepth 20000

/-- two arrays of eight are alike -/
def eq8 (f g : Nat → Int) : Bool := (List.range 8).all fun j => f j == g j
theorem eq8_iff (f g : Nat → Int) : eq8 f g = true ↔ ∀ j, j < 8 → f j = g j := by
  unfold eq8; rw [List.all_eq_true]; simp
theorem eql_int' (d : Nat) (a b : Int) (w : World) : (Op.equalIn (d + 1) 3 (.int .i64 a) (.int .i64 b)).run Tryz.prog w = .ok (a == b) w := by
  simp [Op.equalIn, run_underlying Tryz.underlying3]
theorem eql_int (a b : Int) (w : World) : (Op.equalIn 9999 3 (.int .i64 a) (.int .i64 b)).run Tryz.prog w = .ok (a == b) w := eql_int' 9998 a b w
theorem eql_items (f g : Nat → Int) (xs ys : Array Value) (w : World) (hx : ∀ j, j < 8 → xs[j]? = some (.int .i64 (f j))) (hy : ∀ j, j < 8 → ys[j]? = some (.int .i64 (g j))) : ∀ is : List Nat, (∀ j ∈ is, j < 8) → (Op.eqItems 9999 3 1 xs ys is).run Tryz.prog w = .ok (is.all fun j => f j == g j) w
  | [], _ => by simp [Op.eqItems]
  | i :: is, h => by
    have h1 := run_part_plain (P := Tryz.prog) w (e := 3) (by kernel_rfl) (hx i (h i (by simp)))
    have h2 := run_part_plain (P := Tryz.prog) w (e := 3) (by kernel_rfl) (hy i (h i (by simp)))
    have ih := eql_items f g xs ys w hx hy is (fun j hj => h j (by simp [hj]))
    simp only [Op.eqItems, Sem.run_bind, Nat.mul_one, h1, h2, eql_int, Result.andThen_ok, List.all_cons]
    cases e : (f i == g i)
    · simp
    · simp [ih]
theorem eql8 (f g : Nat → Int) (w : World) : Sem.run Tryz.prog (Op.equalIn 10000 46 (Value.agg #[Value.int .i64 (f 0), Value.int .i64 (f 1), Value.int .i64 (f 2), Value.int .i64 (f 3), Value.int .i64 (f 4), Value.int .i64 (f 5), Value.int .i64 (f 6), Value.int .i64 (f 7)]) (Value.agg #[Value.int .i64 (g 0), Value.int .i64 (g 1), Value.int .i64 (g 2), Value.int .i64 (g 3), Value.int .i64 (g 4), Value.int .i64 (g 5), Value.int .i64 (g 6), Value.int .i64 (g 7)])) w = .ok (eq8 f g) w := by
  obtain ⟨i0, hi, hz0, hz1, hz2⟩ := info_parts Tryz.info3
  have h := run_equalIn_array (P := Tryz.prog) w 9999 (t := 46) (e := 3) (n := 8) #[Value.int .i64 (f 0), Value.int .i64 (f 1), Value.int .i64 (f 2), Value.int .i64 (f 3), Value.int .i64 (f 4), Value.int .i64 (f 5), Value.int .i64 (f 6), Value.int .i64 (f 7)] #[Value.int .i64 (g 0), Value.int .i64 (g 1), Value.int .i64 (g 2), Value.int .i64 (g 3), Value.int .i64 (g 4), Value.int .i64 (g 5), Value.int .i64 (g 6), Value.int .i64 (g 7)] Tryz.underlying46 hi
  refine h.trans ?_
  rw [show Tryz.prog.cellsOf 3 = 1 by kernel_rfl]
  refine eql_items f g _ _ w (fun j hj => ?_) (fun j hj => ?_) (List.range 8) (fun j hj => by simpa using hj)
  all_goals
    have : j = 0 ∨ j = 1 ∨ j = 2 ∨ j = 3 ∨ j = 4 ∨ j = 5 ∨ j = 6 ∨ j = 7 := by omega
    rcases this with rfl | rfl | rfl | rfl | rfl | rfl | rfl | rfl <;> rfl
end Go.Proofs.YteeifaleneneeaaGreatDoor.V
