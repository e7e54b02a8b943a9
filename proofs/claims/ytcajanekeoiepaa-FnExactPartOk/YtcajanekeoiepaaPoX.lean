/- The walks of l06Power, powerFits and both PartOk. -/
import Derived.Test.YtcajanekeoiepaaNmN
import Derived.Test.YtcajanekeoiepaaGcN
namespace Go.Proofs.Ytcajanekeoiepaa
open Go.RowKit
set_option linter.unusedVariables false

def pwB (p q : Int) : Bool := decide (-12 ≤ p ∧ p ≤ 12) && (decide (1 ≤ q ∧ q ≤ 12) && decide (Int.gcd p q = 1))
def partB (s : ByteArray) (p q : Int) : Bool := nameOkB s && pwB p q
theorem inP (n a b : Int) (w : World) : Calls Try.prog 12 #[.int .i64 n, .int .i64 a, .int .i64 b] w fun e w' => e = .returned (.bool (decide (a ≤ n ∧ n ≤ b))) ∧ w' = w := by
  by_cases h1 : a ≤ n
  · by_cases h2 : n ≤ b
    · rw [decide_eq_true ⟨h1, h2⟩]
      go_enter Try.func12, Try.ntmps12
      go_wp2
      go_ret
      exact ⟨rfl, rfl⟩
    · rw [decide_eq_false (fun h => h2 h.2)]
      go_enter Try.func12, Try.ntmps12
      go_wp2
      go_ret
      exact ⟨rfl, rfl⟩
  · rw [decide_eq_false (fun h => h1 h.1)]
    go_enter Try.func12, Try.ntmps12
    go_wp2
    go_ret
    exact ⟨rfl, rfl⟩
theorem pw_1 {p q : Int} (h : ¬ (-12 ≤ p ∧ p ≤ 12)) : pwB p q = false := by unfold pwB; rw [decide_eq_false h, Bool.false_and]
theorem pw_2 {p q : Int} (h : ¬ (1 ≤ q ∧ q ≤ 12)) : pwB p q = false := by unfold pwB; rw [decide_eq_false h, Bool.false_and, Bool.and_false]
theorem pw_3 {p q : Int} (h1 : -12 ≤ p ∧ p ≤ 12) (h2 : 1 ≤ q ∧ q ≤ 12) : pwB p q = (((Int.gcd p q : Nat) : Int) == 1) := by
  unfold pwB
  rw [decide_eq_true h1, decide_eq_true h2, Bool.true_and, Bool.true_and, Bool.eq_iff_iff]
  simp only [decide_eq_true_eq, beq_iff_eq]
  omega

set_option maxHeartbeats 1000000 in
theorem powS (p q : Int) (w : World) :
    Calls Try.prog 9 #[.int .i64 p, .int .i64 q] w fun e w' => e = .returned (.bool (pwB p q)) ∧ ∃ n, w' = w.drewN n := by
  by_cases h1 : -12 ≤ p ∧ p ≤ 12
  · by_cases h2 : 1 ≤ q ∧ q ≤ 12
    · have HR := hide (pw_3 h1 h2)
      have D1 : Hid (decide (-12 ≤ p ∧ p ≤ 12) = true) := hide (decide_eq_true h1)
      have D2 : Hid (decide (1 ≤ q ∧ q ≤ 12) = true) := hide (decide_eq_true h2)
      go_enter Try.func9, Try.ntmps9
      go_wp2_with fail
      refine (inP p (-12) 12 _).mono ?_
      rw [D1.out]
      rintro e w1 ⟨rfl, hw⟩
      subst w1
      go_wp2_with fail
      refine (inP q 1 12 _).mono ?_
      rw [D2.out]
      rintro e w1 ⟨rfl, hw⟩
      subst w1
      go_wp2_with fail
      refine (gcdS_in p q _ (by omega) (by omega) (by omega) (by omega)).mono ?_
      rintro e w1 ⟨rfl, n, rfl⟩
      go_wp2
      go_ret
      exact ⟨ret_bool HR.out.symm, n, rfl⟩
    · have HR := hide (pw_2 (p := p) h2)
      have D1 : Hid (decide (-12 ≤ p ∧ p ≤ 12) = true) := hide (decide_eq_true h1)
      have D2 : Hid (decide (1 ≤ q ∧ q ≤ 12) = false) := hide (decide_eq_false h2)
      go_enter Try.func9, Try.ntmps9
      go_wp2_with fail
      refine (inP p (-12) 12 _).mono ?_
      rw [D1.out]
      rintro e w1 ⟨rfl, hw⟩
      subst w1
      go_wp2_with fail
      refine (inP q 1 12 _).mono ?_
      rw [D2.out]
      rintro e w1 ⟨rfl, hw⟩
      subst w1
      go_wp2
      go_ret
      exact ⟨ret_bool HR.out.symm, 0, rfl⟩
  · have HR := hide (pw_1 (q := q) h1)
    have D1 : Hid (decide (-12 ≤ p ∧ p ≤ 12) = false) := hide (decide_eq_false h1)
    go_enter Try.func9, Try.ntmps9
    go_wp2_with fail
    refine (inP p (-12) 12 _).mono ?_
    rw [D1.out]
    rintro e w1 ⟨rfl, hw⟩
    subst w1
    go_wp2
    go_ret
    exact ⟨ret_bool HR.out.symm, 0, rfl⟩

set_option maxHeartbeats 1000000 in
theorem powI (p q : Int) (w : World) :
    Calls Try.prog 11 #[.int .i64 p, .int .i64 q] w fun e w' => e = .returned (.bool (pwB p q)) ∧ ∃ n, w' = w.drewN n := by
  by_cases a1 : -12 ≤ p
  · by_cases a2 : p ≤ 12
    · by_cases a3 : 1 ≤ q
      · by_cases a4 : q ≤ 12
        · have HR := hide (pw_3 ⟨a1, a2⟩ ⟨a3, a4⟩)
          have d1 : decide (-12 ≤ p) = true := decide_eq_true a1
          have d2 : decide (p ≤ 12) = true := decide_eq_true a2
          have d3 : decide (1 ≤ q) = true := decide_eq_true a3
          have d4 : decide (q ≤ 12) = true := decide_eq_true a4
          go_enter Try.func11, Try.ntmps11
          go_wp2_with fail
          refine (gdI p q _ (by omega) (by omega) (by omega) (by omega)).mono ?_
          rintro e w1 ⟨rfl, n, rfl⟩
          go_wp2
          go_ret
          exact ⟨ret_bool HR.out.symm, n, rfl⟩
        · have HR := hide (pw_2 (p := p) (fun h => a4 h.2))
          have d1 : decide (-12 ≤ p) = true := decide_eq_true a1
          have d2 : decide (p ≤ 12) = true := decide_eq_true a2
          have d3 : decide (1 ≤ q) = true := decide_eq_true a3
          have d4 : decide (q ≤ 12) = false := decide_eq_false a4
          go_enter Try.func11, Try.ntmps11
          go_wp2
          go_ret
          exact ⟨ret_bool HR.out.symm, 0, rfl⟩
      · have HR := hide (pw_2 (p := p) (fun h => a3 h.1))
        have d1 : decide (-12 ≤ p) = true := decide_eq_true a1
        have d2 : decide (p ≤ 12) = true := decide_eq_true a2
        have d3 : decide (1 ≤ q) = false := decide_eq_false a3
        go_enter Try.func11, Try.ntmps11
        go_wp2
        go_ret
        exact ⟨ret_bool HR.out.symm, 0, rfl⟩
    · have HR := hide (pw_1 (q := q) (fun h => a2 h.2))
      have d1 : decide (-12 ≤ p) = true := decide_eq_true a1
      have d2 : decide (p ≤ 12) = false := decide_eq_false a2
      go_enter Try.func11, Try.ntmps11
      go_wp2
      go_ret
      exact ⟨ret_bool HR.out.symm, 0, rfl⟩
  · have HR := hide (pw_1 (q := q) (fun h => a1 h.1))
    have d1 : decide (-12 ≤ p) = false := decide_eq_false a1
    go_enter Try.func11, Try.ntmps11
    go_wp2
    go_ret
    exact ⟨ret_bool HR.out.symm, 0, rfl⟩
set_option maxHeartbeats 1000000 in
theorem partS (s : ByteArray) (p q : Int) (w : World) (hs : s.size ≤ 140737488355328) :
    Calls Try.prog 5 #[Value.agg #[Value.string s, Value.int .i64 p, Value.int .i64 q]] w fun e w' => e = .returned (.bool (partB s p q)) ∧ Below w.heap.size w w' := by
  have ka0 : (w.alloc (Obj.cells #[Value.string s, Value.int .i64 p, Value.int .i64 q] 26)).cell? ⟨w.heap.size, 0, none⟩ = some (Value.string s) := by go_simp
  have ka1 : (w.alloc (Obj.cells #[Value.string s, Value.int .i64 p, Value.int .i64 q] 26)).cell? ⟨w.heap.size, 1, none⟩ = some (Value.int .i64 p) := by go_simp
  have ka2 : (w.alloc (Obj.cells #[Value.string s, Value.int .i64 p, Value.int .i64 q] 26)).cell? ⟨w.heap.size, 2, none⟩ = some (Value.int .i64 q) := by go_simp
  have zr : w.heap.size < (w.alloc (Obj.cells #[Value.string s, Value.int .i64 p, Value.int .i64 q] 26)).heap.size := by simp only [World.size_alloc]; omega
  have HB := hide (bl_alloc (bl_refl w) (Obj.cells #[Value.string s, Value.int .i64 p, Value.int .i64 q] 26))
  go_enter Try.func5, Try.ntmps5
  go_wp2_with fail
  generalize (w.alloc (Obj.cells #[Value.string s, Value.int .i64 p, Value.int .i64 q] 26)) = w1 at *
  have z0 := zr
  cases hn : nameOkB s with
  | false =>
    have HN := hide hn
    have HR : Hid (partB s p q = false) := hide (by unfold partB; rw [hn]; rfl)
    clear hn
    refine (nameS s _ hs).mono ?_
    rw [HN.out]
    rintro e w2 ⟨rfl, n2, rfl⟩
    have hb := below_drewN (bl_refl w1) n2
    go_wp2
    go_ret
    exact ⟨ret_bool HR.out.symm, bl_trans HB.out hb⟩
  | true =>
    have HN := hide hn
    have HR : Hid (partB s p q = pwB p q) := hide (by unfold partB; rw [hn]; rfl)
    clear hn
    refine (nameS s _ hs).mono ?_
    rw [HN.out]
    rintro e w2 ⟨rfl, n2, rfl⟩
    have hb := below_drewN (bl_refl w1) n2
    replace ka0 := (hb.cell (p := ⟨w.heap.size, 0, none⟩) (by dsimp only; omega)).trans ka0
    replace ka1 := (hb.cell (p := ⟨w.heap.size, 1, none⟩) (by dsimp only; omega)).trans ka1
    replace ka2 := (hb.cell (p := ⟨w.heap.size, 2, none⟩) (by dsimp only; omega)).trans ka2
    replace HB := hide (bl_trans HB.out hb)
    clear hb
    generalize w1.drewN n2 = w2 at *
    go_wp2_with fail
    refine (powS p q _).mono ?_
    rintro e w3 ⟨rfl, n3, rfl⟩
    have hb := below_drewN (bl_refl w2) n3
    go_wp2
    go_ret
    exact ⟨ret_bool HR.out.symm, bl_trans HB.out hb⟩

set_option maxHeartbeats 1000000 in
theorem partI (s : ByteArray) (p q : Int) (w : World) (hs : s.size ≤ 140737488355328) :
    Calls Try.prog 7 #[Value.agg #[Value.string s, Value.int .i64 p, Value.int .i64 q]] w fun e w' => e = .returned (.bool (partB s p q)) ∧ Below w.heap.size w w' := by
  have ka0 : (w.alloc (Obj.cells #[Value.string s, Value.int .i64 p, Value.int .i64 q] 26)).cell? ⟨w.heap.size, 0, none⟩ = some (Value.string s) := by go_simp
  have ka1 : (w.alloc (Obj.cells #[Value.string s, Value.int .i64 p, Value.int .i64 q] 26)).cell? ⟨w.heap.size, 1, none⟩ = some (Value.int .i64 p) := by go_simp
  have ka2 : (w.alloc (Obj.cells #[Value.string s, Value.int .i64 p, Value.int .i64 q] 26)).cell? ⟨w.heap.size, 2, none⟩ = some (Value.int .i64 q) := by go_simp
  have zr : w.heap.size < (w.alloc (Obj.cells #[Value.string s, Value.int .i64 p, Value.int .i64 q] 26)).heap.size := by simp only [World.size_alloc]; omega
  have HB := hide (bl_alloc (bl_refl w) (Obj.cells #[Value.string s, Value.int .i64 p, Value.int .i64 q] 26))
  go_enter Try.func7, Try.ntmps7
  go_wp2_with fail
  generalize (w.alloc (Obj.cells #[Value.string s, Value.int .i64 p, Value.int .i64 q] 26)) = w1 at *
  have z0 := zr
  cases hn : nameOkB s with
  | false =>
    have HN := hide hn
    have HR : Hid (partB s p q = false) := hide (by unfold partB; rw [hn]; rfl)
    clear hn
    refine (nameI s _ hs).mono ?_
    rw [HN.out]
    rintro e w2 ⟨rfl, hb⟩
    go_wp2
    go_ret
    exact ⟨ret_bool HR.out.symm, bl_trans HB.out hb⟩
  | true =>
    have HN := hide hn
    have HR : Hid (partB s p q = pwB p q) := hide (by unfold partB; rw [hn]; rfl)
    clear hn
    refine (nameI s _ hs).mono ?_
    rw [HN.out]
    rintro e w2 ⟨rfl, hb⟩
    replace ka0 := (hb.cell (p := ⟨w.heap.size, 0, none⟩) (by dsimp only; omega)).trans ka0
    replace ka1 := (hb.cell (p := ⟨w.heap.size, 1, none⟩) (by dsimp only; omega)).trans ka1
    replace ka2 := (hb.cell (p := ⟨w.heap.size, 2, none⟩) (by dsimp only; omega)).trans ka2
    replace HB := hide (bl_trans HB.out hb)
    clear hb
    go_wp2_with fail
    refine (powI p q _).mono ?_
    rintro e w3 ⟨rfl, n3, rfl⟩
    have hb := below_drewN (bl_refl w2) n3
    go_wp2
    go_ret
    exact ⟨ret_bool HR.out.symm, bl_trans HB.out hb⟩


end Go.Proofs.Ytcajanekeoiepaa
