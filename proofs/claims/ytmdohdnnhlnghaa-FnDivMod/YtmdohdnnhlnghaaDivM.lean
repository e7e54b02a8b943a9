/- The walks of both DivMod. -/
import Derived.Test.YtmdohdnnhlnghaaDivS
import Derived.Test.YtmdohdnnhlnghaaOk
import Derived.Test.YtmdohdnnhlnghaaCmpB
namespace Go.Proofs.Ytmdohdnnhlnghaa
open Go.RowKit
set_option linter.unusedVariables false

def dvT (n1 : Bool) (xs : List Nat) (n2 : Bool) (ys : List Nat) : Bool := okB n1 xs && okB n2 ys && decide (mk n2 (Num.nat ys) ≠ 0)
def dvQ (n1 : Bool) (xs : List Nat) (n2 : Bool) (ys : List Nat) : Int := if dvT n1 xs n2 ys then mk n1 (Num.nat xs) / mk n2 (Num.nat ys) else 0
def dvR (n1 : Bool) (xs : List Nat) (n2 : Bool) (ys : List Nat) : Int := if dvT n1 xs n2 ys then mk n1 (Num.nat xs) % mk n2 (Num.nat ys) else 0
theorem mod_abs_le (x : Int) {y : Int} (h : y ≠ 0) : (x % y).natAbs ≤ y.natAbs := by
  have h1 := Int.emod_nonneg x h
  have h2 := Int.emod_lt x h
  omega
theorem div_abs_le (x y : Int) : (x / y).natAbs ≤ x.natAbs := by
  by_cases hy : y = 0
  · subst hy; simp
  by_cases hx : x < 0
  · by_cases hm : x.natAbs % y.natAbs = 0
    · rw [(div_same x y hy (.inr hm)).1, mk_abs]; exact Nat.div_le_self _ _
    · rw [(div_more x y hy hx hm).1, mk_abs]
      have h1 : 2 ≤ y.natAbs := by
        refine Nat.le_of_not_lt fun h => hm ?_
        have : y.natAbs = 1 := by omega
        rw [this]; exact Nat.mod_one _
      have h2 := Nat.div_add_mod x.natAbs y.natAbs
      have h3 : 2 * (x.natAbs / y.natAbs) ≤ y.natAbs * (x.natAbs / y.natAbs) := Nat.mul_le_mul_right _ h1
      omega
  · rw [(div_same x y hy (.inl (by omega))).1, mk_abs]; exact Nat.div_le_self _ _

set_option maxHeartbeats 4000000 in
set_option maxRecDepth 20000 in
theorem DivModP (v1 v2 : Value) (n1 n2 : Bool) (xs ys : List Nat) (w : World) (h1 : Raw w v1 n1 xs) (h2 : Raw w v2 n2 ys) :
    Calls Try.prog 12 #[v1, v2] w fun e w' => ∃ a1 c1 a2 c2, e = .returned (.tuple #[.agg #[.bool (sgn (dvQ n1 xs n2 ys)), .slice a1 (lms (dvQ n1 xs n2 ys)).length c1], .agg #[.bool (sgn (dvR n1 xs n2 ys)), .slice a2 (lms (dvR n1 xs n2 ys)).length c2], .bool (dvT n1 xs n2 ys)]) ∧ Own w' w.heap.size a1 (lms (dvQ n1 xs n2 ys)).length c1 (lms (dvQ n1 xs n2 ys)) ∧ Own w' w.heap.size a2 (lms (dvR n1 xs n2 ys)).length c2 (lms (dvR n1 xs n2 ys)) ∧ Apart a1 a2 ∧ Below w.heap.size w w' := by
  obtain ⟨a, ca, rfl, ha⟩ := h1
  obtain ⟨b, cb, rfl, hb⟩ := h2
  have HA := hide ha
  have HBB := hide hb
  clear ha hb
  have kA0 : ((((w.alloc (Obj.cells #[Value.bool n1, Value.slice a xs.length ca] 26)).alloc (Obj.cells #[Value.bool n2, Value.slice b ys.length cb] 26)).alloc (Obj.cells #[Value.bool false, Value.slice none 0 0] 26)).alloc (Obj.cells #[Value.bool false, Value.slice none 0 0] 26)).cell? ⟨w.heap.size, 0, none⟩ = some (Value.bool n1) := by go_simp
  have kA1 : ((((w.alloc (Obj.cells #[Value.bool n1, Value.slice a xs.length ca] 26)).alloc (Obj.cells #[Value.bool n2, Value.slice b ys.length cb] 26)).alloc (Obj.cells #[Value.bool false, Value.slice none 0 0] 26)).alloc (Obj.cells #[Value.bool false, Value.slice none 0 0] 26)).cell? ⟨w.heap.size, 1, none⟩ = some (Value.slice a xs.length ca) := by go_simp
  have zA : w.heap.size < ((((w.alloc (Obj.cells #[Value.bool n1, Value.slice a xs.length ca] 26)).alloc (Obj.cells #[Value.bool n2, Value.slice b ys.length cb] 26)).alloc (Obj.cells #[Value.bool false, Value.slice none 0 0] 26)).alloc (Obj.cells #[Value.bool false, Value.slice none 0 0] 26)).heap.size := by simp only [World.size_alloc]; omega
  have kB0 : ((((w.alloc (Obj.cells #[Value.bool n1, Value.slice a xs.length ca] 26)).alloc (Obj.cells #[Value.bool n2, Value.slice b ys.length cb] 26)).alloc (Obj.cells #[Value.bool false, Value.slice none 0 0] 26)).alloc (Obj.cells #[Value.bool false, Value.slice none 0 0] 26)).cell? ⟨w.heap.size + 1, 0, none⟩ = some (Value.bool n2) := by go_simp
  have kB1 : ((((w.alloc (Obj.cells #[Value.bool n1, Value.slice a xs.length ca] 26)).alloc (Obj.cells #[Value.bool n2, Value.slice b ys.length cb] 26)).alloc (Obj.cells #[Value.bool false, Value.slice none 0 0] 26)).alloc (Obj.cells #[Value.bool false, Value.slice none 0 0] 26)).cell? ⟨w.heap.size + 1, 1, none⟩ = some (Value.slice b ys.length cb) := by go_simp
  have zB : w.heap.size + 1 < ((((w.alloc (Obj.cells #[Value.bool n1, Value.slice a xs.length ca] 26)).alloc (Obj.cells #[Value.bool n2, Value.slice b ys.length cb] 26)).alloc (Obj.cells #[Value.bool false, Value.slice none 0 0] 26)).alloc (Obj.cells #[Value.bool false, Value.slice none 0 0] 26)).heap.size := by simp only [World.size_alloc]; omega
  have kR0 : ((((w.alloc (Obj.cells #[Value.bool n1, Value.slice a xs.length ca] 26)).alloc (Obj.cells #[Value.bool n2, Value.slice b ys.length cb] 26)).alloc (Obj.cells #[Value.bool false, Value.slice none 0 0] 26)).alloc (Obj.cells #[Value.bool false, Value.slice none 0 0] 26)).cell? ⟨w.heap.size + 1 + 1, 0, none⟩ = some (Value.bool false) := by go_simp
  have fR0 : ((((w.alloc (Obj.cells #[Value.bool n1, Value.slice a xs.length ca] 26)).alloc (Obj.cells #[Value.bool n2, Value.slice b ys.length cb] 26)).alloc (Obj.cells #[Value.bool false, Value.slice none 0 0] 26)).alloc (Obj.cells #[Value.bool false, Value.slice none 0 0] 26)).frozen? ⟨w.heap.size + 1 + 1, 0, none⟩ = false := by go_simp
  have kR1 : ((((w.alloc (Obj.cells #[Value.bool n1, Value.slice a xs.length ca] 26)).alloc (Obj.cells #[Value.bool n2, Value.slice b ys.length cb] 26)).alloc (Obj.cells #[Value.bool false, Value.slice none 0 0] 26)).alloc (Obj.cells #[Value.bool false, Value.slice none 0 0] 26)).cell? ⟨w.heap.size + 1 + 1, 1, none⟩ = some (Value.slice none 0 0) := by go_simp
  have fR1 : ((((w.alloc (Obj.cells #[Value.bool n1, Value.slice a xs.length ca] 26)).alloc (Obj.cells #[Value.bool n2, Value.slice b ys.length cb] 26)).alloc (Obj.cells #[Value.bool false, Value.slice none 0 0] 26)).alloc (Obj.cells #[Value.bool false, Value.slice none 0 0] 26)).frozen? ⟨w.heap.size + 1 + 1, 1, none⟩ = false := by go_simp
  have zR : w.heap.size + 1 + 1 < ((((w.alloc (Obj.cells #[Value.bool n1, Value.slice a xs.length ca] 26)).alloc (Obj.cells #[Value.bool n2, Value.slice b ys.length cb] 26)).alloc (Obj.cells #[Value.bool false, Value.slice none 0 0] 26)).alloc (Obj.cells #[Value.bool false, Value.slice none 0 0] 26)).heap.size := by simp only [World.size_alloc]; omega
  have kT0 : ((((w.alloc (Obj.cells #[Value.bool n1, Value.slice a xs.length ca] 26)).alloc (Obj.cells #[Value.bool n2, Value.slice b ys.length cb] 26)).alloc (Obj.cells #[Value.bool false, Value.slice none 0 0] 26)).alloc (Obj.cells #[Value.bool false, Value.slice none 0 0] 26)).cell? ⟨w.heap.size + 1 + 1 + 1, 0, none⟩ = some (Value.bool false) := by go_simp
  have fT0 : ((((w.alloc (Obj.cells #[Value.bool n1, Value.slice a xs.length ca] 26)).alloc (Obj.cells #[Value.bool n2, Value.slice b ys.length cb] 26)).alloc (Obj.cells #[Value.bool false, Value.slice none 0 0] 26)).alloc (Obj.cells #[Value.bool false, Value.slice none 0 0] 26)).frozen? ⟨w.heap.size + 1 + 1 + 1, 0, none⟩ = false := by go_simp
  have kT1 : ((((w.alloc (Obj.cells #[Value.bool n1, Value.slice a xs.length ca] 26)).alloc (Obj.cells #[Value.bool n2, Value.slice b ys.length cb] 26)).alloc (Obj.cells #[Value.bool false, Value.slice none 0 0] 26)).alloc (Obj.cells #[Value.bool false, Value.slice none 0 0] 26)).cell? ⟨w.heap.size + 1 + 1 + 1, 1, none⟩ = some (Value.slice none 0 0) := by go_simp
  have fT1 : ((((w.alloc (Obj.cells #[Value.bool n1, Value.slice a xs.length ca] 26)).alloc (Obj.cells #[Value.bool n2, Value.slice b ys.length cb] 26)).alloc (Obj.cells #[Value.bool false, Value.slice none 0 0] 26)).alloc (Obj.cells #[Value.bool false, Value.slice none 0 0] 26)).frozen? ⟨w.heap.size + 1 + 1 + 1, 1, none⟩ = false := by go_simp
  have zT : w.heap.size + 1 + 1 + 1 < ((((w.alloc (Obj.cells #[Value.bool n1, Value.slice a xs.length ca] 26)).alloc (Obj.cells #[Value.bool n2, Value.slice b ys.length cb] 26)).alloc (Obj.cells #[Value.bool false, Value.slice none 0 0] 26)).alloc (Obj.cells #[Value.bool false, Value.slice none 0 0] 26)).heap.size := by simp only [World.size_alloc]; omega
  have HB := hide (bl_alloc (bl_alloc (bl_alloc (bl_alloc (bl_refl w) (Obj.cells #[Value.bool n1, Value.slice a xs.length ca] 26)) (Obj.cells #[Value.bool n2, Value.slice b ys.length cb] 26)) (Obj.cells #[Value.bool false, Value.slice none 0 0] 26)) (Obj.cells #[Value.bool false, Value.slice none 0 0] 26))
  replace HA := hide (HA.out.below HB.out)
  replace HBB := hide (HBB.out.below HB.out)
  have y0 : w.heap.size + 4 ≤ ((((w.alloc (Obj.cells #[Value.bool n1, Value.slice a xs.length ca] 26)).alloc (Obj.cells #[Value.bool n2, Value.slice b ys.length cb] 26)).alloc (Obj.cells #[Value.bool false, Value.slice none 0 0] 26)).alloc (Obj.cells #[Value.bool false, Value.slice none 0 0] 26)).heap.size := by simp only [World.size_alloc]; omega
  go_enter Try.func12, Try.ntmps12
  go_wp2_with fail
  generalize ((((w.alloc (Obj.cells #[Value.bool n1, Value.slice a xs.length ca] 26)).alloc (Obj.cells #[Value.bool n2, Value.slice b ys.length cb] 26)).alloc (Obj.cells #[Value.bool false, Value.slice none 0 0] 26)).alloc (Obj.cells #[Value.bool false, Value.slice none 0 0] 26)) = w1 at *
  refine (okI _ n1 xs _ ⟨a, ca, rfl, HA.out⟩).mono ?_
  rintro e w2 ⟨rfl, hbw2⟩
  have yw2 := hbw2.size
  replace kA0 := (hbw2.cell (p := ⟨w.heap.size, 0, none⟩) zA).trans kA0
  replace kA1 := (hbw2.cell (p := ⟨w.heap.size, 1, none⟩) zA).trans kA1
  replace zA := Nat.lt_of_lt_of_le zA hbw2.size
  replace kB0 := (hbw2.cell (p := ⟨w.heap.size + 1, 0, none⟩) zB).trans kB0
  replace kB1 := (hbw2.cell (p := ⟨w.heap.size + 1, 1, none⟩) zB).trans kB1
  replace zB := Nat.lt_of_lt_of_le zB hbw2.size
  replace kR0 := (hbw2.cell (p := ⟨w.heap.size + 1 + 1, 0, none⟩) zR).trans kR0
  replace fR0 := (hbw2.frozen (p := ⟨w.heap.size + 1 + 1, 0, none⟩) zR).trans fR0
  replace kR1 := (hbw2.cell (p := ⟨w.heap.size + 1 + 1, 1, none⟩) zR).trans kR1
  replace fR1 := (hbw2.frozen (p := ⟨w.heap.size + 1 + 1, 1, none⟩) zR).trans fR1
  replace zR := Nat.lt_of_lt_of_le zR hbw2.size
  replace kT0 := (hbw2.cell (p := ⟨w.heap.size + 1 + 1 + 1, 0, none⟩) zT).trans kT0
  replace fT0 := (hbw2.frozen (p := ⟨w.heap.size + 1 + 1 + 1, 0, none⟩) zT).trans fT0
  replace kT1 := (hbw2.cell (p := ⟨w.heap.size + 1 + 1 + 1, 1, none⟩) zT).trans kT1
  replace fT1 := (hbw2.frozen (p := ⟨w.heap.size + 1 + 1 + 1, 1, none⟩) zT).trans fT1
  replace zT := Nat.lt_of_lt_of_le zT hbw2.size
  replace HA := hide (HA.out.below hbw2)
  replace HBB := hide (HBB.out.below hbw2)
  replace HB := hide (bl_trans HB.out hbw2)
  clear hbw2
  cases e1 : okB n1 xs with
  | false =>
    have HT : Hid (dvT n1 xs n2 ys = false) := hide (by unfold dvT; rw [e1]; rfl)
    have HQ : Hid (dvQ n1 xs n2 ys = 0) := hide (by unfold dvQ; rw [HT.out]; rfl)
    have HR : Hid (dvR n1 xs n2 ys = 0) := hide (by unfold dvR; rw [HT.out]; rfl)
    clear e1
    go_wp2
    refine bodyPost_ret (v := .tuple #[.agg #[.bool false, .slice none 0 0], .agg #[.bool false, .slice none 0 0], .bool false]) (by simp [results, Try.results12, go_sem, kR0, kR1, kT0, kT1]) rfl ?_
    rw [HT.out, HQ.out, HR.out, zero_sgn, zero_lms]
    exact ⟨none, 0, none, 0, rfl, Own.nil _ _, Own.nil _ _, Apart.none _, (((HB.out.setCell (p := ⟨w.heap.size + 1 + 1, 0, none⟩) (by dsimp only; omega) _).setCell (p := ⟨w.heap.size + 1 + 1, 1, none⟩) (by dsimp only; omega) _).setCell (p := ⟨w.heap.size + 1 + 1 + 1, 0, none⟩) (by dsimp only; omega) _).setCell (p := ⟨w.heap.size + 1 + 1 + 1, 1, none⟩) (by dsimp only; omega) _⟩
  | true =>
  have E1 := hide e1
  clear e1
  go_wp2_with fail
  refine (okI _ n2 ys _ ⟨b, cb, rfl, HBB.out⟩).mono ?_
  rintro e w3 ⟨rfl, hbw3⟩
  have yw3 := hbw3.size
  replace kA0 := (hbw3.cell (p := ⟨w.heap.size, 0, none⟩) zA).trans kA0
  replace kA1 := (hbw3.cell (p := ⟨w.heap.size, 1, none⟩) zA).trans kA1
  replace zA := Nat.lt_of_lt_of_le zA hbw3.size
  replace kB0 := (hbw3.cell (p := ⟨w.heap.size + 1, 0, none⟩) zB).trans kB0
  replace kB1 := (hbw3.cell (p := ⟨w.heap.size + 1, 1, none⟩) zB).trans kB1
  replace zB := Nat.lt_of_lt_of_le zB hbw3.size
  replace kR0 := (hbw3.cell (p := ⟨w.heap.size + 1 + 1, 0, none⟩) zR).trans kR0
  replace fR0 := (hbw3.frozen (p := ⟨w.heap.size + 1 + 1, 0, none⟩) zR).trans fR0
  replace kR1 := (hbw3.cell (p := ⟨w.heap.size + 1 + 1, 1, none⟩) zR).trans kR1
  replace fR1 := (hbw3.frozen (p := ⟨w.heap.size + 1 + 1, 1, none⟩) zR).trans fR1
  replace zR := Nat.lt_of_lt_of_le zR hbw3.size
  replace kT0 := (hbw3.cell (p := ⟨w.heap.size + 1 + 1 + 1, 0, none⟩) zT).trans kT0
  replace fT0 := (hbw3.frozen (p := ⟨w.heap.size + 1 + 1 + 1, 0, none⟩) zT).trans fT0
  replace kT1 := (hbw3.cell (p := ⟨w.heap.size + 1 + 1 + 1, 1, none⟩) zT).trans kT1
  replace fT1 := (hbw3.frozen (p := ⟨w.heap.size + 1 + 1 + 1, 1, none⟩) zT).trans fT1
  replace zT := Nat.lt_of_lt_of_le zT hbw3.size
  replace HA := hide (HA.out.below hbw3)
  replace HBB := hide (HBB.out.below hbw3)
  replace HB := hide (bl_trans HB.out hbw3)
  clear hbw3
  cases e2 : okB n2 ys with
  | false =>
    have HT : Hid (dvT n1 xs n2 ys = false) := hide (by unfold dvT; rw [e2, Bool.and_false]; rfl)
    have HQ : Hid (dvQ n1 xs n2 ys = 0) := hide (by unfold dvQ; rw [HT.out]; rfl)
    have HR : Hid (dvR n1 xs n2 ys = 0) := hide (by unfold dvR; rw [HT.out]; rfl)
    clear e2
    go_wp2
    refine bodyPost_ret (v := .tuple #[.agg #[.bool false, .slice none 0 0], .agg #[.bool false, .slice none 0 0], .bool false]) (by simp [results, Try.results12, go_sem, kR0, kR1, kT0, kT1]) rfl ?_
    rw [HT.out, HQ.out, HR.out, zero_sgn, zero_lms]
    exact ⟨none, 0, none, 0, rfl, Own.nil _ _, Own.nil _ _, Apart.none _, (((HB.out.setCell (p := ⟨w.heap.size + 1 + 1, 0, none⟩) (by dsimp only; omega) _).setCell (p := ⟨w.heap.size + 1 + 1, 1, none⟩) (by dsimp only; omega) _).setCell (p := ⟨w.heap.size + 1 + 1 + 1, 0, none⟩) (by dsimp only; omega) _).setCell (p := ⟨w.heap.size + 1 + 1 + 1, 1, none⟩) (by dsimp only; omega) _⟩
  | true =>
  have E2 := hide e2
  clear e2
  obtain ⟨x, rfl, rfl, hx⟩ := ok_num HA.out.2.2.2.1 E1.out
  obtain ⟨y, rfl, rfl, hy⟩ := ok_num HBB.out.2.2.2.1 E2.out
  go_wp2_with fail
  refine (noughtI _ (sgn y) (lms y) _ ⟨b, cb, rfl, HBB.out⟩).mono ?_
  rintro e w4 ⟨rfl, hbw4⟩
  have yw4 := hbw4.size
  replace kA0 := (hbw4.cell (p := ⟨w.heap.size, 0, none⟩) zA).trans kA0
  replace kA1 := (hbw4.cell (p := ⟨w.heap.size, 1, none⟩) zA).trans kA1
  replace zA := Nat.lt_of_lt_of_le zA hbw4.size
  replace kB0 := (hbw4.cell (p := ⟨w.heap.size + 1, 0, none⟩) zB).trans kB0
  replace kB1 := (hbw4.cell (p := ⟨w.heap.size + 1, 1, none⟩) zB).trans kB1
  replace zB := Nat.lt_of_lt_of_le zB hbw4.size
  replace kR0 := (hbw4.cell (p := ⟨w.heap.size + 1 + 1, 0, none⟩) zR).trans kR0
  replace fR0 := (hbw4.frozen (p := ⟨w.heap.size + 1 + 1, 0, none⟩) zR).trans fR0
  replace kR1 := (hbw4.cell (p := ⟨w.heap.size + 1 + 1, 1, none⟩) zR).trans kR1
  replace fR1 := (hbw4.frozen (p := ⟨w.heap.size + 1 + 1, 1, none⟩) zR).trans fR1
  replace zR := Nat.lt_of_lt_of_le zR hbw4.size
  replace kT0 := (hbw4.cell (p := ⟨w.heap.size + 1 + 1 + 1, 0, none⟩) zT).trans kT0
  replace fT0 := (hbw4.frozen (p := ⟨w.heap.size + 1 + 1 + 1, 0, none⟩) zT).trans fT0
  replace kT1 := (hbw4.cell (p := ⟨w.heap.size + 1 + 1 + 1, 1, none⟩) zT).trans kT1
  replace fT1 := (hbw4.frozen (p := ⟨w.heap.size + 1 + 1 + 1, 1, none⟩) zT).trans fT1
  replace zT := Nat.lt_of_lt_of_le zT hbw4.size
  replace HA := hide (HA.out.below hbw4)
  replace HBB := hide (HBB.out.below hbw4)
  replace HB := hide (bl_trans HB.out hbw4)
  clear hbw4
  rw [len_zero]
  by_cases hy0 : y = 0
  · subst hy0
    have HT : Hid (dvT (sgn x) (lms x) (sgn 0) (lms 0) = false) := hide (by unfold dvT; rw [nat_lms, mk_self]; simp)
    have HQ : Hid (dvQ (sgn x) (lms x) (sgn 0) (lms 0) = 0) := hide (by unfold dvQ; rw [HT.out]; rfl)
    have HR : Hid (dvR (sgn x) (lms x) (sgn 0) (lms 0) = 0) := hide (by unfold dvR; rw [HT.out]; rfl)
    rw [decide_eq_true rfl]
    go_wp2
    refine bodyPost_ret (v := .tuple #[.agg #[.bool false, .slice none 0 0], .agg #[.bool false, .slice none 0 0], .bool false]) (by simp [results, Try.results12, go_sem, kR0, kR1, kT0, kT1]) rfl ?_
    rw [HT.out, HQ.out, HR.out, zero_sgn, zero_lms]
    exact ⟨none, 0, none, 0, rfl, Own.nil _ _, Own.nil _ _, Apart.none _, (((HB.out.setCell (p := ⟨w.heap.size + 1 + 1, 0, none⟩) (by dsimp only; omega) _).setCell (p := ⟨w.heap.size + 1 + 1, 1, none⟩) (by dsimp only; omega) _).setCell (p := ⟨w.heap.size + 1 + 1 + 1, 0, none⟩) (by dsimp only; omega) _).setCell (p := ⟨w.heap.size + 1 + 1 + 1, 1, none⟩) (by dsimp only; omega) _⟩
  have HT : Hid (dvT (sgn x) (lms x) (sgn y) (lms y) = true) := hide (by unfold dvT; rw [E1.out, E2.out, nat_lms, mk_self]; simp [hy0])
  have HQ : Hid (dvQ (sgn x) (lms x) (sgn y) (lms y) = x / y) := hide (by unfold dvQ; rw [HT.out, nat_lms, mk_self, nat_lms, mk_self]; rfl)
  have HR : Hid (dvR (sgn x) (lms x) (sgn y) (lms y) = x % y) := hide (by unfold dvR; rw [HT.out, nat_lms, mk_self, nat_lms, mk_self]; rfl)
  have lx : (lms x).length ≤ 40 := Num.limbs_len.2 hx
  have ly : (lms y).length ≤ 40 := Num.limbs_len.2 hy
  rw [decide_eq_false hy0]
  go_wp2_with fail
  refine (divI _ _ x y _ ⟨a, ca, rfl, HA.out⟩ ⟨b, cb, rfl, HBB.out⟩ hy0 (by omega) (by omega)).mono ?_
  rintro e w5 ⟨aq, cq, ar, cr, rfl, hoq, hor, hap, hbw5⟩
  have yw5 := hbw5.size
  replace kA0 := (hbw5.cell (p := ⟨w.heap.size, 0, none⟩) zA).trans kA0
  replace kA1 := (hbw5.cell (p := ⟨w.heap.size, 1, none⟩) zA).trans kA1
  replace zA := Nat.lt_of_lt_of_le zA hbw5.size
  replace kB0 := (hbw5.cell (p := ⟨w.heap.size + 1, 0, none⟩) zB).trans kB0
  replace kB1 := (hbw5.cell (p := ⟨w.heap.size + 1, 1, none⟩) zB).trans kB1
  replace zB := Nat.lt_of_lt_of_le zB hbw5.size
  replace kR0 := (hbw5.cell (p := ⟨w.heap.size + 1 + 1, 0, none⟩) zR).trans kR0
  replace fR0 := (hbw5.frozen (p := ⟨w.heap.size + 1 + 1, 0, none⟩) zR).trans fR0
  replace kR1 := (hbw5.cell (p := ⟨w.heap.size + 1 + 1, 1, none⟩) zR).trans kR1
  replace fR1 := (hbw5.frozen (p := ⟨w.heap.size + 1 + 1, 1, none⟩) zR).trans fR1
  replace zR := Nat.lt_of_lt_of_le zR hbw5.size
  replace kT0 := (hbw5.cell (p := ⟨w.heap.size + 1 + 1 + 1, 0, none⟩) zT).trans kT0
  replace fT0 := (hbw5.frozen (p := ⟨w.heap.size + 1 + 1 + 1, 0, none⟩) zT).trans fT0
  replace kT1 := (hbw5.cell (p := ⟨w.heap.size + 1 + 1 + 1, 1, none⟩) zT).trans kT1
  replace fT1 := (hbw5.frozen (p := ⟨w.heap.size + 1 + 1 + 1, 1, none⟩) zT).trans fT1
  replace zT := Nat.lt_of_lt_of_le zT hbw5.size
  replace HA := hide (HA.out.below hbw5)
  replace HBB := hide (HBB.out.below hbw5)
  replace HB := hide (bl_trans HB.out hbw5)
  clear hbw5
  have HAP := hide hap
  clear hap
  have HOQ := hide hoq
  have HOR := hide hor
  clear hoq hor
  go_upto_region 4 with fail
  have kQ0 : ((w5.alloc (Obj.cells #[Value.bool (sgn (x / y)), Value.slice aq (lms (x / y)).length cq] 26)).alloc (Obj.cells #[Value.bool (sgn (x % y)), Value.slice ar (lms (x % y)).length cr] 26)).cell? ⟨w5.heap.size, 0, none⟩ = some (Value.bool (sgn (x / y))) := by go_simp
  have kQ1 : ((w5.alloc (Obj.cells #[Value.bool (sgn (x / y)), Value.slice aq (lms (x / y)).length cq] 26)).alloc (Obj.cells #[Value.bool (sgn (x % y)), Value.slice ar (lms (x % y)).length cr] 26)).cell? ⟨w5.heap.size, 1, none⟩ = some (Value.slice aq (lms (x / y)).length cq) := by go_simp
  have zQ : w5.heap.size < ((w5.alloc (Obj.cells #[Value.bool (sgn (x / y)), Value.slice aq (lms (x / y)).length cq] 26)).alloc (Obj.cells #[Value.bool (sgn (x % y)), Value.slice ar (lms (x % y)).length cr] 26)).heap.size := by simp only [World.size_alloc]; omega
  have kS0 : ((w5.alloc (Obj.cells #[Value.bool (sgn (x / y)), Value.slice aq (lms (x / y)).length cq] 26)).alloc (Obj.cells #[Value.bool (sgn (x % y)), Value.slice ar (lms (x % y)).length cr] 26)).cell? ⟨w5.heap.size + 1, 0, none⟩ = some (Value.bool (sgn (x % y))) := by go_simp
  have kS1 : ((w5.alloc (Obj.cells #[Value.bool (sgn (x / y)), Value.slice aq (lms (x / y)).length cq] 26)).alloc (Obj.cells #[Value.bool (sgn (x % y)), Value.slice ar (lms (x % y)).length cr] 26)).cell? ⟨w5.heap.size + 1, 1, none⟩ = some (Value.slice ar (lms (x % y)).length cr) := by go_simp
  have zS : w5.heap.size + 1 < ((w5.alloc (Obj.cells #[Value.bool (sgn (x / y)), Value.slice aq (lms (x / y)).length cq] 26)).alloc (Obj.cells #[Value.bool (sgn (x % y)), Value.slice ar (lms (x % y)).length cr] 26)).heap.size := by simp only [World.size_alloc]; omega
  have yw6 : w5.heap.size + 2 ≤ ((w5.alloc (Obj.cells #[Value.bool (sgn (x / y)), Value.slice aq (lms (x / y)).length cq] 26)).alloc (Obj.cells #[Value.bool (sgn (x % y)), Value.slice ar (lms (x % y)).length cr] 26)).heap.size := by simp only [World.size_alloc]; omega
  have hbw6 := (bl_alloc (bl_alloc (bl_refl w5) (Obj.cells #[Value.bool (sgn (x / y)), Value.slice aq (lms (x / y)).length cq] 26)) (Obj.cells #[Value.bool (sgn (x % y)), Value.slice ar (lms (x % y)).length cr] 26))
  generalize ((w5.alloc (Obj.cells #[Value.bool (sgn (x / y)), Value.slice aq (lms (x / y)).length cq] 26)).alloc (Obj.cells #[Value.bool (sgn (x % y)), Value.slice ar (lms (x % y)).length cr] 26)) = w6 at *
  replace kA0 := (hbw6.cell (p := ⟨w.heap.size, 0, none⟩) zA).trans kA0
  replace kA1 := (hbw6.cell (p := ⟨w.heap.size, 1, none⟩) zA).trans kA1
  replace zA := Nat.lt_of_lt_of_le zA hbw6.size
  replace kB0 := (hbw6.cell (p := ⟨w.heap.size + 1, 0, none⟩) zB).trans kB0
  replace kB1 := (hbw6.cell (p := ⟨w.heap.size + 1, 1, none⟩) zB).trans kB1
  replace zB := Nat.lt_of_lt_of_le zB hbw6.size
  replace kR0 := (hbw6.cell (p := ⟨w.heap.size + 1 + 1, 0, none⟩) zR).trans kR0
  replace fR0 := (hbw6.frozen (p := ⟨w.heap.size + 1 + 1, 0, none⟩) zR).trans fR0
  replace kR1 := (hbw6.cell (p := ⟨w.heap.size + 1 + 1, 1, none⟩) zR).trans kR1
  replace fR1 := (hbw6.frozen (p := ⟨w.heap.size + 1 + 1, 1, none⟩) zR).trans fR1
  replace zR := Nat.lt_of_lt_of_le zR hbw6.size
  replace kT0 := (hbw6.cell (p := ⟨w.heap.size + 1 + 1 + 1, 0, none⟩) zT).trans kT0
  replace fT0 := (hbw6.frozen (p := ⟨w.heap.size + 1 + 1 + 1, 0, none⟩) zT).trans fT0
  replace kT1 := (hbw6.cell (p := ⟨w.heap.size + 1 + 1 + 1, 1, none⟩) zT).trans kT1
  replace fT1 := (hbw6.frozen (p := ⟨w.heap.size + 1 + 1 + 1, 1, none⟩) zT).trans fT1
  replace zT := Nat.lt_of_lt_of_le zT hbw6.size
  replace HA := hide (HA.out.below hbw6)
  replace HBB := hide (HBB.out.below hbw6)
  replace HOQ := hide (HOQ.out.below hbw6)
  replace HOR := hide (HOR.out.below hbw6)
  replace HB := hide (bl_trans HB.out hbw6)
  clear hbw6
  go_region_held3 (fun w' => w'.cell? ⟨w5.heap.size, 0, none⟩ = some (Value.bool (sgn (x / y))) ∧ w'.cell? ⟨w5.heap.size, 1, none⟩ = some (Value.slice aq (lms (x / y)).length cq) ∧ w'.cell? ⟨w5.heap.size + 1, 0, none⟩ = some (Value.bool (sgn (x % y))) ∧ w'.cell? ⟨w5.heap.size + 1, 1, none⟩ = some (Value.slice ar (lms (x % y)).length cr))
    (first
      | exact ⟨(by (try rw [World.cell?_drew]); first | with_reducible assumption | (rw [cell_two (N := w.heap.size + 1 + 1) (p := ⟨w5.heap.size, 0, none⟩) (by dsimp only; omega)]; with_reducible assumption) | (rw [cell_two (N := w.heap.size + 1 + 1 + 1) (p := ⟨w5.heap.size, 0, none⟩) (by dsimp only; omega)]; with_reducible assumption) | (rw [cell_two (N := w.heap.size + 1 + 1) (p := ⟨w5.heap.size, 0, none⟩) (by dsimp only; omega), cell_two (N := w.heap.size + 1 + 1 + 1) (p := ⟨w5.heap.size, 0, none⟩) (by dsimp only; omega)]; with_reducible assumption) | (rw [cell_two (N := w.heap.size + 1 + 1 + 1) (p := ⟨w5.heap.size, 0, none⟩) (by dsimp only; omega), cell_two (N := w.heap.size + 1 + 1) (p := ⟨w5.heap.size, 0, none⟩) (by dsimp only; omega)]; with_reducible assumption)), (by (try rw [World.cell?_drew]); first | with_reducible assumption | (rw [cell_two (N := w.heap.size + 1 + 1) (p := ⟨w5.heap.size, 1, none⟩) (by dsimp only; omega)]; with_reducible assumption) | (rw [cell_two (N := w.heap.size + 1 + 1 + 1) (p := ⟨w5.heap.size, 1, none⟩) (by dsimp only; omega)]; with_reducible assumption) | (rw [cell_two (N := w.heap.size + 1 + 1) (p := ⟨w5.heap.size, 1, none⟩) (by dsimp only; omega), cell_two (N := w.heap.size + 1 + 1 + 1) (p := ⟨w5.heap.size, 1, none⟩) (by dsimp only; omega)]; with_reducible assumption) | (rw [cell_two (N := w.heap.size + 1 + 1 + 1) (p := ⟨w5.heap.size, 1, none⟩) (by dsimp only; omega), cell_two (N := w.heap.size + 1 + 1) (p := ⟨w5.heap.size, 1, none⟩) (by dsimp only; omega)]; with_reducible assumption)), (by (try rw [World.cell?_drew]); first | with_reducible assumption | (rw [cell_two (N := w.heap.size + 1 + 1) (p := ⟨w5.heap.size + 1, 0, none⟩) (by dsimp only; omega)]; with_reducible assumption) | (rw [cell_two (N := w.heap.size + 1 + 1 + 1) (p := ⟨w5.heap.size + 1, 0, none⟩) (by dsimp only; omega)]; with_reducible assumption) | (rw [cell_two (N := w.heap.size + 1 + 1) (p := ⟨w5.heap.size + 1, 0, none⟩) (by dsimp only; omega), cell_two (N := w.heap.size + 1 + 1 + 1) (p := ⟨w5.heap.size + 1, 0, none⟩) (by dsimp only; omega)]; with_reducible assumption) | (rw [cell_two (N := w.heap.size + 1 + 1 + 1) (p := ⟨w5.heap.size + 1, 0, none⟩) (by dsimp only; omega), cell_two (N := w.heap.size + 1 + 1) (p := ⟨w5.heap.size + 1, 0, none⟩) (by dsimp only; omega)]; with_reducible assumption)), (by (try rw [World.cell?_drew]); first | with_reducible assumption | (rw [cell_two (N := w.heap.size + 1 + 1) (p := ⟨w5.heap.size + 1, 1, none⟩) (by dsimp only; omega)]; with_reducible assumption) | (rw [cell_two (N := w.heap.size + 1 + 1 + 1) (p := ⟨w5.heap.size + 1, 1, none⟩) (by dsimp only; omega)]; with_reducible assumption) | (rw [cell_two (N := w.heap.size + 1 + 1) (p := ⟨w5.heap.size + 1, 1, none⟩) (by dsimp only; omega), cell_two (N := w.heap.size + 1 + 1 + 1) (p := ⟨w5.heap.size + 1, 1, none⟩) (by dsimp only; omega)]; with_reducible assumption) | (rw [cell_two (N := w.heap.size + 1 + 1 + 1) (p := ⟨w5.heap.size + 1, 1, none⟩) (by dsimp only; omega), cell_two (N := w.heap.size + 1 + 1) (p := ⟨w5.heap.size + 1, 1, none⟩) (by dsimp only; omega)]; with_reducible assumption))⟩)
    (fail)
  all_goals go_wp2_with fail
  all_goals refine bodyPost_ret (v := .tuple #[.agg #[.bool (sgn (x / y)), .slice aq (lms (x / y)).length cq], .agg #[.bool (sgn (x % y)), .slice ar (lms (x % y)).length cr], .bool true]) (by simp [results, Try.results12, go_sem, kR0, kR1, kT0, kT1]) rfl ?_
  all_goals rw [HT.out, HQ.out, HR.out]
  all_goals refine ⟨aq, cq, ar, cr, rfl, ?_⟩
  all_goals first | exact fin_two' (N := w.heap.size + 1 + 1) (M := w.heap.size + 1 + 1 + 1) (base := w4.heap.size) HOQ.out HOR.out HAP.out (by omega) (by omega) (by omega) (by omega) HB.out _ _ _ _ | exact fin_drew (fin_two' (N := w.heap.size + 1 + 1) (M := w.heap.size + 1 + 1 + 1) (base := w4.heap.size) HOQ.out HOR.out HAP.out (by omega) (by omega) (by omega) (by omega) HB.out _ _ _ _)

set_option maxHeartbeats 4000000 in
set_option maxRecDepth 20000 in
theorem DivModQ (v1 v2 : Value) (n1 n2 : Bool) (xs ys : List Nat) (w : World) (h1 : Raw w v1 n1 xs) (h2 : Raw w v2 n2 ys) :
    Calls Try.prog 13 #[v1, v2] w fun e w' => ∃ a1 c1 a2 c2, e = .returned (.tuple #[.agg #[.bool (sgn (dvQ n1 xs n2 ys)), .slice a1 (lms (dvQ n1 xs n2 ys)).length c1], .agg #[.bool (sgn (dvR n1 xs n2 ys)), .slice a2 (lms (dvR n1 xs n2 ys)).length c2], .bool (dvT n1 xs n2 ys)]) ∧ Own w' w.heap.size a1 (lms (dvQ n1 xs n2 ys)).length c1 (lms (dvQ n1 xs n2 ys)) ∧ Own w' w.heap.size a2 (lms (dvR n1 xs n2 ys)).length c2 (lms (dvR n1 xs n2 ys)) ∧ Below w.heap.size w w' := by
  obtain ⟨a, ca, rfl, ha⟩ := h1
  obtain ⟨b, cb, rfl, hb⟩ := h2
  have HA := hide ha
  have HBB := hide hb
  clear ha hb
  have kA0 : ((((w.alloc (Obj.cells #[Value.bool n1, Value.slice a xs.length ca] 26)).alloc (Obj.cells #[Value.bool n2, Value.slice b ys.length cb] 26)).alloc (Obj.cells #[Value.bool false, Value.slice none 0 0] 26)).alloc (Obj.cells #[Value.bool false, Value.slice none 0 0] 26)).cell? ⟨w.heap.size, 0, none⟩ = some (Value.bool n1) := by go_simp
  have kA1 : ((((w.alloc (Obj.cells #[Value.bool n1, Value.slice a xs.length ca] 26)).alloc (Obj.cells #[Value.bool n2, Value.slice b ys.length cb] 26)).alloc (Obj.cells #[Value.bool false, Value.slice none 0 0] 26)).alloc (Obj.cells #[Value.bool false, Value.slice none 0 0] 26)).cell? ⟨w.heap.size, 1, none⟩ = some (Value.slice a xs.length ca) := by go_simp
  have zA : w.heap.size < ((((w.alloc (Obj.cells #[Value.bool n1, Value.slice a xs.length ca] 26)).alloc (Obj.cells #[Value.bool n2, Value.slice b ys.length cb] 26)).alloc (Obj.cells #[Value.bool false, Value.slice none 0 0] 26)).alloc (Obj.cells #[Value.bool false, Value.slice none 0 0] 26)).heap.size := by simp only [World.size_alloc]; omega
  have kB0 : ((((w.alloc (Obj.cells #[Value.bool n1, Value.slice a xs.length ca] 26)).alloc (Obj.cells #[Value.bool n2, Value.slice b ys.length cb] 26)).alloc (Obj.cells #[Value.bool false, Value.slice none 0 0] 26)).alloc (Obj.cells #[Value.bool false, Value.slice none 0 0] 26)).cell? ⟨w.heap.size + 1, 0, none⟩ = some (Value.bool n2) := by go_simp
  have kB1 : ((((w.alloc (Obj.cells #[Value.bool n1, Value.slice a xs.length ca] 26)).alloc (Obj.cells #[Value.bool n2, Value.slice b ys.length cb] 26)).alloc (Obj.cells #[Value.bool false, Value.slice none 0 0] 26)).alloc (Obj.cells #[Value.bool false, Value.slice none 0 0] 26)).cell? ⟨w.heap.size + 1, 1, none⟩ = some (Value.slice b ys.length cb) := by go_simp
  have zB : w.heap.size + 1 < ((((w.alloc (Obj.cells #[Value.bool n1, Value.slice a xs.length ca] 26)).alloc (Obj.cells #[Value.bool n2, Value.slice b ys.length cb] 26)).alloc (Obj.cells #[Value.bool false, Value.slice none 0 0] 26)).alloc (Obj.cells #[Value.bool false, Value.slice none 0 0] 26)).heap.size := by simp only [World.size_alloc]; omega
  have kR0 : ((((w.alloc (Obj.cells #[Value.bool n1, Value.slice a xs.length ca] 26)).alloc (Obj.cells #[Value.bool n2, Value.slice b ys.length cb] 26)).alloc (Obj.cells #[Value.bool false, Value.slice none 0 0] 26)).alloc (Obj.cells #[Value.bool false, Value.slice none 0 0] 26)).cell? ⟨w.heap.size + 1 + 1, 0, none⟩ = some (Value.bool false) := by go_simp
  have fR0 : ((((w.alloc (Obj.cells #[Value.bool n1, Value.slice a xs.length ca] 26)).alloc (Obj.cells #[Value.bool n2, Value.slice b ys.length cb] 26)).alloc (Obj.cells #[Value.bool false, Value.slice none 0 0] 26)).alloc (Obj.cells #[Value.bool false, Value.slice none 0 0] 26)).frozen? ⟨w.heap.size + 1 + 1, 0, none⟩ = false := by go_simp
  have kR1 : ((((w.alloc (Obj.cells #[Value.bool n1, Value.slice a xs.length ca] 26)).alloc (Obj.cells #[Value.bool n2, Value.slice b ys.length cb] 26)).alloc (Obj.cells #[Value.bool false, Value.slice none 0 0] 26)).alloc (Obj.cells #[Value.bool false, Value.slice none 0 0] 26)).cell? ⟨w.heap.size + 1 + 1, 1, none⟩ = some (Value.slice none 0 0) := by go_simp
  have fR1 : ((((w.alloc (Obj.cells #[Value.bool n1, Value.slice a xs.length ca] 26)).alloc (Obj.cells #[Value.bool n2, Value.slice b ys.length cb] 26)).alloc (Obj.cells #[Value.bool false, Value.slice none 0 0] 26)).alloc (Obj.cells #[Value.bool false, Value.slice none 0 0] 26)).frozen? ⟨w.heap.size + 1 + 1, 1, none⟩ = false := by go_simp
  have zR : w.heap.size + 1 + 1 < ((((w.alloc (Obj.cells #[Value.bool n1, Value.slice a xs.length ca] 26)).alloc (Obj.cells #[Value.bool n2, Value.slice b ys.length cb] 26)).alloc (Obj.cells #[Value.bool false, Value.slice none 0 0] 26)).alloc (Obj.cells #[Value.bool false, Value.slice none 0 0] 26)).heap.size := by simp only [World.size_alloc]; omega
  have kT0 : ((((w.alloc (Obj.cells #[Value.bool n1, Value.slice a xs.length ca] 26)).alloc (Obj.cells #[Value.bool n2, Value.slice b ys.length cb] 26)).alloc (Obj.cells #[Value.bool false, Value.slice none 0 0] 26)).alloc (Obj.cells #[Value.bool false, Value.slice none 0 0] 26)).cell? ⟨w.heap.size + 1 + 1 + 1, 0, none⟩ = some (Value.bool false) := by go_simp
  have fT0 : ((((w.alloc (Obj.cells #[Value.bool n1, Value.slice a xs.length ca] 26)).alloc (Obj.cells #[Value.bool n2, Value.slice b ys.length cb] 26)).alloc (Obj.cells #[Value.bool false, Value.slice none 0 0] 26)).alloc (Obj.cells #[Value.bool false, Value.slice none 0 0] 26)).frozen? ⟨w.heap.size + 1 + 1 + 1, 0, none⟩ = false := by go_simp
  have kT1 : ((((w.alloc (Obj.cells #[Value.bool n1, Value.slice a xs.length ca] 26)).alloc (Obj.cells #[Value.bool n2, Value.slice b ys.length cb] 26)).alloc (Obj.cells #[Value.bool false, Value.slice none 0 0] 26)).alloc (Obj.cells #[Value.bool false, Value.slice none 0 0] 26)).cell? ⟨w.heap.size + 1 + 1 + 1, 1, none⟩ = some (Value.slice none 0 0) := by go_simp
  have fT1 : ((((w.alloc (Obj.cells #[Value.bool n1, Value.slice a xs.length ca] 26)).alloc (Obj.cells #[Value.bool n2, Value.slice b ys.length cb] 26)).alloc (Obj.cells #[Value.bool false, Value.slice none 0 0] 26)).alloc (Obj.cells #[Value.bool false, Value.slice none 0 0] 26)).frozen? ⟨w.heap.size + 1 + 1 + 1, 1, none⟩ = false := by go_simp
  have zT : w.heap.size + 1 + 1 + 1 < ((((w.alloc (Obj.cells #[Value.bool n1, Value.slice a xs.length ca] 26)).alloc (Obj.cells #[Value.bool n2, Value.slice b ys.length cb] 26)).alloc (Obj.cells #[Value.bool false, Value.slice none 0 0] 26)).alloc (Obj.cells #[Value.bool false, Value.slice none 0 0] 26)).heap.size := by simp only [World.size_alloc]; omega
  have HB := hide (bl_alloc (bl_alloc (bl_alloc (bl_alloc (bl_refl w) (Obj.cells #[Value.bool n1, Value.slice a xs.length ca] 26)) (Obj.cells #[Value.bool n2, Value.slice b ys.length cb] 26)) (Obj.cells #[Value.bool false, Value.slice none 0 0] 26)) (Obj.cells #[Value.bool false, Value.slice none 0 0] 26))
  replace HA := hide (HA.out.below HB.out)
  replace HBB := hide (HBB.out.below HB.out)
  have y0 : w.heap.size + 4 ≤ ((((w.alloc (Obj.cells #[Value.bool n1, Value.slice a xs.length ca] 26)).alloc (Obj.cells #[Value.bool n2, Value.slice b ys.length cb] 26)).alloc (Obj.cells #[Value.bool false, Value.slice none 0 0] 26)).alloc (Obj.cells #[Value.bool false, Value.slice none 0 0] 26)).heap.size := by simp only [World.size_alloc]; omega
  go_enter Try.func13, Try.ntmps13
  go_wp2_with fail
  generalize ((((w.alloc (Obj.cells #[Value.bool n1, Value.slice a xs.length ca] 26)).alloc (Obj.cells #[Value.bool n2, Value.slice b ys.length cb] 26)).alloc (Obj.cells #[Value.bool false, Value.slice none 0 0] 26)).alloc (Obj.cells #[Value.bool false, Value.slice none 0 0] 26)) = w1 at *
  refine (okS _ n1 xs _ ⟨a, ca, rfl, HA.out⟩).mono ?_
  rintro e w2 ⟨rfl, hbw2⟩
  have yw2 := hbw2.size
  replace kA0 := (hbw2.cell (p := ⟨w.heap.size, 0, none⟩) zA).trans kA0
  replace kA1 := (hbw2.cell (p := ⟨w.heap.size, 1, none⟩) zA).trans kA1
  replace zA := Nat.lt_of_lt_of_le zA hbw2.size
  replace kB0 := (hbw2.cell (p := ⟨w.heap.size + 1, 0, none⟩) zB).trans kB0
  replace kB1 := (hbw2.cell (p := ⟨w.heap.size + 1, 1, none⟩) zB).trans kB1
  replace zB := Nat.lt_of_lt_of_le zB hbw2.size
  replace kR0 := (hbw2.cell (p := ⟨w.heap.size + 1 + 1, 0, none⟩) zR).trans kR0
  replace fR0 := (hbw2.frozen (p := ⟨w.heap.size + 1 + 1, 0, none⟩) zR).trans fR0
  replace kR1 := (hbw2.cell (p := ⟨w.heap.size + 1 + 1, 1, none⟩) zR).trans kR1
  replace fR1 := (hbw2.frozen (p := ⟨w.heap.size + 1 + 1, 1, none⟩) zR).trans fR1
  replace zR := Nat.lt_of_lt_of_le zR hbw2.size
  replace kT0 := (hbw2.cell (p := ⟨w.heap.size + 1 + 1 + 1, 0, none⟩) zT).trans kT0
  replace fT0 := (hbw2.frozen (p := ⟨w.heap.size + 1 + 1 + 1, 0, none⟩) zT).trans fT0
  replace kT1 := (hbw2.cell (p := ⟨w.heap.size + 1 + 1 + 1, 1, none⟩) zT).trans kT1
  replace fT1 := (hbw2.frozen (p := ⟨w.heap.size + 1 + 1 + 1, 1, none⟩) zT).trans fT1
  replace zT := Nat.lt_of_lt_of_le zT hbw2.size
  replace HA := hide (HA.out.below hbw2)
  replace HBB := hide (HBB.out.below hbw2)
  replace HB := hide (bl_trans HB.out hbw2)
  clear hbw2
  cases e1 : okB n1 xs with
  | false =>
    have HT : Hid (dvT n1 xs n2 ys = false) := hide (by unfold dvT; rw [e1]; rfl)
    have HQ : Hid (dvQ n1 xs n2 ys = 0) := hide (by unfold dvQ; rw [HT.out]; rfl)
    have HR : Hid (dvR n1 xs n2 ys = 0) := hide (by unfold dvR; rw [HT.out]; rfl)
    clear e1
    go_wp2
    refine bodyPost_ret (v := .tuple #[.agg #[.bool false, .slice none 0 0], .agg #[.bool false, .slice none 0 0], .bool false]) (by simp [results, Try.results13, go_sem, kR0, kR1, kT0, kT1]) rfl ?_
    rw [HT.out, HQ.out, HR.out, zero_sgn, zero_lms]
    exact ⟨none, 0, none, 0, rfl, Own.nil _ _, Own.nil _ _, (((HB.out.setCell (p := ⟨w.heap.size + 1 + 1, 0, none⟩) (by dsimp only; omega) _).setCell (p := ⟨w.heap.size + 1 + 1, 1, none⟩) (by dsimp only; omega) _).setCell (p := ⟨w.heap.size + 1 + 1 + 1, 0, none⟩) (by dsimp only; omega) _).setCell (p := ⟨w.heap.size + 1 + 1 + 1, 1, none⟩) (by dsimp only; omega) _⟩
  | true =>
  have E1 := hide e1
  clear e1
  go_wp2_with fail
  refine (okS _ n2 ys _ ⟨b, cb, rfl, HBB.out⟩).mono ?_
  rintro e w3 ⟨rfl, hbw3⟩
  have yw3 := hbw3.size
  replace kA0 := (hbw3.cell (p := ⟨w.heap.size, 0, none⟩) zA).trans kA0
  replace kA1 := (hbw3.cell (p := ⟨w.heap.size, 1, none⟩) zA).trans kA1
  replace zA := Nat.lt_of_lt_of_le zA hbw3.size
  replace kB0 := (hbw3.cell (p := ⟨w.heap.size + 1, 0, none⟩) zB).trans kB0
  replace kB1 := (hbw3.cell (p := ⟨w.heap.size + 1, 1, none⟩) zB).trans kB1
  replace zB := Nat.lt_of_lt_of_le zB hbw3.size
  replace kR0 := (hbw3.cell (p := ⟨w.heap.size + 1 + 1, 0, none⟩) zR).trans kR0
  replace fR0 := (hbw3.frozen (p := ⟨w.heap.size + 1 + 1, 0, none⟩) zR).trans fR0
  replace kR1 := (hbw3.cell (p := ⟨w.heap.size + 1 + 1, 1, none⟩) zR).trans kR1
  replace fR1 := (hbw3.frozen (p := ⟨w.heap.size + 1 + 1, 1, none⟩) zR).trans fR1
  replace zR := Nat.lt_of_lt_of_le zR hbw3.size
  replace kT0 := (hbw3.cell (p := ⟨w.heap.size + 1 + 1 + 1, 0, none⟩) zT).trans kT0
  replace fT0 := (hbw3.frozen (p := ⟨w.heap.size + 1 + 1 + 1, 0, none⟩) zT).trans fT0
  replace kT1 := (hbw3.cell (p := ⟨w.heap.size + 1 + 1 + 1, 1, none⟩) zT).trans kT1
  replace fT1 := (hbw3.frozen (p := ⟨w.heap.size + 1 + 1 + 1, 1, none⟩) zT).trans fT1
  replace zT := Nat.lt_of_lt_of_le zT hbw3.size
  replace HA := hide (HA.out.below hbw3)
  replace HBB := hide (HBB.out.below hbw3)
  replace HB := hide (bl_trans HB.out hbw3)
  clear hbw3
  cases e2 : okB n2 ys with
  | false =>
    have HT : Hid (dvT n1 xs n2 ys = false) := hide (by unfold dvT; rw [e2, Bool.and_false]; rfl)
    have HQ : Hid (dvQ n1 xs n2 ys = 0) := hide (by unfold dvQ; rw [HT.out]; rfl)
    have HR : Hid (dvR n1 xs n2 ys = 0) := hide (by unfold dvR; rw [HT.out]; rfl)
    clear e2
    go_wp2
    refine bodyPost_ret (v := .tuple #[.agg #[.bool false, .slice none 0 0], .agg #[.bool false, .slice none 0 0], .bool false]) (by simp [results, Try.results13, go_sem, kR0, kR1, kT0, kT1]) rfl ?_
    rw [HT.out, HQ.out, HR.out, zero_sgn, zero_lms]
    exact ⟨none, 0, none, 0, rfl, Own.nil _ _, Own.nil _ _, (((HB.out.setCell (p := ⟨w.heap.size + 1 + 1, 0, none⟩) (by dsimp only; omega) _).setCell (p := ⟨w.heap.size + 1 + 1, 1, none⟩) (by dsimp only; omega) _).setCell (p := ⟨w.heap.size + 1 + 1 + 1, 0, none⟩) (by dsimp only; omega) _).setCell (p := ⟨w.heap.size + 1 + 1 + 1, 1, none⟩) (by dsimp only; omega) _⟩
  | true =>
  have E2 := hide e2
  clear e2
  obtain ⟨x, rfl, rfl, hx⟩ := ok_num HA.out.2.2.2.1 E1.out
  obtain ⟨y, rfl, rfl, hy⟩ := ok_num HBB.out.2.2.2.1 E2.out
  by_cases hy0 : y = 0
  · subst hy0
    have HT : Hid (dvT (sgn x) (lms x) (sgn 0) (lms 0) = false) := hide (by unfold dvT; rw [nat_lms, mk_self]; simp)
    have HQ : Hid (dvQ (sgn x) (lms x) (sgn 0) (lms 0) = 0) := hide (by unfold dvQ; rw [HT.out]; rfl)
    have HR : Hid (dvR (sgn x) (lms x) (sgn 0) (lms 0) = 0) := hide (by unfold dvR; rw [HT.out]; rfl)
    have hl : (((lms 0).length : Int) == 0) = true := by rw [zero_lms]; rfl
    go_wp2
    refine bodyPost_ret (v := .tuple #[.agg #[.bool false, .slice none 0 0], .agg #[.bool false, .slice none 0 0], .bool false]) (by simp [results, Try.results13, go_sem, kR0, kR1, kT0, kT1]) rfl ?_
    rw [HT.out, HQ.out, HR.out, zero_sgn, zero_lms]
    exact ⟨none, 0, none, 0, rfl, Own.nil _ _, Own.nil _ _, (((HB.out.setCell (p := ⟨w.heap.size + 1 + 1, 0, none⟩) (by dsimp only; omega) _).setCell (p := ⟨w.heap.size + 1 + 1, 1, none⟩) (by dsimp only; omega) _).setCell (p := ⟨w.heap.size + 1 + 1 + 1, 0, none⟩) (by dsimp only; omega) _).setCell (p := ⟨w.heap.size + 1 + 1 + 1, 1, none⟩) (by dsimp only; omega) _⟩
  have HT : Hid (dvT (sgn x) (lms x) (sgn y) (lms y) = true) := hide (by unfold dvT; rw [E1.out, E2.out, nat_lms, mk_self]; simp [hy0])
  have HQ : Hid (dvQ (sgn x) (lms x) (sgn y) (lms y) = x / y) := hide (by unfold dvQ; rw [HT.out, nat_lms, mk_self, nat_lms, mk_self]; rfl)
  have HR : Hid (dvR (sgn x) (lms x) (sgn y) (lms y) = x % y) := hide (by unfold dvR; rw [HT.out, nat_lms, mk_self, nat_lms, mk_self]; rfl)
  have lx : (lms x).length ≤ 40 := Num.limbs_len.2 hx
  have ly : (lms y).length ≤ 40 := Num.limbs_len.2 hy
  have hl : (((lms y).length : Int) == 0) = false := by rw [beq_eq_false_iff_ne]; intro e; exact hy0 (sgn_lms_nil (by omega))
  go_upto_region 3 with fail
  clear hl
  go_wp2_with fail
  refine (divS _ _ x y _ ⟨a, ca, rfl, HA.out⟩ ⟨b, cb, rfl, HBB.out⟩ hy0 (by omega) (by omega)).mono ?_
  rintro e w4 ⟨aq, cq, ar, cr, rfl, hoq, hor, hbw4⟩
  have yw4 := hbw4.size
  replace kA0 := (hbw4.cell (p := ⟨w.heap.size, 0, none⟩) zA).trans kA0
  replace kA1 := (hbw4.cell (p := ⟨w.heap.size, 1, none⟩) zA).trans kA1
  replace zA := Nat.lt_of_lt_of_le zA hbw4.size
  replace kB0 := (hbw4.cell (p := ⟨w.heap.size + 1, 0, none⟩) zB).trans kB0
  replace kB1 := (hbw4.cell (p := ⟨w.heap.size + 1, 1, none⟩) zB).trans kB1
  replace zB := Nat.lt_of_lt_of_le zB hbw4.size
  replace kR0 := (hbw4.cell (p := ⟨w.heap.size + 1 + 1, 0, none⟩) zR).trans kR0
  replace fR0 := (hbw4.frozen (p := ⟨w.heap.size + 1 + 1, 0, none⟩) zR).trans fR0
  replace kR1 := (hbw4.cell (p := ⟨w.heap.size + 1 + 1, 1, none⟩) zR).trans kR1
  replace fR1 := (hbw4.frozen (p := ⟨w.heap.size + 1 + 1, 1, none⟩) zR).trans fR1
  replace zR := Nat.lt_of_lt_of_le zR hbw4.size
  replace kT0 := (hbw4.cell (p := ⟨w.heap.size + 1 + 1 + 1, 0, none⟩) zT).trans kT0
  replace fT0 := (hbw4.frozen (p := ⟨w.heap.size + 1 + 1 + 1, 0, none⟩) zT).trans fT0
  replace kT1 := (hbw4.cell (p := ⟨w.heap.size + 1 + 1 + 1, 1, none⟩) zT).trans kT1
  replace fT1 := (hbw4.frozen (p := ⟨w.heap.size + 1 + 1 + 1, 1, none⟩) zT).trans fT1
  replace zT := Nat.lt_of_lt_of_le zT hbw4.size
  replace HA := hide (HA.out.below hbw4)
  replace HBB := hide (HBB.out.below hbw4)
  replace HB := hide (bl_trans HB.out hbw4)
  clear hbw4
  have HAP : Hid True := hide trivial
  have HOQ := hide hoq
  have HOR := hide hor
  clear hoq hor
  go_upto_region 4 with fail
  have kQ0 : ((w4.alloc (Obj.cells #[Value.bool (sgn (x / y)), Value.slice aq (lms (x / y)).length cq] 26)).alloc (Obj.cells #[Value.bool (sgn (x % y)), Value.slice ar (lms (x % y)).length cr] 26)).cell? ⟨w4.heap.size, 0, none⟩ = some (Value.bool (sgn (x / y))) := by go_simp
  have kQ1 : ((w4.alloc (Obj.cells #[Value.bool (sgn (x / y)), Value.slice aq (lms (x / y)).length cq] 26)).alloc (Obj.cells #[Value.bool (sgn (x % y)), Value.slice ar (lms (x % y)).length cr] 26)).cell? ⟨w4.heap.size, 1, none⟩ = some (Value.slice aq (lms (x / y)).length cq) := by go_simp
  have zQ : w4.heap.size < ((w4.alloc (Obj.cells #[Value.bool (sgn (x / y)), Value.slice aq (lms (x / y)).length cq] 26)).alloc (Obj.cells #[Value.bool (sgn (x % y)), Value.slice ar (lms (x % y)).length cr] 26)).heap.size := by simp only [World.size_alloc]; omega
  have kS0 : ((w4.alloc (Obj.cells #[Value.bool (sgn (x / y)), Value.slice aq (lms (x / y)).length cq] 26)).alloc (Obj.cells #[Value.bool (sgn (x % y)), Value.slice ar (lms (x % y)).length cr] 26)).cell? ⟨w4.heap.size + 1, 0, none⟩ = some (Value.bool (sgn (x % y))) := by go_simp
  have kS1 : ((w4.alloc (Obj.cells #[Value.bool (sgn (x / y)), Value.slice aq (lms (x / y)).length cq] 26)).alloc (Obj.cells #[Value.bool (sgn (x % y)), Value.slice ar (lms (x % y)).length cr] 26)).cell? ⟨w4.heap.size + 1, 1, none⟩ = some (Value.slice ar (lms (x % y)).length cr) := by go_simp
  have zS : w4.heap.size + 1 < ((w4.alloc (Obj.cells #[Value.bool (sgn (x / y)), Value.slice aq (lms (x / y)).length cq] 26)).alloc (Obj.cells #[Value.bool (sgn (x % y)), Value.slice ar (lms (x % y)).length cr] 26)).heap.size := by simp only [World.size_alloc]; omega
  have yw5 : w4.heap.size + 2 ≤ ((w4.alloc (Obj.cells #[Value.bool (sgn (x / y)), Value.slice aq (lms (x / y)).length cq] 26)).alloc (Obj.cells #[Value.bool (sgn (x % y)), Value.slice ar (lms (x % y)).length cr] 26)).heap.size := by simp only [World.size_alloc]; omega
  have hbw5 := (bl_alloc (bl_alloc (bl_refl w4) (Obj.cells #[Value.bool (sgn (x / y)), Value.slice aq (lms (x / y)).length cq] 26)) (Obj.cells #[Value.bool (sgn (x % y)), Value.slice ar (lms (x % y)).length cr] 26))
  generalize ((w4.alloc (Obj.cells #[Value.bool (sgn (x / y)), Value.slice aq (lms (x / y)).length cq] 26)).alloc (Obj.cells #[Value.bool (sgn (x % y)), Value.slice ar (lms (x % y)).length cr] 26)) = w5 at *
  replace kA0 := (hbw5.cell (p := ⟨w.heap.size, 0, none⟩) zA).trans kA0
  replace kA1 := (hbw5.cell (p := ⟨w.heap.size, 1, none⟩) zA).trans kA1
  replace zA := Nat.lt_of_lt_of_le zA hbw5.size
  replace kB0 := (hbw5.cell (p := ⟨w.heap.size + 1, 0, none⟩) zB).trans kB0
  replace kB1 := (hbw5.cell (p := ⟨w.heap.size + 1, 1, none⟩) zB).trans kB1
  replace zB := Nat.lt_of_lt_of_le zB hbw5.size
  replace kR0 := (hbw5.cell (p := ⟨w.heap.size + 1 + 1, 0, none⟩) zR).trans kR0
  replace fR0 := (hbw5.frozen (p := ⟨w.heap.size + 1 + 1, 0, none⟩) zR).trans fR0
  replace kR1 := (hbw5.cell (p := ⟨w.heap.size + 1 + 1, 1, none⟩) zR).trans kR1
  replace fR1 := (hbw5.frozen (p := ⟨w.heap.size + 1 + 1, 1, none⟩) zR).trans fR1
  replace zR := Nat.lt_of_lt_of_le zR hbw5.size
  replace kT0 := (hbw5.cell (p := ⟨w.heap.size + 1 + 1 + 1, 0, none⟩) zT).trans kT0
  replace fT0 := (hbw5.frozen (p := ⟨w.heap.size + 1 + 1 + 1, 0, none⟩) zT).trans fT0
  replace kT1 := (hbw5.cell (p := ⟨w.heap.size + 1 + 1 + 1, 1, none⟩) zT).trans kT1
  replace fT1 := (hbw5.frozen (p := ⟨w.heap.size + 1 + 1 + 1, 1, none⟩) zT).trans fT1
  replace zT := Nat.lt_of_lt_of_le zT hbw5.size
  replace HA := hide (HA.out.below hbw5)
  replace HBB := hide (HBB.out.below hbw5)
  replace HOQ := hide (HOQ.out.below hbw5)
  replace HOR := hide (HOR.out.below hbw5)
  replace HB := hide (bl_trans HB.out hbw5)
  clear hbw5
  have okq : okB (sgn (x / y)) (lms (x / y)) = true := by rw [ok_of_num]; exact decide_eq_true (Nat.lt_of_le_of_lt (div_abs_le x y) hx)
  have okr : okB (sgn (x % y)) (lms (x % y)) = true := by rw [ok_of_num]; exact decide_eq_true (Nat.lt_of_le_of_lt (mod_abs_le x hy0) hy)
  have OKQ := hide okq
  have OKR := hide okr
  clear okq okr
  go_wp2_with fail
  refine (okS _ (sgn (x / y)) (lms (x / y)) _ ⟨aq, cq, rfl, HOQ.out.seg⟩).mono ?_
  rintro e w6 ⟨rfl, hbw6⟩
  have yw6 := hbw6.size
  replace kA0 := (hbw6.cell (p := ⟨w.heap.size, 0, none⟩) zA).trans kA0
  replace kA1 := (hbw6.cell (p := ⟨w.heap.size, 1, none⟩) zA).trans kA1
  replace zA := Nat.lt_of_lt_of_le zA hbw6.size
  replace kB0 := (hbw6.cell (p := ⟨w.heap.size + 1, 0, none⟩) zB).trans kB0
  replace kB1 := (hbw6.cell (p := ⟨w.heap.size + 1, 1, none⟩) zB).trans kB1
  replace zB := Nat.lt_of_lt_of_le zB hbw6.size
  replace kR0 := (hbw6.cell (p := ⟨w.heap.size + 1 + 1, 0, none⟩) zR).trans kR0
  replace fR0 := (hbw6.frozen (p := ⟨w.heap.size + 1 + 1, 0, none⟩) zR).trans fR0
  replace kR1 := (hbw6.cell (p := ⟨w.heap.size + 1 + 1, 1, none⟩) zR).trans kR1
  replace fR1 := (hbw6.frozen (p := ⟨w.heap.size + 1 + 1, 1, none⟩) zR).trans fR1
  replace zR := Nat.lt_of_lt_of_le zR hbw6.size
  replace kT0 := (hbw6.cell (p := ⟨w.heap.size + 1 + 1 + 1, 0, none⟩) zT).trans kT0
  replace fT0 := (hbw6.frozen (p := ⟨w.heap.size + 1 + 1 + 1, 0, none⟩) zT).trans fT0
  replace kT1 := (hbw6.cell (p := ⟨w.heap.size + 1 + 1 + 1, 1, none⟩) zT).trans kT1
  replace fT1 := (hbw6.frozen (p := ⟨w.heap.size + 1 + 1 + 1, 1, none⟩) zT).trans fT1
  replace zT := Nat.lt_of_lt_of_le zT hbw6.size
  replace kQ0 := (hbw6.cell (p := ⟨w4.heap.size, 0, none⟩) zQ).trans kQ0
  replace kQ1 := (hbw6.cell (p := ⟨w4.heap.size, 1, none⟩) zQ).trans kQ1
  replace zQ := Nat.lt_of_lt_of_le zQ hbw6.size
  replace kS0 := (hbw6.cell (p := ⟨w4.heap.size + 1, 0, none⟩) zS).trans kS0
  replace kS1 := (hbw6.cell (p := ⟨w4.heap.size + 1, 1, none⟩) zS).trans kS1
  replace zS := Nat.lt_of_lt_of_le zS hbw6.size
  replace HA := hide (HA.out.below hbw6)
  replace HBB := hide (HBB.out.below hbw6)
  replace HOQ := hide (HOQ.out.below hbw6)
  replace HOR := hide (HOR.out.below hbw6)
  replace HB := hide (bl_trans HB.out hbw6)
  clear hbw6
  rw [OKQ.out]
  go_wp2_with fail
  refine (okS _ (sgn (x % y)) (lms (x % y)) _ ⟨ar, cr, rfl, HOR.out.seg⟩).mono ?_
  rintro e w7 ⟨rfl, hbw7⟩
  have yw7 := hbw7.size
  replace kA0 := (hbw7.cell (p := ⟨w.heap.size, 0, none⟩) zA).trans kA0
  replace kA1 := (hbw7.cell (p := ⟨w.heap.size, 1, none⟩) zA).trans kA1
  replace zA := Nat.lt_of_lt_of_le zA hbw7.size
  replace kB0 := (hbw7.cell (p := ⟨w.heap.size + 1, 0, none⟩) zB).trans kB0
  replace kB1 := (hbw7.cell (p := ⟨w.heap.size + 1, 1, none⟩) zB).trans kB1
  replace zB := Nat.lt_of_lt_of_le zB hbw7.size
  replace kR0 := (hbw7.cell (p := ⟨w.heap.size + 1 + 1, 0, none⟩) zR).trans kR0
  replace fR0 := (hbw7.frozen (p := ⟨w.heap.size + 1 + 1, 0, none⟩) zR).trans fR0
  replace kR1 := (hbw7.cell (p := ⟨w.heap.size + 1 + 1, 1, none⟩) zR).trans kR1
  replace fR1 := (hbw7.frozen (p := ⟨w.heap.size + 1 + 1, 1, none⟩) zR).trans fR1
  replace zR := Nat.lt_of_lt_of_le zR hbw7.size
  replace kT0 := (hbw7.cell (p := ⟨w.heap.size + 1 + 1 + 1, 0, none⟩) zT).trans kT0
  replace fT0 := (hbw7.frozen (p := ⟨w.heap.size + 1 + 1 + 1, 0, none⟩) zT).trans fT0
  replace kT1 := (hbw7.cell (p := ⟨w.heap.size + 1 + 1 + 1, 1, none⟩) zT).trans kT1
  replace fT1 := (hbw7.frozen (p := ⟨w.heap.size + 1 + 1 + 1, 1, none⟩) zT).trans fT1
  replace zT := Nat.lt_of_lt_of_le zT hbw7.size
  replace kQ0 := (hbw7.cell (p := ⟨w4.heap.size, 0, none⟩) zQ).trans kQ0
  replace kQ1 := (hbw7.cell (p := ⟨w4.heap.size, 1, none⟩) zQ).trans kQ1
  replace zQ := Nat.lt_of_lt_of_le zQ hbw7.size
  replace kS0 := (hbw7.cell (p := ⟨w4.heap.size + 1, 0, none⟩) zS).trans kS0
  replace kS1 := (hbw7.cell (p := ⟨w4.heap.size + 1, 1, none⟩) zS).trans kS1
  replace zS := Nat.lt_of_lt_of_le zS hbw7.size
  replace HA := hide (HA.out.below hbw7)
  replace HBB := hide (HBB.out.below hbw7)
  replace HOQ := hide (HOQ.out.below hbw7)
  replace HOR := hide (HOR.out.below hbw7)
  replace HB := hide (bl_trans HB.out hbw7)
  clear hbw7
  rw [OKR.out]
  go_upto_region 6 with fail
  go_region_held3 (fun w' => w'.cell? ⟨w4.heap.size, 0, none⟩ = some (Value.bool (sgn (x / y))) ∧ w'.cell? ⟨w4.heap.size, 1, none⟩ = some (Value.slice aq (lms (x / y)).length cq) ∧ w'.cell? ⟨w4.heap.size + 1, 0, none⟩ = some (Value.bool (sgn (x % y))) ∧ w'.cell? ⟨w4.heap.size + 1, 1, none⟩ = some (Value.slice ar (lms (x % y)).length cr))
    (first
      | exact ⟨(by (try rw [World.cell?_drew]); first | with_reducible assumption | (rw [cell_two (N := w.heap.size + 1 + 1) (p := ⟨w4.heap.size, 0, none⟩) (by dsimp only; omega)]; with_reducible assumption) | (rw [cell_two (N := w.heap.size + 1 + 1 + 1) (p := ⟨w4.heap.size, 0, none⟩) (by dsimp only; omega)]; with_reducible assumption) | (rw [cell_two (N := w.heap.size + 1 + 1) (p := ⟨w4.heap.size, 0, none⟩) (by dsimp only; omega), cell_two (N := w.heap.size + 1 + 1 + 1) (p := ⟨w4.heap.size, 0, none⟩) (by dsimp only; omega)]; with_reducible assumption) | (rw [cell_two (N := w.heap.size + 1 + 1 + 1) (p := ⟨w4.heap.size, 0, none⟩) (by dsimp only; omega), cell_two (N := w.heap.size + 1 + 1) (p := ⟨w4.heap.size, 0, none⟩) (by dsimp only; omega)]; with_reducible assumption)), (by (try rw [World.cell?_drew]); first | with_reducible assumption | (rw [cell_two (N := w.heap.size + 1 + 1) (p := ⟨w4.heap.size, 1, none⟩) (by dsimp only; omega)]; with_reducible assumption) | (rw [cell_two (N := w.heap.size + 1 + 1 + 1) (p := ⟨w4.heap.size, 1, none⟩) (by dsimp only; omega)]; with_reducible assumption) | (rw [cell_two (N := w.heap.size + 1 + 1) (p := ⟨w4.heap.size, 1, none⟩) (by dsimp only; omega), cell_two (N := w.heap.size + 1 + 1 + 1) (p := ⟨w4.heap.size, 1, none⟩) (by dsimp only; omega)]; with_reducible assumption) | (rw [cell_two (N := w.heap.size + 1 + 1 + 1) (p := ⟨w4.heap.size, 1, none⟩) (by dsimp only; omega), cell_two (N := w.heap.size + 1 + 1) (p := ⟨w4.heap.size, 1, none⟩) (by dsimp only; omega)]; with_reducible assumption)), (by (try rw [World.cell?_drew]); first | with_reducible assumption | (rw [cell_two (N := w.heap.size + 1 + 1) (p := ⟨w4.heap.size + 1, 0, none⟩) (by dsimp only; omega)]; with_reducible assumption) | (rw [cell_two (N := w.heap.size + 1 + 1 + 1) (p := ⟨w4.heap.size + 1, 0, none⟩) (by dsimp only; omega)]; with_reducible assumption) | (rw [cell_two (N := w.heap.size + 1 + 1) (p := ⟨w4.heap.size + 1, 0, none⟩) (by dsimp only; omega), cell_two (N := w.heap.size + 1 + 1 + 1) (p := ⟨w4.heap.size + 1, 0, none⟩) (by dsimp only; omega)]; with_reducible assumption) | (rw [cell_two (N := w.heap.size + 1 + 1 + 1) (p := ⟨w4.heap.size + 1, 0, none⟩) (by dsimp only; omega), cell_two (N := w.heap.size + 1 + 1) (p := ⟨w4.heap.size + 1, 0, none⟩) (by dsimp only; omega)]; with_reducible assumption)), (by (try rw [World.cell?_drew]); first | with_reducible assumption | (rw [cell_two (N := w.heap.size + 1 + 1) (p := ⟨w4.heap.size + 1, 1, none⟩) (by dsimp only; omega)]; with_reducible assumption) | (rw [cell_two (N := w.heap.size + 1 + 1 + 1) (p := ⟨w4.heap.size + 1, 1, none⟩) (by dsimp only; omega)]; with_reducible assumption) | (rw [cell_two (N := w.heap.size + 1 + 1) (p := ⟨w4.heap.size + 1, 1, none⟩) (by dsimp only; omega), cell_two (N := w.heap.size + 1 + 1 + 1) (p := ⟨w4.heap.size + 1, 1, none⟩) (by dsimp only; omega)]; with_reducible assumption) | (rw [cell_two (N := w.heap.size + 1 + 1 + 1) (p := ⟨w4.heap.size + 1, 1, none⟩) (by dsimp only; omega), cell_two (N := w.heap.size + 1 + 1) (p := ⟨w4.heap.size + 1, 1, none⟩) (by dsimp only; omega)]; with_reducible assumption))⟩)
    (fail)
  all_goals go_wp2_with fail
  all_goals refine bodyPost_ret (v := .tuple #[.agg #[.bool (sgn (x / y)), .slice aq (lms (x / y)).length cq], .agg #[.bool (sgn (x % y)), .slice ar (lms (x % y)).length cr], .bool true]) (by simp [results, Try.results13, go_sem, kR0, kR1, kT0, kT1]) rfl ?_
  all_goals rw [HT.out, HQ.out, HR.out]
  all_goals refine ⟨aq, cq, ar, cr, rfl, ?_⟩
  all_goals first | exact fin_two'' (N := w.heap.size + 1 + 1) (M := w.heap.size + 1 + 1 + 1) (base := w3.heap.size) HOQ.out HOR.out (by omega) (by omega) (by omega) (by omega) HB.out _ _ _ _ | exact fin_drew' (fin_two'' (N := w.heap.size + 1 + 1) (M := w.heap.size + 1 + 1 + 1) (base := w3.heap.size) HOQ.out HOR.out (by omega) (by omega) (by omega) (by omega) HB.out _ _ _ _)

end Go.Proofs.Ytmdohdnnhlnghaa
