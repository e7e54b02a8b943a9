/- The walks of l02Neg and l02Sub, and of the specification's Add and Sub. -/
import Derived.Test.YtgoblagpnioflaaAddS
import Derived.Test.YtgoblagpnioflaaAddP
namespace Go.Proofs.Ytgoblagpnioflaa
open Go.RowKit
set_option linter.unusedVariables false

theorem mk_neg (x : Int) : mk (!sgn x) (Num.nat (lms x)) = -x := by
  rw [mk_not, nat_lms, mk_self]
theorem neg_len (x : Int) : lms (-x) = lms x := by unfold lms; rw [Int.natAbs_neg]

set_option maxHeartbeats 1000000 in
set_option maxRecDepth 20000 in
theorem negS (v1 : Value) (x : Int) (w : World) (h1 : Is w v1 x) (l1 : (lms x).length ≤ 1048576) :
    Calls Try.prog 12 #[v1] w fun e w' => ∃ v, e = .returned v ∧ New w' w.heap.size v (-x) ∧ Below w.heap.size w w' := by
  obtain ⟨a, ca, rfl, ha⟩ := h1
  have HZ := hide (bl_alloc (bl_alloc (bl_refl w) (Obj.cells #[Value.bool (sgn x), Value.slice a (lms x).length ca] 24)) (Obj.cells #[Value.bool false, Value.slice none 0 0] 24))
  have HA := hide (ha.below HZ.out)
  clear ha
  have kR0 : ((w.alloc (Obj.cells #[Value.bool (sgn x), Value.slice a (lms x).length ca] 24)).alloc (Obj.cells #[Value.bool false, Value.slice none 0 0] 24)).cell? ⟨w.heap.size + 1, 0, none⟩ = some (.bool false) := by go_simp
  have kR1 : ((w.alloc (Obj.cells #[Value.bool (sgn x), Value.slice a (lms x).length ca] 24)).alloc (Obj.cells #[Value.bool false, Value.slice none 0 0] 24)).cell? ⟨w.heap.size + 1, 1, none⟩ = some (.slice none 0 0) := by go_simp
  have fR0 : ((w.alloc (Obj.cells #[Value.bool (sgn x), Value.slice a (lms x).length ca] 24)).alloc (Obj.cells #[Value.bool false, Value.slice none 0 0] 24)).frozen? ⟨w.heap.size + 1, 0, none⟩ = false := by go_simp
  have fR1 : ((w.alloc (Obj.cells #[Value.bool (sgn x), Value.slice a (lms x).length ca] 24)).alloc (Obj.cells #[Value.bool false, Value.slice none 0 0] 24)).frozen? ⟨w.heap.size + 1, 1, none⟩ = false := by go_simp
  have zR : w.heap.size + 1 < ((w.alloc (Obj.cells #[Value.bool (sgn x), Value.slice a (lms x).length ca] 24)).alloc (Obj.cells #[Value.bool false, Value.slice none 0 0] 24)).heap.size := by simp only [World.size_alloc]; omega
  have HE := hide (mk_neg x)
  go_enter Try.func12, Try.ntmps12
  go_wp2_with fail
  generalize ((w.alloc (Obj.cells #[Value.bool (sgn x), Value.slice a (lms x).length ca] 24)).alloc (Obj.cells #[Value.bool false, Value.slice none 0 0] 24)) = w1 at *
  refine (makeS (!sgn x) a _ ca (lms x) _ HA.out l1).mono ?_
  rintro e w2 ⟨v2, rfl, hn2, hb2⟩
  rw [HE.out] at hn2
  obtain ⟨k0, k1, f0, f1⟩ := box_keep (N := w.heap.size + 1) hb2 zR kR0 kR1 fR0 fR1
  have HF := hide (fun p r => fin_box (N := w.heap.size + 1) (x := p) (y := r) hn2 zR (by omega) (bl_trans HZ.out hb2))
  obtain ⟨a2, c2, rfl, ho2⟩ := hn2
  clear hb2 ho2 kR0 kR1 fR0 fR1 HA HZ
  go_wp2
  refine bodyPost_ret (v := .agg #[.bool (sgn (-x)), .slice a2 (lms (-x)).length c2]) (by simp [results, Try.results12, go_sem, *]) rfl ?_
  exact ⟨_, rfl, HF.out _ _⟩

theorem len40' {x : Int} (h : x.natAbs < 4294967296 ^ 40) : (lms x).length ≤ 500000 := Nat.le_trans (Num.limbs_len.2 h) (by decide)
theorem addSZ (v1 v2 : Value) (x y : Int) (w : World) (h1 : Is w v1 x) (h2 : Is w v2 y) (hx : x.natAbs < 4294967296 ^ 40) (hy : y.natAbs < 4294967296 ^ 40) :
    Calls Try.prog 23 #[v1, v2] w fun e w' => ∃ v, e = .returned v ∧ New w' w.heap.size v (addZ x y) ∧ Below w.heap.size w w' := addS v1 v2 x y w h1 h2 (len40' hx) (len40' hy)
end Go.Proofs.Ytgoblagpnioflaa
