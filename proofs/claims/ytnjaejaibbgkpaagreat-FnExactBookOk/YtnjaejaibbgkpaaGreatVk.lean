/- What a measure alone must be: a fraction above 0, a name, powers of so many values. -/
import Derived.Test.YtnjaejaibbgkpaaGreatPk14
import Derived.Test.YtnjaejaibbgkpaaGreatNmN
import Derived.Test.YtnjaejaibbgkpaaGreatPk15
import Derived.Test.YtnjaejaibbgkpaaGreatPk06
namespace Go.Proofs.YtnjaejaibbgkpaaGreat
open Go.RowKit
set_option linter.unusedVariables false
set_option maxRecDepth 20000

/-- a fraction that is right and above 0 -/
def aboveB (n : Bool) (xs : List Nat) (m : Bool) (ys : List Nat) : Bool := ratB n xs m ys && (!n && decide (0 < xs.length))
/-- powers that are right, of k values -/
def vokB7 (den : Int) (ps : List Int) (k : Int) : Bool := V.vokB den ps && decide ((ps.length : Int) = k)
theorem above_sign (z : Int) : (true && (!sgn z && decide (0 < (lms z).length))) = decide (0 < Int.sign z) := by
  have h := len_zero z
  by_cases h0 : z = 0
  · subst h0; rw [zero_lms]; rfl
  · rw [decide_eq_false h0, decide_eq_false_iff_not] at h
    rw [decide_eq_true (by omega : 0 < (lms z).length)]
    by_cases hn : z < 0
    · rw [show sgn z = true from decide_eq_true hn, Int.sign_eq_neg_one_of_neg hn]; rfl
    · rw [show sgn z = false from decide_eq_false hn, Int.sign_eq_one_of_pos (by omega)]; rfl

set_option maxHeartbeats 4000000 in
set_option maxRecDepth 20000 in
theorem aboveS (n : Bool) (xs : List Nat) (m : Bool) (ys : List Nat) (a : Option Addr) (c : Nat) (b : Option Addr) (d : Nat) (w : World) (s1 : Seg w a xs.length c xs) (s2 : Seg w b ys.length d ys) :
    Calls Tryz.prog 22 #[Value.agg #[Value.bool n, Value.slice a xs.length c, Value.bool m, Value.slice b ys.length d]] w fun e w' => e = .returned (.bool (aboveB n xs m ys)) ∧ Below w.heap.size w w' := by
  have q1 := s1.le
  have sm := hide s1.2.2.2.1
  have S1 := hide s1
  have S2 := hide s2
  clear s1 s2
  have Xa : Hid ((w.alloc (Obj.cells #[Value.bool n, Value.slice a xs.length c, Value.bool m, Value.slice b ys.length d] 40)).heap[w.heap.size]? = some (.cells #[Value.bool n, Value.slice a xs.length c, Value.bool m, Value.slice b ys.length d] 40 (0, 0))) := hide (by simpa only [World.size_alloc] using (hnew w (Obj.cells #[Value.bool n, Value.slice a xs.length c, Value.bool m, Value.slice b ys.length d] 40)))
  have HB : Hid (Below w.heap.size w (w.alloc (Obj.cells #[Value.bool n, Value.slice a xs.length c, Value.bool m, Value.slice b ys.length d] 40))) := hide (bl_alloc (bl_refl w) (Obj.cells #[Value.bool n, Value.slice a xs.length c, Value.bool m, Value.slice b ys.length d] 40))
  have yw1 : w.heap.size + 1 ≤ (w.alloc (Obj.cells #[Value.bool n, Value.slice a xs.length c, Value.bool m, Value.slice b ys.length d] 40)).heap.size := by simp only [World.size_alloc]; omega
  have ka0 : (w.alloc (Obj.cells #[Value.bool n, Value.slice a xs.length c, Value.bool m, Value.slice b ys.length d] 40)).cell? ⟨w.heap.size, 0, none⟩ = some (Value.bool n) := (Lib.cell_of_heap Xa.out 0).trans rfl
  have fa0 : (w.alloc (Obj.cells #[Value.bool n, Value.slice a xs.length c, Value.bool m, Value.slice b ys.length d] 40)).frozen? ⟨w.heap.size, 0, none⟩ = false := Lib.frozen_of_heap Xa.out 0
  have ka1 : (w.alloc (Obj.cells #[Value.bool n, Value.slice a xs.length c, Value.bool m, Value.slice b ys.length d] 40)).cell? ⟨w.heap.size, 1, none⟩ = some (Value.slice a xs.length c) := (Lib.cell_of_heap Xa.out 1).trans rfl
  have fa1 : (w.alloc (Obj.cells #[Value.bool n, Value.slice a xs.length c, Value.bool m, Value.slice b ys.length d] 40)).frozen? ⟨w.heap.size, 1, none⟩ = false := Lib.frozen_of_heap Xa.out 1
  have ka2 : (w.alloc (Obj.cells #[Value.bool n, Value.slice a xs.length c, Value.bool m, Value.slice b ys.length d] 40)).cell? ⟨w.heap.size, 2, none⟩ = some (Value.bool m) := (Lib.cell_of_heap Xa.out 2).trans rfl
  have fa2 : (w.alloc (Obj.cells #[Value.bool n, Value.slice a xs.length c, Value.bool m, Value.slice b ys.length d] 40)).frozen? ⟨w.heap.size, 2, none⟩ = false := Lib.frozen_of_heap Xa.out 2
  have ka3 : (w.alloc (Obj.cells #[Value.bool n, Value.slice a xs.length c, Value.bool m, Value.slice b ys.length d] 40)).cell? ⟨w.heap.size, 3, none⟩ = some (Value.slice b ys.length d) := (Lib.cell_of_heap Xa.out 3).trans rfl
  have fa3 : (w.alloc (Obj.cells #[Value.bool n, Value.slice a xs.length c, Value.bool m, Value.slice b ys.length d] 40)).frozen? ⟨w.heap.size, 3, none⟩ = false := Lib.frozen_of_heap Xa.out 3
  have za : w.heap.size < (w.alloc (Obj.cells #[Value.bool n, Value.slice a xs.length c, Value.bool m, Value.slice b ys.length d] 40)).heap.size := hlt Xa.out
  go_enter Tryz.func22, Tryz.ntmps22
  go_wp2_with fail
  generalize (w.alloc (Obj.cells #[Value.bool n, Value.slice a xs.length c, Value.bool m, Value.slice b ys.length d] 40)) = w1 at *
  refine (RatOkQ n xs m ys a c b d _ (S1.out.below HB.out) (S2.out.below HB.out)).mono ?_
  rintro e w2 ⟨rfl, hb⟩
  have yw2 := hb.size
  clear ka0 fa0 ka1 fa1 ka2 fa2 ka3 fa3 za
  replace Xa := hide (hbel Xa.out hb (by first | assumption | omega))
  replace HB := hide (bl_trans HB.out hb)
  clear hb
  have ka0 : w2.cell? ⟨w.heap.size, 0, none⟩ = some (Value.bool n) := (Lib.cell_of_heap Xa.out 0).trans rfl
  have fa0 : w2.frozen? ⟨w.heap.size, 0, none⟩ = false := Lib.frozen_of_heap Xa.out 0
  have ka1 : w2.cell? ⟨w.heap.size, 1, none⟩ = some (Value.slice a xs.length c) := (Lib.cell_of_heap Xa.out 1).trans rfl
  have fa1 : w2.frozen? ⟨w.heap.size, 1, none⟩ = false := Lib.frozen_of_heap Xa.out 1
  have ka2 : w2.cell? ⟨w.heap.size, 2, none⟩ = some (Value.bool m) := (Lib.cell_of_heap Xa.out 2).trans rfl
  have fa2 : w2.frozen? ⟨w.heap.size, 2, none⟩ = false := Lib.frozen_of_heap Xa.out 2
  have ka3 : w2.cell? ⟨w.heap.size, 3, none⟩ = some (Value.slice b ys.length d) := (Lib.cell_of_heap Xa.out 3).trans rfl
  have fa3 : w2.frozen? ⟨w.heap.size, 3, none⟩ = false := Lib.frozen_of_heap Xa.out 3
  have za : w.heap.size < w2.heap.size := hlt Xa.out
  cases hr : ratB n xs m ys with
  | false =>
    have HE : Hid (false = aboveB n xs m ys) := hide (by unfold aboveB; rw [hr]; simp)
    clear hr
    go_wp2
    go_ret
    exact ⟨ret_bool HE.out, HB.out⟩
  | true =>
    cases hn : n with
    | true =>
      have HE : Hid (false = aboveB n xs m ys) := hide (by rw [hn]; unfold aboveB; simp)
      clear hr
      rw [hn] at ka0
      clear hn
      go_wp2
      go_ret
      exact ⟨ret_bool HE.out, HB.out⟩
    | false =>
      have HE : Hid (decide (0 < xs.length) = aboveB n xs m ys) := hide (by unfold aboveB; rw [hr, hn]; simp)
      rw [hn] at ka0
      clear hr hn
      go_wp2
      go_ret
      exact ⟨ret_bool HE.out, HB.out⟩

set_option maxHeartbeats 4000000 in
set_option maxRecDepth 20000 in
theorem aboveI (n : Bool) (xs : List Nat) (m : Bool) (ys : List Nat) (a : Option Addr) (c : Nat) (b : Option Addr) (d : Nat) (w : World) (s1 : Seg w a xs.length c xs) (s2 : Seg w b ys.length d ys) :
    Calls Tryz.prog 54 #[Value.agg #[Value.bool n, Value.slice a xs.length c, Value.bool m, Value.slice b ys.length d]] w fun e w' => e = .returned (.bool (aboveB n xs m ys)) ∧ Below w.heap.size w w' := by
  have q1 := s1.le
  have sm := hide s1.2.2.2.1
  have S1 := hide s1
  have S2 := hide s2
  clear s1 s2
  have Xa : Hid ((w.alloc (Obj.cells #[Value.bool n, Value.slice a xs.length c, Value.bool m, Value.slice b ys.length d] 40)).heap[w.heap.size]? = some (.cells #[Value.bool n, Value.slice a xs.length c, Value.bool m, Value.slice b ys.length d] 40 (0, 0))) := hide (by simpa only [World.size_alloc] using (hnew w (Obj.cells #[Value.bool n, Value.slice a xs.length c, Value.bool m, Value.slice b ys.length d] 40)))
  have HB : Hid (Below w.heap.size w (w.alloc (Obj.cells #[Value.bool n, Value.slice a xs.length c, Value.bool m, Value.slice b ys.length d] 40))) := hide (bl_alloc (bl_refl w) (Obj.cells #[Value.bool n, Value.slice a xs.length c, Value.bool m, Value.slice b ys.length d] 40))
  have yw1 : w.heap.size + 1 ≤ (w.alloc (Obj.cells #[Value.bool n, Value.slice a xs.length c, Value.bool m, Value.slice b ys.length d] 40)).heap.size := by simp only [World.size_alloc]; omega
  have ka0 : (w.alloc (Obj.cells #[Value.bool n, Value.slice a xs.length c, Value.bool m, Value.slice b ys.length d] 40)).cell? ⟨w.heap.size, 0, none⟩ = some (Value.bool n) := (Lib.cell_of_heap Xa.out 0).trans rfl
  have fa0 : (w.alloc (Obj.cells #[Value.bool n, Value.slice a xs.length c, Value.bool m, Value.slice b ys.length d] 40)).frozen? ⟨w.heap.size, 0, none⟩ = false := Lib.frozen_of_heap Xa.out 0
  have ka1 : (w.alloc (Obj.cells #[Value.bool n, Value.slice a xs.length c, Value.bool m, Value.slice b ys.length d] 40)).cell? ⟨w.heap.size, 1, none⟩ = some (Value.slice a xs.length c) := (Lib.cell_of_heap Xa.out 1).trans rfl
  have fa1 : (w.alloc (Obj.cells #[Value.bool n, Value.slice a xs.length c, Value.bool m, Value.slice b ys.length d] 40)).frozen? ⟨w.heap.size, 1, none⟩ = false := Lib.frozen_of_heap Xa.out 1
  have ka2 : (w.alloc (Obj.cells #[Value.bool n, Value.slice a xs.length c, Value.bool m, Value.slice b ys.length d] 40)).cell? ⟨w.heap.size, 2, none⟩ = some (Value.bool m) := (Lib.cell_of_heap Xa.out 2).trans rfl
  have fa2 : (w.alloc (Obj.cells #[Value.bool n, Value.slice a xs.length c, Value.bool m, Value.slice b ys.length d] 40)).frozen? ⟨w.heap.size, 2, none⟩ = false := Lib.frozen_of_heap Xa.out 2
  have ka3 : (w.alloc (Obj.cells #[Value.bool n, Value.slice a xs.length c, Value.bool m, Value.slice b ys.length d] 40)).cell? ⟨w.heap.size, 3, none⟩ = some (Value.slice b ys.length d) := (Lib.cell_of_heap Xa.out 3).trans rfl
  have fa3 : (w.alloc (Obj.cells #[Value.bool n, Value.slice a xs.length c, Value.bool m, Value.slice b ys.length d] 40)).frozen? ⟨w.heap.size, 3, none⟩ = false := Lib.frozen_of_heap Xa.out 3
  have za : w.heap.size < (w.alloc (Obj.cells #[Value.bool n, Value.slice a xs.length c, Value.bool m, Value.slice b ys.length d] 40)).heap.size := hlt Xa.out
  go_enter Tryz.func54, Tryz.ntmps54
  go_wp2_with fail
  generalize (w.alloc (Obj.cells #[Value.bool n, Value.slice a xs.length c, Value.bool m, Value.slice b ys.length d] 40)) = w1 at *
  refine (rightI n xs m ys a c b d _ (S1.out.below HB.out) (S2.out.below HB.out)).mono ?_
  rintro e w2 ⟨rfl, hb⟩
  have yw2 := hb.size
  clear ka0 fa0 ka1 fa1 ka2 fa2 ka3 fa3 za
  replace Xa := hide (hbel Xa.out hb (by first | assumption | omega))
  replace HB := hide (bl_trans HB.out hb)
  clear hb
  have ka0 : w2.cell? ⟨w.heap.size, 0, none⟩ = some (Value.bool n) := (Lib.cell_of_heap Xa.out 0).trans rfl
  have fa0 : w2.frozen? ⟨w.heap.size, 0, none⟩ = false := Lib.frozen_of_heap Xa.out 0
  have ka1 : w2.cell? ⟨w.heap.size, 1, none⟩ = some (Value.slice a xs.length c) := (Lib.cell_of_heap Xa.out 1).trans rfl
  have fa1 : w2.frozen? ⟨w.heap.size, 1, none⟩ = false := Lib.frozen_of_heap Xa.out 1
  have ka2 : w2.cell? ⟨w.heap.size, 2, none⟩ = some (Value.bool m) := (Lib.cell_of_heap Xa.out 2).trans rfl
  have fa2 : w2.frozen? ⟨w.heap.size, 2, none⟩ = false := Lib.frozen_of_heap Xa.out 2
  have ka3 : w2.cell? ⟨w.heap.size, 3, none⟩ = some (Value.slice b ys.length d) := (Lib.cell_of_heap Xa.out 3).trans rfl
  have fa3 : w2.frozen? ⟨w.heap.size, 3, none⟩ = false := Lib.frozen_of_heap Xa.out 3
  have za : w.heap.size < w2.heap.size := hlt Xa.out
  cases hr : ratB n xs m ys with
  | false =>
    have HE : Hid (false = aboveB n xs m ys) := hide (by unfold aboveB; rw [hr]; simp)
    clear hr
    go_wp2
    go_ret
    exact ⟨ret_bool HE.out, HB.out⟩
  | true =>
    have hok : okB n xs = true := by unfold ratB at hr; simp only [Bool.and_eq_true] at hr; exact hr.1.1
    obtain ⟨z, hn, hx, _⟩ := ok_num sm.out hok
    have HE : Hid (aboveB n xs m ys = decide (0 < Int.sign z)) := hide (by unfold aboveB; rw [hr, hn, hx]; exact above_sign z)
    have HN := hide hn
    have HX := hide hx
    clear hr hn hx hok
    go_wp2_with fail
    refine (signI _ z _ ⟨a, c, by rw [← HN.out, ← HX.out], by rw [← HX.out]; exact S1.out.below HB.out⟩).mono ?_
    rintro e w3 ⟨rfl, hb⟩
    have yw3 := hb.size
    clear ka0 fa0 ka1 fa1 ka2 fa2 ka3 fa3 za
    replace Xa := hide (hbel Xa.out hb (by first | assumption | omega))
    replace HB := hide (bl_trans HB.out hb)
    clear hb
    have ka0 : w3.cell? ⟨w.heap.size, 0, none⟩ = some (Value.bool n) := (Lib.cell_of_heap Xa.out 0).trans rfl
    have fa0 : w3.frozen? ⟨w.heap.size, 0, none⟩ = false := Lib.frozen_of_heap Xa.out 0
    have ka1 : w3.cell? ⟨w.heap.size, 1, none⟩ = some (Value.slice a xs.length c) := (Lib.cell_of_heap Xa.out 1).trans rfl
    have fa1 : w3.frozen? ⟨w.heap.size, 1, none⟩ = false := Lib.frozen_of_heap Xa.out 1
    have ka2 : w3.cell? ⟨w.heap.size, 2, none⟩ = some (Value.bool m) := (Lib.cell_of_heap Xa.out 2).trans rfl
    have fa2 : w3.frozen? ⟨w.heap.size, 2, none⟩ = false := Lib.frozen_of_heap Xa.out 2
    have ka3 : w3.cell? ⟨w.heap.size, 3, none⟩ = some (Value.slice b ys.length d) := (Lib.cell_of_heap Xa.out 3).trans rfl
    have fa3 : w3.frozen? ⟨w.heap.size, 3, none⟩ = false := Lib.frozen_of_heap Xa.out 3
    have za : w.heap.size < w3.heap.size := hlt Xa.out
    have HF : Hid (decide (0 < z) = aboveB n xs m ys) := hide (by rw [HE.out, decide_eq_decide]; exact Int.sign_pos_iff.symm)
    go_wp2
    go_ret
    exact ⟨ret_bool HF.out, HB.out⟩

end Go.Proofs.YtnjaejaibbgkpaaGreat
