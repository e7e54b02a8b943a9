/- What a formula holds of its own: the walks. -/
import Derived.Test.YtlknhheafmifnaaGreatDoorPk06
import Derived.Test.YtlknhheafmifnaaGreatDoorPk05
import Derived.Test.YtlknhheafmifnaaGreatDoorRatTS
namespace Go.Proofs.YtlknhheafmifnaaGreatDoor
open Go.RowKit
set_option linter.unusedVariables false
set_option maxRecDepth 20000

/-- the zero fraction -/
def blankB (n : Bool) (xs : List Nat) (m : Bool) (ys : List Nat) : Bool := !n && (!m && (decide (xs.length = 0) && decide (ys.length = 0)))
/-- a number of a formula -/
def numB (n : Bool) (xs : List Nat) (m : Bool) (ys : List Nat) : Bool := ratB n xs m ys && (!n && decide ((ratT n xs m ys).size ≤ 400))
def bareB (n : Bool) (xs : List Nat) (m : Bool) (ys : List Nat) (nm : ByteArray) (p q : Int) (k : Nat) : Bool := blankB n xs m ys && (nm.toList.isEmpty && (decide (p = 0) && (decide (q = 0) && decide (k = 0))))
def ownB (kd : Int) (n : Bool) (xs : List Nat) (m : Bool) (ys : List Nat) (nm : ByteArray) (p q : Int) (k : Nat) : Bool :=
  if kd = 0 then numB n xs m ys && bareB false [] false [] nm p q k
  else if kd = 1 then Nm.nameOkB nm && bareB n xs m ys ⟨#[]⟩ p q k
  else if kd = 2 ∨ kd = 3 ∨ kd = 4 ∨ kd = 5 then decide (k = 2) && bareB n xs m ys nm p q 0
  else if kd = 6 then decide (k = 1) && bareB n xs m ys nm p q 0
  else if kd = 7 then (decide (k = 1) && Nm.pwB p q) && bareB n xs m ys nm 0 0 0
  else false

set_option maxHeartbeats 4000000 in
set_option maxRecDepth 20000 in
theorem noneS (n : Bool) (xs : List Nat) (m : Bool) (ys : List Nat) (a : Option Addr) (c : Nat) (b : Option Addr) (d : Nat) (w : World) (s1 : Seg w a xs.length c xs) (s2 : Seg w b ys.length d ys) :
    Calls Tryz.prog 30 #[Value.agg #[Value.bool n, Value.slice a xs.length c, Value.bool m, Value.slice b ys.length d]] w fun e w' => e = .returned (.bool (blankB n xs m ys)) ∧ Below w.heap.size w w' := by
  have q1 := s1.le
  have q2 := s2.le
  have sm := hide s1.2.2.2.1
  have S1 := hide s1
  have S2 := hide s2
  clear s1 s2
  have HB : Hid (Below w.heap.size w (w.alloc (Obj.cells #[Value.bool n, Value.slice a xs.length c, Value.bool m, Value.slice b ys.length d] 34))) := hide (bl_alloc (bl_refl w) _)
  by_cases h1 : xs.length = 0
  all_goals by_cases h2 : ys.length = 0
  all_goals cases n
  all_goals cases m
  all_goals go_enter Tryz.func30, Tryz.ntmps30
  all_goals go_wp2
  all_goals go_ret
  all_goals refine ⟨ret_bool ?_, bl_alloc (bl_refl w) _⟩
  all_goals simp [blankB, *]

set_option maxHeartbeats 4000000 in
set_option maxRecDepth 20000 in
theorem numS (n : Bool) (xs : List Nat) (m : Bool) (ys : List Nat) (a : Option Addr) (c : Nat) (b : Option Addr) (d : Nat) (w : World) (s1 : Seg w a xs.length c xs) (s2 : Seg w b ys.length d ys) :
    Calls Tryz.prog 29 #[Value.agg #[Value.bool n, Value.slice a xs.length c, Value.bool m, Value.slice b ys.length d]] w fun e w' => e = .returned (.bool (numB n xs m ys)) ∧ Below w.heap.size w w' := by
  have q1 := s1.le
  have q2 := s2.le
  have sm := hide s1.2.2.2.1
  have S1 := hide s1
  have S2 := hide s2
  clear s1 s2
  have Xa : Hid ((w.alloc (Obj.cells #[Value.bool n, Value.slice a xs.length c, Value.bool m, Value.slice b ys.length d] 34)).heap[w.heap.size]? = some (.cells #[Value.bool n, Value.slice a xs.length c, Value.bool m, Value.slice b ys.length d] 34 (0, 0))) := hide (by simpa only [World.size_alloc] using (hnew w (Obj.cells #[Value.bool n, Value.slice a xs.length c, Value.bool m, Value.slice b ys.length d] 34)))
  have HB : Hid (Below w.heap.size w (w.alloc (Obj.cells #[Value.bool n, Value.slice a xs.length c, Value.bool m, Value.slice b ys.length d] 34))) := hide (bl_alloc (bl_refl w) (Obj.cells #[Value.bool n, Value.slice a xs.length c, Value.bool m, Value.slice b ys.length d] 34))
  have yw1 : w.heap.size + 1 ≤ (w.alloc (Obj.cells #[Value.bool n, Value.slice a xs.length c, Value.bool m, Value.slice b ys.length d] 34)).heap.size := by simp only [World.size_alloc]; omega
  have ka0 : (w.alloc (Obj.cells #[Value.bool n, Value.slice a xs.length c, Value.bool m, Value.slice b ys.length d] 34)).cell? ⟨w.heap.size, 0, none⟩ = some (Value.bool n) := (Lib.cell_of_heap Xa.out 0).trans rfl
  have fa0 : (w.alloc (Obj.cells #[Value.bool n, Value.slice a xs.length c, Value.bool m, Value.slice b ys.length d] 34)).frozen? ⟨w.heap.size, 0, none⟩ = false := Lib.frozen_of_heap Xa.out 0
  have ka1 : (w.alloc (Obj.cells #[Value.bool n, Value.slice a xs.length c, Value.bool m, Value.slice b ys.length d] 34)).cell? ⟨w.heap.size, 1, none⟩ = some (Value.slice a xs.length c) := (Lib.cell_of_heap Xa.out 1).trans rfl
  have fa1 : (w.alloc (Obj.cells #[Value.bool n, Value.slice a xs.length c, Value.bool m, Value.slice b ys.length d] 34)).frozen? ⟨w.heap.size, 1, none⟩ = false := Lib.frozen_of_heap Xa.out 1
  have ka2 : (w.alloc (Obj.cells #[Value.bool n, Value.slice a xs.length c, Value.bool m, Value.slice b ys.length d] 34)).cell? ⟨w.heap.size, 2, none⟩ = some (Value.bool m) := (Lib.cell_of_heap Xa.out 2).trans rfl
  have fa2 : (w.alloc (Obj.cells #[Value.bool n, Value.slice a xs.length c, Value.bool m, Value.slice b ys.length d] 34)).frozen? ⟨w.heap.size, 2, none⟩ = false := Lib.frozen_of_heap Xa.out 2
  have ka3 : (w.alloc (Obj.cells #[Value.bool n, Value.slice a xs.length c, Value.bool m, Value.slice b ys.length d] 34)).cell? ⟨w.heap.size, 3, none⟩ = some (Value.slice b ys.length d) := (Lib.cell_of_heap Xa.out 3).trans rfl
  have fa3 : (w.alloc (Obj.cells #[Value.bool n, Value.slice a xs.length c, Value.bool m, Value.slice b ys.length d] 34)).frozen? ⟨w.heap.size, 3, none⟩ = false := Lib.frozen_of_heap Xa.out 3
  have za : w.heap.size < (w.alloc (Obj.cells #[Value.bool n, Value.slice a xs.length c, Value.bool m, Value.slice b ys.length d] 34)).heap.size := hlt Xa.out
  go_enter Tryz.func29, Tryz.ntmps29
  go_wp2_with fail
  generalize (w.alloc (Obj.cells #[Value.bool n, Value.slice a xs.length c, Value.bool m, Value.slice b ys.length d] 34)) = w1 at *
  refine (RatOkQ n xs m ys a c b d _ (S1.out.below HB.out) (S2.out.below HB.out)).mono ?_
  rintro e w2 ⟨rfl, hb⟩
  have yw2 := hb.size
  clear ka0 fa0 ka1 fa1 ka2 fa2 ka3 fa3 za
  replace Xa := hide (hbel Xa.out hb (by first | assumption | omega))
  replace HB := hide (bl_trans HB.out hb)
  clear hb
  have ka0 : w2.cell? ⟨w.heap.size, 0, none⟩ = some (Value.bool n) := (Lib.cell_of_heap Xa.out 0).trans rfl
  have fa0 : w2.frozen? ⟨w.heap.size, 0, none⟩ = false := Lib.frozen_of_heap Xa.out 0
  have ka1 : w2.cell? ⟨w.heap.size, 1, none⟩ = some (Value.slice a xs.length c) := (Lib.cell_of_heap Xa.out 1).trans rfl
  have fa1 : w2.frozen? ⟨w.heap.size, 1, none⟩ = false := Lib.frozen_of_heap Xa.out 1
  have ka2 : w2.cell? ⟨w.heap.size, 2, none⟩ = some (Value.bool m) := (Lib.cell_of_heap Xa.out 2).trans rfl
  have fa2 : w2.frozen? ⟨w.heap.size, 2, none⟩ = false := Lib.frozen_of_heap Xa.out 2
  have ka3 : w2.cell? ⟨w.heap.size, 3, none⟩ = some (Value.slice b ys.length d) := (Lib.cell_of_heap Xa.out 3).trans rfl
  have fa3 : w2.frozen? ⟨w.heap.size, 3, none⟩ = false := Lib.frozen_of_heap Xa.out 3
  have za : w.heap.size < w2.heap.size := hlt Xa.out
  cases hr : ratB n xs m ys with
  | false =>
    have HE : Hid (false = numB n xs m ys) := hide (by unfold numB; rw [hr]; rfl)
    clear hr
    go_wp2
    go_ret
    exact ⟨ret_bool HE.out, HB.out⟩
  | true =>
    cases hn : n with
    | true =>
      have HE : Hid (false = numB n xs m ys) := hide (by rw [hn]; unfold numB; simp)
      rw [hn] at ka0
      clear hr hn
      go_wp2
      go_ret
      exact ⟨ret_bool HE.out, HB.out⟩
    | false =>
      have HR := hide hr
      have HN := hide hn
      rw [hn] at ka0 Xa
      clear hr hn
      go_wp2_with fail
      rw [← HN.out] at ka0 Xa ⊢
      refine (ratTextS n xs m ys a c b d _ (S1.out.below HB.out) (S2.out.below HB.out)).mono ?_
      rintro e w3 ⟨rfl, hb⟩
      have yw3 := hb.size
      clear ka0 fa0 ka1 fa1 ka2 fa2 ka3 fa3 za
      replace Xa := hide (hbel Xa.out hb (by first | assumption | omega))
      replace HB := hide (bl_trans HB.out hb)
      clear hb
      have ka0 : w3.cell? ⟨w.heap.size, 0, none⟩ = some (Value.bool n) := (Lib.cell_of_heap Xa.out 0).trans rfl
      have fa0 : w3.frozen? ⟨w.heap.size, 0, none⟩ = false := Lib.frozen_of_heap Xa.out 0
      have ka1 : w3.cell? ⟨w.heap.size, 1, none⟩ = some (Value.slice a xs.length c) := (Lib.cell_of_heap Xa.out 1).trans rfl
      have fa1 : w3.frozen? ⟨w.heap.size, 1, none⟩ = false := Lib.frozen_of_heap Xa.out 1
      have ka2 : w3.cell? ⟨w.heap.size, 2, none⟩ = some (Value.bool m) := (Lib.cell_of_heap Xa.out 2).trans rfl
      have fa2 : w3.frozen? ⟨w.heap.size, 2, none⟩ = false := Lib.frozen_of_heap Xa.out 2
      have ka3 : w3.cell? ⟨w.heap.size, 3, none⟩ = some (Value.slice b ys.length d) := (Lib.cell_of_heap Xa.out 3).trans rfl
      have fa3 : w3.frozen? ⟨w.heap.size, 3, none⟩ = false := Lib.frozen_of_heap Xa.out 3
      have za : w.heap.size < w3.heap.size := hlt Xa.out
      have HE : Hid (decide (((ratT n xs m ys).size : Int) ≤ 400) = numB n xs m ys) := hide (by unfold numB; rw [HR.out, HN.out, Bool.not_false, Bool.true_and, Bool.true_and, decide_eq_decide]; omega)
      generalize ratT n xs m ys = T at *
      go_wp2
      go_ret
      exact ⟨ret_bool HE.out, HB.out⟩

set_option maxHeartbeats 4000000 in
set_option maxRecDepth 20000 in
theorem numI (n : Bool) (xs : List Nat) (m : Bool) (ys : List Nat) (a : Option Addr) (c : Nat) (b : Option Addr) (d : Nat) (w : World) (s1 : Seg w a xs.length c xs) (s2 : Seg w b ys.length d ys) (htab : Tabs w) :
    Calls Tryz.prog 34 #[Value.agg #[Value.bool n, Value.slice a xs.length c, Value.bool m, Value.slice b ys.length d]] w fun e w' => e = .returned (.bool (numB n xs m ys)) ∧ Below w.heap.size w w' := by
  have q1 := s1.le
  have q2 := s2.le
  have sm := hide s1.2.2.2.1
  have S1 := hide s1
  have S2 := hide s2
  clear s1 s2
  have HT := hide htab
  clear htab
  have Xa : Hid ((w.alloc (Obj.cells #[Value.bool n, Value.slice a xs.length c, Value.bool m, Value.slice b ys.length d] 34)).heap[w.heap.size]? = some (.cells #[Value.bool n, Value.slice a xs.length c, Value.bool m, Value.slice b ys.length d] 34 (0, 0))) := hide (by simpa only [World.size_alloc] using (hnew w (Obj.cells #[Value.bool n, Value.slice a xs.length c, Value.bool m, Value.slice b ys.length d] 34)))
  have HB : Hid (Below w.heap.size w (w.alloc (Obj.cells #[Value.bool n, Value.slice a xs.length c, Value.bool m, Value.slice b ys.length d] 34))) := hide (bl_alloc (bl_refl w) (Obj.cells #[Value.bool n, Value.slice a xs.length c, Value.bool m, Value.slice b ys.length d] 34))
  have yw1 : w.heap.size + 1 ≤ (w.alloc (Obj.cells #[Value.bool n, Value.slice a xs.length c, Value.bool m, Value.slice b ys.length d] 34)).heap.size := by simp only [World.size_alloc]; omega
  have ka0 : (w.alloc (Obj.cells #[Value.bool n, Value.slice a xs.length c, Value.bool m, Value.slice b ys.length d] 34)).cell? ⟨w.heap.size, 0, none⟩ = some (Value.bool n) := (Lib.cell_of_heap Xa.out 0).trans rfl
  have fa0 : (w.alloc (Obj.cells #[Value.bool n, Value.slice a xs.length c, Value.bool m, Value.slice b ys.length d] 34)).frozen? ⟨w.heap.size, 0, none⟩ = false := Lib.frozen_of_heap Xa.out 0
  have ka1 : (w.alloc (Obj.cells #[Value.bool n, Value.slice a xs.length c, Value.bool m, Value.slice b ys.length d] 34)).cell? ⟨w.heap.size, 1, none⟩ = some (Value.slice a xs.length c) := (Lib.cell_of_heap Xa.out 1).trans rfl
  have fa1 : (w.alloc (Obj.cells #[Value.bool n, Value.slice a xs.length c, Value.bool m, Value.slice b ys.length d] 34)).frozen? ⟨w.heap.size, 1, none⟩ = false := Lib.frozen_of_heap Xa.out 1
  have ka2 : (w.alloc (Obj.cells #[Value.bool n, Value.slice a xs.length c, Value.bool m, Value.slice b ys.length d] 34)).cell? ⟨w.heap.size, 2, none⟩ = some (Value.bool m) := (Lib.cell_of_heap Xa.out 2).trans rfl
  have fa2 : (w.alloc (Obj.cells #[Value.bool n, Value.slice a xs.length c, Value.bool m, Value.slice b ys.length d] 34)).frozen? ⟨w.heap.size, 2, none⟩ = false := Lib.frozen_of_heap Xa.out 2
  have ka3 : (w.alloc (Obj.cells #[Value.bool n, Value.slice a xs.length c, Value.bool m, Value.slice b ys.length d] 34)).cell? ⟨w.heap.size, 3, none⟩ = some (Value.slice b ys.length d) := (Lib.cell_of_heap Xa.out 3).trans rfl
  have fa3 : (w.alloc (Obj.cells #[Value.bool n, Value.slice a xs.length c, Value.bool m, Value.slice b ys.length d] 34)).frozen? ⟨w.heap.size, 3, none⟩ = false := Lib.frozen_of_heap Xa.out 3
  have za : w.heap.size < (w.alloc (Obj.cells #[Value.bool n, Value.slice a xs.length c, Value.bool m, Value.slice b ys.length d] 34)).heap.size := hlt Xa.out
  go_enter Tryz.func34, Tryz.ntmps34
  go_wp2_with fail
  generalize (w.alloc (Obj.cells #[Value.bool n, Value.slice a xs.length c, Value.bool m, Value.slice b ys.length d] 34)) = w1 at *
  refine (rightI n xs m ys a c b d _ (S1.out.below HB.out) (S2.out.below HB.out)).mono ?_
  rintro e w2 ⟨rfl, hb⟩
  have yw2 := hb.size
  clear ka0 fa0 ka1 fa1 ka2 fa2 ka3 fa3 za
  replace Xa := hide (hbel Xa.out hb (by first | assumption | omega))
  replace HB := hide (bl_trans HB.out hb)
  clear hb
  have ka0 : w2.cell? ⟨w.heap.size, 0, none⟩ = some (Value.bool n) := (Lib.cell_of_heap Xa.out 0).trans rfl
  have fa0 : w2.frozen? ⟨w.heap.size, 0, none⟩ = false := Lib.frozen_of_heap Xa.out 0
  have ka1 : w2.cell? ⟨w.heap.size, 1, none⟩ = some (Value.slice a xs.length c) := (Lib.cell_of_heap Xa.out 1).trans rfl
  have fa1 : w2.frozen? ⟨w.heap.size, 1, none⟩ = false := Lib.frozen_of_heap Xa.out 1
  have ka2 : w2.cell? ⟨w.heap.size, 2, none⟩ = some (Value.bool m) := (Lib.cell_of_heap Xa.out 2).trans rfl
  have fa2 : w2.frozen? ⟨w.heap.size, 2, none⟩ = false := Lib.frozen_of_heap Xa.out 2
  have ka3 : w2.cell? ⟨w.heap.size, 3, none⟩ = some (Value.slice b ys.length d) := (Lib.cell_of_heap Xa.out 3).trans rfl
  have fa3 : w2.frozen? ⟨w.heap.size, 3, none⟩ = false := Lib.frozen_of_heap Xa.out 3
  have za : w.heap.size < w2.heap.size := hlt Xa.out
  cases hr : ratB n xs m ys with
  | false =>
    have HE : Hid (false = numB n xs m ys) := hide (by unfold numB; rw [hr]; rfl)
    clear hr
    go_wp2
    go_ret
    exact ⟨ret_bool HE.out, HB.out⟩
  | true =>
    have hok : okB n xs = true := by unfold ratB at hr; simp only [Bool.and_eq_true] at hr; exact hr.1.1
    obtain ⟨z, hn, hx, _⟩ := ok_num sm.out hok
    have HN1 := hide hn
    have HX := hide hx
    have HR := hide hr
    clear hr hn hx hok
    go_wp2_with fail
    refine (signI _ z _ ⟨a, c, by rw [← HN1.out, ← HX.out], by rw [← HX.out]; exact S1.out.below HB.out⟩).mono ?_
    rintro e w3 ⟨rfl, hb⟩
    have yw3 := hb.size
    clear ka0 fa0 ka1 fa1 ka2 fa2 ka3 fa3 za
    replace Xa := hide (hbel Xa.out hb (by first | assumption | omega))
    replace HB := hide (bl_trans HB.out hb)
    clear hb
    have ka0 : w3.cell? ⟨w.heap.size, 0, none⟩ = some (Value.bool n) := (Lib.cell_of_heap Xa.out 0).trans rfl
    have fa0 : w3.frozen? ⟨w.heap.size, 0, none⟩ = false := Lib.frozen_of_heap Xa.out 0
    have ka1 : w3.cell? ⟨w.heap.size, 1, none⟩ = some (Value.slice a xs.length c) := (Lib.cell_of_heap Xa.out 1).trans rfl
    have fa1 : w3.frozen? ⟨w.heap.size, 1, none⟩ = false := Lib.frozen_of_heap Xa.out 1
    have ka2 : w3.cell? ⟨w.heap.size, 2, none⟩ = some (Value.bool m) := (Lib.cell_of_heap Xa.out 2).trans rfl
    have fa2 : w3.frozen? ⟨w.heap.size, 2, none⟩ = false := Lib.frozen_of_heap Xa.out 2
    have ka3 : w3.cell? ⟨w.heap.size, 3, none⟩ = some (Value.slice b ys.length d) := (Lib.cell_of_heap Xa.out 3).trans rfl
    have fa3 : w3.frozen? ⟨w.heap.size, 3, none⟩ = false := Lib.frozen_of_heap Xa.out 3
    have za : w.heap.size < w3.heap.size := hlt Xa.out
    by_cases hz : z < 0
    · have HE : Hid (false = numB n xs m ys) := hide (by rw [HN1.out]; unfold numB; rw [show sgn z = true from decide_eq_true hz]; simp)
      have hs : ¬ Int.sign z ≥ 0 := by have := Int.sign_neg_iff.2 hz; omega
      generalize Int.sign z = Z at *
      clear hz
      go_wp2
      go_ret
      exact ⟨ret_bool HE.out, HB.out⟩
    have HN : Hid (n = false) := hide (by rw [HN1.out]; exact decide_eq_false hz)
    have hs : Int.sign z ≥ 0 := Int.sign_nonneg_iff.2 (by omega)
    generalize Int.sign z = Z at *
    clear hz
    go_wp2_with fail
    refine (ratTextI n xs m ys a c b d _ (S1.out.below HB.out) (S2.out.below HB.out) (HT.out.below HB.out)).mono ?_
    rintro e w4 ⟨rfl, hb⟩
    have yw4 := hb.size
    clear ka0 fa0 ka1 fa1 ka2 fa2 ka3 fa3 za
    replace Xa := hide (hbel Xa.out hb (by first | assumption | omega))
    replace HB := hide (bl_trans HB.out hb)
    clear hb
    have ka0 : w4.cell? ⟨w.heap.size, 0, none⟩ = some (Value.bool n) := (Lib.cell_of_heap Xa.out 0).trans rfl
    have fa0 : w4.frozen? ⟨w.heap.size, 0, none⟩ = false := Lib.frozen_of_heap Xa.out 0
    have ka1 : w4.cell? ⟨w.heap.size, 1, none⟩ = some (Value.slice a xs.length c) := (Lib.cell_of_heap Xa.out 1).trans rfl
    have fa1 : w4.frozen? ⟨w.heap.size, 1, none⟩ = false := Lib.frozen_of_heap Xa.out 1
    have ka2 : w4.cell? ⟨w.heap.size, 2, none⟩ = some (Value.bool m) := (Lib.cell_of_heap Xa.out 2).trans rfl
    have fa2 : w4.frozen? ⟨w.heap.size, 2, none⟩ = false := Lib.frozen_of_heap Xa.out 2
    have ka3 : w4.cell? ⟨w.heap.size, 3, none⟩ = some (Value.slice b ys.length d) := (Lib.cell_of_heap Xa.out 3).trans rfl
    have fa3 : w4.frozen? ⟨w.heap.size, 3, none⟩ = false := Lib.frozen_of_heap Xa.out 3
    have za : w.heap.size < w4.heap.size := hlt Xa.out
    have HE : Hid (decide (((ratT n xs m ys).size : Int) ≤ 400) = numB n xs m ys) := hide (by unfold numB; rw [HR.out, HN.out, Bool.not_false, Bool.true_and, Bool.true_and, decide_eq_decide]; omega)
    generalize ratT n xs m ys = T at *
    go_wp2
    go_ret
    exact ⟨ret_bool HE.out, HB.out⟩

set_option maxHeartbeats 4000000 in
set_option maxRecDepth 20000 in
theorem blankI (n : Bool) (xs : List Nat) (m : Bool) (ys : List Nat) (a : Option Addr) (c : Nat) (b : Option Addr) (d : Nat) (w : World) (s1 : Seg w a xs.length c xs) (s2 : Seg w b ys.length d ys) :
    Calls Tryz.prog 51 #[Value.agg #[Value.bool n, Value.slice a xs.length c, Value.bool m, Value.slice b ys.length d]] w fun e w' => e = .returned (.bool (blankB n xs m ys)) ∧ Below w.heap.size w w' := by
  have q1 := s1.le
  have q2 := s2.le
  have sm := hide s1.2.2.2.1
  have S1 := hide s1
  have S2 := hide s2
  clear s1 s2
  cases hn : n with
  | true =>
    have HB := hide (bl_alloc (bl_refl w) (Obj.cells #[Value.bool true, Value.slice a xs.length c, Value.bool m, Value.slice b ys.length d] 34))
    go_enter Tryz.func51, Tryz.ntmps51
    go_wp2
    go_ret
    exact ⟨ret_bool (by simp [blankB]), HB.out⟩
  | false =>
    have Xa : Hid ((w.alloc (Obj.cells #[Value.bool false, Value.slice a xs.length c, Value.bool m, Value.slice b ys.length d] 34)).heap[w.heap.size]? = some (.cells #[Value.bool false, Value.slice a xs.length c, Value.bool m, Value.slice b ys.length d] 34 (0, 0))) := hide (by simpa only [World.size_alloc] using (hnew w (Obj.cells #[Value.bool false, Value.slice a xs.length c, Value.bool m, Value.slice b ys.length d] 34)))
    have HB : Hid (Below w.heap.size w (w.alloc (Obj.cells #[Value.bool false, Value.slice a xs.length c, Value.bool m, Value.slice b ys.length d] 34))) := hide (bl_alloc (bl_refl w) (Obj.cells #[Value.bool false, Value.slice a xs.length c, Value.bool m, Value.slice b ys.length d] 34))
    have yw1 : w.heap.size + 1 ≤ (w.alloc (Obj.cells #[Value.bool false, Value.slice a xs.length c, Value.bool m, Value.slice b ys.length d] 34)).heap.size := by simp only [World.size_alloc]; omega
    have ka0 : (w.alloc (Obj.cells #[Value.bool false, Value.slice a xs.length c, Value.bool m, Value.slice b ys.length d] 34)).cell? ⟨w.heap.size, 0, none⟩ = some (Value.bool false) := (Lib.cell_of_heap Xa.out 0).trans rfl
    have fa0 : (w.alloc (Obj.cells #[Value.bool false, Value.slice a xs.length c, Value.bool m, Value.slice b ys.length d] 34)).frozen? ⟨w.heap.size, 0, none⟩ = false := Lib.frozen_of_heap Xa.out 0
    have ka1 : (w.alloc (Obj.cells #[Value.bool false, Value.slice a xs.length c, Value.bool m, Value.slice b ys.length d] 34)).cell? ⟨w.heap.size, 1, none⟩ = some (Value.slice a xs.length c) := (Lib.cell_of_heap Xa.out 1).trans rfl
    have fa1 : (w.alloc (Obj.cells #[Value.bool false, Value.slice a xs.length c, Value.bool m, Value.slice b ys.length d] 34)).frozen? ⟨w.heap.size, 1, none⟩ = false := Lib.frozen_of_heap Xa.out 1
    have ka2 : (w.alloc (Obj.cells #[Value.bool false, Value.slice a xs.length c, Value.bool m, Value.slice b ys.length d] 34)).cell? ⟨w.heap.size, 2, none⟩ = some (Value.bool m) := (Lib.cell_of_heap Xa.out 2).trans rfl
    have fa2 : (w.alloc (Obj.cells #[Value.bool false, Value.slice a xs.length c, Value.bool m, Value.slice b ys.length d] 34)).frozen? ⟨w.heap.size, 2, none⟩ = false := Lib.frozen_of_heap Xa.out 2
    have ka3 : (w.alloc (Obj.cells #[Value.bool false, Value.slice a xs.length c, Value.bool m, Value.slice b ys.length d] 34)).cell? ⟨w.heap.size, 3, none⟩ = some (Value.slice b ys.length d) := (Lib.cell_of_heap Xa.out 3).trans rfl
    have fa3 : (w.alloc (Obj.cells #[Value.bool false, Value.slice a xs.length c, Value.bool m, Value.slice b ys.length d] 34)).frozen? ⟨w.heap.size, 3, none⟩ = false := Lib.frozen_of_heap Xa.out 3
    have za : w.heap.size < (w.alloc (Obj.cells #[Value.bool false, Value.slice a xs.length c, Value.bool m, Value.slice b ys.length d] 34)).heap.size := hlt Xa.out
    go_enter Tryz.func51, Tryz.ntmps51
    go_wp2_with fail
    generalize (w.alloc (Obj.cells #[Value.bool false, Value.slice a xs.length c, Value.bool m, Value.slice b ys.length d] 34)) = w1 at *
    refine (noughtI _ false xs _ ⟨a, c, rfl, S1.out.below HB.out⟩).mono ?_
    rintro e w2 ⟨rfl, hb⟩
    have yw2 := hb.size
    clear ka0 fa0 ka1 fa1 ka2 fa2 ka3 fa3 za
    replace Xa := hide (hbel Xa.out hb (by first | assumption | omega))
    replace HB := hide (bl_trans HB.out hb)
    clear hb
    have ka0 : w2.cell? ⟨w.heap.size, 0, none⟩ = some (Value.bool false) := (Lib.cell_of_heap Xa.out 0).trans rfl
    have fa0 : w2.frozen? ⟨w.heap.size, 0, none⟩ = false := Lib.frozen_of_heap Xa.out 0
    have ka1 : w2.cell? ⟨w.heap.size, 1, none⟩ = some (Value.slice a xs.length c) := (Lib.cell_of_heap Xa.out 1).trans rfl
    have fa1 : w2.frozen? ⟨w.heap.size, 1, none⟩ = false := Lib.frozen_of_heap Xa.out 1
    have ka2 : w2.cell? ⟨w.heap.size, 2, none⟩ = some (Value.bool m) := (Lib.cell_of_heap Xa.out 2).trans rfl
    have fa2 : w2.frozen? ⟨w.heap.size, 2, none⟩ = false := Lib.frozen_of_heap Xa.out 2
    have ka3 : w2.cell? ⟨w.heap.size, 3, none⟩ = some (Value.slice b ys.length d) := (Lib.cell_of_heap Xa.out 3).trans rfl
    have fa3 : w2.frozen? ⟨w.heap.size, 3, none⟩ = false := Lib.frozen_of_heap Xa.out 3
    have za : w.heap.size < w2.heap.size := hlt Xa.out
    by_cases h1 : xs.length = 0
    · rw [decide_eq_true h1]
      have H1 := hide h1
      clear h1
      cases hm : m with
      | true =>
        rw [hm] at ka2
        go_wp2
        go_ret
        exact ⟨ret_bool (by simp [blankB, hm]), HB.out⟩
      | false =>
        rw [hm] at ka2 Xa
        have HM := hide hm
        clear hm
        go_wp2_with fail
        refine (noughtI _ false ys _ ⟨b, d, rfl, S2.out.below HB.out⟩).mono ?_
        rintro e w3 ⟨rfl, hb⟩
        have yw3 := hb.size
        clear ka0 fa0 ka1 fa1 ka2 fa2 ka3 fa3 za
        replace Xa := hide (hbel Xa.out hb (by first | assumption | omega))
        replace HB := hide (bl_trans HB.out hb)
        clear hb
        have ka0 : w3.cell? ⟨w.heap.size, 0, none⟩ = some (Value.bool false) := (Lib.cell_of_heap Xa.out 0).trans rfl
        have fa0 : w3.frozen? ⟨w.heap.size, 0, none⟩ = false := Lib.frozen_of_heap Xa.out 0
        have ka1 : w3.cell? ⟨w.heap.size, 1, none⟩ = some (Value.slice a xs.length c) := (Lib.cell_of_heap Xa.out 1).trans rfl
        have fa1 : w3.frozen? ⟨w.heap.size, 1, none⟩ = false := Lib.frozen_of_heap Xa.out 1
        have ka2 : w3.cell? ⟨w.heap.size, 2, none⟩ = some (Value.bool false) := (Lib.cell_of_heap Xa.out 2).trans rfl
        have fa2 : w3.frozen? ⟨w.heap.size, 2, none⟩ = false := Lib.frozen_of_heap Xa.out 2
        have ka3 : w3.cell? ⟨w.heap.size, 3, none⟩ = some (Value.slice b ys.length d) := (Lib.cell_of_heap Xa.out 3).trans rfl
        have fa3 : w3.frozen? ⟨w.heap.size, 3, none⟩ = false := Lib.frozen_of_heap Xa.out 3
        have za : w.heap.size < w3.heap.size := hlt Xa.out
        go_wp2
        go_ret
        exact ⟨ret_bool (by rw [HM.out]; simp [blankB, H1.out]), HB.out⟩
    · rw [decide_eq_false h1]
      go_wp2
      go_ret
      exact ⟨ret_bool (by simp [blankB, h1]), HB.out⟩

set_option maxHeartbeats 4000000 in
set_option maxRecDepth 20000 in
theorem bareI (kd : Int) (n : Bool) (xs : List Nat) (m : Bool) (ys : List Nat) (nm : ByteArray) (p q : Int) (k : Nat) (a : Option Addr) (c : Nat) (b : Option Addr) (d : Nat) (x : Option Addr) (ck : Nat) (w : World) (s1 : Seg w a xs.length c xs) (s2 : Seg w b ys.length d ys) (hk : k ≤ 9223372036854775807) :
    Calls Tryz.prog 37 #[Value.agg #[Value.int .i64 kd, Value.bool n, Value.slice a xs.length c, Value.bool m, Value.slice b ys.length d, Value.string nm, Value.int .i64 p, Value.int .i64 q, Value.slice x k ck]] w fun e w' => e = .returned (.bool (bareB n xs m ys nm p q k)) ∧ Below w.heap.size w w' := by
  have q1 := s1.le
  have q2 := s2.le
  have sm := hide s1.2.2.2.1
  have S1 := hide s1
  have S2 := hide s2
  clear s1 s2
  have Xa : Hid ((w.alloc (Obj.cells #[Value.int .i64 kd, Value.bool n, Value.slice a xs.length c, Value.bool m, Value.slice b ys.length d, Value.string nm, Value.int .i64 p, Value.int .i64 q, Value.slice x k ck] 37)).heap[w.heap.size]? = some (.cells #[Value.int .i64 kd, Value.bool n, Value.slice a xs.length c, Value.bool m, Value.slice b ys.length d, Value.string nm, Value.int .i64 p, Value.int .i64 q, Value.slice x k ck] 37 (0, 0))) := hide (by simpa only [World.size_alloc] using (hnew w (Obj.cells #[Value.int .i64 kd, Value.bool n, Value.slice a xs.length c, Value.bool m, Value.slice b ys.length d, Value.string nm, Value.int .i64 p, Value.int .i64 q, Value.slice x k ck] 37)))
  have HB : Hid (Below w.heap.size w (w.alloc (Obj.cells #[Value.int .i64 kd, Value.bool n, Value.slice a xs.length c, Value.bool m, Value.slice b ys.length d, Value.string nm, Value.int .i64 p, Value.int .i64 q, Value.slice x k ck] 37))) := hide (bl_alloc (bl_refl w) (Obj.cells #[Value.int .i64 kd, Value.bool n, Value.slice a xs.length c, Value.bool m, Value.slice b ys.length d, Value.string nm, Value.int .i64 p, Value.int .i64 q, Value.slice x k ck] 37))
  have yw1 : w.heap.size + 1 ≤ (w.alloc (Obj.cells #[Value.int .i64 kd, Value.bool n, Value.slice a xs.length c, Value.bool m, Value.slice b ys.length d, Value.string nm, Value.int .i64 p, Value.int .i64 q, Value.slice x k ck] 37)).heap.size := by simp only [World.size_alloc]; omega
  have ka0 : (w.alloc (Obj.cells #[Value.int .i64 kd, Value.bool n, Value.slice a xs.length c, Value.bool m, Value.slice b ys.length d, Value.string nm, Value.int .i64 p, Value.int .i64 q, Value.slice x k ck] 37)).cell? ⟨w.heap.size, 0, none⟩ = some (Value.int .i64 kd) := (Lib.cell_of_heap Xa.out 0).trans rfl
  have fa0 : (w.alloc (Obj.cells #[Value.int .i64 kd, Value.bool n, Value.slice a xs.length c, Value.bool m, Value.slice b ys.length d, Value.string nm, Value.int .i64 p, Value.int .i64 q, Value.slice x k ck] 37)).frozen? ⟨w.heap.size, 0, none⟩ = false := Lib.frozen_of_heap Xa.out 0
  have ka1 : (w.alloc (Obj.cells #[Value.int .i64 kd, Value.bool n, Value.slice a xs.length c, Value.bool m, Value.slice b ys.length d, Value.string nm, Value.int .i64 p, Value.int .i64 q, Value.slice x k ck] 37)).cell? ⟨w.heap.size, 1, none⟩ = some (Value.bool n) := (Lib.cell_of_heap Xa.out 1).trans rfl
  have fa1 : (w.alloc (Obj.cells #[Value.int .i64 kd, Value.bool n, Value.slice a xs.length c, Value.bool m, Value.slice b ys.length d, Value.string nm, Value.int .i64 p, Value.int .i64 q, Value.slice x k ck] 37)).frozen? ⟨w.heap.size, 1, none⟩ = false := Lib.frozen_of_heap Xa.out 1
  have ka2 : (w.alloc (Obj.cells #[Value.int .i64 kd, Value.bool n, Value.slice a xs.length c, Value.bool m, Value.slice b ys.length d, Value.string nm, Value.int .i64 p, Value.int .i64 q, Value.slice x k ck] 37)).cell? ⟨w.heap.size, 2, none⟩ = some (Value.slice a xs.length c) := (Lib.cell_of_heap Xa.out 2).trans rfl
  have fa2 : (w.alloc (Obj.cells #[Value.int .i64 kd, Value.bool n, Value.slice a xs.length c, Value.bool m, Value.slice b ys.length d, Value.string nm, Value.int .i64 p, Value.int .i64 q, Value.slice x k ck] 37)).frozen? ⟨w.heap.size, 2, none⟩ = false := Lib.frozen_of_heap Xa.out 2
  have ka3 : (w.alloc (Obj.cells #[Value.int .i64 kd, Value.bool n, Value.slice a xs.length c, Value.bool m, Value.slice b ys.length d, Value.string nm, Value.int .i64 p, Value.int .i64 q, Value.slice x k ck] 37)).cell? ⟨w.heap.size, 3, none⟩ = some (Value.bool m) := (Lib.cell_of_heap Xa.out 3).trans rfl
  have fa3 : (w.alloc (Obj.cells #[Value.int .i64 kd, Value.bool n, Value.slice a xs.length c, Value.bool m, Value.slice b ys.length d, Value.string nm, Value.int .i64 p, Value.int .i64 q, Value.slice x k ck] 37)).frozen? ⟨w.heap.size, 3, none⟩ = false := Lib.frozen_of_heap Xa.out 3
  have ka4 : (w.alloc (Obj.cells #[Value.int .i64 kd, Value.bool n, Value.slice a xs.length c, Value.bool m, Value.slice b ys.length d, Value.string nm, Value.int .i64 p, Value.int .i64 q, Value.slice x k ck] 37)).cell? ⟨w.heap.size, 4, none⟩ = some (Value.slice b ys.length d) := (Lib.cell_of_heap Xa.out 4).trans rfl
  have fa4 : (w.alloc (Obj.cells #[Value.int .i64 kd, Value.bool n, Value.slice a xs.length c, Value.bool m, Value.slice b ys.length d, Value.string nm, Value.int .i64 p, Value.int .i64 q, Value.slice x k ck] 37)).frozen? ⟨w.heap.size, 4, none⟩ = false := Lib.frozen_of_heap Xa.out 4
  have ka5 : (w.alloc (Obj.cells #[Value.int .i64 kd, Value.bool n, Value.slice a xs.length c, Value.bool m, Value.slice b ys.length d, Value.string nm, Value.int .i64 p, Value.int .i64 q, Value.slice x k ck] 37)).cell? ⟨w.heap.size, 5, none⟩ = some (Value.string nm) := (Lib.cell_of_heap Xa.out 5).trans rfl
  have fa5 : (w.alloc (Obj.cells #[Value.int .i64 kd, Value.bool n, Value.slice a xs.length c, Value.bool m, Value.slice b ys.length d, Value.string nm, Value.int .i64 p, Value.int .i64 q, Value.slice x k ck] 37)).frozen? ⟨w.heap.size, 5, none⟩ = false := Lib.frozen_of_heap Xa.out 5
  have ka6 : (w.alloc (Obj.cells #[Value.int .i64 kd, Value.bool n, Value.slice a xs.length c, Value.bool m, Value.slice b ys.length d, Value.string nm, Value.int .i64 p, Value.int .i64 q, Value.slice x k ck] 37)).cell? ⟨w.heap.size, 6, none⟩ = some (Value.int .i64 p) := (Lib.cell_of_heap Xa.out 6).trans rfl
  have fa6 : (w.alloc (Obj.cells #[Value.int .i64 kd, Value.bool n, Value.slice a xs.length c, Value.bool m, Value.slice b ys.length d, Value.string nm, Value.int .i64 p, Value.int .i64 q, Value.slice x k ck] 37)).frozen? ⟨w.heap.size, 6, none⟩ = false := Lib.frozen_of_heap Xa.out 6
  have ka7 : (w.alloc (Obj.cells #[Value.int .i64 kd, Value.bool n, Value.slice a xs.length c, Value.bool m, Value.slice b ys.length d, Value.string nm, Value.int .i64 p, Value.int .i64 q, Value.slice x k ck] 37)).cell? ⟨w.heap.size, 7, none⟩ = some (Value.int .i64 q) := (Lib.cell_of_heap Xa.out 7).trans rfl
  have fa7 : (w.alloc (Obj.cells #[Value.int .i64 kd, Value.bool n, Value.slice a xs.length c, Value.bool m, Value.slice b ys.length d, Value.string nm, Value.int .i64 p, Value.int .i64 q, Value.slice x k ck] 37)).frozen? ⟨w.heap.size, 7, none⟩ = false := Lib.frozen_of_heap Xa.out 7
  have ka8 : (w.alloc (Obj.cells #[Value.int .i64 kd, Value.bool n, Value.slice a xs.length c, Value.bool m, Value.slice b ys.length d, Value.string nm, Value.int .i64 p, Value.int .i64 q, Value.slice x k ck] 37)).cell? ⟨w.heap.size, 8, none⟩ = some (Value.slice x k ck) := (Lib.cell_of_heap Xa.out 8).trans rfl
  have fa8 : (w.alloc (Obj.cells #[Value.int .i64 kd, Value.bool n, Value.slice a xs.length c, Value.bool m, Value.slice b ys.length d, Value.string nm, Value.int .i64 p, Value.int .i64 q, Value.slice x k ck] 37)).frozen? ⟨w.heap.size, 8, none⟩ = false := Lib.frozen_of_heap Xa.out 8
  have za : w.heap.size < (w.alloc (Obj.cells #[Value.int .i64 kd, Value.bool n, Value.slice a xs.length c, Value.bool m, Value.slice b ys.length d, Value.string nm, Value.int .i64 p, Value.int .i64 q, Value.slice x k ck] 37)).heap.size := hlt Xa.out
  go_enter Tryz.func37, Tryz.ntmps37
  go_wp2_with fail
  generalize (w.alloc (Obj.cells #[Value.int .i64 kd, Value.bool n, Value.slice a xs.length c, Value.bool m, Value.slice b ys.length d, Value.string nm, Value.int .i64 p, Value.int .i64 q, Value.slice x k ck] 37)) = w1 at *
  refine (blankI n xs m ys a c b d _ (S1.out.below HB.out) (S2.out.below HB.out)).mono ?_
  rintro e w2 ⟨rfl, hb⟩
  have yw2 := hb.size
  clear ka0 fa0 ka1 fa1 ka2 fa2 ka3 fa3 ka4 fa4 ka5 fa5 ka6 fa6 ka7 fa7 ka8 fa8 za
  replace Xa := hide (hbel Xa.out hb (by first | assumption | omega))
  replace HB := hide (bl_trans HB.out hb)
  clear hb
  have ka0 : w2.cell? ⟨w.heap.size, 0, none⟩ = some (Value.int .i64 kd) := (Lib.cell_of_heap Xa.out 0).trans rfl
  have fa0 : w2.frozen? ⟨w.heap.size, 0, none⟩ = false := Lib.frozen_of_heap Xa.out 0
  have ka1 : w2.cell? ⟨w.heap.size, 1, none⟩ = some (Value.bool n) := (Lib.cell_of_heap Xa.out 1).trans rfl
  have fa1 : w2.frozen? ⟨w.heap.size, 1, none⟩ = false := Lib.frozen_of_heap Xa.out 1
  have ka2 : w2.cell? ⟨w.heap.size, 2, none⟩ = some (Value.slice a xs.length c) := (Lib.cell_of_heap Xa.out 2).trans rfl
  have fa2 : w2.frozen? ⟨w.heap.size, 2, none⟩ = false := Lib.frozen_of_heap Xa.out 2
  have ka3 : w2.cell? ⟨w.heap.size, 3, none⟩ = some (Value.bool m) := (Lib.cell_of_heap Xa.out 3).trans rfl
  have fa3 : w2.frozen? ⟨w.heap.size, 3, none⟩ = false := Lib.frozen_of_heap Xa.out 3
  have ka4 : w2.cell? ⟨w.heap.size, 4, none⟩ = some (Value.slice b ys.length d) := (Lib.cell_of_heap Xa.out 4).trans rfl
  have fa4 : w2.frozen? ⟨w.heap.size, 4, none⟩ = false := Lib.frozen_of_heap Xa.out 4
  have ka5 : w2.cell? ⟨w.heap.size, 5, none⟩ = some (Value.string nm) := (Lib.cell_of_heap Xa.out 5).trans rfl
  have fa5 : w2.frozen? ⟨w.heap.size, 5, none⟩ = false := Lib.frozen_of_heap Xa.out 5
  have ka6 : w2.cell? ⟨w.heap.size, 6, none⟩ = some (Value.int .i64 p) := (Lib.cell_of_heap Xa.out 6).trans rfl
  have fa6 : w2.frozen? ⟨w.heap.size, 6, none⟩ = false := Lib.frozen_of_heap Xa.out 6
  have ka7 : w2.cell? ⟨w.heap.size, 7, none⟩ = some (Value.int .i64 q) := (Lib.cell_of_heap Xa.out 7).trans rfl
  have fa7 : w2.frozen? ⟨w.heap.size, 7, none⟩ = false := Lib.frozen_of_heap Xa.out 7
  have ka8 : w2.cell? ⟨w.heap.size, 8, none⟩ = some (Value.slice x k ck) := (Lib.cell_of_heap Xa.out 8).trans rfl
  have fa8 : w2.frozen? ⟨w.heap.size, 8, none⟩ = false := Lib.frozen_of_heap Xa.out 8
  have za : w.heap.size < w2.heap.size := hlt Xa.out
  cases hb : blankB n xs m ys with
  | false =>
    have HE : Hid (false = bareB n xs m ys nm p q k) := hide (by unfold bareB; rw [hb]; rfl)
    clear hb
    go_wp2
    go_ret
    exact ⟨ret_bool HE.out, HB.out⟩
  | true =>
    have HC : Hid (bareB n xs m ys nm p q k = (nm.toList.isEmpty && (decide (p = 0) && (decide (q = 0) && decide (k = 0))))) := hide (by unfold bareB; rw [hb]; rfl)
    clear hb
    cases he : nm.toList.isEmpty with
    | false =>
      have HE := hide he
      go_wp2
      go_ret
      exact ⟨ret_bool (by rw [HC.out, HE.out]; rfl), HB.out⟩
    | true =>
      have HE := hide he
      by_cases hp : p = 0
      case neg =>
        have HP : Hid (decide (p = 0) = false) := hide (decide_eq_false hp)
        have hp2 : (p == 0) = false := by rw [beq_eq_false_iff_ne]; exact hp
        clear hp
        go_wp2
        go_ret
        exact ⟨ret_bool (by rw [HC.out, HP.out]; simp), HB.out⟩
      have HP : Hid (decide (p = 0) = true) := hide (decide_eq_true hp)
      have hp2 : (p == 0) = true := by rw [beq_iff_eq]; exact hp
      clear hp
      by_cases hq : q = 0
      case neg =>
        have HQ : Hid (decide (q = 0) = false) := hide (decide_eq_false hq)
        have hq2 : (q == 0) = false := by rw [beq_eq_false_iff_ne]; exact hq
        clear hq
        go_wp2
        go_ret
        exact ⟨ret_bool (by rw [HC.out, HQ.out]; simp), HB.out⟩
      have HQ : Hid (decide (q = 0) = true) := hide (decide_eq_true hq)
      have hq2 : (q == 0) = true := by rw [beq_iff_eq]; exact hq
      clear hq
      by_cases hl : k = 0
      case neg =>
        have HL : Hid (decide (k = 0) = false) := hide (decide_eq_false hl)
        have hl2 : ((k : Int) == 0) = false := by rw [beq_eq_false_iff_ne]; omega
        clear hl
        go_wp2
        go_ret
        exact ⟨ret_bool (by rw [HC.out, HL.out]; simp), HB.out⟩
      have HL : Hid (decide (k = 0) = true) := hide (decide_eq_true hl)
      have hl2 : ((k : Int) == 0) = true := by rw [beq_iff_eq]; omega
      clear hl
      go_wp2
      go_ret
      exact ⟨ret_bool (by rw [HC.out, HE.out, HP.out, HQ.out, HL.out]; rfl), HB.out⟩
end Go.Proofs.YtlknhheafmifnaaGreatDoor
