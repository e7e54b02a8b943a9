/- What a formula holds of its own: the walk of the specification. -/
import Derived.Test.YtlknhheafmifnaaGreatDoorXo
namespace Go.Proofs.YtlknhheafmifnaaGreatDoor
open Go.RowKit
set_option linter.unusedVariables false
set_option maxRecDepth 20000

theorem bare_eq (n : Bool) (xs : List Nat) (m : Bool) (ys : List Nat) (nm : ByteArray) (p q : Int) (k : Nat) : bareB n xs m ys nm p q k = (blankB n xs m ys && (nm.toList.isEmpty && ((decide (p = 0) && decide (q = 0)) && decide (k = 0)))) := by unfold bareB; rw [Bool.and_assoc]
theorem own_0 (n : Bool) (xs : List Nat) (m : Bool) (ys : List Nat) (nm : ByteArray) (p q : Int) (k : Nat) : ownB 0 n xs m ys nm p q k = (numB n xs m ys && (nm.toList.isEmpty && ((decide (p = 0) && decide (q = 0)) && decide (k = 0)))) := by
  unfold ownB; rw [if_pos rfl, bare_eq]; rfl
theorem own_1 (n : Bool) (xs : List Nat) (m : Bool) (ys : List Nat) (nm : ByteArray) (p q : Int) (k : Nat) : ownB 1 n xs m ys nm p q k = (blankB n xs m ys && (Nm.nameOkB nm && ((decide (p = 0) && decide (q = 0)) && decide (k = 0)))) := by
  unfold ownB; rw [if_neg (by decide), if_pos rfl, bare_eq, show (ByteArray.mk #[]).toList.isEmpty = true by rw [ByteArray.toList_eq]; rfl]
  cases blankB n xs m ys <;> cases Nm.nameOkB nm <;> rfl
theorem own_m (kd : Int) (h : kd = 2 ∨ kd = 3 ∨ kd = 4 ∨ kd = 5) (n : Bool) (xs : List Nat) (m : Bool) (ys : List Nat) (nm : ByteArray) (p q : Int) (k : Nat) : ownB kd n xs m ys nm p q k = (blankB n xs m ys && (nm.toList.isEmpty && ((decide (p = 0) && decide (q = 0)) && decide (k = 2)))) := by
  unfold ownB; rw [if_neg (by omega), if_neg (by omega), if_pos h, bare_eq, decide_eq_true (rfl : (0 : Nat) = 0)]
  cases blankB n xs m ys <;> cases nm.toList.isEmpty <;> cases decide (p = 0) <;> cases decide (q = 0) <;> cases decide (k = 2) <;> rfl
theorem own_2 (n : Bool) (xs : List Nat) (m : Bool) (ys : List Nat) (nm : ByteArray) (p q : Int) (k : Nat) : ownB 2 n xs m ys nm p q k = (blankB n xs m ys && (nm.toList.isEmpty && ((decide (p = 0) && decide (q = 0)) && decide (k = 2)))) := own_m 2 (by omega) n xs m ys nm p q k
theorem own_3 (n : Bool) (xs : List Nat) (m : Bool) (ys : List Nat) (nm : ByteArray) (p q : Int) (k : Nat) : ownB 3 n xs m ys nm p q k = (blankB n xs m ys && (nm.toList.isEmpty && ((decide (p = 0) && decide (q = 0)) && decide (k = 2)))) := own_m 3 (by omega) n xs m ys nm p q k
theorem own_4 (n : Bool) (xs : List Nat) (m : Bool) (ys : List Nat) (nm : ByteArray) (p q : Int) (k : Nat) : ownB 4 n xs m ys nm p q k = (blankB n xs m ys && (nm.toList.isEmpty && ((decide (p = 0) && decide (q = 0)) && decide (k = 2)))) := own_m 4 (by omega) n xs m ys nm p q k
theorem own_5 (n : Bool) (xs : List Nat) (m : Bool) (ys : List Nat) (nm : ByteArray) (p q : Int) (k : Nat) : ownB 5 n xs m ys nm p q k = (blankB n xs m ys && (nm.toList.isEmpty && ((decide (p = 0) && decide (q = 0)) && decide (k = 2)))) := own_m 5 (by omega) n xs m ys nm p q k
theorem own_6 (n : Bool) (xs : List Nat) (m : Bool) (ys : List Nat) (nm : ByteArray) (p q : Int) (k : Nat) : ownB 6 n xs m ys nm p q k = (blankB n xs m ys && (nm.toList.isEmpty && ((decide (p = 0) && decide (q = 0)) && decide (k = 1)))) := by
  unfold ownB; rw [if_neg (by omega), if_neg (by omega), if_neg (by omega), if_pos rfl, bare_eq, decide_eq_true (rfl : (0 : Nat) = 0)]
  cases blankB n xs m ys <;> cases nm.toList.isEmpty <;> cases decide (p = 0) <;> cases decide (q = 0) <;> cases decide (k = 1) <;> rfl
theorem own_7 (n : Bool) (xs : List Nat) (m : Bool) (ys : List Nat) (nm : ByteArray) (p q : Int) (k : Nat) : ownB 7 n xs m ys nm p q k = (blankB n xs m ys && (nm.toList.isEmpty && (Nm.pwB p q && decide (k = 1)))) := by
  unfold ownB; rw [if_neg (by omega), if_neg (by omega), if_neg (by omega), if_neg (by omega), if_pos rfl, bare_eq, decide_eq_true (rfl : (0 : Nat) = 0), decide_eq_true (rfl : (0 : Int) = 0)]
  cases blankB n xs m ys <;> cases nm.toList.isEmpty <;> cases Nm.pwB p q <;> cases decide (k = 1) <;> rfl
theorem own_x (kd : Int) (h : ¬ (0 ≤ kd ∧ kd ≤ 7)) (n : Bool) (xs : List Nat) (m : Bool) (ys : List Nat) (nm : ByteArray) (p q : Int) (k : Nat) : ownB kd n xs m ys nm p q k = false := by
  unfold ownB; rw [if_neg (by omega), if_neg (by omega), if_neg (by omega), if_neg (by omega), if_neg (by omega)]

set_option maxHeartbeats 4000000 in
set_option maxRecDepth 20000 in
theorem ownS0 (n : Bool) (xs : List Nat) (m : Bool) (ys : List Nat) (nm : ByteArray) (p q : Int) (k : Nat) (a : Option Addr) (c : Nat) (b : Option Addr) (d : Nat) (x : Option Addr) (ck : Nat) (w : World) (s1 : Seg w a xs.length c xs) (s2 : Seg w b ys.length d ys) (hk : k ≤ 9223372036854775807) (hnm : nm.size ≤ 140737488355328) :
    Calls Tryz.prog 23 #[Value.agg #[Value.int .i64 0, Value.bool n, Value.slice a xs.length c, Value.bool m, Value.slice b ys.length d, Value.string nm, Value.int .i64 p, Value.int .i64 q, Value.slice x k ck]] w fun e w' => e = .returned (.bool (ownB 0 n xs m ys nm p q k)) ∧ Below w.heap.size w w' := by
  have q1 := s1.le
  have q2 := s2.le
  have sm := hide s1.2.2.2.1
  have S1 := hide s1
  have S2 := hide s2
  clear s1 s2
  obtain ⟨F, hF⟩ : ∃ F, (decide (p = 0) && decide (q = 0)) = F := ⟨_, rfl⟩
  have HF := hide hF
  have HO : Hid (ownB 0 n xs m ys nm p q k = (numB n xs m ys && (nm.toList.isEmpty && (F && decide (k = 0))))) := hide (by rw [← hF]; exact own_0 ..)
  clear hF
  by_cases hp : p = 0
  all_goals by_cases hq : q = 0
  · have hp2 : (p == 0) = true := by rw [beq_iff_eq]; exact hp
    have hq2 : (q == 0) = true := by rw [beq_iff_eq]; exact hq
    have HFF : Hid (F = true) := hide (by rw [← HF.out, decide_eq_true hp, decide_eq_true hq]; rfl)
    clear hp hq
    have Xa : Hid ((w.alloc (Obj.cells #[Value.int .i64 0, Value.bool n, Value.slice a xs.length c, Value.bool m, Value.slice b ys.length d, Value.string nm, Value.int .i64 p, Value.int .i64 q, Value.slice x k ck] 37)).heap[w.heap.size]? = some (.cells #[Value.int .i64 0, Value.bool n, Value.slice a xs.length c, Value.bool m, Value.slice b ys.length d, Value.string nm, Value.int .i64 p, Value.int .i64 q, Value.slice x k ck] 37 (0, 0))) := hide (by simpa only [World.size_alloc] using (hnew w (Obj.cells #[Value.int .i64 0, Value.bool n, Value.slice a xs.length c, Value.bool m, Value.slice b ys.length d, Value.string nm, Value.int .i64 p, Value.int .i64 q, Value.slice x k ck] 37)))
    have HB : Hid (Below w.heap.size w (w.alloc (Obj.cells #[Value.int .i64 0, Value.bool n, Value.slice a xs.length c, Value.bool m, Value.slice b ys.length d, Value.string nm, Value.int .i64 p, Value.int .i64 q, Value.slice x k ck] 37))) := hide (bl_alloc (bl_refl w) (Obj.cells #[Value.int .i64 0, Value.bool n, Value.slice a xs.length c, Value.bool m, Value.slice b ys.length d, Value.string nm, Value.int .i64 p, Value.int .i64 q, Value.slice x k ck] 37))
    have yw1 : w.heap.size + 1 ≤ (w.alloc (Obj.cells #[Value.int .i64 0, Value.bool n, Value.slice a xs.length c, Value.bool m, Value.slice b ys.length d, Value.string nm, Value.int .i64 p, Value.int .i64 q, Value.slice x k ck] 37)).heap.size := by simp only [World.size_alloc]; omega
    have ka0 : (w.alloc (Obj.cells #[Value.int .i64 0, Value.bool n, Value.slice a xs.length c, Value.bool m, Value.slice b ys.length d, Value.string nm, Value.int .i64 p, Value.int .i64 q, Value.slice x k ck] 37)).cell? ⟨w.heap.size, 0, none⟩ = some (Value.int .i64 0) := (Lib.cell_of_heap Xa.out 0).trans rfl
    have fa0 : (w.alloc (Obj.cells #[Value.int .i64 0, Value.bool n, Value.slice a xs.length c, Value.bool m, Value.slice b ys.length d, Value.string nm, Value.int .i64 p, Value.int .i64 q, Value.slice x k ck] 37)).frozen? ⟨w.heap.size, 0, none⟩ = false := Lib.frozen_of_heap Xa.out 0
    have ka1 : (w.alloc (Obj.cells #[Value.int .i64 0, Value.bool n, Value.slice a xs.length c, Value.bool m, Value.slice b ys.length d, Value.string nm, Value.int .i64 p, Value.int .i64 q, Value.slice x k ck] 37)).cell? ⟨w.heap.size, 1, none⟩ = some (Value.bool n) := (Lib.cell_of_heap Xa.out 1).trans rfl
    have fa1 : (w.alloc (Obj.cells #[Value.int .i64 0, Value.bool n, Value.slice a xs.length c, Value.bool m, Value.slice b ys.length d, Value.string nm, Value.int .i64 p, Value.int .i64 q, Value.slice x k ck] 37)).frozen? ⟨w.heap.size, 1, none⟩ = false := Lib.frozen_of_heap Xa.out 1
    have ka2 : (w.alloc (Obj.cells #[Value.int .i64 0, Value.bool n, Value.slice a xs.length c, Value.bool m, Value.slice b ys.length d, Value.string nm, Value.int .i64 p, Value.int .i64 q, Value.slice x k ck] 37)).cell? ⟨w.heap.size, 2, none⟩ = some (Value.slice a xs.length c) := (Lib.cell_of_heap Xa.out 2).trans rfl
    have fa2 : (w.alloc (Obj.cells #[Value.int .i64 0, Value.bool n, Value.slice a xs.length c, Value.bool m, Value.slice b ys.length d, Value.string nm, Value.int .i64 p, Value.int .i64 q, Value.slice x k ck] 37)).frozen? ⟨w.heap.size, 2, none⟩ = false := Lib.frozen_of_heap Xa.out 2
    have ka3 : (w.alloc (Obj.cells #[Value.int .i64 0, Value.bool n, Value.slice a xs.length c, Value.bool m, Value.slice b ys.length d, Value.string nm, Value.int .i64 p, Value.int .i64 q, Value.slice x k ck] 37)).cell? ⟨w.heap.size, 3, none⟩ = some (Value.bool m) := (Lib.cell_of_heap Xa.out 3).trans rfl
    have fa3 : (w.alloc (Obj.cells #[Value.int .i64 0, Value.bool n, Value.slice a xs.length c, Value.bool m, Value.slice b ys.length d, Value.string nm, Value.int .i64 p, Value.int .i64 q, Value.slice x k ck] 37)).frozen? ⟨w.heap.size, 3, none⟩ = false := Lib.frozen_of_heap Xa.out 3
    have ka4 : (w.alloc (Obj.cells #[Value.int .i64 0, Value.bool n, Value.slice a xs.length c, Value.bool m, Value.slice b ys.length d, Value.string nm, Value.int .i64 p, Value.int .i64 q, Value.slice x k ck] 37)).cell? ⟨w.heap.size, 4, none⟩ = some (Value.slice b ys.length d) := (Lib.cell_of_heap Xa.out 4).trans rfl
    have fa4 : (w.alloc (Obj.cells #[Value.int .i64 0, Value.bool n, Value.slice a xs.length c, Value.bool m, Value.slice b ys.length d, Value.string nm, Value.int .i64 p, Value.int .i64 q, Value.slice x k ck] 37)).frozen? ⟨w.heap.size, 4, none⟩ = false := Lib.frozen_of_heap Xa.out 4
    have ka5 : (w.alloc (Obj.cells #[Value.int .i64 0, Value.bool n, Value.slice a xs.length c, Value.bool m, Value.slice b ys.length d, Value.string nm, Value.int .i64 p, Value.int .i64 q, Value.slice x k ck] 37)).cell? ⟨w.heap.size, 5, none⟩ = some (Value.string nm) := (Lib.cell_of_heap Xa.out 5).trans rfl
    have fa5 : (w.alloc (Obj.cells #[Value.int .i64 0, Value.bool n, Value.slice a xs.length c, Value.bool m, Value.slice b ys.length d, Value.string nm, Value.int .i64 p, Value.int .i64 q, Value.slice x k ck] 37)).frozen? ⟨w.heap.size, 5, none⟩ = false := Lib.frozen_of_heap Xa.out 5
    have ka6 : (w.alloc (Obj.cells #[Value.int .i64 0, Value.bool n, Value.slice a xs.length c, Value.bool m, Value.slice b ys.length d, Value.string nm, Value.int .i64 p, Value.int .i64 q, Value.slice x k ck] 37)).cell? ⟨w.heap.size, 6, none⟩ = some (Value.int .i64 p) := (Lib.cell_of_heap Xa.out 6).trans rfl
    have fa6 : (w.alloc (Obj.cells #[Value.int .i64 0, Value.bool n, Value.slice a xs.length c, Value.bool m, Value.slice b ys.length d, Value.string nm, Value.int .i64 p, Value.int .i64 q, Value.slice x k ck] 37)).frozen? ⟨w.heap.size, 6, none⟩ = false := Lib.frozen_of_heap Xa.out 6
    have ka7 : (w.alloc (Obj.cells #[Value.int .i64 0, Value.bool n, Value.slice a xs.length c, Value.bool m, Value.slice b ys.length d, Value.string nm, Value.int .i64 p, Value.int .i64 q, Value.slice x k ck] 37)).cell? ⟨w.heap.size, 7, none⟩ = some (Value.int .i64 q) := (Lib.cell_of_heap Xa.out 7).trans rfl
    have fa7 : (w.alloc (Obj.cells #[Value.int .i64 0, Value.bool n, Value.slice a xs.length c, Value.bool m, Value.slice b ys.length d, Value.string nm, Value.int .i64 p, Value.int .i64 q, Value.slice x k ck] 37)).frozen? ⟨w.heap.size, 7, none⟩ = false := Lib.frozen_of_heap Xa.out 7
    have ka8 : (w.alloc (Obj.cells #[Value.int .i64 0, Value.bool n, Value.slice a xs.length c, Value.bool m, Value.slice b ys.length d, Value.string nm, Value.int .i64 p, Value.int .i64 q, Value.slice x k ck] 37)).cell? ⟨w.heap.size, 8, none⟩ = some (Value.slice x k ck) := (Lib.cell_of_heap Xa.out 8).trans rfl
    have fa8 : (w.alloc (Obj.cells #[Value.int .i64 0, Value.bool n, Value.slice a xs.length c, Value.bool m, Value.slice b ys.length d, Value.string nm, Value.int .i64 p, Value.int .i64 q, Value.slice x k ck] 37)).frozen? ⟨w.heap.size, 8, none⟩ = false := Lib.frozen_of_heap Xa.out 8
    have za : w.heap.size < (w.alloc (Obj.cells #[Value.int .i64 0, Value.bool n, Value.slice a xs.length c, Value.bool m, Value.slice b ys.length d, Value.string nm, Value.int .i64 p, Value.int .i64 q, Value.slice x k ck] 37)).heap.size := hlt Xa.out
    go_enter Tryz.func23, Tryz.ntmps23
    go_wp2_with fail
    generalize (w.alloc (Obj.cells #[Value.int .i64 0, Value.bool n, Value.slice a xs.length c, Value.bool m, Value.slice b ys.length d, Value.string nm, Value.int .i64 p, Value.int .i64 q, Value.slice x k ck] 37)) = w1 at *
    refine (numS n xs m ys a c b d _ (S1.out.below HB.out) (S2.out.below HB.out)).mono ?_
    rintro e w2 ⟨rfl, hb⟩
    have yw2 := hb.size
    clear ka0 fa0 ka1 fa1 ka2 fa2 ka3 fa3 ka4 fa4 ka5 fa5 ka6 fa6 ka7 fa7 ka8 fa8 za
    replace Xa := hide (hbel Xa.out hb (by first | assumption | omega))
    replace HB := hide (bl_trans HB.out hb)
    clear hb
    have ka0 : w2.cell? ⟨w.heap.size, 0, none⟩ = some (Value.int .i64 0) := (Lib.cell_of_heap Xa.out 0).trans rfl
    have fa0 : w2.frozen? ⟨w.heap.size, 0, none⟩ = false := Lib.frozen_of_heap Xa.out 0
    have ka1 : w2.cell? ⟨w.heap.size, 1, none⟩ = some (Value.bool n) := (Lib.cell_of_heap Xa.out 1).trans rfl
    have fa1 : w2.frozen? ⟨w.heap.size, 1, none⟩ = false := Lib.frozen_of_heap Xa.out 1
    have ka2 : w2.cell? ⟨w.heap.size, 2, none⟩ = some (Value.slice a xs.length c) := (Lib.cell_of_heap Xa.out 2).trans rfl
    have fa2 : w2.frozen? ⟨w.heap.size, 2, none⟩ = false := Lib.frozen_of_heap Xa.out 2
    have ka3 : w2.cell? ⟨w.heap.size, 3, none⟩ = some (Value.bool m) := (Lib.cell_of_heap Xa.out 3).trans rfl
    have fa3 : w2.frozen? ⟨w.heap.size, 3, none⟩ = false := Lib.frozen_of_heap Xa.out 3
    have ka4 : w2.cell? ⟨w.heap.size, 4, none⟩ = some (Value.slice b ys.length d) := (Lib.cell_of_heap Xa.out 4).trans rfl
    have fa4 : w2.frozen? ⟨w.heap.size, 4, none⟩ = false := Lib.frozen_of_heap Xa.out 4
    have ka5 : w2.cell? ⟨w.heap.size, 5, none⟩ = some (Value.string nm) := (Lib.cell_of_heap Xa.out 5).trans rfl
    have fa5 : w2.frozen? ⟨w.heap.size, 5, none⟩ = false := Lib.frozen_of_heap Xa.out 5
    have ka6 : w2.cell? ⟨w.heap.size, 6, none⟩ = some (Value.int .i64 p) := (Lib.cell_of_heap Xa.out 6).trans rfl
    have fa6 : w2.frozen? ⟨w.heap.size, 6, none⟩ = false := Lib.frozen_of_heap Xa.out 6
    have ka7 : w2.cell? ⟨w.heap.size, 7, none⟩ = some (Value.int .i64 q) := (Lib.cell_of_heap Xa.out 7).trans rfl
    have fa7 : w2.frozen? ⟨w.heap.size, 7, none⟩ = false := Lib.frozen_of_heap Xa.out 7
    have ka8 : w2.cell? ⟨w.heap.size, 8, none⟩ = some (Value.slice x k ck) := (Lib.cell_of_heap Xa.out 8).trans rfl
    have fa8 : w2.frozen? ⟨w.heap.size, 8, none⟩ = false := Lib.frozen_of_heap Xa.out 8
    have za : w.heap.size < w2.heap.size := hlt Xa.out
    cases hb : numB n xs m ys with
    | false =>
      have Hb := hide hb
      clear hb
      go_wp2
      go_ret
      exact ⟨ret_bool (by rw [HO.out, Hb.out]; first | rfl | simp), HB.out⟩
    | true =>
      have Hb := hide hb
      clear hb
      cases hn : nm.toList.isEmpty with
      | false =>
        have Hn := hide hn
        go_wp2
        go_ret
        exact ⟨ret_bool (by rw [HO.out, Hb.out, Hn.out]; first | rfl | simp), HB.out⟩
      | true =>
        have Hn := hide hn
        by_cases hl : k = 0
        case neg =>
          have HL : Hid (decide (k = 0) = false) := hide (decide_eq_false hl)
          have hl2 : ((k : Int) == 0) = false := by rw [beq_eq_false_iff_ne]; omega
          clear hl
          go_wp2
          go_ret
          exact ⟨ret_bool (by rw [HO.out, Hb.out, Hn.out, HFF.out, HL.out]; first | rfl | simp), HB.out⟩
        have HL : Hid (decide (k = 0) = true) := hide (decide_eq_true hl)
        have hl2 : ((k : Int) == 0) = true := by rw [beq_iff_eq]; omega
        clear hl
        go_wp2
        go_ret
        exact ⟨ret_bool (by rw [HO.out, Hb.out, Hn.out, HFF.out, HL.out]; first | rfl | simp), HB.out⟩
  · have hp2 : (p == 0) = true := by rw [beq_iff_eq]; exact hp
    have hq2 : (q == 0) = false := by rw [beq_eq_false_iff_ne]; exact hq
    have HFF : Hid (F = false) := hide (by rw [← HF.out, decide_eq_true hp, decide_eq_false hq]; rfl)
    clear hp hq
    have Xa : Hid ((w.alloc (Obj.cells #[Value.int .i64 0, Value.bool n, Value.slice a xs.length c, Value.bool m, Value.slice b ys.length d, Value.string nm, Value.int .i64 p, Value.int .i64 q, Value.slice x k ck] 37)).heap[w.heap.size]? = some (.cells #[Value.int .i64 0, Value.bool n, Value.slice a xs.length c, Value.bool m, Value.slice b ys.length d, Value.string nm, Value.int .i64 p, Value.int .i64 q, Value.slice x k ck] 37 (0, 0))) := hide (by simpa only [World.size_alloc] using (hnew w (Obj.cells #[Value.int .i64 0, Value.bool n, Value.slice a xs.length c, Value.bool m, Value.slice b ys.length d, Value.string nm, Value.int .i64 p, Value.int .i64 q, Value.slice x k ck] 37)))
    have HB : Hid (Below w.heap.size w (w.alloc (Obj.cells #[Value.int .i64 0, Value.bool n, Value.slice a xs.length c, Value.bool m, Value.slice b ys.length d, Value.string nm, Value.int .i64 p, Value.int .i64 q, Value.slice x k ck] 37))) := hide (bl_alloc (bl_refl w) (Obj.cells #[Value.int .i64 0, Value.bool n, Value.slice a xs.length c, Value.bool m, Value.slice b ys.length d, Value.string nm, Value.int .i64 p, Value.int .i64 q, Value.slice x k ck] 37))
    have yw1 : w.heap.size + 1 ≤ (w.alloc (Obj.cells #[Value.int .i64 0, Value.bool n, Value.slice a xs.length c, Value.bool m, Value.slice b ys.length d, Value.string nm, Value.int .i64 p, Value.int .i64 q, Value.slice x k ck] 37)).heap.size := by simp only [World.size_alloc]; omega
    have ka0 : (w.alloc (Obj.cells #[Value.int .i64 0, Value.bool n, Value.slice a xs.length c, Value.bool m, Value.slice b ys.length d, Value.string nm, Value.int .i64 p, Value.int .i64 q, Value.slice x k ck] 37)).cell? ⟨w.heap.size, 0, none⟩ = some (Value.int .i64 0) := (Lib.cell_of_heap Xa.out 0).trans rfl
    have fa0 : (w.alloc (Obj.cells #[Value.int .i64 0, Value.bool n, Value.slice a xs.length c, Value.bool m, Value.slice b ys.length d, Value.string nm, Value.int .i64 p, Value.int .i64 q, Value.slice x k ck] 37)).frozen? ⟨w.heap.size, 0, none⟩ = false := Lib.frozen_of_heap Xa.out 0
    have ka1 : (w.alloc (Obj.cells #[Value.int .i64 0, Value.bool n, Value.slice a xs.length c, Value.bool m, Value.slice b ys.length d, Value.string nm, Value.int .i64 p, Value.int .i64 q, Value.slice x k ck] 37)).cell? ⟨w.heap.size, 1, none⟩ = some (Value.bool n) := (Lib.cell_of_heap Xa.out 1).trans rfl
    have fa1 : (w.alloc (Obj.cells #[Value.int .i64 0, Value.bool n, Value.slice a xs.length c, Value.bool m, Value.slice b ys.length d, Value.string nm, Value.int .i64 p, Value.int .i64 q, Value.slice x k ck] 37)).frozen? ⟨w.heap.size, 1, none⟩ = false := Lib.frozen_of_heap Xa.out 1
    have ka2 : (w.alloc (Obj.cells #[Value.int .i64 0, Value.bool n, Value.slice a xs.length c, Value.bool m, Value.slice b ys.length d, Value.string nm, Value.int .i64 p, Value.int .i64 q, Value.slice x k ck] 37)).cell? ⟨w.heap.size, 2, none⟩ = some (Value.slice a xs.length c) := (Lib.cell_of_heap Xa.out 2).trans rfl
    have fa2 : (w.alloc (Obj.cells #[Value.int .i64 0, Value.bool n, Value.slice a xs.length c, Value.bool m, Value.slice b ys.length d, Value.string nm, Value.int .i64 p, Value.int .i64 q, Value.slice x k ck] 37)).frozen? ⟨w.heap.size, 2, none⟩ = false := Lib.frozen_of_heap Xa.out 2
    have ka3 : (w.alloc (Obj.cells #[Value.int .i64 0, Value.bool n, Value.slice a xs.length c, Value.bool m, Value.slice b ys.length d, Value.string nm, Value.int .i64 p, Value.int .i64 q, Value.slice x k ck] 37)).cell? ⟨w.heap.size, 3, none⟩ = some (Value.bool m) := (Lib.cell_of_heap Xa.out 3).trans rfl
    have fa3 : (w.alloc (Obj.cells #[Value.int .i64 0, Value.bool n, Value.slice a xs.length c, Value.bool m, Value.slice b ys.length d, Value.string nm, Value.int .i64 p, Value.int .i64 q, Value.slice x k ck] 37)).frozen? ⟨w.heap.size, 3, none⟩ = false := Lib.frozen_of_heap Xa.out 3
    have ka4 : (w.alloc (Obj.cells #[Value.int .i64 0, Value.bool n, Value.slice a xs.length c, Value.bool m, Value.slice b ys.length d, Value.string nm, Value.int .i64 p, Value.int .i64 q, Value.slice x k ck] 37)).cell? ⟨w.heap.size, 4, none⟩ = some (Value.slice b ys.length d) := (Lib.cell_of_heap Xa.out 4).trans rfl
    have fa4 : (w.alloc (Obj.cells #[Value.int .i64 0, Value.bool n, Value.slice a xs.length c, Value.bool m, Value.slice b ys.length d, Value.string nm, Value.int .i64 p, Value.int .i64 q, Value.slice x k ck] 37)).frozen? ⟨w.heap.size, 4, none⟩ = false := Lib.frozen_of_heap Xa.out 4
    have ka5 : (w.alloc (Obj.cells #[Value.int .i64 0, Value.bool n, Value.slice a xs.length c, Value.bool m, Value.slice b ys.length d, Value.string nm, Value.int .i64 p, Value.int .i64 q, Value.slice x k ck] 37)).cell? ⟨w.heap.size, 5, none⟩ = some (Value.string nm) := (Lib.cell_of_heap Xa.out 5).trans rfl
    have fa5 : (w.alloc (Obj.cells #[Value.int .i64 0, Value.bool n, Value.slice a xs.length c, Value.bool m, Value.slice b ys.length d, Value.string nm, Value.int .i64 p, Value.int .i64 q, Value.slice x k ck] 37)).frozen? ⟨w.heap.size, 5, none⟩ = false := Lib.frozen_of_heap Xa.out 5
    have ka6 : (w.alloc (Obj.cells #[Value.int .i64 0, Value.bool n, Value.slice a xs.length c, Value.bool m, Value.slice b ys.length d, Value.string nm, Value.int .i64 p, Value.int .i64 q, Value.slice x k ck] 37)).cell? ⟨w.heap.size, 6, none⟩ = some (Value.int .i64 p) := (Lib.cell_of_heap Xa.out 6).trans rfl
    have fa6 : (w.alloc (Obj.cells #[Value.int .i64 0, Value.bool n, Value.slice a xs.length c, Value.bool m, Value.slice b ys.length d, Value.string nm, Value.int .i64 p, Value.int .i64 q, Value.slice x k ck] 37)).frozen? ⟨w.heap.size, 6, none⟩ = false := Lib.frozen_of_heap Xa.out 6
    have ka7 : (w.alloc (Obj.cells #[Value.int .i64 0, Value.bool n, Value.slice a xs.length c, Value.bool m, Value.slice b ys.length d, Value.string nm, Value.int .i64 p, Value.int .i64 q, Value.slice x k ck] 37)).cell? ⟨w.heap.size, 7, none⟩ = some (Value.int .i64 q) := (Lib.cell_of_heap Xa.out 7).trans rfl
    have fa7 : (w.alloc (Obj.cells #[Value.int .i64 0, Value.bool n, Value.slice a xs.length c, Value.bool m, Value.slice b ys.length d, Value.string nm, Value.int .i64 p, Value.int .i64 q, Value.slice x k ck] 37)).frozen? ⟨w.heap.size, 7, none⟩ = false := Lib.frozen_of_heap Xa.out 7
    have ka8 : (w.alloc (Obj.cells #[Value.int .i64 0, Value.bool n, Value.slice a xs.length c, Value.bool m, Value.slice b ys.length d, Value.string nm, Value.int .i64 p, Value.int .i64 q, Value.slice x k ck] 37)).cell? ⟨w.heap.size, 8, none⟩ = some (Value.slice x k ck) := (Lib.cell_of_heap Xa.out 8).trans rfl
    have fa8 : (w.alloc (Obj.cells #[Value.int .i64 0, Value.bool n, Value.slice a xs.length c, Value.bool m, Value.slice b ys.length d, Value.string nm, Value.int .i64 p, Value.int .i64 q, Value.slice x k ck] 37)).frozen? ⟨w.heap.size, 8, none⟩ = false := Lib.frozen_of_heap Xa.out 8
    have za : w.heap.size < (w.alloc (Obj.cells #[Value.int .i64 0, Value.bool n, Value.slice a xs.length c, Value.bool m, Value.slice b ys.length d, Value.string nm, Value.int .i64 p, Value.int .i64 q, Value.slice x k ck] 37)).heap.size := hlt Xa.out
    go_enter Tryz.func23, Tryz.ntmps23
    go_wp2_with fail
    generalize (w.alloc (Obj.cells #[Value.int .i64 0, Value.bool n, Value.slice a xs.length c, Value.bool m, Value.slice b ys.length d, Value.string nm, Value.int .i64 p, Value.int .i64 q, Value.slice x k ck] 37)) = w1 at *
    refine (numS n xs m ys a c b d _ (S1.out.below HB.out) (S2.out.below HB.out)).mono ?_
    rintro e w2 ⟨rfl, hb⟩
    have yw2 := hb.size
    clear ka0 fa0 ka1 fa1 ka2 fa2 ka3 fa3 ka4 fa4 ka5 fa5 ka6 fa6 ka7 fa7 ka8 fa8 za
    replace Xa := hide (hbel Xa.out hb (by first | assumption | omega))
    replace HB := hide (bl_trans HB.out hb)
    clear hb
    have ka0 : w2.cell? ⟨w.heap.size, 0, none⟩ = some (Value.int .i64 0) := (Lib.cell_of_heap Xa.out 0).trans rfl
    have fa0 : w2.frozen? ⟨w.heap.size, 0, none⟩ = false := Lib.frozen_of_heap Xa.out 0
    have ka1 : w2.cell? ⟨w.heap.size, 1, none⟩ = some (Value.bool n) := (Lib.cell_of_heap Xa.out 1).trans rfl
    have fa1 : w2.frozen? ⟨w.heap.size, 1, none⟩ = false := Lib.frozen_of_heap Xa.out 1
    have ka2 : w2.cell? ⟨w.heap.size, 2, none⟩ = some (Value.slice a xs.length c) := (Lib.cell_of_heap Xa.out 2).trans rfl
    have fa2 : w2.frozen? ⟨w.heap.size, 2, none⟩ = false := Lib.frozen_of_heap Xa.out 2
    have ka3 : w2.cell? ⟨w.heap.size, 3, none⟩ = some (Value.bool m) := (Lib.cell_of_heap Xa.out 3).trans rfl
    have fa3 : w2.frozen? ⟨w.heap.size, 3, none⟩ = false := Lib.frozen_of_heap Xa.out 3
    have ka4 : w2.cell? ⟨w.heap.size, 4, none⟩ = some (Value.slice b ys.length d) := (Lib.cell_of_heap Xa.out 4).trans rfl
    have fa4 : w2.frozen? ⟨w.heap.size, 4, none⟩ = false := Lib.frozen_of_heap Xa.out 4
    have ka5 : w2.cell? ⟨w.heap.size, 5, none⟩ = some (Value.string nm) := (Lib.cell_of_heap Xa.out 5).trans rfl
    have fa5 : w2.frozen? ⟨w.heap.size, 5, none⟩ = false := Lib.frozen_of_heap Xa.out 5
    have ka6 : w2.cell? ⟨w.heap.size, 6, none⟩ = some (Value.int .i64 p) := (Lib.cell_of_heap Xa.out 6).trans rfl
    have fa6 : w2.frozen? ⟨w.heap.size, 6, none⟩ = false := Lib.frozen_of_heap Xa.out 6
    have ka7 : w2.cell? ⟨w.heap.size, 7, none⟩ = some (Value.int .i64 q) := (Lib.cell_of_heap Xa.out 7).trans rfl
    have fa7 : w2.frozen? ⟨w.heap.size, 7, none⟩ = false := Lib.frozen_of_heap Xa.out 7
    have ka8 : w2.cell? ⟨w.heap.size, 8, none⟩ = some (Value.slice x k ck) := (Lib.cell_of_heap Xa.out 8).trans rfl
    have fa8 : w2.frozen? ⟨w.heap.size, 8, none⟩ = false := Lib.frozen_of_heap Xa.out 8
    have za : w.heap.size < w2.heap.size := hlt Xa.out
    cases hb : numB n xs m ys with
    | false =>
      have Hb := hide hb
      clear hb
      go_wp2
      go_ret
      exact ⟨ret_bool (by rw [HO.out, Hb.out]; first | rfl | simp), HB.out⟩
    | true =>
      have Hb := hide hb
      clear hb
      cases hn : nm.toList.isEmpty with
      | false =>
        have Hn := hide hn
        go_wp2
        go_ret
        exact ⟨ret_bool (by rw [HO.out, Hb.out, Hn.out]; first | rfl | simp), HB.out⟩
      | true =>
        have Hn := hide hn
        go_wp2
        go_ret
        exact ⟨ret_bool (by rw [HO.out, Hb.out, Hn.out, HFF.out]; first | rfl | simp), HB.out⟩
  · have hp2 : (p == 0) = false := by rw [beq_eq_false_iff_ne]; exact hp
    have hq2 : (q == 0) = true := by rw [beq_iff_eq]; exact hq
    have HFF : Hid (F = false) := hide (by rw [← HF.out, decide_eq_false hp, decide_eq_true hq]; rfl)
    clear hp hq
    have Xa : Hid ((w.alloc (Obj.cells #[Value.int .i64 0, Value.bool n, Value.slice a xs.length c, Value.bool m, Value.slice b ys.length d, Value.string nm, Value.int .i64 p, Value.int .i64 q, Value.slice x k ck] 37)).heap[w.heap.size]? = some (.cells #[Value.int .i64 0, Value.bool n, Value.slice a xs.length c, Value.bool m, Value.slice b ys.length d, Value.string nm, Value.int .i64 p, Value.int .i64 q, Value.slice x k ck] 37 (0, 0))) := hide (by simpa only [World.size_alloc] using (hnew w (Obj.cells #[Value.int .i64 0, Value.bool n, Value.slice a xs.length c, Value.bool m, Value.slice b ys.length d, Value.string nm, Value.int .i64 p, Value.int .i64 q, Value.slice x k ck] 37)))
    have HB : Hid (Below w.heap.size w (w.alloc (Obj.cells #[Value.int .i64 0, Value.bool n, Value.slice a xs.length c, Value.bool m, Value.slice b ys.length d, Value.string nm, Value.int .i64 p, Value.int .i64 q, Value.slice x k ck] 37))) := hide (bl_alloc (bl_refl w) (Obj.cells #[Value.int .i64 0, Value.bool n, Value.slice a xs.length c, Value.bool m, Value.slice b ys.length d, Value.string nm, Value.int .i64 p, Value.int .i64 q, Value.slice x k ck] 37))
    have yw1 : w.heap.size + 1 ≤ (w.alloc (Obj.cells #[Value.int .i64 0, Value.bool n, Value.slice a xs.length c, Value.bool m, Value.slice b ys.length d, Value.string nm, Value.int .i64 p, Value.int .i64 q, Value.slice x k ck] 37)).heap.size := by simp only [World.size_alloc]; omega
    have ka0 : (w.alloc (Obj.cells #[Value.int .i64 0, Value.bool n, Value.slice a xs.length c, Value.bool m, Value.slice b ys.length d, Value.string nm, Value.int .i64 p, Value.int .i64 q, Value.slice x k ck] 37)).cell? ⟨w.heap.size, 0, none⟩ = some (Value.int .i64 0) := (Lib.cell_of_heap Xa.out 0).trans rfl
    have fa0 : (w.alloc (Obj.cells #[Value.int .i64 0, Value.bool n, Value.slice a xs.length c, Value.bool m, Value.slice b ys.length d, Value.string nm, Value.int .i64 p, Value.int .i64 q, Value.slice x k ck] 37)).frozen? ⟨w.heap.size, 0, none⟩ = false := Lib.frozen_of_heap Xa.out 0
    have ka1 : (w.alloc (Obj.cells #[Value.int .i64 0, Value.bool n, Value.slice a xs.length c, Value.bool m, Value.slice b ys.length d, Value.string nm, Value.int .i64 p, Value.int .i64 q, Value.slice x k ck] 37)).cell? ⟨w.heap.size, 1, none⟩ = some (Value.bool n) := (Lib.cell_of_heap Xa.out 1).trans rfl
    have fa1 : (w.alloc (Obj.cells #[Value.int .i64 0, Value.bool n, Value.slice a xs.length c, Value.bool m, Value.slice b ys.length d, Value.string nm, Value.int .i64 p, Value.int .i64 q, Value.slice x k ck] 37)).frozen? ⟨w.heap.size, 1, none⟩ = false := Lib.frozen_of_heap Xa.out 1
    have ka2 : (w.alloc (Obj.cells #[Value.int .i64 0, Value.bool n, Value.slice a xs.length c, Value.bool m, Value.slice b ys.length d, Value.string nm, Value.int .i64 p, Value.int .i64 q, Value.slice x k ck] 37)).cell? ⟨w.heap.size, 2, none⟩ = some (Value.slice a xs.length c) := (Lib.cell_of_heap Xa.out 2).trans rfl
    have fa2 : (w.alloc (Obj.cells #[Value.int .i64 0, Value.bool n, Value.slice a xs.length c, Value.bool m, Value.slice b ys.length d, Value.string nm, Value.int .i64 p, Value.int .i64 q, Value.slice x k ck] 37)).frozen? ⟨w.heap.size, 2, none⟩ = false := Lib.frozen_of_heap Xa.out 2
    have ka3 : (w.alloc (Obj.cells #[Value.int .i64 0, Value.bool n, Value.slice a xs.length c, Value.bool m, Value.slice b ys.length d, Value.string nm, Value.int .i64 p, Value.int .i64 q, Value.slice x k ck] 37)).cell? ⟨w.heap.size, 3, none⟩ = some (Value.bool m) := (Lib.cell_of_heap Xa.out 3).trans rfl
    have fa3 : (w.alloc (Obj.cells #[Value.int .i64 0, Value.bool n, Value.slice a xs.length c, Value.bool m, Value.slice b ys.length d, Value.string nm, Value.int .i64 p, Value.int .i64 q, Value.slice x k ck] 37)).frozen? ⟨w.heap.size, 3, none⟩ = false := Lib.frozen_of_heap Xa.out 3
    have ka4 : (w.alloc (Obj.cells #[Value.int .i64 0, Value.bool n, Value.slice a xs.length c, Value.bool m, Value.slice b ys.length d, Value.string nm, Value.int .i64 p, Value.int .i64 q, Value.slice x k ck] 37)).cell? ⟨w.heap.size, 4, none⟩ = some (Value.slice b ys.length d) := (Lib.cell_of_heap Xa.out 4).trans rfl
    have fa4 : (w.alloc (Obj.cells #[Value.int .i64 0, Value.bool n, Value.slice a xs.length c, Value.bool m, Value.slice b ys.length d, Value.string nm, Value.int .i64 p, Value.int .i64 q, Value.slice x k ck] 37)).frozen? ⟨w.heap.size, 4, none⟩ = false := Lib.frozen_of_heap Xa.out 4
    have ka5 : (w.alloc (Obj.cells #[Value.int .i64 0, Value.bool n, Value.slice a xs.length c, Value.bool m, Value.slice b ys.length d, Value.string nm, Value.int .i64 p, Value.int .i64 q, Value.slice x k ck] 37)).cell? ⟨w.heap.size, 5, none⟩ = some (Value.string nm) := (Lib.cell_of_heap Xa.out 5).trans rfl
    have fa5 : (w.alloc (Obj.cells #[Value.int .i64 0, Value.bool n, Value.slice a xs.length c, Value.bool m, Value.slice b ys.length d, Value.string nm, Value.int .i64 p, Value.int .i64 q, Value.slice x k ck] 37)).frozen? ⟨w.heap.size, 5, none⟩ = false := Lib.frozen_of_heap Xa.out 5
    have ka6 : (w.alloc (Obj.cells #[Value.int .i64 0, Value.bool n, Value.slice a xs.length c, Value.bool m, Value.slice b ys.length d, Value.string nm, Value.int .i64 p, Value.int .i64 q, Value.slice x k ck] 37)).cell? ⟨w.heap.size, 6, none⟩ = some (Value.int .i64 p) := (Lib.cell_of_heap Xa.out 6).trans rfl
    have fa6 : (w.alloc (Obj.cells #[Value.int .i64 0, Value.bool n, Value.slice a xs.length c, Value.bool m, Value.slice b ys.length d, Value.string nm, Value.int .i64 p, Value.int .i64 q, Value.slice x k ck] 37)).frozen? ⟨w.heap.size, 6, none⟩ = false := Lib.frozen_of_heap Xa.out 6
    have ka7 : (w.alloc (Obj.cells #[Value.int .i64 0, Value.bool n, Value.slice a xs.length c, Value.bool m, Value.slice b ys.length d, Value.string nm, Value.int .i64 p, Value.int .i64 q, Value.slice x k ck] 37)).cell? ⟨w.heap.size, 7, none⟩ = some (Value.int .i64 q) := (Lib.cell_of_heap Xa.out 7).trans rfl
    have fa7 : (w.alloc (Obj.cells #[Value.int .i64 0, Value.bool n, Value.slice a xs.length c, Value.bool m, Value.slice b ys.length d, Value.string nm, Value.int .i64 p, Value.int .i64 q, Value.slice x k ck] 37)).frozen? ⟨w.heap.size, 7, none⟩ = false := Lib.frozen_of_heap Xa.out 7
    have ka8 : (w.alloc (Obj.cells #[Value.int .i64 0, Value.bool n, Value.slice a xs.length c, Value.bool m, Value.slice b ys.length d, Value.string nm, Value.int .i64 p, Value.int .i64 q, Value.slice x k ck] 37)).cell? ⟨w.heap.size, 8, none⟩ = some (Value.slice x k ck) := (Lib.cell_of_heap Xa.out 8).trans rfl
    have fa8 : (w.alloc (Obj.cells #[Value.int .i64 0, Value.bool n, Value.slice a xs.length c, Value.bool m, Value.slice b ys.length d, Value.string nm, Value.int .i64 p, Value.int .i64 q, Value.slice x k ck] 37)).frozen? ⟨w.heap.size, 8, none⟩ = false := Lib.frozen_of_heap Xa.out 8
    have za : w.heap.size < (w.alloc (Obj.cells #[Value.int .i64 0, Value.bool n, Value.slice a xs.length c, Value.bool m, Value.slice b ys.length d, Value.string nm, Value.int .i64 p, Value.int .i64 q, Value.slice x k ck] 37)).heap.size := hlt Xa.out
    go_enter Tryz.func23, Tryz.ntmps23
    go_wp2_with fail
    generalize (w.alloc (Obj.cells #[Value.int .i64 0, Value.bool n, Value.slice a xs.length c, Value.bool m, Value.slice b ys.length d, Value.string nm, Value.int .i64 p, Value.int .i64 q, Value.slice x k ck] 37)) = w1 at *
    refine (numS n xs m ys a c b d _ (S1.out.below HB.out) (S2.out.below HB.out)).mono ?_
    rintro e w2 ⟨rfl, hb⟩
    have yw2 := hb.size
    clear ka0 fa0 ka1 fa1 ka2 fa2 ka3 fa3 ka4 fa4 ka5 fa5 ka6 fa6 ka7 fa7 ka8 fa8 za
    replace Xa := hide (hbel Xa.out hb (by first | assumption | omega))
    replace HB := hide (bl_trans HB.out hb)
    clear hb
    have ka0 : w2.cell? ⟨w.heap.size, 0, none⟩ = some (Value.int .i64 0) := (Lib.cell_of_heap Xa.out 0).trans rfl
    have fa0 : w2.frozen? ⟨w.heap.size, 0, none⟩ = false := Lib.frozen_of_heap Xa.out 0
    have ka1 : w2.cell? ⟨w.heap.size, 1, none⟩ = some (Value.bool n) := (Lib.cell_of_heap Xa.out 1).trans rfl
    have fa1 : w2.frozen? ⟨w.heap.size, 1, none⟩ = false := Lib.frozen_of_heap Xa.out 1
    have ka2 : w2.cell? ⟨w.heap.size, 2, none⟩ = some (Value.slice a xs.length c) := (Lib.cell_of_heap Xa.out 2).trans rfl
    have fa2 : w2.frozen? ⟨w.heap.size, 2, none⟩ = false := Lib.frozen_of_heap Xa.out 2
    have ka3 : w2.cell? ⟨w.heap.size, 3, none⟩ = some (Value.bool m) := (Lib.cell_of_heap Xa.out 3).trans rfl
    have fa3 : w2.frozen? ⟨w.heap.size, 3, none⟩ = false := Lib.frozen_of_heap Xa.out 3
    have ka4 : w2.cell? ⟨w.heap.size, 4, none⟩ = some (Value.slice b ys.length d) := (Lib.cell_of_heap Xa.out 4).trans rfl
    have fa4 : w2.frozen? ⟨w.heap.size, 4, none⟩ = false := Lib.frozen_of_heap Xa.out 4
    have ka5 : w2.cell? ⟨w.heap.size, 5, none⟩ = some (Value.string nm) := (Lib.cell_of_heap Xa.out 5).trans rfl
    have fa5 : w2.frozen? ⟨w.heap.size, 5, none⟩ = false := Lib.frozen_of_heap Xa.out 5
    have ka6 : w2.cell? ⟨w.heap.size, 6, none⟩ = some (Value.int .i64 p) := (Lib.cell_of_heap Xa.out 6).trans rfl
    have fa6 : w2.frozen? ⟨w.heap.size, 6, none⟩ = false := Lib.frozen_of_heap Xa.out 6
    have ka7 : w2.cell? ⟨w.heap.size, 7, none⟩ = some (Value.int .i64 q) := (Lib.cell_of_heap Xa.out 7).trans rfl
    have fa7 : w2.frozen? ⟨w.heap.size, 7, none⟩ = false := Lib.frozen_of_heap Xa.out 7
    have ka8 : w2.cell? ⟨w.heap.size, 8, none⟩ = some (Value.slice x k ck) := (Lib.cell_of_heap Xa.out 8).trans rfl
    have fa8 : w2.frozen? ⟨w.heap.size, 8, none⟩ = false := Lib.frozen_of_heap Xa.out 8
    have za : w.heap.size < w2.heap.size := hlt Xa.out
    cases hb : numB n xs m ys with
    | false =>
      have Hb := hide hb
      clear hb
      go_wp2
      go_ret
      exact ⟨ret_bool (by rw [HO.out, Hb.out]; first | rfl | simp), HB.out⟩
    | true =>
      have Hb := hide hb
      clear hb
      cases hn : nm.toList.isEmpty with
      | false =>
        have Hn := hide hn
        go_wp2
        go_ret
        exact ⟨ret_bool (by rw [HO.out, Hb.out, Hn.out]; first | rfl | simp), HB.out⟩
      | true =>
        have Hn := hide hn
        go_wp2
        go_ret
        exact ⟨ret_bool (by rw [HO.out, Hb.out, Hn.out, HFF.out]; first | rfl | simp), HB.out⟩
  · have hp2 : (p == 0) = false := by rw [beq_eq_false_iff_ne]; exact hp
    have hq2 : (q == 0) = false := by rw [beq_eq_false_iff_ne]; exact hq
    have HFF : Hid (F = false) := hide (by rw [← HF.out, decide_eq_false hp, decide_eq_false hq]; rfl)
    clear hp hq
    have Xa : Hid ((w.alloc (Obj.cells #[Value.int .i64 0, Value.bool n, Value.slice a xs.length c, Value.bool m, Value.slice b ys.length d, Value.string nm, Value.int .i64 p, Value.int .i64 q, Value.slice x k ck] 37)).heap[w.heap.size]? = some (.cells #[Value.int .i64 0, Value.bool n, Value.slice a xs.length c, Value.bool m, Value.slice b ys.length d, Value.string nm, Value.int .i64 p, Value.int .i64 q, Value.slice x k ck] 37 (0, 0))) := hide (by simpa only [World.size_alloc] using (hnew w (Obj.cells #[Value.int .i64 0, Value.bool n, Value.slice a xs.length c, Value.bool m, Value.slice b ys.length d, Value.string nm, Value.int .i64 p, Value.int .i64 q, Value.slice x k ck] 37)))
    have HB : Hid (Below w.heap.size w (w.alloc (Obj.cells #[Value.int .i64 0, Value.bool n, Value.slice a xs.length c, Value.bool m, Value.slice b ys.length d, Value.string nm, Value.int .i64 p, Value.int .i64 q, Value.slice x k ck] 37))) := hide (bl_alloc (bl_refl w) (Obj.cells #[Value.int .i64 0, Value.bool n, Value.slice a xs.length c, Value.bool m, Value.slice b ys.length d, Value.string nm, Value.int .i64 p, Value.int .i64 q, Value.slice x k ck] 37))
    have yw1 : w.heap.size + 1 ≤ (w.alloc (Obj.cells #[Value.int .i64 0, Value.bool n, Value.slice a xs.length c, Value.bool m, Value.slice b ys.length d, Value.string nm, Value.int .i64 p, Value.int .i64 q, Value.slice x k ck] 37)).heap.size := by simp only [World.size_alloc]; omega
    have ka0 : (w.alloc (Obj.cells #[Value.int .i64 0, Value.bool n, Value.slice a xs.length c, Value.bool m, Value.slice b ys.length d, Value.string nm, Value.int .i64 p, Value.int .i64 q, Value.slice x k ck] 37)).cell? ⟨w.heap.size, 0, none⟩ = some (Value.int .i64 0) := (Lib.cell_of_heap Xa.out 0).trans rfl
    have fa0 : (w.alloc (Obj.cells #[Value.int .i64 0, Value.bool n, Value.slice a xs.length c, Value.bool m, Value.slice b ys.length d, Value.string nm, Value.int .i64 p, Value.int .i64 q, Value.slice x k ck] 37)).frozen? ⟨w.heap.size, 0, none⟩ = false := Lib.frozen_of_heap Xa.out 0
    have ka1 : (w.alloc (Obj.cells #[Value.int .i64 0, Value.bool n, Value.slice a xs.length c, Value.bool m, Value.slice b ys.length d, Value.string nm, Value.int .i64 p, Value.int .i64 q, Value.slice x k ck] 37)).cell? ⟨w.heap.size, 1, none⟩ = some (Value.bool n) := (Lib.cell_of_heap Xa.out 1).trans rfl
    have fa1 : (w.alloc (Obj.cells #[Value.int .i64 0, Value.bool n, Value.slice a xs.length c, Value.bool m, Value.slice b ys.length d, Value.string nm, Value.int .i64 p, Value.int .i64 q, Value.slice x k ck] 37)).frozen? ⟨w.heap.size, 1, none⟩ = false := Lib.frozen_of_heap Xa.out 1
    have ka2 : (w.alloc (Obj.cells #[Value.int .i64 0, Value.bool n, Value.slice a xs.length c, Value.bool m, Value.slice b ys.length d, Value.string nm, Value.int .i64 p, Value.int .i64 q, Value.slice x k ck] 37)).cell? ⟨w.heap.size, 2, none⟩ = some (Value.slice a xs.length c) := (Lib.cell_of_heap Xa.out 2).trans rfl
    have fa2 : (w.alloc (Obj.cells #[Value.int .i64 0, Value.bool n, Value.slice a xs.length c, Value.bool m, Value.slice b ys.length d, Value.string nm, Value.int .i64 p, Value.int .i64 q, Value.slice x k ck] 37)).frozen? ⟨w.heap.size, 2, none⟩ = false := Lib.frozen_of_heap Xa.out 2
    have ka3 : (w.alloc (Obj.cells #[Value.int .i64 0, Value.bool n, Value.slice a xs.length c, Value.bool m, Value.slice b ys.length d, Value.string nm, Value.int .i64 p, Value.int .i64 q, Value.slice x k ck] 37)).cell? ⟨w.heap.size, 3, none⟩ = some (Value.bool m) := (Lib.cell_of_heap Xa.out 3).trans rfl
    have fa3 : (w.alloc (Obj.cells #[Value.int .i64 0, Value.bool n, Value.slice a xs.length c, Value.bool m, Value.slice b ys.length d, Value.string nm, Value.int .i64 p, Value.int .i64 q, Value.slice x k ck] 37)).frozen? ⟨w.heap.size, 3, none⟩ = false := Lib.frozen_of_heap Xa.out 3
    have ka4 : (w.alloc (Obj.cells #[Value.int .i64 0, Value.bool n, Value.slice a xs.length c, Value.bool m, Value.slice b ys.length d, Value.string nm, Value.int .i64 p, Value.int .i64 q, Value.slice x k ck] 37)).cell? ⟨w.heap.size, 4, none⟩ = some (Value.slice b ys.length d) := (Lib.cell_of_heap Xa.out 4).trans rfl
    have fa4 : (w.alloc (Obj.cells #[Value.int .i64 0, Value.bool n, Value.slice a xs.length c, Value.bool m, Value.slice b ys.length d, Value.string nm, Value.int .i64 p, Value.int .i64 q, Value.slice x k ck] 37)).frozen? ⟨w.heap.size, 4, none⟩ = false := Lib.frozen_of_heap Xa.out 4
    have ka5 : (w.alloc (Obj.cells #[Value.int .i64 0, Value.bool n, Value.slice a xs.length c, Value.bool m, Value.slice b ys.length d, Value.string nm, Value.int .i64 p, Value.int .i64 q, Value.slice x k ck] 37)).cell? ⟨w.heap.size, 5, none⟩ = some (Value.string nm) := (Lib.cell_of_heap Xa.out 5).trans rfl
    have fa5 : (w.alloc (Obj.cells #[Value.int .i64 0, Value.bool n, Value.slice a xs.length c, Value.bool m, Value.slice b ys.length d, Value.string nm, Value.int .i64 p, Value.int .i64 q, Value.slice x k ck] 37)).frozen? ⟨w.heap.size, 5, none⟩ = false := Lib.frozen_of_heap Xa.out 5
    have ka6 : (w.alloc (Obj.cells #[Value.int .i64 0, Value.bool n, Value.slice a xs.length c, Value.bool m, Value.slice b ys.length d, Value.string nm, Value.int .i64 p, Value.int .i64 q, Value.slice x k ck] 37)).cell? ⟨w.heap.size, 6, none⟩ = some (Value.int .i64 p) := (Lib.cell_of_heap Xa.out 6).trans rfl
    have fa6 : (w.alloc (Obj.cells #[Value.int .i64 0, Value.bool n, Value.slice a xs.length c, Value.bool m, Value.slice b ys.length d, Value.string nm, Value.int .i64 p, Value.int .i64 q, Value.slice x k ck] 37)).frozen? ⟨w.heap.size, 6, none⟩ = false := Lib.frozen_of_heap Xa.out 6
    have ka7 : (w.alloc (Obj.cells #[Value.int .i64 0, Value.bool n, Value.slice a xs.length c, Value.bool m, Value.slice b ys.length d, Value.string nm, Value.int .i64 p, Value.int .i64 q, Value.slice x k ck] 37)).cell? ⟨w.heap.size, 7, none⟩ = some (Value.int .i64 q) := (Lib.cell_of_heap Xa.out 7).trans rfl
    have fa7 : (w.alloc (Obj.cells #[Value.int .i64 0, Value.bool n, Value.slice a xs.length c, Value.bool m, Value.slice b ys.length d, Value.string nm, Value.int .i64 p, Value.int .i64 q, Value.slice x k ck] 37)).frozen? ⟨w.heap.size, 7, none⟩ = false := Lib.frozen_of_heap Xa.out 7
    have ka8 : (w.alloc (Obj.cells #[Value.int .i64 0, Value.bool n, Value.slice a xs.length c, Value.bool m, Value.slice b ys.length d, Value.string nm, Value.int .i64 p, Value.int .i64 q, Value.slice x k ck] 37)).cell? ⟨w.heap.size, 8, none⟩ = some (Value.slice x k ck) := (Lib.cell_of_heap Xa.out 8).trans rfl
    have fa8 : (w.alloc (Obj.cells #[Value.int .i64 0, Value.bool n, Value.slice a xs.length c, Value.bool m, Value.slice b ys.length d, Value.string nm, Value.int .i64 p, Value.int .i64 q, Value.slice x k ck] 37)).frozen? ⟨w.heap.size, 8, none⟩ = false := Lib.frozen_of_heap Xa.out 8
    have za : w.heap.size < (w.alloc (Obj.cells #[Value.int .i64 0, Value.bool n, Value.slice a xs.length c, Value.bool m, Value.slice b ys.length d, Value.string nm, Value.int .i64 p, Value.int .i64 q, Value.slice x k ck] 37)).heap.size := hlt Xa.out
    go_enter Tryz.func23, Tryz.ntmps23
    go_wp2_with fail
    generalize (w.alloc (Obj.cells #[Value.int .i64 0, Value.bool n, Value.slice a xs.length c, Value.bool m, Value.slice b ys.length d, Value.string nm, Value.int .i64 p, Value.int .i64 q, Value.slice x k ck] 37)) = w1 at *
    refine (numS n xs m ys a c b d _ (S1.out.below HB.out) (S2.out.below HB.out)).mono ?_
    rintro e w2 ⟨rfl, hb⟩
    have yw2 := hb.size
    clear ka0 fa0 ka1 fa1 ka2 fa2 ka3 fa3 ka4 fa4 ka5 fa5 ka6 fa6 ka7 fa7 ka8 fa8 za
    replace Xa := hide (hbel Xa.out hb (by first | assumption | omega))
    replace HB := hide (bl_trans HB.out hb)
    clear hb
    have ka0 : w2.cell? ⟨w.heap.size, 0, none⟩ = some (Value.int .i64 0) := (Lib.cell_of_heap Xa.out 0).trans rfl
    have fa0 : w2.frozen? ⟨w.heap.size, 0, none⟩ = false := Lib.frozen_of_heap Xa.out 0
    have ka1 : w2.cell? ⟨w.heap.size, 1, none⟩ = some (Value.bool n) := (Lib.cell_of_heap Xa.out 1).trans rfl
    have fa1 : w2.frozen? ⟨w.heap.size, 1, none⟩ = false := Lib.frozen_of_heap Xa.out 1
    have ka2 : w2.cell? ⟨w.heap.size, 2, none⟩ = some (Value.slice a xs.length c) := (Lib.cell_of_heap Xa.out 2).trans rfl
    have fa2 : w2.frozen? ⟨w.heap.size, 2, none⟩ = false := Lib.frozen_of_heap Xa.out 2
    have ka3 : w2.cell? ⟨w.heap.size, 3, none⟩ = some (Value.bool m) := (Lib.cell_of_heap Xa.out 3).trans rfl
    have fa3 : w2.frozen? ⟨w.heap.size, 3, none⟩ = false := Lib.frozen_of_heap Xa.out 3
    have ka4 : w2.cell? ⟨w.heap.size, 4, none⟩ = some (Value.slice b ys.length d) := (Lib.cell_of_heap Xa.out 4).trans rfl
    have fa4 : w2.frozen? ⟨w.heap.size, 4, none⟩ = false := Lib.frozen_of_heap Xa.out 4
    have ka5 : w2.cell? ⟨w.heap.size, 5, none⟩ = some (Value.string nm) := (Lib.cell_of_heap Xa.out 5).trans rfl
    have fa5 : w2.frozen? ⟨w.heap.size, 5, none⟩ = false := Lib.frozen_of_heap Xa.out 5
    have ka6 : w2.cell? ⟨w.heap.size, 6, none⟩ = some (Value.int .i64 p) := (Lib.cell_of_heap Xa.out 6).trans rfl
    have fa6 : w2.frozen? ⟨w.heap.size, 6, none⟩ = false := Lib.frozen_of_heap Xa.out 6
    have ka7 : w2.cell? ⟨w.heap.size, 7, none⟩ = some (Value.int .i64 q) := (Lib.cell_of_heap Xa.out 7).trans rfl
    have fa7 : w2.frozen? ⟨w.heap.size, 7, none⟩ = false := Lib.frozen_of_heap Xa.out 7
    have ka8 : w2.cell? ⟨w.heap.size, 8, none⟩ = some (Value.slice x k ck) := (Lib.cell_of_heap Xa.out 8).trans rfl
    have fa8 : w2.frozen? ⟨w.heap.size, 8, none⟩ = false := Lib.frozen_of_heap Xa.out 8
    have za : w.heap.size < w2.heap.size := hlt Xa.out
    cases hb : numB n xs m ys with
    | false =>
      have Hb := hide hb
      clear hb
      go_wp2
      go_ret
      exact ⟨ret_bool (by rw [HO.out, Hb.out]; first | rfl | simp), HB.out⟩
    | true =>
      have Hb := hide hb
      clear hb
      cases hn : nm.toList.isEmpty with
      | false =>
        have Hn := hide hn
        go_wp2
        go_ret
        exact ⟨ret_bool (by rw [HO.out, Hb.out, Hn.out]; first | rfl | simp), HB.out⟩
      | true =>
        have Hn := hide hn
        go_wp2
        go_ret
        exact ⟨ret_bool (by rw [HO.out, Hb.out, Hn.out, HFF.out]; first | rfl | simp), HB.out⟩

set_option maxHeartbeats 4000000 in
set_option maxRecDepth 20000 in
theorem ownS1 (n : Bool) (xs : List Nat) (m : Bool) (ys : List Nat) (nm : ByteArray) (p q : Int) (k : Nat) (a : Option Addr) (c : Nat) (b : Option Addr) (d : Nat) (x : Option Addr) (ck : Nat) (w : World) (s1 : Seg w a xs.length c xs) (s2 : Seg w b ys.length d ys) (hk : k ≤ 9223372036854775807) (hnm : nm.size ≤ 140737488355328) :
    Calls Tryz.prog 23 #[Value.agg #[Value.int .i64 1, Value.bool n, Value.slice a xs.length c, Value.bool m, Value.slice b ys.length d, Value.string nm, Value.int .i64 p, Value.int .i64 q, Value.slice x k ck]] w fun e w' => e = .returned (.bool (ownB 1 n xs m ys nm p q k)) ∧ Below w.heap.size w w' := by
  have q1 := s1.le
  have q2 := s2.le
  have sm := hide s1.2.2.2.1
  have S1 := hide s1
  have S2 := hide s2
  clear s1 s2
  obtain ⟨F, hF⟩ : ∃ F, (decide (p = 0) && decide (q = 0)) = F := ⟨_, rfl⟩
  have HF := hide hF
  have HO : Hid (ownB 1 n xs m ys nm p q k = (blankB n xs m ys && (Nm.nameOkB nm && (F && decide (k = 0))))) := hide (by rw [← hF]; exact own_1 ..)
  clear hF
  by_cases hp : p = 0
  all_goals by_cases hq : q = 0
  · have hp2 : (p == 0) = true := by rw [beq_iff_eq]; exact hp
    have hq2 : (q == 0) = true := by rw [beq_iff_eq]; exact hq
    have HFF : Hid (F = true) := hide (by rw [← HF.out, decide_eq_true hp, decide_eq_true hq]; rfl)
    clear hp hq
    have Xa : Hid ((w.alloc (Obj.cells #[Value.int .i64 1, Value.bool n, Value.slice a xs.length c, Value.bool m, Value.slice b ys.length d, Value.string nm, Value.int .i64 p, Value.int .i64 q, Value.slice x k ck] 37)).heap[w.heap.size]? = some (.cells #[Value.int .i64 1, Value.bool n, Value.slice a xs.length c, Value.bool m, Value.slice b ys.length d, Value.string nm, Value.int .i64 p, Value.int .i64 q, Value.slice x k ck] 37 (0, 0))) := hide (by simpa only [World.size_alloc] using (hnew w (Obj.cells #[Value.int .i64 1, Value.bool n, Value.slice a xs.length c, Value.bool m, Value.slice b ys.length d, Value.string nm, Value.int .i64 p, Value.int .i64 q, Value.slice x k ck] 37)))
    have HB : Hid (Below w.heap.size w (w.alloc (Obj.cells #[Value.int .i64 1, Value.bool n, Value.slice a xs.length c, Value.bool m, Value.slice b ys.length d, Value.string nm, Value.int .i64 p, Value.int .i64 q, Value.slice x k ck] 37))) := hide (bl_alloc (bl_refl w) (Obj.cells #[Value.int .i64 1, Value.bool n, Value.slice a xs.length c, Value.bool m, Value.slice b ys.length d, Value.string nm, Value.int .i64 p, Value.int .i64 q, Value.slice x k ck] 37))
    have yw1 : w.heap.size + 1 ≤ (w.alloc (Obj.cells #[Value.int .i64 1, Value.bool n, Value.slice a xs.length c, Value.bool m, Value.slice b ys.length d, Value.string nm, Value.int .i64 p, Value.int .i64 q, Value.slice x k ck] 37)).heap.size := by simp only [World.size_alloc]; omega
    have ka0 : (w.alloc (Obj.cells #[Value.int .i64 1, Value.bool n, Value.slice a xs.length c, Value.bool m, Value.slice b ys.length d, Value.string nm, Value.int .i64 p, Value.int .i64 q, Value.slice x k ck] 37)).cell? ⟨w.heap.size, 0, none⟩ = some (Value.int .i64 1) := (Lib.cell_of_heap Xa.out 0).trans rfl
    have fa0 : (w.alloc (Obj.cells #[Value.int .i64 1, Value.bool n, Value.slice a xs.length c, Value.bool m, Value.slice b ys.length d, Value.string nm, Value.int .i64 p, Value.int .i64 q, Value.slice x k ck] 37)).frozen? ⟨w.heap.size, 0, none⟩ = false := Lib.frozen_of_heap Xa.out 0
    have ka1 : (w.alloc (Obj.cells #[Value.int .i64 1, Value.bool n, Value.slice a xs.length c, Value.bool m, Value.slice b ys.length d, Value.string nm, Value.int .i64 p, Value.int .i64 q, Value.slice x k ck] 37)).cell? ⟨w.heap.size, 1, none⟩ = some (Value.bool n) := (Lib.cell_of_heap Xa.out 1).trans rfl
    have fa1 : (w.alloc (Obj.cells #[Value.int .i64 1, Value.bool n, Value.slice a xs.length c, Value.bool m, Value.slice b ys.length d, Value.string nm, Value.int .i64 p, Value.int .i64 q, Value.slice x k ck] 37)).frozen? ⟨w.heap.size, 1, none⟩ = false := Lib.frozen_of_heap Xa.out 1
    have ka2 : (w.alloc (Obj.cells #[Value.int .i64 1, Value.bool n, Value.slice a xs.length c, Value.bool m, Value.slice b ys.length d, Value.string nm, Value.int .i64 p, Value.int .i64 q, Value.slice x k ck] 37)).cell? ⟨w.heap.size, 2, none⟩ = some (Value.slice a xs.length c) := (Lib.cell_of_heap Xa.out 2).trans rfl
    have fa2 : (w.alloc (Obj.cells #[Value.int .i64 1, Value.bool n, Value.slice a xs.length c, Value.bool m, Value.slice b ys.length d, Value.string nm, Value.int .i64 p, Value.int .i64 q, Value.slice x k ck] 37)).frozen? ⟨w.heap.size, 2, none⟩ = false := Lib.frozen_of_heap Xa.out 2
    have ka3 : (w.alloc (Obj.cells #[Value.int .i64 1, Value.bool n, Value.slice a xs.length c, Value.bool m, Value.slice b ys.length d, Value.string nm, Value.int .i64 p, Value.int .i64 q, Value.slice x k ck] 37)).cell? ⟨w.heap.size, 3, none⟩ = some (Value.bool m) := (Lib.cell_of_heap Xa.out 3).trans rfl
    have fa3 : (w.alloc (Obj.cells #[Value.int .i64 1, Value.bool n, Value.slice a xs.length c, Value.bool m, Value.slice b ys.length d, Value.string nm, Value.int .i64 p, Value.int .i64 q, Value.slice x k ck] 37)).frozen? ⟨w.heap.size, 3, none⟩ = false := Lib.frozen_of_heap Xa.out 3
    have ka4 : (w.alloc (Obj.cells #[Value.int .i64 1, Value.bool n, Value.slice a xs.length c, Value.bool m, Value.slice b ys.length d, Value.string nm, Value.int .i64 p, Value.int .i64 q, Value.slice x k ck] 37)).cell? ⟨w.heap.size, 4, none⟩ = some (Value.slice b ys.length d) := (Lib.cell_of_heap Xa.out 4).trans rfl
    have fa4 : (w.alloc (Obj.cells #[Value.int .i64 1, Value.bool n, Value.slice a xs.length c, Value.bool m, Value.slice b ys.length d, Value.string nm, Value.int .i64 p, Value.int .i64 q, Value.slice x k ck] 37)).frozen? ⟨w.heap.size, 4, none⟩ = false := Lib.frozen_of_heap Xa.out 4
    have ka5 : (w.alloc (Obj.cells #[Value.int .i64 1, Value.bool n, Value.slice a xs.length c, Value.bool m, Value.slice b ys.length d, Value.string nm, Value.int .i64 p, Value.int .i64 q, Value.slice x k ck] 37)).cell? ⟨w.heap.size, 5, none⟩ = some (Value.string nm) := (Lib.cell_of_heap Xa.out 5).trans rfl
    have fa5 : (w.alloc (Obj.cells #[Value.int .i64 1, Value.bool n, Value.slice a xs.length c, Value.bool m, Value.slice b ys.length d, Value.string nm, Value.int .i64 p, Value.int .i64 q, Value.slice x k ck] 37)).frozen? ⟨w.heap.size, 5, none⟩ = false := Lib.frozen_of_heap Xa.out 5
    have ka6 : (w.alloc (Obj.cells #[Value.int .i64 1, Value.bool n, Value.slice a xs.length c, Value.bool m, Value.slice b ys.length d, Value.string nm, Value.int .i64 p, Value.int .i64 q, Value.slice x k ck] 37)).cell? ⟨w.heap.size, 6, none⟩ = some (Value.int .i64 p) := (Lib.cell_of_heap Xa.out 6).trans rfl
    have fa6 : (w.alloc (Obj.cells #[Value.int .i64 1, Value.bool n, Value.slice a xs.length c, Value.bool m, Value.slice b ys.length d, Value.string nm, Value.int .i64 p, Value.int .i64 q, Value.slice x k ck] 37)).frozen? ⟨w.heap.size, 6, none⟩ = false := Lib.frozen_of_heap Xa.out 6
    have ka7 : (w.alloc (Obj.cells #[Value.int .i64 1, Value.bool n, Value.slice a xs.length c, Value.bool m, Value.slice b ys.length d, Value.string nm, Value.int .i64 p, Value.int .i64 q, Value.slice x k ck] 37)).cell? ⟨w.heap.size, 7, none⟩ = some (Value.int .i64 q) := (Lib.cell_of_heap Xa.out 7).trans rfl
    have fa7 : (w.alloc (Obj.cells #[Value.int .i64 1, Value.bool n, Value.slice a xs.length c, Value.bool m, Value.slice b ys.length d, Value.string nm, Value.int .i64 p, Value.int .i64 q, Value.slice x k ck] 37)).frozen? ⟨w.heap.size, 7, none⟩ = false := Lib.frozen_of_heap Xa.out 7
    have ka8 : (w.alloc (Obj.cells #[Value.int .i64 1, Value.bool n, Value.slice a xs.length c, Value.bool m, Value.slice b ys.length d, Value.string nm, Value.int .i64 p, Value.int .i64 q, Value.slice x k ck] 37)).cell? ⟨w.heap.size, 8, none⟩ = some (Value.slice x k ck) := (Lib.cell_of_heap Xa.out 8).trans rfl
    have fa8 : (w.alloc (Obj.cells #[Value.int .i64 1, Value.bool n, Value.slice a xs.length c, Value.bool m, Value.slice b ys.length d, Value.string nm, Value.int .i64 p, Value.int .i64 q, Value.slice x k ck] 37)).frozen? ⟨w.heap.size, 8, none⟩ = false := Lib.frozen_of_heap Xa.out 8
    have za : w.heap.size < (w.alloc (Obj.cells #[Value.int .i64 1, Value.bool n, Value.slice a xs.length c, Value.bool m, Value.slice b ys.length d, Value.string nm, Value.int .i64 p, Value.int .i64 q, Value.slice x k ck] 37)).heap.size := hlt Xa.out
    go_enter Tryz.func23, Tryz.ntmps23
    go_wp2_with fail
    generalize (w.alloc (Obj.cells #[Value.int .i64 1, Value.bool n, Value.slice a xs.length c, Value.bool m, Value.slice b ys.length d, Value.string nm, Value.int .i64 p, Value.int .i64 q, Value.slice x k ck] 37)) = w1 at *
    refine (noneS n xs m ys a c b d _ (S1.out.below HB.out) (S2.out.below HB.out)).mono ?_
    rintro e w2 ⟨rfl, hb⟩
    have yw2 := hb.size
    clear ka0 fa0 ka1 fa1 ka2 fa2 ka3 fa3 ka4 fa4 ka5 fa5 ka6 fa6 ka7 fa7 ka8 fa8 za
    replace Xa := hide (hbel Xa.out hb (by first | assumption | omega))
    replace HB := hide (bl_trans HB.out hb)
    clear hb
    have ka0 : w2.cell? ⟨w.heap.size, 0, none⟩ = some (Value.int .i64 1) := (Lib.cell_of_heap Xa.out 0).trans rfl
    have fa0 : w2.frozen? ⟨w.heap.size, 0, none⟩ = false := Lib.frozen_of_heap Xa.out 0
    have ka1 : w2.cell? ⟨w.heap.size, 1, none⟩ = some (Value.bool n) := (Lib.cell_of_heap Xa.out 1).trans rfl
    have fa1 : w2.frozen? ⟨w.heap.size, 1, none⟩ = false := Lib.frozen_of_heap Xa.out 1
    have ka2 : w2.cell? ⟨w.heap.size, 2, none⟩ = some (Value.slice a xs.length c) := (Lib.cell_of_heap Xa.out 2).trans rfl
    have fa2 : w2.frozen? ⟨w.heap.size, 2, none⟩ = false := Lib.frozen_of_heap Xa.out 2
    have ka3 : w2.cell? ⟨w.heap.size, 3, none⟩ = some (Value.bool m) := (Lib.cell_of_heap Xa.out 3).trans rfl
    have fa3 : w2.frozen? ⟨w.heap.size, 3, none⟩ = false := Lib.frozen_of_heap Xa.out 3
    have ka4 : w2.cell? ⟨w.heap.size, 4, none⟩ = some (Value.slice b ys.length d) := (Lib.cell_of_heap Xa.out 4).trans rfl
    have fa4 : w2.frozen? ⟨w.heap.size, 4, none⟩ = false := Lib.frozen_of_heap Xa.out 4
    have ka5 : w2.cell? ⟨w.heap.size, 5, none⟩ = some (Value.string nm) := (Lib.cell_of_heap Xa.out 5).trans rfl
    have fa5 : w2.frozen? ⟨w.heap.size, 5, none⟩ = false := Lib.frozen_of_heap Xa.out 5
    have ka6 : w2.cell? ⟨w.heap.size, 6, none⟩ = some (Value.int .i64 p) := (Lib.cell_of_heap Xa.out 6).trans rfl
    have fa6 : w2.frozen? ⟨w.heap.size, 6, none⟩ = false := Lib.frozen_of_heap Xa.out 6
    have ka7 : w2.cell? ⟨w.heap.size, 7, none⟩ = some (Value.int .i64 q) := (Lib.cell_of_heap Xa.out 7).trans rfl
    have fa7 : w2.frozen? ⟨w.heap.size, 7, none⟩ = false := Lib.frozen_of_heap Xa.out 7
    have ka8 : w2.cell? ⟨w.heap.size, 8, none⟩ = some (Value.slice x k ck) := (Lib.cell_of_heap Xa.out 8).trans rfl
    have fa8 : w2.frozen? ⟨w.heap.size, 8, none⟩ = false := Lib.frozen_of_heap Xa.out 8
    have za : w.heap.size < w2.heap.size := hlt Xa.out
    cases hb : blankB n xs m ys with
    | false =>
      have Hb := hide hb
      clear hb
      go_wp2
      go_ret
      exact ⟨ret_bool (by rw [HO.out, Hb.out]; first | rfl | simp), HB.out⟩
    | true =>
      have Hb := hide hb
      clear hb
      go_wp2_with fail
      refine (Nm.nameS nm _ hnm).mono ?_
      rintro e w3x ⟨rfl, qd, hw⟩
      have hbd : Below w2.heap.size w2 w3x := by rw [hw]; exact below_drewN (bl_refl w2) qd
      clear hw
      generalize w3x = w3 at *
      have yw3 := hbd.size
      clear ka0 fa0 ka1 fa1 ka2 fa2 ka3 fa3 ka4 fa4 ka5 fa5 ka6 fa6 ka7 fa7 ka8 fa8 za
      replace Xa := hide (hbel Xa.out hbd (by first | assumption | omega))
      replace HB := hide (bl_trans HB.out hbd)
      clear hbd
      have ka0 : w3.cell? ⟨w.heap.size, 0, none⟩ = some (Value.int .i64 1) := (Lib.cell_of_heap Xa.out 0).trans rfl
      have fa0 : w3.frozen? ⟨w.heap.size, 0, none⟩ = false := Lib.frozen_of_heap Xa.out 0
      have ka1 : w3.cell? ⟨w.heap.size, 1, none⟩ = some (Value.bool n) := (Lib.cell_of_heap Xa.out 1).trans rfl
      have fa1 : w3.frozen? ⟨w.heap.size, 1, none⟩ = false := Lib.frozen_of_heap Xa.out 1
      have ka2 : w3.cell? ⟨w.heap.size, 2, none⟩ = some (Value.slice a xs.length c) := (Lib.cell_of_heap Xa.out 2).trans rfl
      have fa2 : w3.frozen? ⟨w.heap.size, 2, none⟩ = false := Lib.frozen_of_heap Xa.out 2
      have ka3 : w3.cell? ⟨w.heap.size, 3, none⟩ = some (Value.bool m) := (Lib.cell_of_heap Xa.out 3).trans rfl
      have fa3 : w3.frozen? ⟨w.heap.size, 3, none⟩ = false := Lib.frozen_of_heap Xa.out 3
      have ka4 : w3.cell? ⟨w.heap.size, 4, none⟩ = some (Value.slice b ys.length d) := (Lib.cell_of_heap Xa.out 4).trans rfl
      have fa4 : w3.frozen? ⟨w.heap.size, 4, none⟩ = false := Lib.frozen_of_heap Xa.out 4
      have ka5 : w3.cell? ⟨w.heap.size, 5, none⟩ = some (Value.string nm) := (Lib.cell_of_heap Xa.out 5).trans rfl
      have fa5 : w3.frozen? ⟨w.heap.size, 5, none⟩ = false := Lib.frozen_of_heap Xa.out 5
      have ka6 : w3.cell? ⟨w.heap.size, 6, none⟩ = some (Value.int .i64 p) := (Lib.cell_of_heap Xa.out 6).trans rfl
      have fa6 : w3.frozen? ⟨w.heap.size, 6, none⟩ = false := Lib.frozen_of_heap Xa.out 6
      have ka7 : w3.cell? ⟨w.heap.size, 7, none⟩ = some (Value.int .i64 q) := (Lib.cell_of_heap Xa.out 7).trans rfl
      have fa7 : w3.frozen? ⟨w.heap.size, 7, none⟩ = false := Lib.frozen_of_heap Xa.out 7
      have ka8 : w3.cell? ⟨w.heap.size, 8, none⟩ = some (Value.slice x k ck) := (Lib.cell_of_heap Xa.out 8).trans rfl
      have fa8 : w3.frozen? ⟨w.heap.size, 8, none⟩ = false := Lib.frozen_of_heap Xa.out 8
      have za : w.heap.size < w3.heap.size := hlt Xa.out
      cases hn : Nm.nameOkB nm with
      | false =>
        have Hn := hide hn
        clear hn
        go_wp2
        go_ret
        exact ⟨ret_bool (by rw [HO.out, Hb.out, Hn.out]; first | rfl | simp), HB.out⟩
      | true =>
        have Hn := hide hn
        clear hn
        by_cases hl : k = 0
        case neg =>
          have HL : Hid (decide (k = 0) = false) := hide (decide_eq_false hl)
          have hl2 : ((k : Int) == 0) = false := by rw [beq_eq_false_iff_ne]; omega
          clear hl
          go_wp2
          go_ret
          exact ⟨ret_bool (by rw [HO.out, Hb.out, Hn.out, HFF.out, HL.out]; first | rfl | simp), HB.out⟩
        have HL : Hid (decide (k = 0) = true) := hide (decide_eq_true hl)
        have hl2 : ((k : Int) == 0) = true := by rw [beq_iff_eq]; omega
        clear hl
        go_wp2
        go_ret
        exact ⟨ret_bool (by rw [HO.out, Hb.out, Hn.out, HFF.out, HL.out]; first | rfl | simp), HB.out⟩
  · have hp2 : (p == 0) = true := by rw [beq_iff_eq]; exact hp
    have hq2 : (q == 0) = false := by rw [beq_eq_false_iff_ne]; exact hq
    have HFF : Hid (F = false) := hide (by rw [← HF.out, decide_eq_true hp, decide_eq_false hq]; rfl)
    clear hp hq
    have Xa : Hid ((w.alloc (Obj.cells #[Value.int .i64 1, Value.bool n, Value.slice a xs.length c, Value.bool m, Value.slice b ys.length d, Value.string nm, Value.int .i64 p, Value.int .i64 q, Value.slice x k ck] 37)).heap[w.heap.size]? = some (.cells #[Value.int .i64 1, Value.bool n, Value.slice a xs.length c, Value.bool m, Value.slice b ys.length d, Value.string nm, Value.int .i64 p, Value.int .i64 q, Value.slice x k ck] 37 (0, 0))) := hide (by simpa only [World.size_alloc] using (hnew w (Obj.cells #[Value.int .i64 1, Value.bool n, Value.slice a xs.length c, Value.bool m, Value.slice b ys.length d, Value.string nm, Value.int .i64 p, Value.int .i64 q, Value.slice x k ck] 37)))
    have HB : Hid (Below w.heap.size w (w.alloc (Obj.cells #[Value.int .i64 1, Value.bool n, Value.slice a xs.length c, Value.bool m, Value.slice b ys.length d, Value.string nm, Value.int .i64 p, Value.int .i64 q, Value.slice x k ck] 37))) := hide (bl_alloc (bl_refl w) (Obj.cells #[Value.int .i64 1, Value.bool n, Value.slice a xs.length c, Value.bool m, Value.slice b ys.length d, Value.string nm, Value.int .i64 p, Value.int .i64 q, Value.slice x k ck] 37))
    have yw1 : w.heap.size + 1 ≤ (w.alloc (Obj.cells #[Value.int .i64 1, Value.bool n, Value.slice a xs.length c, Value.bool m, Value.slice b ys.length d, Value.string nm, Value.int .i64 p, Value.int .i64 q, Value.slice x k ck] 37)).heap.size := by simp only [World.size_alloc]; omega
    have ka0 : (w.alloc (Obj.cells #[Value.int .i64 1, Value.bool n, Value.slice a xs.length c, Value.bool m, Value.slice b ys.length d, Value.string nm, Value.int .i64 p, Value.int .i64 q, Value.slice x k ck] 37)).cell? ⟨w.heap.size, 0, none⟩ = some (Value.int .i64 1) := (Lib.cell_of_heap Xa.out 0).trans rfl
    have fa0 : (w.alloc (Obj.cells #[Value.int .i64 1, Value.bool n, Value.slice a xs.length c, Value.bool m, Value.slice b ys.length d, Value.string nm, Value.int .i64 p, Value.int .i64 q, Value.slice x k ck] 37)).frozen? ⟨w.heap.size, 0, none⟩ = false := Lib.frozen_of_heap Xa.out 0
    have ka1 : (w.alloc (Obj.cells #[Value.int .i64 1, Value.bool n, Value.slice a xs.length c, Value.bool m, Value.slice b ys.length d, Value.string nm, Value.int .i64 p, Value.int .i64 q, Value.slice x k ck] 37)).cell? ⟨w.heap.size, 1, none⟩ = some (Value.bool n) := (Lib.cell_of_heap Xa.out 1).trans rfl
    have fa1 : (w.alloc (Obj.cells #[Value.int .i64 1, Value.bool n, Value.slice a xs.length c, Value.bool m, Value.slice b ys.length d, Value.string nm, Value.int .i64 p, Value.int .i64 q, Value.slice x k ck] 37)).frozen? ⟨w.heap.size, 1, none⟩ = false := Lib.frozen_of_heap Xa.out 1
    have ka2 : (w.alloc (Obj.cells #[Value.int .i64 1, Value.bool n, Value.slice a xs.length c, Value.bool m, Value.slice b ys.length d, Value.string nm, Value.int .i64 p, Value.int .i64 q, Value.slice x k ck] 37)).cell? ⟨w.heap.size, 2, none⟩ = some (Value.slice a xs.length c) := (Lib.cell_of_heap Xa.out 2).trans rfl
    have fa2 : (w.alloc (Obj.cells #[Value.int .i64 1, Value.bool n, Value.slice a xs.length c, Value.bool m, Value.slice b ys.length d, Value.string nm, Value.int .i64 p, Value.int .i64 q, Value.slice x k ck] 37)).frozen? ⟨w.heap.size, 2, none⟩ = false := Lib.frozen_of_heap Xa.out 2
    have ka3 : (w.alloc (Obj.cells #[Value.int .i64 1, Value.bool n, Value.slice a xs.length c, Value.bool m, Value.slice b ys.length d, Value.string nm, Value.int .i64 p, Value.int .i64 q, Value.slice x k ck] 37)).cell? ⟨w.heap.size, 3, none⟩ = some (Value.bool m) := (Lib.cell_of_heap Xa.out 3).trans rfl
    have fa3 : (w.alloc (Obj.cells #[Value.int .i64 1, Value.bool n, Value.slice a xs.length c, Value.bool m, Value.slice b ys.length d, Value.string nm, Value.int .i64 p, Value.int .i64 q, Value.slice x k ck] 37)).frozen? ⟨w.heap.size, 3, none⟩ = false := Lib.frozen_of_heap Xa.out 3
    have ka4 : (w.alloc (Obj.cells #[Value.int .i64 1, Value.bool n, Value.slice a xs.length c, Value.bool m, Value.slice b ys.length d, Value.string nm, Value.int .i64 p, Value.int .i64 q, Value.slice x k ck] 37)).cell? ⟨w.heap.size, 4, none⟩ = some (Value.slice b ys.length d) := (Lib.cell_of_heap Xa.out 4).trans rfl
    have fa4 : (w.alloc (Obj.cells #[Value.int .i64 1, Value.bool n, Value.slice a xs.length c, Value.bool m, Value.slice b ys.length d, Value.string nm, Value.int .i64 p, Value.int .i64 q, Value.slice x k ck] 37)).frozen? ⟨w.heap.size, 4, none⟩ = false := Lib.frozen_of_heap Xa.out 4
    have ka5 : (w.alloc (Obj.cells #[Value.int .i64 1, Value.bool n, Value.slice a xs.length c, Value.bool m, Value.slice b ys.length d, Value.string nm, Value.int .i64 p, Value.int .i64 q, Value.slice x k ck] 37)).cell? ⟨w.heap.size, 5, none⟩ = some (Value.string nm) := (Lib.cell_of_heap Xa.out 5).trans rfl
    have fa5 : (w.alloc (Obj.cells #[Value.int .i64 1, Value.bool n, Value.slice a xs.length c, Value.bool m, Value.slice b ys.length d, Value.string nm, Value.int .i64 p, Value.int .i64 q, Value.slice x k ck] 37)).frozen? ⟨w.heap.size, 5, none⟩ = false := Lib.frozen_of_heap Xa.out 5
    have ka6 : (w.alloc (Obj.cells #[Value.int .i64 1, Value.bool n, Value.slice a xs.length c, Value.bool m, Value.slice b ys.length d, Value.string nm, Value.int .i64 p, Value.int .i64 q, Value.slice x k ck] 37)).cell? ⟨w.heap.size, 6, none⟩ = some (Value.int .i64 p) := (Lib.cell_of_heap Xa.out 6).trans rfl
    have fa6 : (w.alloc (Obj.cells #[Value.int .i64 1, Value.bool n, Value.slice a xs.length c, Value.bool m, Value.slice b ys.length d, Value.string nm, Value.int .i64 p, Value.int .i64 q, Value.slice x k ck] 37)).frozen? ⟨w.heap.size, 6, none⟩ = false := Lib.frozen_of_heap Xa.out 6
    have ka7 : (w.alloc (Obj.cells #[Value.int .i64 1, Value.bool n, Value.slice a xs.length c, Value.bool m, Value.slice b ys.length d, Value.string nm, Value.int .i64 p, Value.int .i64 q, Value.slice x k ck] 37)).cell? ⟨w.heap.size, 7, none⟩ = some (Value.int .i64 q) := (Lib.cell_of_heap Xa.out 7).trans rfl
    have fa7 : (w.alloc (Obj.cells #[Value.int .i64 1, Value.bool n, Value.slice a xs.length c, Value.bool m, Value.slice b ys.length d, Value.string nm, Value.int .i64 p, Value.int .i64 q, Value.slice x k ck] 37)).frozen? ⟨w.heap.size, 7, none⟩ = false := Lib.frozen_of_heap Xa.out 7
    have ka8 : (w.alloc (Obj.cells #[Value.int .i64 1, Value.bool n, Value.slice a xs.length c, Value.bool m, Value.slice b ys.length d, Value.string nm, Value.int .i64 p, Value.int .i64 q, Value.slice x k ck] 37)).cell? ⟨w.heap.size, 8, none⟩ = some (Value.slice x k ck) := (Lib.cell_of_heap Xa.out 8).trans rfl
    have fa8 : (w.alloc (Obj.cells #[Value.int .i64 1, Value.bool n, Value.slice a xs.length c, Value.bool m, Value.slice b ys.length d, Value.string nm, Value.int .i64 p, Value.int .i64 q, Value.slice x k ck] 37)).frozen? ⟨w.heap.size, 8, none⟩ = false := Lib.frozen_of_heap Xa.out 8
    have za : w.heap.size < (w.alloc (Obj.cells #[Value.int .i64 1, Value.bool n, Value.slice a xs.length c, Value.bool m, Value.slice b ys.length d, Value.string nm, Value.int .i64 p, Value.int .i64 q, Value.slice x k ck] 37)).heap.size := hlt Xa.out
    go_enter Tryz.func23, Tryz.ntmps23
    go_wp2_with fail
    generalize (w.alloc (Obj.cells #[Value.int .i64 1, Value.bool n, Value.slice a xs.length c, Value.bool m, Value.slice b ys.length d, Value.string nm, Value.int .i64 p, Value.int .i64 q, Value.slice x k ck] 37)) = w1 at *
    refine (noneS n xs m ys a c b d _ (S1.out.below HB.out) (S2.out.below HB.out)).mono ?_
    rintro e w2 ⟨rfl, hb⟩
    have yw2 := hb.size
    clear ka0 fa0 ka1 fa1 ka2 fa2 ka3 fa3 ka4 fa4 ka5 fa5 ka6 fa6 ka7 fa7 ka8 fa8 za
    replace Xa := hide (hbel Xa.out hb (by first | assumption | omega))
    replace HB := hide (bl_trans HB.out hb)
    clear hb
    have ka0 : w2.cell? ⟨w.heap.size, 0, none⟩ = some (Value.int .i64 1) := (Lib.cell_of_heap Xa.out 0).trans rfl
    have fa0 : w2.frozen? ⟨w.heap.size, 0, none⟩ = false := Lib.frozen_of_heap Xa.out 0
    have ka1 : w2.cell? ⟨w.heap.size, 1, none⟩ = some (Value.bool n) := (Lib.cell_of_heap Xa.out 1).trans rfl
    have fa1 : w2.frozen? ⟨w.heap.size, 1, none⟩ = false := Lib.frozen_of_heap Xa.out 1
    have ka2 : w2.cell? ⟨w.heap.size, 2, none⟩ = some (Value.slice a xs.length c) := (Lib.cell_of_heap Xa.out 2).trans rfl
    have fa2 : w2.frozen? ⟨w.heap.size, 2, none⟩ = false := Lib.frozen_of_heap Xa.out 2
    have ka3 : w2.cell? ⟨w.heap.size, 3, none⟩ = some (Value.bool m) := (Lib.cell_of_heap Xa.out 3).trans rfl
    have fa3 : w2.frozen? ⟨w.heap.size, 3, none⟩ = false := Lib.frozen_of_heap Xa.out 3
    have ka4 : w2.cell? ⟨w.heap.size, 4, none⟩ = some (Value.slice b ys.length d) := (Lib.cell_of_heap Xa.out 4).trans rfl
    have fa4 : w2.frozen? ⟨w.heap.size, 4, none⟩ = false := Lib.frozen_of_heap Xa.out 4
    have ka5 : w2.cell? ⟨w.heap.size, 5, none⟩ = some (Value.string nm) := (Lib.cell_of_heap Xa.out 5).trans rfl
    have fa5 : w2.frozen? ⟨w.heap.size, 5, none⟩ = false := Lib.frozen_of_heap Xa.out 5
    have ka6 : w2.cell? ⟨w.heap.size, 6, none⟩ = some (Value.int .i64 p) := (Lib.cell_of_heap Xa.out 6).trans rfl
    have fa6 : w2.frozen? ⟨w.heap.size, 6, none⟩ = false := Lib.frozen_of_heap Xa.out 6
    have ka7 : w2.cell? ⟨w.heap.size, 7, none⟩ = some (Value.int .i64 q) := (Lib.cell_of_heap Xa.out 7).trans rfl
    have fa7 : w2.frozen? ⟨w.heap.size, 7, none⟩ = false := Lib.frozen_of_heap Xa.out 7
    have ka8 : w2.cell? ⟨w.heap.size, 8, none⟩ = some (Value.slice x k ck) := (Lib.cell_of_heap Xa.out 8).trans rfl
    have fa8 : w2.frozen? ⟨w.heap.size, 8, none⟩ = false := Lib.frozen_of_heap Xa.out 8
    have za : w.heap.size < w2.heap.size := hlt Xa.out
    cases hb : blankB n xs m ys with
    | false =>
      have Hb := hide hb
      clear hb
      go_wp2
      go_ret
      exact ⟨ret_bool (by rw [HO.out, Hb.out]; first | rfl | simp), HB.out⟩
    | true =>
      have Hb := hide hb
      clear hb
      go_wp2_with fail
      refine (Nm.nameS nm _ hnm).mono ?_
      rintro e w3x ⟨rfl, qd, hw⟩
      have hbd : Below w2.heap.size w2 w3x := by rw [hw]; exact below_drewN (bl_refl w2) qd
      clear hw
      generalize w3x = w3 at *
      have yw3 := hbd.size
      clear ka0 fa0 ka1 fa1 ka2 fa2 ka3 fa3 ka4 fa4 ka5 fa5 ka6 fa6 ka7 fa7 ka8 fa8 za
      replace Xa := hide (hbel Xa.out hbd (by first | assumption | omega))
      replace HB := hide (bl_trans HB.out hbd)
      clear hbd
      have ka0 : w3.cell? ⟨w.heap.size, 0, none⟩ = some (Value.int .i64 1) := (Lib.cell_of_heap Xa.out 0).trans rfl
      have fa0 : w3.frozen? ⟨w.heap.size, 0, none⟩ = false := Lib.frozen_of_heap Xa.out 0
      have ka1 : w3.cell? ⟨w.heap.size, 1, none⟩ = some (Value.bool n) := (Lib.cell_of_heap Xa.out 1).trans rfl
      have fa1 : w3.frozen? ⟨w.heap.size, 1, none⟩ = false := Lib.frozen_of_heap Xa.out 1
      have ka2 : w3.cell? ⟨w.heap.size, 2, none⟩ = some (Value.slice a xs.length c) := (Lib.cell_of_heap Xa.out 2).trans rfl
      have fa2 : w3.frozen? ⟨w.heap.size, 2, none⟩ = false := Lib.frozen_of_heap Xa.out 2
      have ka3 : w3.cell? ⟨w.heap.size, 3, none⟩ = some (Value.bool m) := (Lib.cell_of_heap Xa.out 3).trans rfl
      have fa3 : w3.frozen? ⟨w.heap.size, 3, none⟩ = false := Lib.frozen_of_heap Xa.out 3
      have ka4 : w3.cell? ⟨w.heap.size, 4, none⟩ = some (Value.slice b ys.length d) := (Lib.cell_of_heap Xa.out 4).trans rfl
      have fa4 : w3.frozen? ⟨w.heap.size, 4, none⟩ = false := Lib.frozen_of_heap Xa.out 4
      have ka5 : w3.cell? ⟨w.heap.size, 5, none⟩ = some (Value.string nm) := (Lib.cell_of_heap Xa.out 5).trans rfl
      have fa5 : w3.frozen? ⟨w.heap.size, 5, none⟩ = false := Lib.frozen_of_heap Xa.out 5
      have ka6 : w3.cell? ⟨w.heap.size, 6, none⟩ = some (Value.int .i64 p) := (Lib.cell_of_heap Xa.out 6).trans rfl
      have fa6 : w3.frozen? ⟨w.heap.size, 6, none⟩ = false := Lib.frozen_of_heap Xa.out 6
      have ka7 : w3.cell? ⟨w.heap.size, 7, none⟩ = some (Value.int .i64 q) := (Lib.cell_of_heap Xa.out 7).trans rfl
      have fa7 : w3.frozen? ⟨w.heap.size, 7, none⟩ = false := Lib.frozen_of_heap Xa.out 7
      have ka8 : w3.cell? ⟨w.heap.size, 8, none⟩ = some (Value.slice x k ck) := (Lib.cell_of_heap Xa.out 8).trans rfl
      have fa8 : w3.frozen? ⟨w.heap.size, 8, none⟩ = false := Lib.frozen_of_heap Xa.out 8
      have za : w.heap.size < w3.heap.size := hlt Xa.out
      cases hn : Nm.nameOkB nm with
      | false =>
        have Hn := hide hn
        clear hn
        go_wp2
        go_ret
        exact ⟨ret_bool (by rw [HO.out, Hb.out, Hn.out]; first | rfl | simp), HB.out⟩
      | true =>
        have Hn := hide hn
        clear hn
        go_wp2
        go_ret
        exact ⟨ret_bool (by rw [HO.out, Hb.out, Hn.out, HFF.out]; first | rfl | simp), HB.out⟩
  · have hp2 : (p == 0) = false := by rw [beq_eq_false_iff_ne]; exact hp
    have hq2 : (q == 0) = true := by rw [beq_iff_eq]; exact hq
    have HFF : Hid (F = false) := hide (by rw [← HF.out, decide_eq_false hp, decide_eq_true hq]; rfl)
    clear hp hq
    have Xa : Hid ((w.alloc (Obj.cells #[Value.int .i64 1, Value.bool n, Value.slice a xs.length c, Value.bool m, Value.slice b ys.length d, Value.string nm, Value.int .i64 p, Value.int .i64 q, Value.slice x k ck] 37)).heap[w.heap.size]? = some (.cells #[Value.int .i64 1, Value.bool n, Value.slice a xs.length c, Value.bool m, Value.slice b ys.length d, Value.string nm, Value.int .i64 p, Value.int .i64 q, Value.slice x k ck] 37 (0, 0))) := hide (by simpa only [World.size_alloc] using (hnew w (Obj.cells #[Value.int .i64 1, Value.bool n, Value.slice a xs.length c, Value.bool m, Value.slice b ys.length d, Value.string nm, Value.int .i64 p, Value.int .i64 q, Value.slice x k ck] 37)))
    have HB : Hid (Below w.heap.size w (w.alloc (Obj.cells #[Value.int .i64 1, Value.bool n, Value.slice a xs.length c, Value.bool m, Value.slice b ys.length d, Value.string nm, Value.int .i64 p, Value.int .i64 q, Value.slice x k ck] 37))) := hide (bl_alloc (bl_refl w) (Obj.cells #[Value.int .i64 1, Value.bool n, Value.slice a xs.length c, Value.bool m, Value.slice b ys.length d, Value.string nm, Value.int .i64 p, Value.int .i64 q, Value.slice x k ck] 37))
    have yw1 : w.heap.size + 1 ≤ (w.alloc (Obj.cells #[Value.int .i64 1, Value.bool n, Value.slice a xs.length c, Value.bool m, Value.slice b ys.length d, Value.string nm, Value.int .i64 p, Value.int .i64 q, Value.slice x k ck] 37)).heap.size := by simp only [World.size_alloc]; omega
    have ka0 : (w.alloc (Obj.cells #[Value.int .i64 1, Value.bool n, Value.slice a xs.length c, Value.bool m, Value.slice b ys.length d, Value.string nm, Value.int .i64 p, Value.int .i64 q, Value.slice x k ck] 37)).cell? ⟨w.heap.size, 0, none⟩ = some (Value.int .i64 1) := (Lib.cell_of_heap Xa.out 0).trans rfl
    have fa0 : (w.alloc (Obj.cells #[Value.int .i64 1, Value.bool n, Value.slice a xs.length c, Value.bool m, Value.slice b ys.length d, Value.string nm, Value.int .i64 p, Value.int .i64 q, Value.slice x k ck] 37)).frozen? ⟨w.heap.size, 0, none⟩ = false := Lib.frozen_of_heap Xa.out 0
    have ka1 : (w.alloc (Obj.cells #[Value.int .i64 1, Value.bool n, Value.slice a xs.length c, Value.bool m, Value.slice b ys.length d, Value.string nm, Value.int .i64 p, Value.int .i64 q, Value.slice x k ck] 37)).cell? ⟨w.heap.size, 1, none⟩ = some (Value.bool n) := (Lib.cell_of_heap Xa.out 1).trans rfl
    have fa1 : (w.alloc (Obj.cells #[Value.int .i64 1, Value.bool n, Value.slice a xs.length c, Value.bool m, Value.slice b ys.length d, Value.string nm, Value.int .i64 p, Value.int .i64 q, Value.slice x k ck] 37)).frozen? ⟨w.heap.size, 1, none⟩ = false := Lib.frozen_of_heap Xa.out 1
    have ka2 : (w.alloc (Obj.cells #[Value.int .i64 1, Value.bool n, Value.slice a xs.length c, Value.bool m, Value.slice b ys.length d, Value.string nm, Value.int .i64 p, Value.int .i64 q, Value.slice x k ck] 37)).cell? ⟨w.heap.size, 2, none⟩ = some (Value.slice a xs.length c) := (Lib.cell_of_heap Xa.out 2).trans rfl
    have fa2 : (w.alloc (Obj.cells #[Value.int .i64 1, Value.bool n, Value.slice a xs.length c, Value.bool m, Value.slice b ys.length d, Value.string nm, Value.int .i64 p, Value.int .i64 q, Value.slice x k ck] 37)).frozen? ⟨w.heap.size, 2, none⟩ = false := Lib.frozen_of_heap Xa.out 2
    have ka3 : (w.alloc (Obj.cells #[Value.int .i64 1, Value.bool n, Value.slice a xs.length c, Value.bool m, Value.slice b ys.length d, Value.string nm, Value.int .i64 p, Value.int .i64 q, Value.slice x k ck] 37)).cell? ⟨w.heap.size, 3, none⟩ = some (Value.bool m) := (Lib.cell_of_heap Xa.out 3).trans rfl
    have fa3 : (w.alloc (Obj.cells #[Value.int .i64 1, Value.bool n, Value.slice a xs.length c, Value.bool m, Value.slice b ys.length d, Value.string nm, Value.int .i64 p, Value.int .i64 q, Value.slice x k ck] 37)).frozen? ⟨w.heap.size, 3, none⟩ = false := Lib.frozen_of_heap Xa.out 3
    have ka4 : (w.alloc (Obj.cells #[Value.int .i64 1, Value.bool n, Value.slice a xs.length c, Value.bool m, Value.slice b ys.length d, Value.string nm, Value.int .i64 p, Value.int .i64 q, Value.slice x k ck] 37)).cell? ⟨w.heap.size, 4, none⟩ = some (Value.slice b ys.length d) := (Lib.cell_of_heap Xa.out 4).trans rfl
    have fa4 : (w.alloc (Obj.cells #[Value.int .i64 1, Value.bool n, Value.slice a xs.length c, Value.bool m, Value.slice b ys.length d, Value.string nm, Value.int .i64 p, Value.int .i64 q, Value.slice x k ck] 37)).frozen? ⟨w.heap.size, 4, none⟩ = false := Lib.frozen_of_heap Xa.out 4
    have ka5 : (w.alloc (Obj.cells #[Value.int .i64 1, Value.bool n, Value.slice a xs.length c, Value.bool m, Value.slice b ys.length d, Value.string nm, Value.int .i64 p, Value.int .i64 q, Value.slice x k ck] 37)).cell? ⟨w.heap.size, 5, none⟩ = some (Value.string nm) := (Lib.cell_of_heap Xa.out 5).trans rfl
    have fa5 : (w.alloc (Obj.cells #[Value.int .i64 1, Value.bool n, Value.slice a xs.length c, Value.bool m, Value.slice b ys.length d, Value.string nm, Value.int .i64 p, Value.int .i64 q, Value.slice x k ck] 37)).frozen? ⟨w.heap.size, 5, none⟩ = false := Lib.frozen_of_heap Xa.out 5
    have ka6 : (w.alloc (Obj.cells #[Value.int .i64 1, Value.bool n, Value.slice a xs.length c, Value.bool m, Value.slice b ys.length d, Value.string nm, Value.int .i64 p, Value.int .i64 q, Value.slice x k ck] 37)).cell? ⟨w.heap.size, 6, none⟩ = some (Value.int .i64 p) := (Lib.cell_of_heap Xa.out 6).trans rfl
    have fa6 : (w.alloc (Obj.cells #[Value.int .i64 1, Value.bool n, Value.slice a xs.length c, Value.bool m, Value.slice b ys.length d, Value.string nm, Value.int .i64 p, Value.int .i64 q, Value.slice x k ck] 37)).frozen? ⟨w.heap.size, 6, none⟩ = false := Lib.frozen_of_heap Xa.out 6
    have ka7 : (w.alloc (Obj.cells #[Value.int .i64 1, Value.bool n, Value.slice a xs.length c, Value.bool m, Value.slice b ys.length d, Value.string nm, Value.int .i64 p, Value.int .i64 q, Value.slice x k ck] 37)).cell? ⟨w.heap.size, 7, none⟩ = some (Value.int .i64 q) := (Lib.cell_of_heap Xa.out 7).trans rfl
    have fa7 : (w.alloc (Obj.cells #[Value.int .i64 1, Value.bool n, Value.slice a xs.length c, Value.bool m, Value.slice b ys.length d, Value.string nm, Value.int .i64 p, Value.int .i64 q, Value.slice x k ck] 37)).frozen? ⟨w.heap.size, 7, none⟩ = false := Lib.frozen_of_heap Xa.out 7
    have ka8 : (w.alloc (Obj.cells #[Value.int .i64 1, Value.bool n, Value.slice a xs.length c, Value.bool m, Value.slice b ys.length d, Value.string nm, Value.int .i64 p, Value.int .i64 q, Value.slice x k ck] 37)).cell? ⟨w.heap.size, 8, none⟩ = some (Value.slice x k ck) := (Lib.cell_of_heap Xa.out 8).trans rfl
    have fa8 : (w.alloc (Obj.cells #[Value.int .i64 1, Value.bool n, Value.slice a xs.length c, Value.bool m, Value.slice b ys.length d, Value.string nm, Value.int .i64 p, Value.int .i64 q, Value.slice x k ck] 37)).frozen? ⟨w.heap.size, 8, none⟩ = false := Lib.frozen_of_heap Xa.out 8
    have za : w.heap.size < (w.alloc (Obj.cells #[Value.int .i64 1, Value.bool n, Value.slice a xs.length c, Value.bool m, Value.slice b ys.length d, Value.string nm, Value.int .i64 p, Value.int .i64 q, Value.slice x k ck] 37)).heap.size := hlt Xa.out
    go_enter Tryz.func23, Tryz.ntmps23
    go_wp2_with fail
    generalize (w.alloc (Obj.cells #[Value.int .i64 1, Value.bool n, Value.slice a xs.length c, Value.bool m, Value.slice b ys.length d, Value.string nm, Value.int .i64 p, Value.int .i64 q, Value.slice x k ck] 37)) = w1 at *
    refine (noneS n xs m ys a c b d _ (S1.out.below HB.out) (S2.out.below HB.out)).mono ?_
    rintro e w2 ⟨rfl, hb⟩
    have yw2 := hb.size
    clear ka0 fa0 ka1 fa1 ka2 fa2 ka3 fa3 ka4 fa4 ka5 fa5 ka6 fa6 ka7 fa7 ka8 fa8 za
    replace Xa := hide (hbel Xa.out hb (by first | assumption | omega))
    replace HB := hide (bl_trans HB.out hb)
    clear hb
    have ka0 : w2.cell? ⟨w.heap.size, 0, none⟩ = some (Value.int .i64 1) := (Lib.cell_of_heap Xa.out 0).trans rfl
    have fa0 : w2.frozen? ⟨w.heap.size, 0, none⟩ = false := Lib.frozen_of_heap Xa.out 0
    have ka1 : w2.cell? ⟨w.heap.size, 1, none⟩ = some (Value.bool n) := (Lib.cell_of_heap Xa.out 1).trans rfl
    have fa1 : w2.frozen? ⟨w.heap.size, 1, none⟩ = false := Lib.frozen_of_heap Xa.out 1
    have ka2 : w2.cell? ⟨w.heap.size, 2, none⟩ = some (Value.slice a xs.length c) := (Lib.cell_of_heap Xa.out 2).trans rfl
    have fa2 : w2.frozen? ⟨w.heap.size, 2, none⟩ = false := Lib.frozen_of_heap Xa.out 2
    have ka3 : w2.cell? ⟨w.heap.size, 3, none⟩ = some (Value.bool m) := (Lib.cell_of_heap Xa.out 3).trans rfl
    have fa3 : w2.frozen? ⟨w.heap.size, 3, none⟩ = false := Lib.frozen_of_heap Xa.out 3
    have ka4 : w2.cell? ⟨w.heap.size, 4, none⟩ = some (Value.slice b ys.length d) := (Lib.cell_of_heap Xa.out 4).trans rfl
    have fa4 : w2.frozen? ⟨w.heap.size, 4, none⟩ = false := Lib.frozen_of_heap Xa.out 4
    have ka5 : w2.cell? ⟨w.heap.size, 5, none⟩ = some (Value.string nm) := (Lib.cell_of_heap Xa.out 5).trans rfl
    have fa5 : w2.frozen? ⟨w.heap.size, 5, none⟩ = false := Lib.frozen_of_heap Xa.out 5
    have ka6 : w2.cell? ⟨w.heap.size, 6, none⟩ = some (Value.int .i64 p) := (Lib.cell_of_heap Xa.out 6).trans rfl
    have fa6 : w2.frozen? ⟨w.heap.size, 6, none⟩ = false := Lib.frozen_of_heap Xa.out 6
    have ka7 : w2.cell? ⟨w.heap.size, 7, none⟩ = some (Value.int .i64 q) := (Lib.cell_of_heap Xa.out 7).trans rfl
    have fa7 : w2.frozen? ⟨w.heap.size, 7, none⟩ = false := Lib.frozen_of_heap Xa.out 7
    have ka8 : w2.cell? ⟨w.heap.size, 8, none⟩ = some (Value.slice x k ck) := (Lib.cell_of_heap Xa.out 8).trans rfl
    have fa8 : w2.frozen? ⟨w.heap.size, 8, none⟩ = false := Lib.frozen_of_heap Xa.out 8
    have za : w.heap.size < w2.heap.size := hlt Xa.out
    cases hb : blankB n xs m ys with
    | false =>
      have Hb := hide hb
      clear hb
      go_wp2
      go_ret
      exact ⟨ret_bool (by rw [HO.out, Hb.out]; first | rfl | simp), HB.out⟩
    | true =>
      have Hb := hide hb
      clear hb
      go_wp2_with fail
      refine (Nm.nameS nm _ hnm).mono ?_
      rintro e w3x ⟨rfl, qd, hw⟩
      have hbd : Below w2.heap.size w2 w3x := by rw [hw]; exact below_drewN (bl_refl w2) qd
      clear hw
      generalize w3x = w3 at *
      have yw3 := hbd.size
      clear ka0 fa0 ka1 fa1 ka2 fa2 ka3 fa3 ka4 fa4 ka5 fa5 ka6 fa6 ka7 fa7 ka8 fa8 za
      replace Xa := hide (hbel Xa.out hbd (by first | assumption | omega))
      replace HB := hide (bl_trans HB.out hbd)
      clear hbd
      have ka0 : w3.cell? ⟨w.heap.size, 0, none⟩ = some (Value.int .i64 1) := (Lib.cell_of_heap Xa.out 0).trans rfl
      have fa0 : w3.frozen? ⟨w.heap.size, 0, none⟩ = false := Lib.frozen_of_heap Xa.out 0
      have ka1 : w3.cell? ⟨w.heap.size, 1, none⟩ = some (Value.bool n) := (Lib.cell_of_heap Xa.out 1).trans rfl
      have fa1 : w3.frozen? ⟨w.heap.size, 1, none⟩ = false := Lib.frozen_of_heap Xa.out 1
      have ka2 : w3.cell? ⟨w.heap.size, 2, none⟩ = some (Value.slice a xs.length c) := (Lib.cell_of_heap Xa.out 2).trans rfl
      have fa2 : w3.frozen? ⟨w.heap.size, 2, none⟩ = false := Lib.frozen_of_heap Xa.out 2
      have ka3 : w3.cell? ⟨w.heap.size, 3, none⟩ = some (Value.bool m) := (Lib.cell_of_heap Xa.out 3).trans rfl
      have fa3 : w3.frozen? ⟨w.heap.size, 3, none⟩ = false := Lib.frozen_of_heap Xa.out 3
      have ka4 : w3.cell? ⟨w.heap.size, 4, none⟩ = some (Value.slice b ys.length d) := (Lib.cell_of_heap Xa.out 4).trans rfl
      have fa4 : w3.frozen? ⟨w.heap.size, 4, none⟩ = false := Lib.frozen_of_heap Xa.out 4
      have ka5 : w3.cell? ⟨w.heap.size, 5, none⟩ = some (Value.string nm) := (Lib.cell_of_heap Xa.out 5).trans rfl
      have fa5 : w3.frozen? ⟨w.heap.size, 5, none⟩ = false := Lib.frozen_of_heap Xa.out 5
      have ka6 : w3.cell? ⟨w.heap.size, 6, none⟩ = some (Value.int .i64 p) := (Lib.cell_of_heap Xa.out 6).trans rfl
      have fa6 : w3.frozen? ⟨w.heap.size, 6, none⟩ = false := Lib.frozen_of_heap Xa.out 6
      have ka7 : w3.cell? ⟨w.heap.size, 7, none⟩ = some (Value.int .i64 q) := (Lib.cell_of_heap Xa.out 7).trans rfl
      have fa7 : w3.frozen? ⟨w.heap.size, 7, none⟩ = false := Lib.frozen_of_heap Xa.out 7
      have ka8 : w3.cell? ⟨w.heap.size, 8, none⟩ = some (Value.slice x k ck) := (Lib.cell_of_heap Xa.out 8).trans rfl
      have fa8 : w3.frozen? ⟨w.heap.size, 8, none⟩ = false := Lib.frozen_of_heap Xa.out 8
      have za : w.heap.size < w3.heap.size := hlt Xa.out
      cases hn : Nm.nameOkB nm with
      | false =>
        have Hn := hide hn
        clear hn
        go_wp2
        go_ret
        exact ⟨ret_bool (by rw [HO.out, Hb.out, Hn.out]; first | rfl | simp), HB.out⟩
      | true =>
        have Hn := hide hn
        clear hn
        go_wp2
        go_ret
        exact ⟨ret_bool (by rw [HO.out, Hb.out, Hn.out, HFF.out]; first | rfl | simp), HB.out⟩
  · have hp2 : (p == 0) = false := by rw [beq_eq_false_iff_ne]; exact hp
    have hq2 : (q == 0) = false := by rw [beq_eq_false_iff_ne]; exact hq
    have HFF : Hid (F = false) := hide (by rw [← HF.out, decide_eq_false hp, decide_eq_false hq]; rfl)
    clear hp hq
    have Xa : Hid ((w.alloc (Obj.cells #[Value.int .i64 1, Value.bool n, Value.slice a xs.length c, Value.bool m, Value.slice b ys.length d, Value.string nm, Value.int .i64 p, Value.int .i64 q, Value.slice x k ck] 37)).heap[w.heap.size]? = some (.cells #[Value.int .i64 1, Value.bool n, Value.slice a xs.length c, Value.bool m, Value.slice b ys.length d, Value.string nm, Value.int .i64 p, Value.int .i64 q, Value.slice x k ck] 37 (0, 0))) := hide (by simpa only [World.size_alloc] using (hnew w (Obj.cells #[Value.int .i64 1, Value.bool n, Value.slice a xs.length c, Value.bool m, Value.slice b ys.length d, Value.string nm, Value.int .i64 p, Value.int .i64 q, Value.slice x k ck] 37)))
    have HB : Hid (Below w.heap.size w (w.alloc (Obj.cells #[Value.int .i64 1, Value.bool n, Value.slice a xs.length c, Value.bool m, Value.slice b ys.length d, Value.string nm, Value.int .i64 p, Value.int .i64 q, Value.slice x k ck] 37))) := hide (bl_alloc (bl_refl w) (Obj.cells #[Value.int .i64 1, Value.bool n, Value.slice a xs.length c, Value.bool m, Value.slice b ys.length d, Value.string nm, Value.int .i64 p, Value.int .i64 q, Value.slice x k ck] 37))
    have yw1 : w.heap.size + 1 ≤ (w.alloc (Obj.cells #[Value.int .i64 1, Value.bool n, Value.slice a xs.length c, Value.bool m, Value.slice b ys.length d, Value.string nm, Value.int .i64 p, Value.int .i64 q, Value.slice x k ck] 37)).heap.size := by simp only [World.size_alloc]; omega
    have ka0 : (w.alloc (Obj.cells #[Value.int .i64 1, Value.bool n, Value.slice a xs.length c, Value.bool m, Value.slice b ys.length d, Value.string nm, Value.int .i64 p, Value.int .i64 q, Value.slice x k ck] 37)).cell? ⟨w.heap.size, 0, none⟩ = some (Value.int .i64 1) := (Lib.cell_of_heap Xa.out 0).trans rfl
    have fa0 : (w.alloc (Obj.cells #[Value.int .i64 1, Value.bool n, Value.slice a xs.length c, Value.bool m, Value.slice b ys.length d, Value.string nm, Value.int .i64 p, Value.int .i64 q, Value.slice x k ck] 37)).frozen? ⟨w.heap.size, 0, none⟩ = false := Lib.frozen_of_heap Xa.out 0
    have ka1 : (w.alloc (Obj.cells #[Value.int .i64 1, Value.bool n, Value.slice a xs.length c, Value.bool m, Value.slice b ys.length d, Value.string nm, Value.int .i64 p, Value.int .i64 q, Value.slice x k ck] 37)).cell? ⟨w.heap.size, 1, none⟩ = some (Value.bool n) := (Lib.cell_of_heap Xa.out 1).trans rfl
    have fa1 : (w.alloc (Obj.cells #[Value.int .i64 1, Value.bool n, Value.slice a xs.length c, Value.bool m, Value.slice b ys.length d, Value.string nm, Value.int .i64 p, Value.int .i64 q, Value.slice x k ck] 37)).frozen? ⟨w.heap.size, 1, none⟩ = false := Lib.frozen_of_heap Xa.out 1
    have ka2 : (w.alloc (Obj.cells #[Value.int .i64 1, Value.bool n, Value.slice a xs.length c, Value.bool m, Value.slice b ys.length d, Value.string nm, Value.int .i64 p, Value.int .i64 q, Value.slice x k ck] 37)).cell? ⟨w.heap.size, 2, none⟩ = some (Value.slice a xs.length c) := (Lib.cell_of_heap Xa.out 2).trans rfl
    have fa2 : (w.alloc (Obj.cells #[Value.int .i64 1, Value.bool n, Value.slice a xs.length c, Value.bool m, Value.slice b ys.length d, Value.string nm, Value.int .i64 p, Value.int .i64 q, Value.slice x k ck] 37)).frozen? ⟨w.heap.size, 2, none⟩ = false := Lib.frozen_of_heap Xa.out 2
    have ka3 : (w.alloc (Obj.cells #[Value.int .i64 1, Value.bool n, Value.slice a xs.length c, Value.bool m, Value.slice b ys.length d, Value.string nm, Value.int .i64 p, Value.int .i64 q, Value.slice x k ck] 37)).cell? ⟨w.heap.size, 3, none⟩ = some (Value.bool m) := (Lib.cell_of_heap Xa.out 3).trans rfl
    have fa3 : (w.alloc (Obj.cells #[Value.int .i64 1, Value.bool n, Value.slice a xs.length c, Value.bool m, Value.slice b ys.length d, Value.string nm, Value.int .i64 p, Value.int .i64 q, Value.slice x k ck] 37)).frozen? ⟨w.heap.size, 3, none⟩ = false := Lib.frozen_of_heap Xa.out 3
    have ka4 : (w.alloc (Obj.cells #[Value.int .i64 1, Value.bool n, Value.slice a xs.length c, Value.bool m, Value.slice b ys.length d, Value.string nm, Value.int .i64 p, Value.int .i64 q, Value.slice x k ck] 37)).cell? ⟨w.heap.size, 4, none⟩ = some (Value.slice b ys.length d) := (Lib.cell_of_heap Xa.out 4).trans rfl
    have fa4 : (w.alloc (Obj.cells #[Value.int .i64 1, Value.bool n, Value.slice a xs.length c, Value.bool m, Value.slice b ys.length d, Value.string nm, Value.int .i64 p, Value.int .i64 q, Value.slice x k ck] 37)).frozen? ⟨w.heap.size, 4, none⟩ = false := Lib.frozen_of_heap Xa.out 4
    have ka5 : (w.alloc (Obj.cells #[Value.int .i64 1, Value.bool n, Value.slice a xs.length c, Value.bool m, Value.slice b ys.length d, Value.string nm, Value.int .i64 p, Value.int .i64 q, Value.slice x k ck] 37)).cell? ⟨w.heap.size, 5, none⟩ = some (Value.string nm) := (Lib.cell_of_heap Xa.out 5).trans rfl
    have fa5 : (w.alloc (Obj.cells #[Value.int .i64 1, Value.bool n, Value.slice a xs.length c, Value.bool m, Value.slice b ys.length d, Value.string nm, Value.int .i64 p, Value.int .i64 q, Value.slice x k ck] 37)).frozen? ⟨w.heap.size, 5, none⟩ = false := Lib.frozen_of_heap Xa.out 5
    have ka6 : (w.alloc (Obj.cells #[Value.int .i64 1, Value.bool n, Value.slice a xs.length c, Value.bool m, Value.slice b ys.length d, Value.string nm, Value.int .i64 p, Value.int .i64 q, Value.slice x k ck] 37)).cell? ⟨w.heap.size, 6, none⟩ = some (Value.int .i64 p) := (Lib.cell_of_heap Xa.out 6).trans rfl
    have fa6 : (w.alloc (Obj.cells #[Value.int .i64 1, Value.bool n, Value.slice a xs.length c, Value.bool m, Value.slice b ys.length d, Value.string nm, Value.int .i64 p, Value.int .i64 q, Value.slice x k ck] 37)).frozen? ⟨w.heap.size, 6, none⟩ = false := Lib.frozen_of_heap Xa.out 6
    have ka7 : (w.alloc (Obj.cells #[Value.int .i64 1, Value.bool n, Value.slice a xs.length c, Value.bool m, Value.slice b ys.length d, Value.string nm, Value.int .i64 p, Value.int .i64 q, Value.slice x k ck] 37)).cell? ⟨w.heap.size, 7, none⟩ = some (Value.int .i64 q) := (Lib.cell_of_heap Xa.out 7).trans rfl
    have fa7 : (w.alloc (Obj.cells #[Value.int .i64 1, Value.bool n, Value.slice a xs.length c, Value.bool m, Value.slice b ys.length d, Value.string nm, Value.int .i64 p, Value.int .i64 q, Value.slice x k ck] 37)).frozen? ⟨w.heap.size, 7, none⟩ = false := Lib.frozen_of_heap Xa.out 7
    have ka8 : (w.alloc (Obj.cells #[Value.int .i64 1, Value.bool n, Value.slice a xs.length c, Value.bool m, Value.slice b ys.length d, Value.string nm, Value.int .i64 p, Value.int .i64 q, Value.slice x k ck] 37)).cell? ⟨w.heap.size, 8, none⟩ = some (Value.slice x k ck) := (Lib.cell_of_heap Xa.out 8).trans rfl
    have fa8 : (w.alloc (Obj.cells #[Value.int .i64 1, Value.bool n, Value.slice a xs.length c, Value.bool m, Value.slice b ys.length d, Value.string nm, Value.int .i64 p, Value.int .i64 q, Value.slice x k ck] 37)).frozen? ⟨w.heap.size, 8, none⟩ = false := Lib.frozen_of_heap Xa.out 8
    have za : w.heap.size < (w.alloc (Obj.cells #[Value.int .i64 1, Value.bool n, Value.slice a xs.length c, Value.bool m, Value.slice b ys.length d, Value.string nm, Value.int .i64 p, Value.int .i64 q, Value.slice x k ck] 37)).heap.size := hlt Xa.out
    go_enter Tryz.func23, Tryz.ntmps23
    go_wp2_with fail
    generalize (w.alloc (Obj.cells #[Value.int .i64 1, Value.bool n, Value.slice a xs.length c, Value.bool m, Value.slice b ys.length d, Value.string nm, Value.int .i64 p, Value.int .i64 q, Value.slice x k ck] 37)) = w1 at *
    refine (noneS n xs m ys a c b d _ (S1.out.below HB.out) (S2.out.below HB.out)).mono ?_
    rintro e w2 ⟨rfl, hb⟩
    have yw2 := hb.size
    clear ka0 fa0 ka1 fa1 ka2 fa2 ka3 fa3 ka4 fa4 ka5 fa5 ka6 fa6 ka7 fa7 ka8 fa8 za
    replace Xa := hide (hbel Xa.out hb (by first | assumption | omega))
    replace HB := hide (bl_trans HB.out hb)
    clear hb
    have ka0 : w2.cell? ⟨w.heap.size, 0, none⟩ = some (Value.int .i64 1) := (Lib.cell_of_heap Xa.out 0).trans rfl
    have fa0 : w2.frozen? ⟨w.heap.size, 0, none⟩ = false := Lib.frozen_of_heap Xa.out 0
    have ka1 : w2.cell? ⟨w.heap.size, 1, none⟩ = some (Value.bool n) := (Lib.cell_of_heap Xa.out 1).trans rfl
    have fa1 : w2.frozen? ⟨w.heap.size, 1, none⟩ = false := Lib.frozen_of_heap Xa.out 1
    have ka2 : w2.cell? ⟨w.heap.size, 2, none⟩ = some (Value.slice a xs.length c) := (Lib.cell_of_heap Xa.out 2).trans rfl
    have fa2 : w2.frozen? ⟨w.heap.size, 2, none⟩ = false := Lib.frozen_of_heap Xa.out 2
    have ka3 : w2.cell? ⟨w.heap.size, 3, none⟩ = some (Value.bool m) := (Lib.cell_of_heap Xa.out 3).trans rfl
    have fa3 : w2.frozen? ⟨w.heap.size, 3, none⟩ = false := Lib.frozen_of_heap Xa.out 3
    have ka4 : w2.cell? ⟨w.heap.size, 4, none⟩ = some (Value.slice b ys.length d) := (Lib.cell_of_heap Xa.out 4).trans rfl
    have fa4 : w2.frozen? ⟨w.heap.size, 4, none⟩ = false := Lib.frozen_of_heap Xa.out 4
    have ka5 : w2.cell? ⟨w.heap.size, 5, none⟩ = some (Value.string nm) := (Lib.cell_of_heap Xa.out 5).trans rfl
    have fa5 : w2.frozen? ⟨w.heap.size, 5, none⟩ = false := Lib.frozen_of_heap Xa.out 5
    have ka6 : w2.cell? ⟨w.heap.size, 6, none⟩ = some (Value.int .i64 p) := (Lib.cell_of_heap Xa.out 6).trans rfl
    have fa6 : w2.frozen? ⟨w.heap.size, 6, none⟩ = false := Lib.frozen_of_heap Xa.out 6
    have ka7 : w2.cell? ⟨w.heap.size, 7, none⟩ = some (Value.int .i64 q) := (Lib.cell_of_heap Xa.out 7).trans rfl
    have fa7 : w2.frozen? ⟨w.heap.size, 7, none⟩ = false := Lib.frozen_of_heap Xa.out 7
    have ka8 : w2.cell? ⟨w.heap.size, 8, none⟩ = some (Value.slice x k ck) := (Lib.cell_of_heap Xa.out 8).trans rfl
    have fa8 : w2.frozen? ⟨w.heap.size, 8, none⟩ = false := Lib.frozen_of_heap Xa.out 8
    have za : w.heap.size < w2.heap.size := hlt Xa.out
    cases hb : blankB n xs m ys with
    | false =>
      have Hb := hide hb
      clear hb
      go_wp2
      go_ret
      exact ⟨ret_bool (by rw [HO.out, Hb.out]; first | rfl | simp), HB.out⟩
    | true =>
      have Hb := hide hb
      clear hb
      go_wp2_with fail
      refine (Nm.nameS nm _ hnm).mono ?_
      rintro e w3x ⟨rfl, qd, hw⟩
      have hbd : Below w2.heap.size w2 w3x := by rw [hw]; exact below_drewN (bl_refl w2) qd
      clear hw
      generalize w3x = w3 at *
      have yw3 := hbd.size
      clear ka0 fa0 ka1 fa1 ka2 fa2 ka3 fa3 ka4 fa4 ka5 fa5 ka6 fa6 ka7 fa7 ka8 fa8 za
      replace Xa := hide (hbel Xa.out hbd (by first | assumption | omega))
      replace HB := hide (bl_trans HB.out hbd)
      clear hbd
      have ka0 : w3.cell? ⟨w.heap.size, 0, none⟩ = some (Value.int .i64 1) := (Lib.cell_of_heap Xa.out 0).trans rfl
      have fa0 : w3.frozen? ⟨w.heap.size, 0, none⟩ = false := Lib.frozen_of_heap Xa.out 0
      have ka1 : w3.cell? ⟨w.heap.size, 1, none⟩ = some (Value.bool n) := (Lib.cell_of_heap Xa.out 1).trans rfl
      have fa1 : w3.frozen? ⟨w.heap.size, 1, none⟩ = false := Lib.frozen_of_heap Xa.out 1
      have ka2 : w3.cell? ⟨w.heap.size, 2, none⟩ = some (Value.slice a xs.length c) := (Lib.cell_of_heap Xa.out 2).trans rfl
      have fa2 : w3.frozen? ⟨w.heap.size, 2, none⟩ = false := Lib.frozen_of_heap Xa.out 2
      have ka3 : w3.cell? ⟨w.heap.size, 3, none⟩ = some (Value.bool m) := (Lib.cell_of_heap Xa.out 3).trans rfl
      have fa3 : w3.frozen? ⟨w.heap.size, 3, none⟩ = false := Lib.frozen_of_heap Xa.out 3
      have ka4 : w3.cell? ⟨w.heap.size, 4, none⟩ = some (Value.slice b ys.length d) := (Lib.cell_of_heap Xa.out 4).trans rfl
      have fa4 : w3.frozen? ⟨w.heap.size, 4, none⟩ = false := Lib.frozen_of_heap Xa.out 4
      have ka5 : w3.cell? ⟨w.heap.size, 5, none⟩ = some (Value.string nm) := (Lib.cell_of_heap Xa.out 5).trans rfl
      have fa5 : w3.frozen? ⟨w.heap.size, 5, none⟩ = false := Lib.frozen_of_heap Xa.out 5
      have ka6 : w3.cell? ⟨w.heap.size, 6, none⟩ = some (Value.int .i64 p) := (Lib.cell_of_heap Xa.out 6).trans rfl
      have fa6 : w3.frozen? ⟨w.heap.size, 6, none⟩ = false := Lib.frozen_of_heap Xa.out 6
      have ka7 : w3.cell? ⟨w.heap.size, 7, none⟩ = some (Value.int .i64 q) := (Lib.cell_of_heap Xa.out 7).trans rfl
      have fa7 : w3.frozen? ⟨w.heap.size, 7, none⟩ = false := Lib.frozen_of_heap Xa.out 7
      have ka8 : w3.cell? ⟨w.heap.size, 8, none⟩ = some (Value.slice x k ck) := (Lib.cell_of_heap Xa.out 8).trans rfl
      have fa8 : w3.frozen? ⟨w.heap.size, 8, none⟩ = false := Lib.frozen_of_heap Xa.out 8
      have za : w.heap.size < w3.heap.size := hlt Xa.out
      cases hn : Nm.nameOkB nm with
      | false =>
        have Hn := hide hn
        clear hn
        go_wp2
        go_ret
        exact ⟨ret_bool (by rw [HO.out, Hb.out, Hn.out]; first | rfl | simp), HB.out⟩
      | true =>
        have Hn := hide hn
        clear hn
        go_wp2
        go_ret
        exact ⟨ret_bool (by rw [HO.out, Hb.out, Hn.out, HFF.out]; first | rfl | simp), HB.out⟩

set_option maxHeartbeats 4000000 in
set_option maxRecDepth 20000 in
theorem ownS2 (n : Bool) (xs : List Nat) (m : Bool) (ys : List Nat) (nm : ByteArray) (p q : Int) (k : Nat) (a : Option Addr) (c : Nat) (b : Option Addr) (d : Nat) (x : Option Addr) (ck : Nat) (w : World) (s1 : Seg w a xs.length c xs) (s2 : Seg w b ys.length d ys) (hk : k ≤ 9223372036854775807) (hnm : nm.size ≤ 140737488355328) :
    Calls Tryz.prog 23 #[Value.agg #[Value.int .i64 2, Value.bool n, Value.slice a xs.length c, Value.bool m, Value.slice b ys.length d, Value.string nm, Value.int .i64 p, Value.int .i64 q, Value.slice x k ck]] w fun e w' => e = .returned (.bool (ownB 2 n xs m ys nm p q k)) ∧ Below w.heap.size w w' := by
  have q1 := s1.le
  have q2 := s2.le
  have sm := hide s1.2.2.2.1
  have S1 := hide s1
  have S2 := hide s2
  clear s1 s2
  obtain ⟨F, hF⟩ : ∃ F, (decide (p = 0) && decide (q = 0)) = F := ⟨_, rfl⟩
  have HF := hide hF
  have HO : Hid (ownB 2 n xs m ys nm p q k = (blankB n xs m ys && (nm.toList.isEmpty && (F && decide (k = 2))))) := hide (by rw [← hF]; exact own_2 ..)
  clear hF
  by_cases hp : p = 0
  all_goals by_cases hq : q = 0
  · have hp2 : (p == 0) = true := by rw [beq_iff_eq]; exact hp
    have hq2 : (q == 0) = true := by rw [beq_iff_eq]; exact hq
    have HFF : Hid (F = true) := hide (by rw [← HF.out, decide_eq_true hp, decide_eq_true hq]; rfl)
    clear hp hq
    have Xa : Hid ((w.alloc (Obj.cells #[Value.int .i64 2, Value.bool n, Value.slice a xs.length c, Value.bool m, Value.slice b ys.length d, Value.string nm, Value.int .i64 p, Value.int .i64 q, Value.slice x k ck] 37)).heap[w.heap.size]? = some (.cells #[Value.int .i64 2, Value.bool n, Value.slice a xs.length c, Value.bool m, Value.slice b ys.length d, Value.string nm, Value.int .i64 p, Value.int .i64 q, Value.slice x k ck] 37 (0, 0))) := hide (by simpa only [World.size_alloc] using (hnew w (Obj.cells #[Value.int .i64 2, Value.bool n, Value.slice a xs.length c, Value.bool m, Value.slice b ys.length d, Value.string nm, Value.int .i64 p, Value.int .i64 q, Value.slice x k ck] 37)))
    have HB : Hid (Below w.heap.size w (w.alloc (Obj.cells #[Value.int .i64 2, Value.bool n, Value.slice a xs.length c, Value.bool m, Value.slice b ys.length d, Value.string nm, Value.int .i64 p, Value.int .i64 q, Value.slice x k ck] 37))) := hide (bl_alloc (bl_refl w) (Obj.cells #[Value.int .i64 2, Value.bool n, Value.slice a xs.length c, Value.bool m, Value.slice b ys.length d, Value.string nm, Value.int .i64 p, Value.int .i64 q, Value.slice x k ck] 37))
    have yw1 : w.heap.size + 1 ≤ (w.alloc (Obj.cells #[Value.int .i64 2, Value.bool n, Value.slice a xs.length c, Value.bool m, Value.slice b ys.length d, Value.string nm, Value.int .i64 p, Value.int .i64 q, Value.slice x k ck] 37)).heap.size := by simp only [World.size_alloc]; omega
    have ka0 : (w.alloc (Obj.cells #[Value.int .i64 2, Value.bool n, Value.slice a xs.length c, Value.bool m, Value.slice b ys.length d, Value.string nm, Value.int .i64 p, Value.int .i64 q, Value.slice x k ck] 37)).cell? ⟨w.heap.size, 0, none⟩ = some (Value.int .i64 2) := (Lib.cell_of_heap Xa.out 0).trans rfl
    have fa0 : (w.alloc (Obj.cells #[Value.int .i64 2, Value.bool n, Value.slice a xs.length c, Value.bool m, Value.slice b ys.length d, Value.string nm, Value.int .i64 p, Value.int .i64 q, Value.slice x k ck] 37)).frozen? ⟨w.heap.size, 0, none⟩ = false := Lib.frozen_of_heap Xa.out 0
    have ka1 : (w.alloc (Obj.cells #[Value.int .i64 2, Value.bool n, Value.slice a xs.length c, Value.bool m, Value.slice b ys.length d, Value.string nm, Value.int .i64 p, Value.int .i64 q, Value.slice x k ck] 37)).cell? ⟨w.heap.size, 1, none⟩ = some (Value.bool n) := (Lib.cell_of_heap Xa.out 1).trans rfl
    have fa1 : (w.alloc (Obj.cells #[Value.int .i64 2, Value.bool n, Value.slice a xs.length c, Value.bool m, Value.slice b ys.length d, Value.string nm, Value.int .i64 p, Value.int .i64 q, Value.slice x k ck] 37)).frozen? ⟨w.heap.size, 1, none⟩ = false := Lib.frozen_of_heap Xa.out 1
    have ka2 : (w.alloc (Obj.cells #[Value.int .i64 2, Value.bool n, Value.slice a xs.length c, Value.bool m, Value.slice b ys.length d, Value.string nm, Value.int .i64 p, Value.int .i64 q, Value.slice x k ck] 37)).cell? ⟨w.heap.size, 2, none⟩ = some (Value.slice a xs.length c) := (Lib.cell_of_heap Xa.out 2).trans rfl
    have fa2 : (w.alloc (Obj.cells #[Value.int .i64 2, Value.bool n, Value.slice a xs.length c, Value.bool m, Value.slice b ys.length d, Value.string nm, Value.int .i64 p, Value.int .i64 q, Value.slice x k ck] 37)).frozen? ⟨w.heap.size, 2, none⟩ = false := Lib.frozen_of_heap Xa.out 2
    have ka3 : (w.alloc (Obj.cells #[Value.int .i64 2, Value.bool n, Value.slice a xs.length c, Value.bool m, Value.slice b ys.length d, Value.string nm, Value.int .i64 p, Value.int .i64 q, Value.slice x k ck] 37)).cell? ⟨w.heap.size, 3, none⟩ = some (Value.bool m) := (Lib.cell_of_heap Xa.out 3).trans rfl
    have fa3 : (w.alloc (Obj.cells #[Value.int .i64 2, Value.bool n, Value.slice a xs.length c, Value.bool m, Value.slice b ys.length d, Value.string nm, Value.int .i64 p, Value.int .i64 q, Value.slice x k ck] 37)).frozen? ⟨w.heap.size, 3, none⟩ = false := Lib.frozen_of_heap Xa.out 3
    have ka4 : (w.alloc (Obj.cells #[Value.int .i64 2, Value.bool n, Value.slice a xs.length c, Value.bool m, Value.slice b ys.length d, Value.string nm, Value.int .i64 p, Value.int .i64 q, Value.slice x k ck] 37)).cell? ⟨w.heap.size, 4, none⟩ = some (Value.slice b ys.length d) := (Lib.cell_of_heap Xa.out 4).trans rfl
    have fa4 : (w.alloc (Obj.cells #[Value.int .i64 2, Value.bool n, Value.slice a xs.length c, Value.bool m, Value.slice b ys.length d, Value.string nm, Value.int .i64 p, Value.int .i64 q, Value.slice x k ck] 37)).frozen? ⟨w.heap.size, 4, none⟩ = false := Lib.frozen_of_heap Xa.out 4
    have ka5 : (w.alloc (Obj.cells #[Value.int .i64 2, Value.bool n, Value.slice a xs.length c, Value.bool m, Value.slice b ys.length d, Value.string nm, Value.int .i64 p, Value.int .i64 q, Value.slice x k ck] 37)).cell? ⟨w.heap.size, 5, none⟩ = some (Value.string nm) := (Lib.cell_of_heap Xa.out 5).trans rfl
    have fa5 : (w.alloc (Obj.cells #[Value.int .i64 2, Value.bool n, Value.slice a xs.length c, Value.bool m, Value.slice b ys.length d, Value.string nm, Value.int .i64 p, Value.int .i64 q, Value.slice x k ck] 37)).frozen? ⟨w.heap.size, 5, none⟩ = false := Lib.frozen_of_heap Xa.out 5
    have ka6 : (w.alloc (Obj.cells #[Value.int .i64 2, Value.bool n, Value.slice a xs.length c, Value.bool m, Value.slice b ys.length d, Value.string nm, Value.int .i64 p, Value.int .i64 q, Value.slice x k ck] 37)).cell? ⟨w.heap.size, 6, none⟩ = some (Value.int .i64 p) := (Lib.cell_of_heap Xa.out 6).trans rfl
    have fa6 : (w.alloc (Obj.cells #[Value.int .i64 2, Value.bool n, Value.slice a xs.length c, Value.bool m, Value.slice b ys.length d, Value.string nm, Value.int .i64 p, Value.int .i64 q, Value.slice x k ck] 37)).frozen? ⟨w.heap.size, 6, none⟩ = false := Lib.frozen_of_heap Xa.out 6
    have ka7 : (w.alloc (Obj.cells #[Value.int .i64 2, Value.bool n, Value.slice a xs.length c, Value.bool m, Value.slice b ys.length d, Value.string nm, Value.int .i64 p, Value.int .i64 q, Value.slice x k ck] 37)).cell? ⟨w.heap.size, 7, none⟩ = some (Value.int .i64 q) := (Lib.cell_of_heap Xa.out 7).trans rfl
    have fa7 : (w.alloc (Obj.cells #[Value.int .i64 2, Value.bool n, Value.slice a xs.length c, Value.bool m, Value.slice b ys.length d, Value.string nm, Value.int .i64 p, Value.int .i64 q, Value.slice x k ck] 37)).frozen? ⟨w.heap.size, 7, none⟩ = false := Lib.frozen_of_heap Xa.out 7
    have ka8 : (w.alloc (Obj.cells #[Value.int .i64 2, Value.bool n, Value.slice a xs.length c, Value.bool m, Value.slice b ys.length d, Value.string nm, Value.int .i64 p, Value.int .i64 q, Value.slice x k ck] 37)).cell? ⟨w.heap.size, 8, none⟩ = some (Value.slice x k ck) := (Lib.cell_of_heap Xa.out 8).trans rfl
    have fa8 : (w.alloc (Obj.cells #[Value.int .i64 2, Value.bool n, Value.slice a xs.length c, Value.bool m, Value.slice b ys.length d, Value.string nm, Value.int .i64 p, Value.int .i64 q, Value.slice x k ck] 37)).frozen? ⟨w.heap.size, 8, none⟩ = false := Lib.frozen_of_heap Xa.out 8
    have za : w.heap.size < (w.alloc (Obj.cells #[Value.int .i64 2, Value.bool n, Value.slice a xs.length c, Value.bool m, Value.slice b ys.length d, Value.string nm, Value.int .i64 p, Value.int .i64 q, Value.slice x k ck] 37)).heap.size := hlt Xa.out
    go_enter Tryz.func23, Tryz.ntmps23
    go_wp2_with fail
    generalize (w.alloc (Obj.cells #[Value.int .i64 2, Value.bool n, Value.slice a xs.length c, Value.bool m, Value.slice b ys.length d, Value.string nm, Value.int .i64 p, Value.int .i64 q, Value.slice x k ck] 37)) = w1 at *
    refine (noneS n xs m ys a c b d _ (S1.out.below HB.out) (S2.out.below HB.out)).mono ?_
    rintro e w2 ⟨rfl, hb⟩
    have yw2 := hb.size
    clear ka0 fa0 ka1 fa1 ka2 fa2 ka3 fa3 ka4 fa4 ka5 fa5 ka6 fa6 ka7 fa7 ka8 fa8 za
    replace Xa := hide (hbel Xa.out hb (by first | assumption | omega))
    replace HB := hide (bl_trans HB.out hb)
    clear hb
    have ka0 : w2.cell? ⟨w.heap.size, 0, none⟩ = some (Value.int .i64 2) := (Lib.cell_of_heap Xa.out 0).trans rfl
    have fa0 : w2.frozen? ⟨w.heap.size, 0, none⟩ = false := Lib.frozen_of_heap Xa.out 0
    have ka1 : w2.cell? ⟨w.heap.size, 1, none⟩ = some (Value.bool n) := (Lib.cell_of_heap Xa.out 1).trans rfl
    have fa1 : w2.frozen? ⟨w.heap.size, 1, none⟩ = false := Lib.frozen_of_heap Xa.out 1
    have ka2 : w2.cell? ⟨w.heap.size, 2, none⟩ = some (Value.slice a xs.length c) := (Lib.cell_of_heap Xa.out 2).trans rfl
    have fa2 : w2.frozen? ⟨w.heap.size, 2, none⟩ = false := Lib.frozen_of_heap Xa.out 2
    have ka3 : w2.cell? ⟨w.heap.size, 3, none⟩ = some (Value.bool m) := (Lib.cell_of_heap Xa.out 3).trans rfl
    have fa3 : w2.frozen? ⟨w.heap.size, 3, none⟩ = false := Lib.frozen_of_heap Xa.out 3
    have ka4 : w2.cell? ⟨w.heap.size, 4, none⟩ = some (Value.slice b ys.length d) := (Lib.cell_of_heap Xa.out 4).trans rfl
    have fa4 : w2.frozen? ⟨w.heap.size, 4, none⟩ = false := Lib.frozen_of_heap Xa.out 4
    have ka5 : w2.cell? ⟨w.heap.size, 5, none⟩ = some (Value.string nm) := (Lib.cell_of_heap Xa.out 5).trans rfl
    have fa5 : w2.frozen? ⟨w.heap.size, 5, none⟩ = false := Lib.frozen_of_heap Xa.out 5
    have ka6 : w2.cell? ⟨w.heap.size, 6, none⟩ = some (Value.int .i64 p) := (Lib.cell_of_heap Xa.out 6).trans rfl
    have fa6 : w2.frozen? ⟨w.heap.size, 6, none⟩ = false := Lib.frozen_of_heap Xa.out 6
    have ka7 : w2.cell? ⟨w.heap.size, 7, none⟩ = some (Value.int .i64 q) := (Lib.cell_of_heap Xa.out 7).trans rfl
    have fa7 : w2.frozen? ⟨w.heap.size, 7, none⟩ = false := Lib.frozen_of_heap Xa.out 7
    have ka8 : w2.cell? ⟨w.heap.size, 8, none⟩ = some (Value.slice x k ck) := (Lib.cell_of_heap Xa.out 8).trans rfl
    have fa8 : w2.frozen? ⟨w.heap.size, 8, none⟩ = false := Lib.frozen_of_heap Xa.out 8
    have za : w.heap.size < w2.heap.size := hlt Xa.out
    cases hb : blankB n xs m ys with
    | false =>
      have Hb := hide hb
      clear hb
      go_wp2
      go_ret
      exact ⟨ret_bool (by rw [HO.out, Hb.out]; first | rfl | simp), HB.out⟩
    | true =>
      have Hb := hide hb
      clear hb
      cases hn : nm.toList.isEmpty with
      | false =>
        have Hn := hide hn
        go_wp2
        go_ret
        exact ⟨ret_bool (by rw [HO.out, Hb.out, Hn.out]; first | rfl | simp), HB.out⟩
      | true =>
        have Hn := hide hn
        by_cases hl : k = 2
        case neg =>
          have HL : Hid (decide (k = 2) = false) := hide (decide_eq_false hl)
          have hl2 : ((k : Int) == 2) = false := by rw [beq_eq_false_iff_ne]; omega
          clear hl
          go_wp2
          go_ret
          exact ⟨ret_bool (by rw [HO.out, Hb.out, Hn.out, HFF.out, HL.out]; first | rfl | simp), HB.out⟩
        have HL : Hid (decide (k = 2) = true) := hide (decide_eq_true hl)
        have hl2 : ((k : Int) == 2) = true := by rw [beq_iff_eq]; omega
        clear hl
        go_wp2
        go_ret
        exact ⟨ret_bool (by rw [HO.out, Hb.out, Hn.out, HFF.out, HL.out]; first | rfl | simp), HB.out⟩
  · have hp2 : (p == 0) = true := by rw [beq_iff_eq]; exact hp
    have hq2 : (q == 0) = false := by rw [beq_eq_false_iff_ne]; exact hq
    have HFF : Hid (F = false) := hide (by rw [← HF.out, decide_eq_true hp, decide_eq_false hq]; rfl)
    clear hp hq
    have Xa : Hid ((w.alloc (Obj.cells #[Value.int .i64 2, Value.bool n, Value.slice a xs.length c, Value.bool m, Value.slice b ys.length d, Value.string nm, Value.int .i64 p, Value.int .i64 q, Value.slice x k ck] 37)).heap[w.heap.size]? = some (.cells #[Value.int .i64 2, Value.bool n, Value.slice a xs.length c, Value.bool m, Value.slice b ys.length d, Value.string nm, Value.int .i64 p, Value.int .i64 q, Value.slice x k ck] 37 (0, 0))) := hide (by simpa only [World.size_alloc] using (hnew w (Obj.cells #[Value.int .i64 2, Value.bool n, Value.slice a xs.length c, Value.bool m, Value.slice b ys.length d, Value.string nm, Value.int .i64 p, Value.int .i64 q, Value.slice x k ck] 37)))
    have HB : Hid (Below w.heap.size w (w.alloc (Obj.cells #[Value.int .i64 2, Value.bool n, Value.slice a xs.length c, Value.bool m, Value.slice b ys.length d, Value.string nm, Value.int .i64 p, Value.int .i64 q, Value.slice x k ck] 37))) := hide (bl_alloc (bl_refl w) (Obj.cells #[Value.int .i64 2, Value.bool n, Value.slice a xs.length c, Value.bool m, Value.slice b ys.length d, Value.string nm, Value.int .i64 p, Value.int .i64 q, Value.slice x k ck] 37))
    have yw1 : w.heap.size + 1 ≤ (w.alloc (Obj.cells #[Value.int .i64 2, Value.bool n, Value.slice a xs.length c, Value.bool m, Value.slice b ys.length d, Value.string nm, Value.int .i64 p, Value.int .i64 q, Value.slice x k ck] 37)).heap.size := by simp only [World.size_alloc]; omega
    have ka0 : (w.alloc (Obj.cells #[Value.int .i64 2, Value.bool n, Value.slice a xs.length c, Value.bool m, Value.slice b ys.length d, Value.string nm, Value.int .i64 p, Value.int .i64 q, Value.slice x k ck] 37)).cell? ⟨w.heap.size, 0, none⟩ = some (Value.int .i64 2) := (Lib.cell_of_heap Xa.out 0).trans rfl
    have fa0 : (w.alloc (Obj.cells #[Value.int .i64 2, Value.bool n, Value.slice a xs.length c, Value.bool m, Value.slice b ys.length d, Value.string nm, Value.int .i64 p, Value.int .i64 q, Value.slice x k ck] 37)).frozen? ⟨w.heap.size, 0, none⟩ = false := Lib.frozen_of_heap Xa.out 0
    have ka1 : (w.alloc (Obj.cells #[Value.int .i64 2, Value.bool n, Value.slice a xs.length c, Value.bool m, Value.slice b ys.length d, Value.string nm, Value.int .i64 p, Value.int .i64 q, Value.slice x k ck] 37)).cell? ⟨w.heap.size, 1, none⟩ = some (Value.bool n) := (Lib.cell_of_heap Xa.out 1).trans rfl
    have fa1 : (w.alloc (Obj.cells #[Value.int .i64 2, Value.bool n, Value.slice a xs.length c, Value.bool m, Value.slice b ys.length d, Value.string nm, Value.int .i64 p, Value.int .i64 q, Value.slice x k ck] 37)).frozen? ⟨w.heap.size, 1, none⟩ = false := Lib.frozen_of_heap Xa.out 1
    have ka2 : (w.alloc (Obj.cells #[Value.int .i64 2, Value.bool n, Value.slice a xs.length c, Value.bool m, Value.slice b ys.length d, Value.string nm, Value.int .i64 p, Value.int .i64 q, Value.slice x k ck] 37)).cell? ⟨w.heap.size, 2, none⟩ = some (Value.slice a xs.length c) := (Lib.cell_of_heap Xa.out 2).trans rfl
    have fa2 : (w.alloc (Obj.cells #[Value.int .i64 2, Value.bool n, Value.slice a xs.length c, Value.bool m, Value.slice b ys.length d, Value.string nm, Value.int .i64 p, Value.int .i64 q, Value.slice x k ck] 37)).frozen? ⟨w.heap.size, 2, none⟩ = false := Lib.frozen_of_heap Xa.out 2
    have ka3 : (w.alloc (Obj.cells #[Value.int .i64 2, Value.bool n, Value.slice a xs.length c, Value.bool m, Value.slice b ys.length d, Value.string nm, Value.int .i64 p, Value.int .i64 q, Value.slice x k ck] 37)).cell? ⟨w.heap.size, 3, none⟩ = some (Value.bool m) := (Lib.cell_of_heap Xa.out 3).trans rfl
    have fa3 : (w.alloc (Obj.cells #[Value.int .i64 2, Value.bool n, Value.slice a xs.length c, Value.bool m, Value.slice b ys.length d, Value.string nm, Value.int .i64 p, Value.int .i64 q, Value.slice x k ck] 37)).frozen? ⟨w.heap.size, 3, none⟩ = false := Lib.frozen_of_heap Xa.out 3
    have ka4 : (w.alloc (Obj.cells #[Value.int .i64 2, Value.bool n, Value.slice a xs.length c, Value.bool m, Value.slice b ys.length d, Value.string nm, Value.int .i64 p, Value.int .i64 q, Value.slice x k ck] 37)).cell? ⟨w.heap.size, 4, none⟩ = some (Value.slice b ys.length d) := (Lib.cell_of_heap Xa.out 4).trans rfl
    have fa4 : (w.alloc (Obj.cells #[Value.int .i64 2, Value.bool n, Value.slice a xs.length c, Value.bool m, Value.slice b ys.length d, Value.string nm, Value.int .i64 p, Value.int .i64 q, Value.slice x k ck] 37)).frozen? ⟨w.heap.size, 4, none⟩ = false := Lib.frozen_of_heap Xa.out 4
    have ka5 : (w.alloc (Obj.cells #[Value.int .i64 2, Value.bool n, Value.slice a xs.length c, Value.bool m, Value.slice b ys.length d, Value.string nm, Value.int .i64 p, Value.int .i64 q, Value.slice x k ck] 37)).cell? ⟨w.heap.size, 5, none⟩ = some (Value.string nm) := (Lib.cell_of_heap Xa.out 5).trans rfl
    have fa5 : (w.alloc (Obj.cells #[Value.int .i64 2, Value.bool n, Value.slice a xs.length c, Value.bool m, Value.slice b ys.length d, Value.string nm, Value.int .i64 p, Value.int .i64 q, Value.slice x k ck] 37)).frozen? ⟨w.heap.size, 5, none⟩ = false := Lib.frozen_of_heap Xa.out 5
    have ka6 : (w.alloc (Obj.cells #[Value.int .i64 2, Value.bool n, Value.slice a xs.length c, Value.bool m, Value.slice b ys.length d, Value.string nm, Value.int .i64 p, Value.int .i64 q, Value.slice x k ck] 37)).cell? ⟨w.heap.size, 6, none⟩ = some (Value.int .i64 p) := (Lib.cell_of_heap Xa.out 6).trans rfl
    have fa6 : (w.alloc (Obj.cells #[Value.int .i64 2, Value.bool n, Value.slice a xs.length c, Value.bool m, Value.slice b ys.length d, Value.string nm, Value.int .i64 p, Value.int .i64 q, Value.slice x k ck] 37)).frozen? ⟨w.heap.size, 6, none⟩ = false := Lib.frozen_of_heap Xa.out 6
    have ka7 : (w.alloc (Obj.cells #[Value.int .i64 2, Value.bool n, Value.slice a xs.length c, Value.bool m, Value.slice b ys.length d, Value.string nm, Value.int .i64 p, Value.int .i64 q, Value.slice x k ck] 37)).cell? ⟨w.heap.size, 7, none⟩ = some (Value.int .i64 q) := (Lib.cell_of_heap Xa.out 7).trans rfl
    have fa7 : (w.alloc (Obj.cells #[Value.int .i64 2, Value.bool n, Value.slice a xs.length c, Value.bool m, Value.slice b ys.length d, Value.string nm, Value.int .i64 p, Value.int .i64 q, Value.slice x k ck] 37)).frozen? ⟨w.heap.size, 7, none⟩ = false := Lib.frozen_of_heap Xa.out 7
    have ka8 : (w.alloc (Obj.cells #[Value.int .i64 2, Value.bool n, Value.slice a xs.length c, Value.bool m, Value.slice b ys.length d, Value.string nm, Value.int .i64 p, Value.int .i64 q, Value.slice x k ck] 37)).cell? ⟨w.heap.size, 8, none⟩ = some (Value.slice x k ck) := (Lib.cell_of_heap Xa.out 8).trans rfl
    have fa8 : (w.alloc (Obj.cells #[Value.int .i64 2, Value.bool n, Value.slice a xs.length c, Value.bool m, Value.slice b ys.length d, Value.string nm, Value.int .i64 p, Value.int .i64 q, Value.slice x k ck] 37)).frozen? ⟨w.heap.size, 8, none⟩ = false := Lib.frozen_of_heap Xa.out 8
    have za : w.heap.size < (w.alloc (Obj.cells #[Value.int .i64 2, Value.bool n, Value.slice a xs.length c, Value.bool m, Value.slice b ys.length d, Value.string nm, Value.int .i64 p, Value.int .i64 q, Value.slice x k ck] 37)).heap.size := hlt Xa.out
    go_enter Tryz.func23, Tryz.ntmps23
    go_wp2_with fail
    generalize (w.alloc (Obj.cells #[Value.int .i64 2, Value.bool n, Value.slice a xs.length c, Value.bool m, Value.slice b ys.length d, Value.string nm, Value.int .i64 p, Value.int .i64 q, Value.slice x k ck] 37)) = w1 at *
    refine (noneS n xs m ys a c b d _ (S1.out.below HB.out) (S2.out.below HB.out)).mono ?_
    rintro e w2 ⟨rfl, hb⟩
    have yw2 := hb.size
    clear ka0 fa0 ka1 fa1 ka2 fa2 ka3 fa3 ka4 fa4 ka5 fa5 ka6 fa6 ka7 fa7 ka8 fa8 za
    replace Xa := hide (hbel Xa.out hb (by first | assumption | omega))
    replace HB := hide (bl_trans HB.out hb)
    clear hb
    have ka0 : w2.cell? ⟨w.heap.size, 0, none⟩ = some (Value.int .i64 2) := (Lib.cell_of_heap Xa.out 0).trans rfl
    have fa0 : w2.frozen? ⟨w.heap.size, 0, none⟩ = false := Lib.frozen_of_heap Xa.out 0
    have ka1 : w2.cell? ⟨w.heap.size, 1, none⟩ = some (Value.bool n) := (Lib.cell_of_heap Xa.out 1).trans rfl
    have fa1 : w2.frozen? ⟨w.heap.size, 1, none⟩ = false := Lib.frozen_of_heap Xa.out 1
    have ka2 : w2.cell? ⟨w.heap.size, 2, none⟩ = some (Value.slice a xs.length c) := (Lib.cell_of_heap Xa.out 2).trans rfl
    have fa2 : w2.frozen? ⟨w.heap.size, 2, none⟩ = false := Lib.frozen_of_heap Xa.out 2
    have ka3 : w2.cell? ⟨w.heap.size, 3, none⟩ = some (Value.bool m) := (Lib.cell_of_heap Xa.out 3).trans rfl
    have fa3 : w2.frozen? ⟨w.heap.size, 3, none⟩ = false := Lib.frozen_of_heap Xa.out 3
    have ka4 : w2.cell? ⟨w.heap.size, 4, none⟩ = some (Value.slice b ys.length d) := (Lib.cell_of_heap Xa.out 4).trans rfl
    have fa4 : w2.frozen? ⟨w.heap.size, 4, none⟩ = false := Lib.frozen_of_heap Xa.out 4
    have ka5 : w2.cell? ⟨w.heap.size, 5, none⟩ = some (Value.string nm) := (Lib.cell_of_heap Xa.out 5).trans rfl
    have fa5 : w2.frozen? ⟨w.heap.size, 5, none⟩ = false := Lib.frozen_of_heap Xa.out 5
    have ka6 : w2.cell? ⟨w.heap.size, 6, none⟩ = some (Value.int .i64 p) := (Lib.cell_of_heap Xa.out 6).trans rfl
    have fa6 : w2.frozen? ⟨w.heap.size, 6, none⟩ = false := Lib.frozen_of_heap Xa.out 6
    have ka7 : w2.cell? ⟨w.heap.size, 7, none⟩ = some (Value.int .i64 q) := (Lib.cell_of_heap Xa.out 7).trans rfl
    have fa7 : w2.frozen? ⟨w.heap.size, 7, none⟩ = false := Lib.frozen_of_heap Xa.out 7
    have ka8 : w2.cell? ⟨w.heap.size, 8, none⟩ = some (Value.slice x k ck) := (Lib.cell_of_heap Xa.out 8).trans rfl
    have fa8 : w2.frozen? ⟨w.heap.size, 8, none⟩ = false := Lib.frozen_of_heap Xa.out 8
    have za : w.heap.size < w2.heap.size := hlt Xa.out
    cases hb : blankB n xs m ys with
    | false =>
      have Hb := hide hb
      clear hb
      go_wp2
      go_ret
      exact ⟨ret_bool (by rw [HO.out, Hb.out]; first | rfl | simp), HB.out⟩
    | true =>
      have Hb := hide hb
      clear hb
      cases hn : nm.toList.isEmpty with
      | false =>
        have Hn := hide hn
        go_wp2
        go_ret
        exact ⟨ret_bool (by rw [HO.out, Hb.out, Hn.out]; first | rfl | simp), HB.out⟩
      | true =>
        have Hn := hide hn
        go_wp2
        go_ret
        exact ⟨ret_bool (by rw [HO.out, Hb.out, Hn.out, HFF.out]; first | rfl | simp), HB.out⟩
  · have hp2 : (p == 0) = false := by rw [beq_eq_false_iff_ne]; exact hp
    have hq2 : (q == 0) = true := by rw [beq_iff_eq]; exact hq
    have HFF : Hid (F = false) := hide (by rw [← HF.out, decide_eq_false hp, decide_eq_true hq]; rfl)
    clear hp hq
    have Xa : Hid ((w.alloc (Obj.cells #[Value.int .i64 2, Value.bool n, Value.slice a xs.length c, Value.bool m, Value.slice b ys.length d, Value.string nm, Value.int .i64 p, Value.int .i64 q, Value.slice x k ck] 37)).heap[w.heap.size]? = some (.cells #[Value.int .i64 2, Value.bool n, Value.slice a xs.length c, Value.bool m, Value.slice b ys.length d, Value.string nm, Value.int .i64 p, Value.int .i64 q, Value.slice x k ck] 37 (0, 0))) := hide (by simpa only [World.size_alloc] using (hnew w (Obj.cells #[Value.int .i64 2, Value.bool n, Value.slice a xs.length c, Value.bool m, Value.slice b ys.length d, Value.string nm, Value.int .i64 p, Value.int .i64 q, Value.slice x k ck] 37)))
    have HB : Hid (Below w.heap.size w (w.alloc (Obj.cells #[Value.int .i64 2, Value.bool n, Value.slice a xs.length c, Value.bool m, Value.slice b ys.length d, Value.string nm, Value.int .i64 p, Value.int .i64 q, Value.slice x k ck] 37))) := hide (bl_alloc (bl_refl w) (Obj.cells #[Value.int .i64 2, Value.bool n, Value.slice a xs.length c, Value.bool m, Value.slice b ys.length d, Value.string nm, Value.int .i64 p, Value.int .i64 q, Value.slice x k ck] 37))
    have yw1 : w.heap.size + 1 ≤ (w.alloc (Obj.cells #[Value.int .i64 2, Value.bool n, Value.slice a xs.length c, Value.bool m, Value.slice b ys.length d, Value.string nm, Value.int .i64 p, Value.int .i64 q, Value.slice x k ck] 37)).heap.size := by simp only [World.size_alloc]; omega
    have ka0 : (w.alloc (Obj.cells #[Value.int .i64 2, Value.bool n, Value.slice a xs.length c, Value.bool m, Value.slice b ys.length d, Value.string nm, Value.int .i64 p, Value.int .i64 q, Value.slice x k ck] 37)).cell? ⟨w.heap.size, 0, none⟩ = some (Value.int .i64 2) := (Lib.cell_of_heap Xa.out 0).trans rfl
    have fa0 : (w.alloc (Obj.cells #[Value.int .i64 2, Value.bool n, Value.slice a xs.length c, Value.bool m, Value.slice b ys.length d, Value.string nm, Value.int .i64 p, Value.int .i64 q, Value.slice x k ck] 37)).frozen? ⟨w.heap.size, 0, none⟩ = false := Lib.frozen_of_heap Xa.out 0
    have ka1 : (w.alloc (Obj.cells #[Value.int .i64 2, Value.bool n, Value.slice a xs.length c, Value.bool m, Value.slice b ys.length d, Value.string nm, Value.int .i64 p, Value.int .i64 q, Value.slice x k ck] 37)).cell? ⟨w.heap.size, 1, none⟩ = some (Value.bool n) := (Lib.cell_of_heap Xa.out 1).trans rfl
    have fa1 : (w.alloc (Obj.cells #[Value.int .i64 2, Value.bool n, Value.slice a xs.length c, Value.bool m, Value.slice b ys.length d, Value.string nm, Value.int .i64 p, Value.int .i64 q, Value.slice x k ck] 37)).frozen? ⟨w.heap.size, 1, none⟩ = false := Lib.frozen_of_heap Xa.out 1
    have ka2 : (w.alloc (Obj.cells #[Value.int .i64 2, Value.bool n, Value.slice a xs.length c, Value.bool m, Value.slice b ys.length d, Value.string nm, Value.int .i64 p, Value.int .i64 q, Value.slice x k ck] 37)).cell? ⟨w.heap.size, 2, none⟩ = some (Value.slice a xs.length c) := (Lib.cell_of_heap Xa.out 2).trans rfl
    have fa2 : (w.alloc (Obj.cells #[Value.int .i64 2, Value.bool n, Value.slice a xs.length c, Value.bool m, Value.slice b ys.length d, Value.string nm, Value.int .i64 p, Value.int .i64 q, Value.slice x k ck] 37)).frozen? ⟨w.heap.size, 2, none⟩ = false := Lib.frozen_of_heap Xa.out 2
    have ka3 : (w.alloc (Obj.cells #[Value.int .i64 2, Value.bool n, Value.slice a xs.length c, Value.bool m, Value.slice b ys.length d, Value.string nm, Value.int .i64 p, Value.int .i64 q, Value.slice x k ck] 37)).cell? ⟨w.heap.size, 3, none⟩ = some (Value.bool m) := (Lib.cell_of_heap Xa.out 3).trans rfl
    have fa3 : (w.alloc (Obj.cells #[Value.int .i64 2, Value.bool n, Value.slice a xs.length c, Value.bool m, Value.slice b ys.length d, Value.string nm, Value.int .i64 p, Value.int .i64 q, Value.slice x k ck] 37)).frozen? ⟨w.heap.size, 3, none⟩ = false := Lib.frozen_of_heap Xa.out 3
    have ka4 : (w.alloc (Obj.cells #[Value.int .i64 2, Value.bool n, Value.slice a xs.length c, Value.bool m, Value.slice b ys.length d, Value.string nm, Value.int .i64 p, Value.int .i64 q, Value.slice x k ck] 37)).cell? ⟨w.heap.size, 4, none⟩ = some (Value.slice b ys.length d) := (Lib.cell_of_heap Xa.out 4).trans rfl
    have fa4 : (w.alloc (Obj.cells #[Value.int .i64 2, Value.bool n, Value.slice a xs.length c, Value.bool m, Value.slice b ys.length d, Value.string nm, Value.int .i64 p, Value.int .i64 q, Value.slice x k ck] 37)).frozen? ⟨w.heap.size, 4, none⟩ = false := Lib.frozen_of_heap Xa.out 4
    have ka5 : (w.alloc (Obj.cells #[Value.int .i64 2, Value.bool n, Value.slice a xs.length c, Value.bool m, Value.slice b ys.length d, Value.string nm, Value.int .i64 p, Value.int .i64 q, Value.slice x k ck] 37)).cell? ⟨w.heap.size, 5, none⟩ = some (Value.string nm) := (Lib.cell_of_heap Xa.out 5).trans rfl
    have fa5 : (w.alloc (Obj.cells #[Value.int .i64 2, Value.bool n, Value.slice a xs.length c, Value.bool m, Value.slice b ys.length d, Value.string nm, Value.int .i64 p, Value.int .i64 q, Value.slice x k ck] 37)).frozen? ⟨w.heap.size, 5, none⟩ = false := Lib.frozen_of_heap Xa.out 5
    have ka6 : (w.alloc (Obj.cells #[Value.int .i64 2, Value.bool n, Value.slice a xs.length c, Value.bool m, Value.slice b ys.length d, Value.string nm, Value.int .i64 p, Value.int .i64 q, Value.slice x k ck] 37)).cell? ⟨w.heap.size, 6, none⟩ = some (Value.int .i64 p) := (Lib.cell_of_heap Xa.out 6).trans rfl
    have fa6 : (w.alloc (Obj.cells #[Value.int .i64 2, Value.bool n, Value.slice a xs.length c, Value.bool m, Value.slice b ys.length d, Value.string nm, Value.int .i64 p, Value.int .i64 q, Value.slice x k ck] 37)).frozen? ⟨w.heap.size, 6, none⟩ = false := Lib.frozen_of_heap Xa.out 6
    have ka7 : (w.alloc (Obj.cells #[Value.int .i64 2, Value.bool n, Value.slice a xs.length c, Value.bool m, Value.slice b ys.length d, Value.string nm, Value.int .i64 p, Value.int .i64 q, Value.slice x k ck] 37)).cell? ⟨w.heap.size, 7, none⟩ = some (Value.int .i64 q) := (Lib.cell_of_heap Xa.out 7).trans rfl
    have fa7 : (w.alloc (Obj.cells #[Value.int .i64 2, Value.bool n, Value.slice a xs.length c, Value.bool m, Value.slice b ys.length d, Value.string nm, Value.int .i64 p, Value.int .i64 q, Value.slice x k ck] 37)).frozen? ⟨w.heap.size, 7, none⟩ = false := Lib.frozen_of_heap Xa.out 7
    have ka8 : (w.alloc (Obj.cells #[Value.int .i64 2, Value.bool n, Value.slice a xs.length c, Value.bool m, Value.slice b ys.length d, Value.string nm, Value.int .i64 p, Value.int .i64 q, Value.slice x k ck] 37)).cell? ⟨w.heap.size, 8, none⟩ = some (Value.slice x k ck) := (Lib.cell_of_heap Xa.out 8).trans rfl
    have fa8 : (w.alloc (Obj.cells #[Value.int .i64 2, Value.bool n, Value.slice a xs.length c, Value.bool m, Value.slice b ys.length d, Value.string nm, Value.int .i64 p, Value.int .i64 q, Value.slice x k ck] 37)).frozen? ⟨w.heap.size, 8, none⟩ = false := Lib.frozen_of_heap Xa.out 8
    have za : w.heap.size < (w.alloc (Obj.cells #[Value.int .i64 2, Value.bool n, Value.slice a xs.length c, Value.bool m, Value.slice b ys.length d, Value.string nm, Value.int .i64 p, Value.int .i64 q, Value.slice x k ck] 37)).heap.size := hlt Xa.out
    go_enter Tryz.func23, Tryz.ntmps23
    go_wp2_with fail
    generalize (w.alloc (Obj.cells #[Value.int .i64 2, Value.bool n, Value.slice a xs.length c, Value.bool m, Value.slice b ys.length d, Value.string nm, Value.int .i64 p, Value.int .i64 q, Value.slice x k ck] 37)) = w1 at *
    refine (noneS n xs m ys a c b d _ (S1.out.below HB.out) (S2.out.below HB.out)).mono ?_
    rintro e w2 ⟨rfl, hb⟩
    have yw2 := hb.size
    clear ka0 fa0 ka1 fa1 ka2 fa2 ka3 fa3 ka4 fa4 ka5 fa5 ka6 fa6 ka7 fa7 ka8 fa8 za
    replace Xa := hide (hbel Xa.out hb (by first | assumption | omega))
    replace HB := hide (bl_trans HB.out hb)
    clear hb
    have ka0 : w2.cell? ⟨w.heap.size, 0, none⟩ = some (Value.int .i64 2) := (Lib.cell_of_heap Xa.out 0).trans rfl
    have fa0 : w2.frozen? ⟨w.heap.size, 0, none⟩ = false := Lib.frozen_of_heap Xa.out 0
    have ka1 : w2.cell? ⟨w.heap.size, 1, none⟩ = some (Value.bool n) := (Lib.cell_of_heap Xa.out 1).trans rfl
    have fa1 : w2.frozen? ⟨w.heap.size, 1, none⟩ = false := Lib.frozen_of_heap Xa.out 1
    have ka2 : w2.cell? ⟨w.heap.size, 2, none⟩ = some (Value.slice a xs.length c) := (Lib.cell_of_heap Xa.out 2).trans rfl
    have fa2 : w2.frozen? ⟨w.heap.size, 2, none⟩ = false := Lib.frozen_of_heap Xa.out 2
    have ka3 : w2.cell? ⟨w.heap.size, 3, none⟩ = some (Value.bool m) := (Lib.cell_of_heap Xa.out 3).trans rfl
    have fa3 : w2.frozen? ⟨w.heap.size, 3, none⟩ = false := Lib.frozen_of_heap Xa.out 3
    have ka4 : w2.cell? ⟨w.heap.size, 4, none⟩ = some (Value.slice b ys.length d) := (Lib.cell_of_heap Xa.out 4).trans rfl
    have fa4 : w2.frozen? ⟨w.heap.size, 4, none⟩ = false := Lib.frozen_of_heap Xa.out 4
    have ka5 : w2.cell? ⟨w.heap.size, 5, none⟩ = some (Value.string nm) := (Lib.cell_of_heap Xa.out 5).trans rfl
    have fa5 : w2.frozen? ⟨w.heap.size, 5, none⟩ = false := Lib.frozen_of_heap Xa.out 5
    have ka6 : w2.cell? ⟨w.heap.size, 6, none⟩ = some (Value.int .i64 p) := (Lib.cell_of_heap Xa.out 6).trans rfl
    have fa6 : w2.frozen? ⟨w.heap.size, 6, none⟩ = false := Lib.frozen_of_heap Xa.out 6
    have ka7 : w2.cell? ⟨w.heap.size, 7, none⟩ = some (Value.int .i64 q) := (Lib.cell_of_heap Xa.out 7).trans rfl
    have fa7 : w2.frozen? ⟨w.heap.size, 7, none⟩ = false := Lib.frozen_of_heap Xa.out 7
    have ka8 : w2.cell? ⟨w.heap.size, 8, none⟩ = some (Value.slice x k ck) := (Lib.cell_of_heap Xa.out 8).trans rfl
    have fa8 : w2.frozen? ⟨w.heap.size, 8, none⟩ = false := Lib.frozen_of_heap Xa.out 8
    have za : w.heap.size < w2.heap.size := hlt Xa.out
    cases hb : blankB n xs m ys with
    | false =>
      have Hb := hide hb
      clear hb
      go_wp2
      go_ret
      exact ⟨ret_bool (by rw [HO.out, Hb.out]; first | rfl | simp), HB.out⟩
    | true =>
      have Hb := hide hb
      clear hb
      cases hn : nm.toList.isEmpty with
      | false =>
        have Hn := hide hn
        go_wp2
        go_ret
        exact ⟨ret_bool (by rw [HO.out, Hb.out, Hn.out]; first | rfl | simp), HB.out⟩
      | true =>
        have Hn := hide hn
        go_wp2
        go_ret
        exact ⟨ret_bool (by rw [HO.out, Hb.out, Hn.out, HFF.out]; first | rfl | simp), HB.out⟩
  · have hp2 : (p == 0) = false := by rw [beq_eq_false_iff_ne]; exact hp
    have hq2 : (q == 0) = false := by rw [beq_eq_false_iff_ne]; exact hq
    have HFF : Hid (F = false) := hide (by rw [← HF.out, decide_eq_false hp, decide_eq_false hq]; rfl)
    clear hp hq
    have Xa : Hid ((w.alloc (Obj.cells #[Value.int .i64 2, Value.bool n, Value.slice a xs.length c, Value.bool m, Value.slice b ys.length d, Value.string nm, Value.int .i64 p, Value.int .i64 q, Value.slice x k ck] 37)).heap[w.heap.size]? = some (.cells #[Value.int .i64 2, Value.bool n, Value.slice a xs.length c, Value.bool m, Value.slice b ys.length d, Value.string nm, Value.int .i64 p, Value.int .i64 q, Value.slice x k ck] 37 (0, 0))) := hide (by simpa only [World.size_alloc] using (hnew w (Obj.cells #[Value.int .i64 2, Value.bool n, Value.slice a xs.length c, Value.bool m, Value.slice b ys.length d, Value.string nm, Value.int .i64 p, Value.int .i64 q, Value.slice x k ck] 37)))
    have HB : Hid (Below w.heap.size w (w.alloc (Obj.cells #[Value.int .i64 2, Value.bool n, Value.slice a xs.length c, Value.bool m, Value.slice b ys.length d, Value.string nm, Value.int .i64 p, Value.int .i64 q, Value.slice x k ck] 37))) := hide (bl_alloc (bl_refl w) (Obj.cells #[Value.int .i64 2, Value.bool n, Value.slice a xs.length c, Value.bool m, Value.slice b ys.length d, Value.string nm, Value.int .i64 p, Value.int .i64 q, Value.slice x k ck] 37))
    have yw1 : w.heap.size + 1 ≤ (w.alloc (Obj.cells #[Value.int .i64 2, Value.bool n, Value.slice a xs.length c, Value.bool m, Value.slice b ys.length d, Value.string nm, Value.int .i64 p, Value.int .i64 q, Value.slice x k ck] 37)).heap.size := by simp only [World.size_alloc]; omega
    have ka0 : (w.alloc (Obj.cells #[Value.int .i64 2, Value.bool n, Value.slice a xs.length c, Value.bool m, Value.slice b ys.length d, Value.string nm, Value.int .i64 p, Value.int .i64 q, Value.slice x k ck] 37)).cell? ⟨w.heap.size, 0, none⟩ = some (Value.int .i64 2) := (Lib.cell_of_heap Xa.out 0).trans rfl
    have fa0 : (w.alloc (Obj.cells #[Value.int .i64 2, Value.bool n, Value.slice a xs.length c, Value.bool m, Value.slice b ys.length d, Value.string nm, Value.int .i64 p, Value.int .i64 q, Value.slice x k ck] 37)).frozen? ⟨w.heap.size, 0, none⟩ = false := Lib.frozen_of_heap Xa.out 0
    have ka1 : (w.alloc (Obj.cells #[Value.int .i64 2, Value.bool n, Value.slice a xs.length c, Value.bool m, Value.slice b ys.length d, Value.string nm, Value.int .i64 p, Value.int .i64 q, Value.slice x k ck] 37)).cell? ⟨w.heap.size, 1, none⟩ = some (Value.bool n) := (Lib.cell_of_heap Xa.out 1).trans rfl
    have fa1 : (w.alloc (Obj.cells #[Value.int .i64 2, Value.bool n, Value.slice a xs.length c, Value.bool m, Value.slice b ys.length d, Value.string nm, Value.int .i64 p, Value.int .i64 q, Value.slice x k ck] 37)).frozen? ⟨w.heap.size, 1, none⟩ = false := Lib.frozen_of_heap Xa.out 1
    have ka2 : (w.alloc (Obj.cells #[Value.int .i64 2, Value.bool n, Value.slice a xs.length c, Value.bool m, Value.slice b ys.length d, Value.string nm, Value.int .i64 p, Value.int .i64 q, Value.slice x k ck] 37)).cell? ⟨w.heap.size, 2, none⟩ = some (Value.slice a xs.length c) := (Lib.cell_of_heap Xa.out 2).trans rfl
    have fa2 : (w.alloc (Obj.cells #[Value.int .i64 2, Value.bool n, Value.slice a xs.length c, Value.bool m, Value.slice b ys.length d, Value.string nm, Value.int .i64 p, Value.int .i64 q, Value.slice x k ck] 37)).frozen? ⟨w.heap.size, 2, none⟩ = false := Lib.frozen_of_heap Xa.out 2
    have ka3 : (w.alloc (Obj.cells #[Value.int .i64 2, Value.bool n, Value.slice a xs.length c, Value.bool m, Value.slice b ys.length d, Value.string nm, Value.int .i64 p, Value.int .i64 q, Value.slice x k ck] 37)).cell? ⟨w.heap.size, 3, none⟩ = some (Value.bool m) := (Lib.cell_of_heap Xa.out 3).trans rfl
    have fa3 : (w.alloc (Obj.cells #[Value.int .i64 2, Value.bool n, Value.slice a xs.length c, Value.bool m, Value.slice b ys.length d, Value.string nm, Value.int .i64 p, Value.int .i64 q, Value.slice x k ck] 37)).frozen? ⟨w.heap.size, 3, none⟩ = false := Lib.frozen_of_heap Xa.out 3
    have ka4 : (w.alloc (Obj.cells #[Value.int .i64 2, Value.bool n, Value.slice a xs.length c, Value.bool m, Value.slice b ys.length d, Value.string nm, Value.int .i64 p, Value.int .i64 q, Value.slice x k ck] 37)).cell? ⟨w.heap.size, 4, none⟩ = some (Value.slice b ys.length d) := (Lib.cell_of_heap Xa.out 4).trans rfl
    have fa4 : (w.alloc (Obj.cells #[Value.int .i64 2, Value.bool n, Value.slice a xs.length c, Value.bool m, Value.slice b ys.length d, Value.string nm, Value.int .i64 p, Value.int .i64 q, Value.slice x k ck] 37)).frozen? ⟨w.heap.size, 4, none⟩ = false := Lib.frozen_of_heap Xa.out 4
    have ka5 : (w.alloc (Obj.cells #[Value.int .i64 2, Value.bool n, Value.slice a xs.length c, Value.bool m, Value.slice b ys.length d, Value.string nm, Value.int .i64 p, Value.int .i64 q, Value.slice x k ck] 37)).cell? ⟨w.heap.size, 5, none⟩ = some (Value.string nm) := (Lib.cell_of_heap Xa.out 5).trans rfl
    have fa5 : (w.alloc (Obj.cells #[Value.int .i64 2, Value.bool n, Value.slice a xs.length c, Value.bool m, Value.slice b ys.length d, Value.string nm, Value.int .i64 p, Value.int .i64 q, Value.slice x k ck] 37)).frozen? ⟨w.heap.size, 5, none⟩ = false := Lib.frozen_of_heap Xa.out 5
    have ka6 : (w.alloc (Obj.cells #[Value.int .i64 2, Value.bool n, Value.slice a xs.length c, Value.bool m, Value.slice b ys.length d, Value.string nm, Value.int .i64 p, Value.int .i64 q, Value.slice x k ck] 37)).cell? ⟨w.heap.size, 6, none⟩ = some (Value.int .i64 p) := (Lib.cell_of_heap Xa.out 6).trans rfl
    have fa6 : (w.alloc (Obj.cells #[Value.int .i64 2, Value.bool n, Value.slice a xs.length c, Value.bool m, Value.slice b ys.length d, Value.string nm, Value.int .i64 p, Value.int .i64 q, Value.slice x k ck] 37)).frozen? ⟨w.heap.size, 6, none⟩ = false := Lib.frozen_of_heap Xa.out 6
    have ka7 : (w.alloc (Obj.cells #[Value.int .i64 2, Value.bool n, Value.slice a xs.length c, Value.bool m, Value.slice b ys.length d, Value.string nm, Value.int .i64 p, Value.int .i64 q, Value.slice x k ck] 37)).cell? ⟨w.heap.size, 7, none⟩ = some (Value.int .i64 q) := (Lib.cell_of_heap Xa.out 7).trans rfl
    have fa7 : (w.alloc (Obj.cells #[Value.int .i64 2, Value.bool n, Value.slice a xs.length c, Value.bool m, Value.slice b ys.length d, Value.string nm, Value.int .i64 p, Value.int .i64 q, Value.slice x k ck] 37)).frozen? ⟨w.heap.size, 7, none⟩ = false := Lib.frozen_of_heap Xa.out 7
    have ka8 : (w.alloc (Obj.cells #[Value.int .i64 2, Value.bool n, Value.slice a xs.length c, Value.bool m, Value.slice b ys.length d, Value.string nm, Value.int .i64 p, Value.int .i64 q, Value.slice x k ck] 37)).cell? ⟨w.heap.size, 8, none⟩ = some (Value.slice x k ck) := (Lib.cell_of_heap Xa.out 8).trans rfl
    have fa8 : (w.alloc (Obj.cells #[Value.int .i64 2, Value.bool n, Value.slice a xs.length c, Value.bool m, Value.slice b ys.length d, Value.string nm, Value.int .i64 p, Value.int .i64 q, Value.slice x k ck] 37)).frozen? ⟨w.heap.size, 8, none⟩ = false := Lib.frozen_of_heap Xa.out 8
    have za : w.heap.size < (w.alloc (Obj.cells #[Value.int .i64 2, Value.bool n, Value.slice a xs.length c, Value.bool m, Value.slice b ys.length d, Value.string nm, Value.int .i64 p, Value.int .i64 q, Value.slice x k ck] 37)).heap.size := hlt Xa.out
    go_enter Tryz.func23, Tryz.ntmps23
    go_wp2_with fail
    generalize (w.alloc (Obj.cells #[Value.int .i64 2, Value.bool n, Value.slice a xs.length c, Value.bool m, Value.slice b ys.length d, Value.string nm, Value.int .i64 p, Value.int .i64 q, Value.slice x k ck] 37)) = w1 at *
    refine (noneS n xs m ys a c b d _ (S1.out.below HB.out) (S2.out.below HB.out)).mono ?_
    rintro e w2 ⟨rfl, hb⟩
    have yw2 := hb.size
    clear ka0 fa0 ka1 fa1 ka2 fa2 ka3 fa3 ka4 fa4 ka5 fa5 ka6 fa6 ka7 fa7 ka8 fa8 za
    replace Xa := hide (hbel Xa.out hb (by first | assumption | omega))
    replace HB := hide (bl_trans HB.out hb)
    clear hb
    have ka0 : w2.cell? ⟨w.heap.size, 0, none⟩ = some (Value.int .i64 2) := (Lib.cell_of_heap Xa.out 0).trans rfl
    have fa0 : w2.frozen? ⟨w.heap.size, 0, none⟩ = false := Lib.frozen_of_heap Xa.out 0
    have ka1 : w2.cell? ⟨w.heap.size, 1, none⟩ = some (Value.bool n) := (Lib.cell_of_heap Xa.out 1).trans rfl
    have fa1 : w2.frozen? ⟨w.heap.size, 1, none⟩ = false := Lib.frozen_of_heap Xa.out 1
    have ka2 : w2.cell? ⟨w.heap.size, 2, none⟩ = some (Value.slice a xs.length c) := (Lib.cell_of_heap Xa.out 2).trans rfl
    have fa2 : w2.frozen? ⟨w.heap.size, 2, none⟩ = false := Lib.frozen_of_heap Xa.out 2
    have ka3 : w2.cell? ⟨w.heap.size, 3, none⟩ = some (Value.bool m) := (Lib.cell_of_heap Xa.out 3).trans rfl
    have fa3 : w2.frozen? ⟨w.heap.size, 3, none⟩ = false := Lib.frozen_of_heap Xa.out 3
    have ka4 : w2.cell? ⟨w.heap.size, 4, none⟩ = some (Value.slice b ys.length d) := (Lib.cell_of_heap Xa.out 4).trans rfl
    have fa4 : w2.frozen? ⟨w.heap.size, 4, none⟩ = false := Lib.frozen_of_heap Xa.out 4
    have ka5 : w2.cell? ⟨w.heap.size, 5, none⟩ = some (Value.string nm) := (Lib.cell_of_heap Xa.out 5).trans rfl
    have fa5 : w2.frozen? ⟨w.heap.size, 5, none⟩ = false := Lib.frozen_of_heap Xa.out 5
    have ka6 : w2.cell? ⟨w.heap.size, 6, none⟩ = some (Value.int .i64 p) := (Lib.cell_of_heap Xa.out 6).trans rfl
    have fa6 : w2.frozen? ⟨w.heap.size, 6, none⟩ = false := Lib.frozen_of_heap Xa.out 6
    have ka7 : w2.cell? ⟨w.heap.size, 7, none⟩ = some (Value.int .i64 q) := (Lib.cell_of_heap Xa.out 7).trans rfl
    have fa7 : w2.frozen? ⟨w.heap.size, 7, none⟩ = false := Lib.frozen_of_heap Xa.out 7
    have ka8 : w2.cell? ⟨w.heap.size, 8, none⟩ = some (Value.slice x k ck) := (Lib.cell_of_heap Xa.out 8).trans rfl
    have fa8 : w2.frozen? ⟨w.heap.size, 8, none⟩ = false := Lib.frozen_of_heap Xa.out 8
    have za : w.heap.size < w2.heap.size := hlt Xa.out
    cases hb : blankB n xs m ys with
    | false =>
      have Hb := hide hb
      clear hb
      go_wp2
      go_ret
      exact ⟨ret_bool (by rw [HO.out, Hb.out]; first | rfl | simp), HB.out⟩
    | true =>
      have Hb := hide hb
      clear hb
      cases hn : nm.toList.isEmpty with
      | false =>
        have Hn := hide hn
        go_wp2
        go_ret
        exact ⟨ret_bool (by rw [HO.out, Hb.out, Hn.out]; first | rfl | simp), HB.out⟩
      | true =>
        have Hn := hide hn
        go_wp2
        go_ret
        exact ⟨ret_bool (by rw [HO.out, Hb.out, Hn.out, HFF.out]; first | rfl | simp), HB.out⟩

set_option maxHeartbeats 4000000 in
set_option maxRecDepth 20000 in
theorem ownS3 (n : Bool) (xs : List Nat) (m : Bool) (ys : List Nat) (nm : ByteArray) (p q : Int) (k : Nat) (a : Option Addr) (c : Nat) (b : Option Addr) (d : Nat) (x : Option Addr) (ck : Nat) (w : World) (s1 : Seg w a xs.length c xs) (s2 : Seg w b ys.length d ys) (hk : k ≤ 9223372036854775807) (hnm : nm.size ≤ 140737488355328) :
    Calls Tryz.prog 23 #[Value.agg #[Value.int .i64 3, Value.bool n, Value.slice a xs.length c, Value.bool m, Value.slice b ys.length d, Value.string nm, Value.int .i64 p, Value.int .i64 q, Value.slice x k ck]] w fun e w' => e = .returned (.bool (ownB 3 n xs m ys nm p q k)) ∧ Below w.heap.size w w' := by
  have q1 := s1.le
  have q2 := s2.le
  have sm := hide s1.2.2.2.1
  have S1 := hide s1
  have S2 := hide s2
  clear s1 s2
  obtain ⟨F, hF⟩ : ∃ F, (decide (p = 0) && decide (q = 0)) = F := ⟨_, rfl⟩
  have HF := hide hF
  have HO : Hid (ownB 3 n xs m ys nm p q k = (blankB n xs m ys && (nm.toList.isEmpty && (F && decide (k = 2))))) := hide (by rw [← hF]; exact own_3 ..)
  clear hF
  by_cases hp : p = 0
  all_goals by_cases hq : q = 0
  · have hp2 : (p == 0) = true := by rw [beq_iff_eq]; exact hp
    have hq2 : (q == 0) = true := by rw [beq_iff_eq]; exact hq
    have HFF : Hid (F = true) := hide (by rw [← HF.out, decide_eq_true hp, decide_eq_true hq]; rfl)
    clear hp hq
    have Xa : Hid ((w.alloc (Obj.cells #[Value.int .i64 3, Value.bool n, Value.slice a xs.length c, Value.bool m, Value.slice b ys.length d, Value.string nm, Value.int .i64 p, Value.int .i64 q, Value.slice x k ck] 37)).heap[w.heap.size]? = some (.cells #[Value.int .i64 3, Value.bool n, Value.slice a xs.length c, Value.bool m, Value.slice b ys.length d, Value.string nm, Value.int .i64 p, Value.int .i64 q, Value.slice x k ck] 37 (0, 0))) := hide (by simpa only [World.size_alloc] using (hnew w (Obj.cells #[Value.int .i64 3, Value.bool n, Value.slice a xs.length c, Value.bool m, Value.slice b ys.length d, Value.string nm, Value.int .i64 p, Value.int .i64 q, Value.slice x k ck] 37)))
    have HB : Hid (Below w.heap.size w (w.alloc (Obj.cells #[Value.int .i64 3, Value.bool n, Value.slice a xs.length c, Value.bool m, Value.slice b ys.length d, Value.string nm, Value.int .i64 p, Value.int .i64 q, Value.slice x k ck] 37))) := hide (bl_alloc (bl_refl w) (Obj.cells #[Value.int .i64 3, Value.bool n, Value.slice a xs.length c, Value.bool m, Value.slice b ys.length d, Value.string nm, Value.int .i64 p, Value.int .i64 q, Value.slice x k ck] 37))
    have yw1 : w.heap.size + 1 ≤ (w.alloc (Obj.cells #[Value.int .i64 3, Value.bool n, Value.slice a xs.length c, Value.bool m, Value.slice b ys.length d, Value.string nm, Value.int .i64 p, Value.int .i64 q, Value.slice x k ck] 37)).heap.size := by simp only [World.size_alloc]; omega
    have ka0 : (w.alloc (Obj.cells #[Value.int .i64 3, Value.bool n, Value.slice a xs.length c, Value.bool m, Value.slice b ys.length d, Value.string nm, Value.int .i64 p, Value.int .i64 q, Value.slice x k ck] 37)).cell? ⟨w.heap.size, 0, none⟩ = some (Value.int .i64 3) := (Lib.cell_of_heap Xa.out 0).trans rfl
    have fa0 : (w.alloc (Obj.cells #[Value.int .i64 3, Value.bool n, Value.slice a xs.length c, Value.bool m, Value.slice b ys.length d, Value.string nm, Value.int .i64 p, Value.int .i64 q, Value.slice x k ck] 37)).frozen? ⟨w.heap.size, 0, none⟩ = false := Lib.frozen_of_heap Xa.out 0
    have ka1 : (w.alloc (Obj.cells #[Value.int .i64 3, Value.bool n, Value.slice a xs.length c, Value.bool m, Value.slice b ys.length d, Value.string nm, Value.int .i64 p, Value.int .i64 q, Value.slice x k ck] 37)).cell? ⟨w.heap.size, 1, none⟩ = some (Value.bool n) := (Lib.cell_of_heap Xa.out 1).trans rfl
    have fa1 : (w.alloc (Obj.cells #[Value.int .i64 3, Value.bool n, Value.slice a xs.length c, Value.bool m, Value.slice b ys.length d, Value.string nm, Value.int .i64 p, Value.int .i64 q, Value.slice x k ck] 37)).frozen? ⟨w.heap.size, 1, none⟩ = false := Lib.frozen_of_heap Xa.out 1
    have ka2 : (w.alloc (Obj.cells #[Value.int .i64 3, Value.bool n, Value.slice a xs.length c, Value.bool m, Value.slice b ys.length d, Value.string nm, Value.int .i64 p, Value.int .i64 q, Value.slice x k ck] 37)).cell? ⟨w.heap.size, 2, none⟩ = some (Value.slice a xs.length c) := (Lib.cell_of_heap Xa.out 2).trans rfl
    have fa2 : (w.alloc (Obj.cells #[Value.int .i64 3, Value.bool n, Value.slice a xs.length c, Value.bool m, Value.slice b ys.length d, Value.string nm, Value.int .i64 p, Value.int .i64 q, Value.slice x k ck] 37)).frozen? ⟨w.heap.size, 2, none⟩ = false := Lib.frozen_of_heap Xa.out 2
    have ka3 : (w.alloc (Obj.cells #[Value.int .i64 3, Value.bool n, Value.slice a xs.length c, Value.bool m, Value.slice b ys.length d, Value.string nm, Value.int .i64 p, Value.int .i64 q, Value.slice x k ck] 37)).cell? ⟨w.heap.size, 3, none⟩ = some (Value.bool m) := (Lib.cell_of_heap Xa.out 3).trans rfl
    have fa3 : (w.alloc (Obj.cells #[Value.int .i64 3, Value.bool n, Value.slice a xs.length c, Value.bool m, Value.slice b ys.length d, Value.string nm, Value.int .i64 p, Value.int .i64 q, Value.slice x k ck] 37)).frozen? ⟨w.heap.size, 3, none⟩ = false := Lib.frozen_of_heap Xa.out 3
    have ka4 : (w.alloc (Obj.cells #[Value.int .i64 3, Value.bool n, Value.slice a xs.length c, Value.bool m, Value.slice b ys.length d, Value.string nm, Value.int .i64 p, Value.int .i64 q, Value.slice x k ck] 37)).cell? ⟨w.heap.size, 4, none⟩ = some (Value.slice b ys.length d) := (Lib.cell_of_heap Xa.out 4).trans rfl
    have fa4 : (w.alloc (Obj.cells #[Value.int .i64 3, Value.bool n, Value.slice a xs.length c, Value.bool m, Value.slice b ys.length d, Value.string nm, Value.int .i64 p, Value.int .i64 q, Value.slice x k ck] 37)).frozen? ⟨w.heap.size, 4, none⟩ = false := Lib.frozen_of_heap Xa.out 4
    have ka5 : (w.alloc (Obj.cells #[Value.int .i64 3, Value.bool n, Value.slice a xs.length c, Value.bool m, Value.slice b ys.length d, Value.string nm, Value.int .i64 p, Value.int .i64 q, Value.slice x k ck] 37)).cell? ⟨w.heap.size, 5, none⟩ = some (Value.string nm) := (Lib.cell_of_heap Xa.out 5).trans rfl
    have fa5 : (w.alloc (Obj.cells #[Value.int .i64 3, Value.bool n, Value.slice a xs.length c, Value.bool m, Value.slice b ys.length d, Value.string nm, Value.int .i64 p, Value.int .i64 q, Value.slice x k ck] 37)).frozen? ⟨w.heap.size, 5, none⟩ = false := Lib.frozen_of_heap Xa.out 5
    have ka6 : (w.alloc (Obj.cells #[Value.int .i64 3, Value.bool n, Value.slice a xs.length c, Value.bool m, Value.slice b ys.length d, Value.string nm, Value.int .i64 p, Value.int .i64 q, Value.slice x k ck] 37)).cell? ⟨w.heap.size, 6, none⟩ = some (Value.int .i64 p) := (Lib.cell_of_heap Xa.out 6).trans rfl
    have fa6 : (w.alloc (Obj.cells #[Value.int .i64 3, Value.bool n, Value.slice a xs.length c, Value.bool m, Value.slice b ys.length d, Value.string nm, Value.int .i64 p, Value.int .i64 q, Value.slice x k ck] 37)).frozen? ⟨w.heap.size, 6, none⟩ = false := Lib.frozen_of_heap Xa.out 6
    have ka7 : (w.alloc (Obj.cells #[Value.int .i64 3, Value.bool n, Value.slice a xs.length c, Value.bool m, Value.slice b ys.length d, Value.string nm, Value.int .i64 p, Value.int .i64 q, Value.slice x k ck] 37)).cell? ⟨w.heap.size, 7, none⟩ = some (Value.int .i64 q) := (Lib.cell_of_heap Xa.out 7).trans rfl
    have fa7 : (w.alloc (Obj.cells #[Value.int .i64 3, Value.bool n, Value.slice a xs.length c, Value.bool m, Value.slice b ys.length d, Value.string nm, Value.int .i64 p, Value.int .i64 q, Value.slice x k ck] 37)).frozen? ⟨w.heap.size, 7, none⟩ = false := Lib.frozen_of_heap Xa.out 7
    have ka8 : (w.alloc (Obj.cells #[Value.int .i64 3, Value.bool n, Value.slice a xs.length c, Value.bool m, Value.slice b ys.length d, Value.string nm, Value.int .i64 p, Value.int .i64 q, Value.slice x k ck] 37)).cell? ⟨w.heap.size, 8, none⟩ = some (Value.slice x k ck) := (Lib.cell_of_heap Xa.out 8).trans rfl
    have fa8 : (w.alloc (Obj.cells #[Value.int .i64 3, Value.bool n, Value.slice a xs.length c, Value.bool m, Value.slice b ys.length d, Value.string nm, Value.int .i64 p, Value.int .i64 q, Value.slice x k ck] 37)).frozen? ⟨w.heap.size, 8, none⟩ = false := Lib.frozen_of_heap Xa.out 8
    have za : w.heap.size < (w.alloc (Obj.cells #[Value.int .i64 3, Value.bool n, Value.slice a xs.length c, Value.bool m, Value.slice b ys.length d, Value.string nm, Value.int .i64 p, Value.int .i64 q, Value.slice x k ck] 37)).heap.size := hlt Xa.out
    go_enter Tryz.func23, Tryz.ntmps23
    go_wp2_with fail
    generalize (w.alloc (Obj.cells #[Value.int .i64 3, Value.bool n, Value.slice a xs.length c, Value.bool m, Value.slice b ys.length d, Value.string nm, Value.int .i64 p, Value.int .i64 q, Value.slice x k ck] 37)) = w1 at *
    refine (noneS n xs m ys a c b d _ (S1.out.below HB.out) (S2.out.below HB.out)).mono ?_
    rintro e w2 ⟨rfl, hb⟩
    have yw2 := hb.size
    clear ka0 fa0 ka1 fa1 ka2 fa2 ka3 fa3 ka4 fa4 ka5 fa5 ka6 fa6 ka7 fa7 ka8 fa8 za
    replace Xa := hide (hbel Xa.out hb (by first | assumption | omega))
    replace HB := hide (bl_trans HB.out hb)
    clear hb
    have ka0 : w2.cell? ⟨w.heap.size, 0, none⟩ = some (Value.int .i64 3) := (Lib.cell_of_heap Xa.out 0).trans rfl
    have fa0 : w2.frozen? ⟨w.heap.size, 0, none⟩ = false := Lib.frozen_of_heap Xa.out 0
    have ka1 : w2.cell? ⟨w.heap.size, 1, none⟩ = some (Value.bool n) := (Lib.cell_of_heap Xa.out 1).trans rfl
    have fa1 : w2.frozen? ⟨w.heap.size, 1, none⟩ = false := Lib.frozen_of_heap Xa.out 1
    have ka2 : w2.cell? ⟨w.heap.size, 2, none⟩ = some (Value.slice a xs.length c) := (Lib.cell_of_heap Xa.out 2).trans rfl
    have fa2 : w2.frozen? ⟨w.heap.size, 2, none⟩ = false := Lib.frozen_of_heap Xa.out 2
    have ka3 : w2.cell? ⟨w.heap.size, 3, none⟩ = some (Value.bool m) := (Lib.cell_of_heap Xa.out 3).trans rfl
    have fa3 : w2.frozen? ⟨w.heap.size, 3, none⟩ = false := Lib.frozen_of_heap Xa.out 3
    have ka4 : w2.cell? ⟨w.heap.size, 4, none⟩ = some (Value.slice b ys.length d) := (Lib.cell_of_heap Xa.out 4).trans rfl
    have fa4 : w2.frozen? ⟨w.heap.size, 4, none⟩ = false := Lib.frozen_of_heap Xa.out 4
    have ka5 : w2.cell? ⟨w.heap.size, 5, none⟩ = some (Value.string nm) := (Lib.cell_of_heap Xa.out 5).trans rfl
    have fa5 : w2.frozen? ⟨w.heap.size, 5, none⟩ = false := Lib.frozen_of_heap Xa.out 5
    have ka6 : w2.cell? ⟨w.heap.size, 6, none⟩ = some (Value.int .i64 p) := (Lib.cell_of_heap Xa.out 6).trans rfl
    have fa6 : w2.frozen? ⟨w.heap.size, 6, none⟩ = false := Lib.frozen_of_heap Xa.out 6
    have ka7 : w2.cell? ⟨w.heap.size, 7, none⟩ = some (Value.int .i64 q) := (Lib.cell_of_heap Xa.out 7).trans rfl
    have fa7 : w2.frozen? ⟨w.heap.size, 7, none⟩ = false := Lib.frozen_of_heap Xa.out 7
    have ka8 : w2.cell? ⟨w.heap.size, 8, none⟩ = some (Value.slice x k ck) := (Lib.cell_of_heap Xa.out 8).trans rfl
    have fa8 : w2.frozen? ⟨w.heap.size, 8, none⟩ = false := Lib.frozen_of_heap Xa.out 8
    have za : w.heap.size < w2.heap.size := hlt Xa.out
    cases hb : blankB n xs m ys with
    | false =>
      have Hb := hide hb
      clear hb
      go_wp2
      go_ret
      exact ⟨ret_bool (by rw [HO.out, Hb.out]; first | rfl | simp), HB.out⟩
    | true =>
      have Hb := hide hb
      clear hb
      cases hn : nm.toList.isEmpty with
      | false =>
        have Hn := hide hn
        go_wp2
        go_ret
        exact ⟨ret_bool (by rw [HO.out, Hb.out, Hn.out]; first | rfl | simp), HB.out⟩
      | true =>
        have Hn := hide hn
        by_cases hl : k = 2
        case neg =>
          have HL : Hid (decide (k = 2) = false) := hide (decide_eq_false hl)
          have hl2 : ((k : Int) == 2) = false := by rw [beq_eq_false_iff_ne]; omega
          clear hl
          go_wp2
          go_ret
          exact ⟨ret_bool (by rw [HO.out, Hb.out, Hn.out, HFF.out, HL.out]; first | rfl | simp), HB.out⟩
        have HL : Hid (decide (k = 2) = true) := hide (decide_eq_true hl)
        have hl2 : ((k : Int) == 2) = true := by rw [beq_iff_eq]; omega
        clear hl
        go_wp2
        go_ret
        exact ⟨ret_bool (by rw [HO.out, Hb.out, Hn.out, HFF.out, HL.out]; first | rfl | simp), HB.out⟩
  · have hp2 : (p == 0) = true := by rw [beq_iff_eq]; exact hp
    have hq2 : (q == 0) = false := by rw [beq_eq_false_iff_ne]; exact hq
    have HFF : Hid (F = false) := hide (by rw [← HF.out, decide_eq_true hp, decide_eq_false hq]; rfl)
    clear hp hq
    have Xa : Hid ((w.alloc (Obj.cells #[Value.int .i64 3, Value.bool n, Value.slice a xs.length c, Value.bool m, Value.slice b ys.length d, Value.string nm, Value.int .i64 p, Value.int .i64 q, Value.slice x k ck] 37)).heap[w.heap.size]? = some (.cells #[Value.int .i64 3, Value.bool n, Value.slice a xs.length c, Value.bool m, Value.slice b ys.length d, Value.string nm, Value.int .i64 p, Value.int .i64 q, Value.slice x k ck] 37 (0, 0))) := hide (by simpa only [World.size_alloc] using (hnew w (Obj.cells #[Value.int .i64 3, Value.bool n, Value.slice a xs.length c, Value.bool m, Value.slice b ys.length d, Value.string nm, Value.int .i64 p, Value.int .i64 q, Value.slice x k ck] 37)))
    have HB : Hid (Below w.heap.size w (w.alloc (Obj.cells #[Value.int .i64 3, Value.bool n, Value.slice a xs.length c, Value.bool m, Value.slice b ys.length d, Value.string nm, Value.int .i64 p, Value.int .i64 q, Value.slice x k ck] 37))) := hide (bl_alloc (bl_refl w) (Obj.cells #[Value.int .i64 3, Value.bool n, Value.slice a xs.length c, Value.bool m, Value.slice b ys.length d, Value.string nm, Value.int .i64 p, Value.int .i64 q, Value.slice x k ck] 37))
    have yw1 : w.heap.size + 1 ≤ (w.alloc (Obj.cells #[Value.int .i64 3, Value.bool n, Value.slice a xs.length c, Value.bool m, Value.slice b ys.length d, Value.string nm, Value.int .i64 p, Value.int .i64 q, Value.slice x k ck] 37)).heap.size := by simp only [World.size_alloc]; omega
    have ka0 : (w.alloc (Obj.cells #[Value.int .i64 3, Value.bool n, Value.slice a xs.length c, Value.bool m, Value.slice b ys.length d, Value.string nm, Value.int .i64 p, Value.int .i64 q, Value.slice x k ck] 37)).cell? ⟨w.heap.size, 0, none⟩ = some (Value.int .i64 3) := (Lib.cell_of_heap Xa.out 0).trans rfl
    have fa0 : (w.alloc (Obj.cells #[Value.int .i64 3, Value.bool n, Value.slice a xs.length c, Value.bool m, Value.slice b ys.length d, Value.string nm, Value.int .i64 p, Value.int .i64 q, Value.slice x k ck] 37)).frozen? ⟨w.heap.size, 0, none⟩ = false := Lib.frozen_of_heap Xa.out 0
    have ka1 : (w.alloc (Obj.cells #[Value.int .i64 3, Value.bool n, Value.slice a xs.length c, Value.bool m, Value.slice b ys.length d, Value.string nm, Value.int .i64 p, Value.int .i64 q, Value.slice x k ck] 37)).cell? ⟨w.heap.size, 1, none⟩ = some (Value.bool n) := (Lib.cell_of_heap Xa.out 1).trans rfl
    have fa1 : (w.alloc (Obj.cells #[Value.int .i64 3, Value.bool n, Value.slice a xs.length c, Value.bool m, Value.slice b ys.length d, Value.string nm, Value.int .i64 p, Value.int .i64 q, Value.slice x k ck] 37)).frozen? ⟨w.heap.size, 1, none⟩ = false := Lib.frozen_of_heap Xa.out 1
    have ka2 : (w.alloc (Obj.cells #[Value.int .i64 3, Value.bool n, Value.slice a xs.length c, Value.bool m, Value.slice b ys.length d, Value.string nm, Value.int .i64 p, Value.int .i64 q, Value.slice x k ck] 37)).cell? ⟨w.heap.size, 2, none⟩ = some (Value.slice a xs.length c) := (Lib.cell_of_heap Xa.out 2).trans rfl
    have fa2 : (w.alloc (Obj.cells #[Value.int .i64 3, Value.bool n, Value.slice a xs.length c, Value.bool m, Value.slice b ys.length d, Value.string nm, Value.int .i64 p, Value.int .i64 q, Value.slice x k ck] 37)).frozen? ⟨w.heap.size, 2, none⟩ = false := Lib.frozen_of_heap Xa.out 2
    have ka3 : (w.alloc (Obj.cells #[Value.int .i64 3, Value.bool n, Value.slice a xs.length c, Value.bool m, Value.slice b ys.length d, Value.string nm, Value.int .i64 p, Value.int .i64 q, Value.slice x k ck] 37)).cell? ⟨w.heap.size, 3, none⟩ = some (Value.bool m) := (Lib.cell_of_heap Xa.out 3).trans rfl
    have fa3 : (w.alloc (Obj.cells #[Value.int .i64 3, Value.bool n, Value.slice a xs.length c, Value.bool m, Value.slice b ys.length d, Value.string nm, Value.int .i64 p, Value.int .i64 q, Value.slice x k ck] 37)).frozen? ⟨w.heap.size, 3, none⟩ = false := Lib.frozen_of_heap Xa.out 3
    have ka4 : (w.alloc (Obj.cells #[Value.int .i64 3, Value.bool n, Value.slice a xs.length c, Value.bool m, Value.slice b ys.length d, Value.string nm, Value.int .i64 p, Value.int .i64 q, Value.slice x k ck] 37)).cell? ⟨w.heap.size, 4, none⟩ = some (Value.slice b ys.length d) := (Lib.cell_of_heap Xa.out 4).trans rfl
    have fa4 : (w.alloc (Obj.cells #[Value.int .i64 3, Value.bool n, Value.slice a xs.length c, Value.bool m, Value.slice b ys.length d, Value.string nm, Value.int .i64 p, Value.int .i64 q, Value.slice x k ck] 37)).frozen? ⟨w.heap.size, 4, none⟩ = false := Lib.frozen_of_heap Xa.out 4
    have ka5 : (w.alloc (Obj.cells #[Value.int .i64 3, Value.bool n, Value.slice a xs.length c, Value.bool m, Value.slice b ys.length d, Value.string nm, Value.int .i64 p, Value.int .i64 q, Value.slice x k ck] 37)).cell? ⟨w.heap.size, 5, none⟩ = some (Value.string nm) := (Lib.cell_of_heap Xa.out 5).trans rfl
    have fa5 : (w.alloc (Obj.cells #[Value.int .i64 3, Value.bool n, Value.slice a xs.length c, Value.bool m, Value.slice b ys.length d, Value.string nm, Value.int .i64 p, Value.int .i64 q, Value.slice x k ck] 37)).frozen? ⟨w.heap.size, 5, none⟩ = false := Lib.frozen_of_heap Xa.out 5
    have ka6 : (w.alloc (Obj.cells #[Value.int .i64 3, Value.bool n, Value.slice a xs.length c, Value.bool m, Value.slice b ys.length d, Value.string nm, Value.int .i64 p, Value.int .i64 q, Value.slice x k ck] 37)).cell? ⟨w.heap.size, 6, none⟩ = some (Value.int .i64 p) := (Lib.cell_of_heap Xa.out 6).trans rfl
    have fa6 : (w.alloc (Obj.cells #[Value.int .i64 3, Value.bool n, Value.slice a xs.length c, Value.bool m, Value.slice b ys.length d, Value.string nm, Value.int .i64 p, Value.int .i64 q, Value.slice x k ck] 37)).frozen? ⟨w.heap.size, 6, none⟩ = false := Lib.frozen_of_heap Xa.out 6
    have ka7 : (w.alloc (Obj.cells #[Value.int .i64 3, Value.bool n, Value.slice a xs.length c, Value.bool m, Value.slice b ys.length d, Value.string nm, Value.int .i64 p, Value.int .i64 q, Value.slice x k ck] 37)).cell? ⟨w.heap.size, 7, none⟩ = some (Value.int .i64 q) := (Lib.cell_of_heap Xa.out 7).trans rfl
    have fa7 : (w.alloc (Obj.cells #[Value.int .i64 3, Value.bool n, Value.slice a xs.length c, Value.bool m, Value.slice b ys.length d, Value.string nm, Value.int .i64 p, Value.int .i64 q, Value.slice x k ck] 37)).frozen? ⟨w.heap.size, 7, none⟩ = false := Lib.frozen_of_heap Xa.out 7
    have ka8 : (w.alloc (Obj.cells #[Value.int .i64 3, Value.bool n, Value.slice a xs.length c, Value.bool m, Value.slice b ys.length d, Value.string nm, Value.int .i64 p, Value.int .i64 q, Value.slice x k ck] 37)).cell? ⟨w.heap.size, 8, none⟩ = some (Value.slice x k ck) := (Lib.cell_of_heap Xa.out 8).trans rfl
    have fa8 : (w.alloc (Obj.cells #[Value.int .i64 3, Value.bool n, Value.slice a xs.length c, Value.bool m, Value.slice b ys.length d, Value.string nm, Value.int .i64 p, Value.int .i64 q, Value.slice x k ck] 37)).frozen? ⟨w.heap.size, 8, none⟩ = false := Lib.frozen_of_heap Xa.out 8
    have za : w.heap.size < (w.alloc (Obj.cells #[Value.int .i64 3, Value.bool n, Value.slice a xs.length c, Value.bool m, Value.slice b ys.length d, Value.string nm, Value.int .i64 p, Value.int .i64 q, Value.slice x k ck] 37)).heap.size := hlt Xa.out
    go_enter Tryz.func23, Tryz.ntmps23
    go_wp2_with fail
    generalize (w.alloc (Obj.cells #[Value.int .i64 3, Value.bool n, Value.slice a xs.length c, Value.bool m, Value.slice b ys.length d, Value.string nm, Value.int .i64 p, Value.int .i64 q, Value.slice x k ck] 37)) = w1 at *
    refine (noneS n xs m ys a c b d _ (S1.out.below HB.out) (S2.out.below HB.out)).mono ?_
    rintro e w2 ⟨rfl, hb⟩
    have yw2 := hb.size
    clear ka0 fa0 ka1 fa1 ka2 fa2 ka3 fa3 ka4 fa4 ka5 fa5 ka6 fa6 ka7 fa7 ka8 fa8 za
    replace Xa := hide (hbel Xa.out hb (by first | assumption | omega))
    replace HB := hide (bl_trans HB.out hb)
    clear hb
    have ka0 : w2.cell? ⟨w.heap.size, 0, none⟩ = some (Value.int .i64 3) := (Lib.cell_of_heap Xa.out 0).trans rfl
    have fa0 : w2.frozen? ⟨w.heap.size, 0, none⟩ = false := Lib.frozen_of_heap Xa.out 0
    have ka1 : w2.cell? ⟨w.heap.size, 1, none⟩ = some (Value.bool n) := (Lib.cell_of_heap Xa.out 1).trans rfl
    have fa1 : w2.frozen? ⟨w.heap.size, 1, none⟩ = false := Lib.frozen_of_heap Xa.out 1
    have ka2 : w2.cell? ⟨w.heap.size, 2, none⟩ = some (Value.slice a xs.length c) := (Lib.cell_of_heap Xa.out 2).trans rfl
    have fa2 : w2.frozen? ⟨w.heap.size, 2, none⟩ = false := Lib.frozen_of_heap Xa.out 2
    have ka3 : w2.cell? ⟨w.heap.size, 3, none⟩ = some (Value.bool m) := (Lib.cell_of_heap Xa.out 3).trans rfl
    have fa3 : w2.frozen? ⟨w.heap.size, 3, none⟩ = false := Lib.frozen_of_heap Xa.out 3
    have ka4 : w2.cell? ⟨w.heap.size, 4, none⟩ = some (Value.slice b ys.length d) := (Lib.cell_of_heap Xa.out 4).trans rfl
    have fa4 : w2.frozen? ⟨w.heap.size, 4, none⟩ = false := Lib.frozen_of_heap Xa.out 4
    have ka5 : w2.cell? ⟨w.heap.size, 5, none⟩ = some (Value.string nm) := (Lib.cell_of_heap Xa.out 5).trans rfl
    have fa5 : w2.frozen? ⟨w.heap.size, 5, none⟩ = false := Lib.frozen_of_heap Xa.out 5
    have ka6 : w2.cell? ⟨w.heap.size, 6, none⟩ = some (Value.int .i64 p) := (Lib.cell_of_heap Xa.out 6).trans rfl
    have fa6 : w2.frozen? ⟨w.heap.size, 6, none⟩ = false := Lib.frozen_of_heap Xa.out 6
    have ka7 : w2.cell? ⟨w.heap.size, 7, none⟩ = some (Value.int .i64 q) := (Lib.cell_of_heap Xa.out 7).trans rfl
    have fa7 : w2.frozen? ⟨w.heap.size, 7, none⟩ = false := Lib.frozen_of_heap Xa.out 7
    have ka8 : w2.cell? ⟨w.heap.size, 8, none⟩ = some (Value.slice x k ck) := (Lib.cell_of_heap Xa.out 8).trans rfl
    have fa8 : w2.frozen? ⟨w.heap.size, 8, none⟩ = false := Lib.frozen_of_heap Xa.out 8
    have za : w.heap.size < w2.heap.size := hlt Xa.out
    cases hb : blankB n xs m ys with
    | false =>
      have Hb := hide hb
      clear hb
      go_wp2
      go_ret
      exact ⟨ret_bool (by rw [HO.out, Hb.out]; first | rfl | simp), HB.out⟩
    | true =>
      have Hb := hide hb
      clear hb
      cases hn : nm.toList.isEmpty with
      | false =>
        have Hn := hide hn
        go_wp2
        go_ret
        exact ⟨ret_bool (by rw [HO.out, Hb.out, Hn.out]; first | rfl | simp), HB.out⟩
      | true =>
        have Hn := hide hn
        go_wp2
        go_ret
        exact ⟨ret_bool (by rw [HO.out, Hb.out, Hn.out, HFF.out]; first | rfl | simp), HB.out⟩
  · have hp2 : (p == 0) = false := by rw [beq_eq_false_iff_ne]; exact hp
    have hq2 : (q == 0) = true := by rw [beq_iff_eq]; exact hq
    have HFF : Hid (F = false) := hide (by rw [← HF.out, decide_eq_false hp, decide_eq_true hq]; rfl)
    clear hp hq
    have Xa : Hid ((w.alloc (Obj.cells #[Value.int .i64 3, Value.bool n, Value.slice a xs.length c, Value.bool m, Value.slice b ys.length d, Value.string nm, Value.int .i64 p, Value.int .i64 q, Value.slice x k ck] 37)).heap[w.heap.size]? = some (.cells #[Value.int .i64 3, Value.bool n, Value.slice a xs.length c, Value.bool m, Value.slice b ys.length d, Value.string nm, Value.int .i64 p, Value.int .i64 q, Value.slice x k ck] 37 (0, 0))) := hide (by simpa only [World.size_alloc] using (hnew w (Obj.cells #[Value.int .i64 3, Value.bool n, Value.slice a xs.length c, Value.bool m, Value.slice b ys.length d, Value.string nm, Value.int .i64 p, Value.int .i64 q, Value.slice x k ck] 37)))
    have HB : Hid (Below w.heap.size w (w.alloc (Obj.cells #[Value.int .i64 3, Value.bool n, Value.slice a xs.length c, Value.bool m, Value.slice b ys.length d, Value.string nm, Value.int .i64 p, Value.int .i64 q, Value.slice x k ck] 37))) := hide (bl_alloc (bl_refl w) (Obj.cells #[Value.int .i64 3, Value.bool n, Value.slice a xs.length c, Value.bool m, Value.slice b ys.length d, Value.string nm, Value.int .i64 p, Value.int .i64 q, Value.slice x k ck] 37))
    have yw1 : w.heap.size + 1 ≤ (w.alloc (Obj.cells #[Value.int .i64 3, Value.bool n, Value.slice a xs.length c, Value.bool m, Value.slice b ys.length d, Value.string nm, Value.int .i64 p, Value.int .i64 q, Value.slice x k ck] 37)).heap.size := by simp only [World.size_alloc]; omega
    have ka0 : (w.alloc (Obj.cells #[Value.int .i64 3, Value.bool n, Value.slice a xs.length c, Value.bool m, Value.slice b ys.length d, Value.string nm, Value.int .i64 p, Value.int .i64 q, Value.slice x k ck] 37)).cell? ⟨w.heap.size, 0, none⟩ = some (Value.int .i64 3) := (Lib.cell_of_heap Xa.out 0).trans rfl
    have fa0 : (w.alloc (Obj.cells #[Value.int .i64 3, Value.bool n, Value.slice a xs.length c, Value.bool m, Value.slice b ys.length d, Value.string nm, Value.int .i64 p, Value.int .i64 q, Value.slice x k ck] 37)).frozen? ⟨w.heap.size, 0, none⟩ = false := Lib.frozen_of_heap Xa.out 0
    have ka1 : (w.alloc (Obj.cells #[Value.int .i64 3, Value.bool n, Value.slice a xs.length c, Value.bool m, Value.slice b ys.length d, Value.string nm, Value.int .i64 p, Value.int .i64 q, Value.slice x k ck] 37)).cell? ⟨w.heap.size, 1, none⟩ = some (Value.bool n) := (Lib.cell_of_heap Xa.out 1).trans rfl
    have fa1 : (w.alloc (Obj.cells #[Value.int .i64 3, Value.bool n, Value.slice a xs.length c, Value.bool m, Value.slice b ys.length d, Value.string nm, Value.int .i64 p, Value.int .i64 q, Value.slice x k ck] 37)).frozen? ⟨w.heap.size, 1, none⟩ = false := Lib.frozen_of_heap Xa.out 1
    have ka2 : (w.alloc (Obj.cells #[Value.int .i64 3, Value.bool n, Value.slice a xs.length c, Value.bool m, Value.slice b ys.length d, Value.string nm, Value.int .i64 p, Value.int .i64 q, Value.slice x k ck] 37)).cell? ⟨w.heap.size, 2, none⟩ = some (Value.slice a xs.length c) := (Lib.cell_of_heap Xa.out 2).trans rfl
    have fa2 : (w.alloc (Obj.cells #[Value.int .i64 3, Value.bool n, Value.slice a xs.length c, Value.bool m, Value.slice b ys.length d, Value.string nm, Value.int .i64 p, Value.int .i64 q, Value.slice x k ck] 37)).frozen? ⟨w.heap.size, 2, none⟩ = false := Lib.frozen_of_heap Xa.out 2
    have ka3 : (w.alloc (Obj.cells #[Value.int .i64 3, Value.bool n, Value.slice a xs.length c, Value.bool m, Value.slice b ys.length d, Value.string nm, Value.int .i64 p, Value.int .i64 q, Value.slice x k ck] 37)).cell? ⟨w.heap.size, 3, none⟩ = some (Value.bool m) := (Lib.cell_of_heap Xa.out 3).trans rfl
    have fa3 : (w.alloc (Obj.cells #[Value.int .i64 3, Value.bool n, Value.slice a xs.length c, Value.bool m, Value.slice b ys.length d, Value.string nm, Value.int .i64 p, Value.int .i64 q, Value.slice x k ck] 37)).frozen? ⟨w.heap.size, 3, none⟩ = false := Lib.frozen_of_heap Xa.out 3
    have ka4 : (w.alloc (Obj.cells #[Value.int .i64 3, Value.bool n, Value.slice a xs.length c, Value.bool m, Value.slice b ys.length d, Value.string nm, Value.int .i64 p, Value.int .i64 q, Value.slice x k ck] 37)).cell? ⟨w.heap.size, 4, none⟩ = some (Value.slice b ys.length d) := (Lib.cell_of_heap Xa.out 4).trans rfl
    have fa4 : (w.alloc (Obj.cells #[Value.int .i64 3, Value.bool n, Value.slice a xs.length c, Value.bool m, Value.slice b ys.length d, Value.string nm, Value.int .i64 p, Value.int .i64 q, Value.slice x k ck] 37)).frozen? ⟨w.heap.size, 4, none⟩ = false := Lib.frozen_of_heap Xa.out 4
    have ka5 : (w.alloc (Obj.cells #[Value.int .i64 3, Value.bool n, Value.slice a xs.length c, Value.bool m, Value.slice b ys.length d, Value.string nm, Value.int .i64 p, Value.int .i64 q, Value.slice x k ck] 37)).cell? ⟨w.heap.size, 5, none⟩ = some (Value.string nm) := (Lib.cell_of_heap Xa.out 5).trans rfl
    have fa5 : (w.alloc (Obj.cells #[Value.int .i64 3, Value.bool n, Value.slice a xs.length c, Value.bool m, Value.slice b ys.length d, Value.string nm, Value.int .i64 p, Value.int .i64 q, Value.slice x k ck] 37)).frozen? ⟨w.heap.size, 5, none⟩ = false := Lib.frozen_of_heap Xa.out 5
    have ka6 : (w.alloc (Obj.cells #[Value.int .i64 3, Value.bool n, Value.slice a xs.length c, Value.bool m, Value.slice b ys.length d, Value.string nm, Value.int .i64 p, Value.int .i64 q, Value.slice x k ck] 37)).cell? ⟨w.heap.size, 6, none⟩ = some (Value.int .i64 p) := (Lib.cell_of_heap Xa.out 6).trans rfl
    have fa6 : (w.alloc (Obj.cells #[Value.int .i64 3, Value.bool n, Value.slice a xs.length c, Value.bool m, Value.slice b ys.length d, Value.string nm, Value.int .i64 p, Value.int .i64 q, Value.slice x k ck] 37)).frozen? ⟨w.heap.size, 6, none⟩ = false := Lib.frozen_of_heap Xa.out 6
    have ka7 : (w.alloc (Obj.cells #[Value.int .i64 3, Value.bool n, Value.slice a xs.length c, Value.bool m, Value.slice b ys.length d, Value.string nm, Value.int .i64 p, Value.int .i64 q, Value.slice x k ck] 37)).cell? ⟨w.heap.size, 7, none⟩ = some (Value.int .i64 q) := (Lib.cell_of_heap Xa.out 7).trans rfl
    have fa7 : (w.alloc (Obj.cells #[Value.int .i64 3, Value.bool n, Value.slice a xs.length c, Value.bool m, Value.slice b ys.length d, Value.string nm, Value.int .i64 p, Value.int .i64 q, Value.slice x k ck] 37)).frozen? ⟨w.heap.size, 7, none⟩ = false := Lib.frozen_of_heap Xa.out 7
    have ka8 : (w.alloc (Obj.cells #[Value.int .i64 3, Value.bool n, Value.slice a xs.length c, Value.bool m, Value.slice b ys.length d, Value.string nm, Value.int .i64 p, Value.int .i64 q, Value.slice x k ck] 37)).cell? ⟨w.heap.size, 8, none⟩ = some (Value.slice x k ck) := (Lib.cell_of_heap Xa.out 8).trans rfl
    have fa8 : (w.alloc (Obj.cells #[Value.int .i64 3, Value.bool n, Value.slice a xs.length c, Value.bool m, Value.slice b ys.length d, Value.string nm, Value.int .i64 p, Value.int .i64 q, Value.slice x k ck] 37)).frozen? ⟨w.heap.size, 8, none⟩ = false := Lib.frozen_of_heap Xa.out 8
    have za : w.heap.size < (w.alloc (Obj.cells #[Value.int .i64 3, Value.bool n, Value.slice a xs.length c, Value.bool m, Value.slice b ys.length d, Value.string nm, Value.int .i64 p, Value.int .i64 q, Value.slice x k ck] 37)).heap.size := hlt Xa.out
    go_enter Tryz.func23, Tryz.ntmps23
    go_wp2_with fail
    generalize (w.alloc (Obj.cells #[Value.int .i64 3, Value.bool n, Value.slice a xs.length c, Value.bool m, Value.slice b ys.length d, Value.string nm, Value.int .i64 p, Value.int .i64 q, Value.slice x k ck] 37)) = w1 at *
    refine (noneS n xs m ys a c b d _ (S1.out.below HB.out) (S2.out.below HB.out)).mono ?_
    rintro e w2 ⟨rfl, hb⟩
    have yw2 := hb.size
    clear ka0 fa0 ka1 fa1 ka2 fa2 ka3 fa3 ka4 fa4 ka5 fa5 ka6 fa6 ka7 fa7 ka8 fa8 za
    replace Xa := hide (hbel Xa.out hb (by first | assumption | omega))
    replace HB := hide (bl_trans HB.out hb)
    clear hb
    have ka0 : w2.cell? ⟨w.heap.size, 0, none⟩ = some (Value.int .i64 3) := (Lib.cell_of_heap Xa.out 0).trans rfl
    have fa0 : w2.frozen? ⟨w.heap.size, 0, none⟩ = false := Lib.frozen_of_heap Xa.out 0
    have ka1 : w2.cell? ⟨w.heap.size, 1, none⟩ = some (Value.bool n) := (Lib.cell_of_heap Xa.out 1).trans rfl
    have fa1 : w2.frozen? ⟨w.heap.size, 1, none⟩ = false := Lib.frozen_of_heap Xa.out 1
    have ka2 : w2.cell? ⟨w.heap.size, 2, none⟩ = some (Value.slice a xs.length c) := (Lib.cell_of_heap Xa.out 2).trans rfl
    have fa2 : w2.frozen? ⟨w.heap.size, 2, none⟩ = false := Lib.frozen_of_heap Xa.out 2
    have ka3 : w2.cell? ⟨w.heap.size, 3, none⟩ = some (Value.bool m) := (Lib.cell_of_heap Xa.out 3).trans rfl
    have fa3 : w2.frozen? ⟨w.heap.size, 3, none⟩ = false := Lib.frozen_of_heap Xa.out 3
    have ka4 : w2.cell? ⟨w.heap.size, 4, none⟩ = some (Value.slice b ys.length d) := (Lib.cell_of_heap Xa.out 4).trans rfl
    have fa4 : w2.frozen? ⟨w.heap.size, 4, none⟩ = false := Lib.frozen_of_heap Xa.out 4
    have ka5 : w2.cell? ⟨w.heap.size, 5, none⟩ = some (Value.string nm) := (Lib.cell_of_heap Xa.out 5).trans rfl
    have fa5 : w2.frozen? ⟨w.heap.size, 5, none⟩ = false := Lib.frozen_of_heap Xa.out 5
    have ka6 : w2.cell? ⟨w.heap.size, 6, none⟩ = some (Value.int .i64 p) := (Lib.cell_of_heap Xa.out 6).trans rfl
    have fa6 : w2.frozen? ⟨w.heap.size, 6, none⟩ = false := Lib.frozen_of_heap Xa.out 6
    have ka7 : w2.cell? ⟨w.heap.size, 7, none⟩ = some (Value.int .i64 q) := (Lib.cell_of_heap Xa.out 7).trans rfl
    have fa7 : w2.frozen? ⟨w.heap.size, 7, none⟩ = false := Lib.frozen_of_heap Xa.out 7
    have ka8 : w2.cell? ⟨w.heap.size, 8, none⟩ = some (Value.slice x k ck) := (Lib.cell_of_heap Xa.out 8).trans rfl
    have fa8 : w2.frozen? ⟨w.heap.size, 8, none⟩ = false := Lib.frozen_of_heap Xa.out 8
    have za : w.heap.size < w2.heap.size := hlt Xa.out
    cases hb : blankB n xs m ys with
    | false =>
      have Hb := hide hb
      clear hb
      go_wp2
      go_ret
      exact ⟨ret_bool (by rw [HO.out, Hb.out]; first | rfl | simp), HB.out⟩
    | true =>
      have Hb := hide hb
      clear hb
      cases hn : nm.toList.isEmpty with
      | false =>
        have Hn := hide hn
        go_wp2
        go_ret
        exact ⟨ret_bool (by rw [HO.out, Hb.out, Hn.out]; first | rfl | simp), HB.out⟩
      | true =>
        have Hn := hide hn
        go_wp2
        go_ret
        exact ⟨ret_bool (by rw [HO.out, Hb.out, Hn.out, HFF.out]; first | rfl | simp), HB.out⟩
  · have hp2 : (p == 0) = false := by rw [beq_eq_false_iff_ne]; exact hp
    have hq2 : (q == 0) = false := by rw [beq_eq_false_iff_ne]; exact hq
    have HFF : Hid (F = false) := hide (by rw [← HF.out, decide_eq_false hp, decide_eq_false hq]; rfl)
    clear hp hq
    have Xa : Hid ((w.alloc (Obj.cells #[Value.int .i64 3, Value.bool n, Value.slice a xs.length c, Value.bool m, Value.slice b ys.length d, Value.string nm, Value.int .i64 p, Value.int .i64 q, Value.slice x k ck] 37)).heap[w.heap.size]? = some (.cells #[Value.int .i64 3, Value.bool n, Value.slice a xs.length c, Value.bool m, Value.slice b ys.length d, Value.string nm, Value.int .i64 p, Value.int .i64 q, Value.slice x k ck] 37 (0, 0))) := hide (by simpa only [World.size_alloc] using (hnew w (Obj.cells #[Value.int .i64 3, Value.bool n, Value.slice a xs.length c, Value.bool m, Value.slice b ys.length d, Value.string nm, Value.int .i64 p, Value.int .i64 q, Value.slice x k ck] 37)))
    have HB : Hid (Below w.heap.size w (w.alloc (Obj.cells #[Value.int .i64 3, Value.bool n, Value.slice a xs.length c, Value.bool m, Value.slice b ys.length d, Value.string nm, Value.int .i64 p, Value.int .i64 q, Value.slice x k ck] 37))) := hide (bl_alloc (bl_refl w) (Obj.cells #[Value.int .i64 3, Value.bool n, Value.slice a xs.length c, Value.bool m, Value.slice b ys.length d, Value.string nm, Value.int .i64 p, Value.int .i64 q, Value.slice x k ck] 37))
    have yw1 : w.heap.size + 1 ≤ (w.alloc (Obj.cells #[Value.int .i64 3, Value.bool n, Value.slice a xs.length c, Value.bool m, Value.slice b ys.length d, Value.string nm, Value.int .i64 p, Value.int .i64 q, Value.slice x k ck] 37)).heap.size := by simp only [World.size_alloc]; omega
    have ka0 : (w.alloc (Obj.cells #[Value.int .i64 3, Value.bool n, Value.slice a xs.length c, Value.bool m, Value.slice b ys.length d, Value.string nm, Value.int .i64 p, Value.int .i64 q, Value.slice x k ck] 37)).cell? ⟨w.heap.size, 0, none⟩ = some (Value.int .i64 3) := (Lib.cell_of_heap Xa.out 0).trans rfl
    have fa0 : (w.alloc (Obj.cells #[Value.int .i64 3, Value.bool n, Value.slice a xs.length c, Value.bool m, Value.slice b ys.length d, Value.string nm, Value.int .i64 p, Value.int .i64 q, Value.slice x k ck] 37)).frozen? ⟨w.heap.size, 0, none⟩ = false := Lib.frozen_of_heap Xa.out 0
    have ka1 : (w.alloc (Obj.cells #[Value.int .i64 3, Value.bool n, Value.slice a xs.length c, Value.bool m, Value.slice b ys.length d, Value.string nm, Value.int .i64 p, Value.int .i64 q, Value.slice x k ck] 37)).cell? ⟨w.heap.size, 1, none⟩ = some (Value.bool n) := (Lib.cell_of_heap Xa.out 1).trans rfl
    have fa1 : (w.alloc (Obj.cells #[Value.int .i64 3, Value.bool n, Value.slice a xs.length c, Value.bool m, Value.slice b ys.length d, Value.string nm, Value.int .i64 p, Value.int .i64 q, Value.slice x k ck] 37)).frozen? ⟨w.heap.size, 1, none⟩ = false := Lib.frozen_of_heap Xa.out 1
    have ka2 : (w.alloc (Obj.cells #[Value.int .i64 3, Value.bool n, Value.slice a xs.length c, Value.bool m, Value.slice b ys.length d, Value.string nm, Value.int .i64 p, Value.int .i64 q, Value.slice x k ck] 37)).cell? ⟨w.heap.size, 2, none⟩ = some (Value.slice a xs.length c) := (Lib.cell_of_heap Xa.out 2).trans rfl
    have fa2 : (w.alloc (Obj.cells #[Value.int .i64 3, Value.bool n, Value.slice a xs.length c, Value.bool m, Value.slice b ys.length d, Value.string nm, Value.int .i64 p, Value.int .i64 q, Value.slice x k ck] 37)).frozen? ⟨w.heap.size, 2, none⟩ = false := Lib.frozen_of_heap Xa.out 2
    have ka3 : (w.alloc (Obj.cells #[Value.int .i64 3, Value.bool n, Value.slice a xs.length c, Value.bool m, Value.slice b ys.length d, Value.string nm, Value.int .i64 p, Value.int .i64 q, Value.slice x k ck] 37)).cell? ⟨w.heap.size, 3, none⟩ = some (Value.bool m) := (Lib.cell_of_heap Xa.out 3).trans rfl
    have fa3 : (w.alloc (Obj.cells #[Value.int .i64 3, Value.bool n, Value.slice a xs.length c, Value.bool m, Value.slice b ys.length d, Value.string nm, Value.int .i64 p, Value.int .i64 q, Value.slice x k ck] 37)).frozen? ⟨w.heap.size, 3, none⟩ = false := Lib.frozen_of_heap Xa.out 3
    have ka4 : (w.alloc (Obj.cells #[Value.int .i64 3, Value.bool n, Value.slice a xs.length c, Value.bool m, Value.slice b ys.length d, Value.string nm, Value.int .i64 p, Value.int .i64 q, Value.slice x k ck] 37)).cell? ⟨w.heap.size, 4, none⟩ = some (Value.slice b ys.length d) := (Lib.cell_of_heap Xa.out 4).trans rfl
    have fa4 : (w.alloc (Obj.cells #[Value.int .i64 3, Value.bool n, Value.slice a xs.length c, Value.bool m, Value.slice b ys.length d, Value.string nm, Value.int .i64 p, Value.int .i64 q, Value.slice x k ck] 37)).frozen? ⟨w.heap.size, 4, none⟩ = false := Lib.frozen_of_heap Xa.out 4
    have ka5 : (w.alloc (Obj.cells #[Value.int .i64 3, Value.bool n, Value.slice a xs.length c, Value.bool m, Value.slice b ys.length d, Value.string nm, Value.int .i64 p, Value.int .i64 q, Value.slice x k ck] 37)).cell? ⟨w.heap.size, 5, none⟩ = some (Value.string nm) := (Lib.cell_of_heap Xa.out 5).trans rfl
    have fa5 : (w.alloc (Obj.cells #[Value.int .i64 3, Value.bool n, Value.slice a xs.length c, Value.bool m, Value.slice b ys.length d, Value.string nm, Value.int .i64 p, Value.int .i64 q, Value.slice x k ck] 37)).frozen? ⟨w.heap.size, 5, none⟩ = false := Lib.frozen_of_heap Xa.out 5
    have ka6 : (w.alloc (Obj.cells #[Value.int .i64 3, Value.bool n, Value.slice a xs.length c, Value.bool m, Value.slice b ys.length d, Value.string nm, Value.int .i64 p, Value.int .i64 q, Value.slice x k ck] 37)).cell? ⟨w.heap.size, 6, none⟩ = some (Value.int .i64 p) := (Lib.cell_of_heap Xa.out 6).trans rfl
    have fa6 : (w.alloc (Obj.cells #[Value.int .i64 3, Value.bool n, Value.slice a xs.length c, Value.bool m, Value.slice b ys.length d, Value.string nm, Value.int .i64 p, Value.int .i64 q, Value.slice x k ck] 37)).frozen? ⟨w.heap.size, 6, none⟩ = false := Lib.frozen_of_heap Xa.out 6
    have ka7 : (w.alloc (Obj.cells #[Value.int .i64 3, Value.bool n, Value.slice a xs.length c, Value.bool m, Value.slice b ys.length d, Value.string nm, Value.int .i64 p, Value.int .i64 q, Value.slice x k ck] 37)).cell? ⟨w.heap.size, 7, none⟩ = some (Value.int .i64 q) := (Lib.cell_of_heap Xa.out 7).trans rfl
    have fa7 : (w.alloc (Obj.cells #[Value.int .i64 3, Value.bool n, Value.slice a xs.length c, Value.bool m, Value.slice b ys.length d, Value.string nm, Value.int .i64 p, Value.int .i64 q, Value.slice x k ck] 37)).frozen? ⟨w.heap.size, 7, none⟩ = false := Lib.frozen_of_heap Xa.out 7
    have ka8 : (w.alloc (Obj.cells #[Value.int .i64 3, Value.bool n, Value.slice a xs.length c, Value.bool m, Value.slice b ys.length d, Value.string nm, Value.int .i64 p, Value.int .i64 q, Value.slice x k ck] 37)).cell? ⟨w.heap.size, 8, none⟩ = some (Value.slice x k ck) := (Lib.cell_of_heap Xa.out 8).trans rfl
    have fa8 : (w.alloc (Obj.cells #[Value.int .i64 3, Value.bool n, Value.slice a xs.length c, Value.bool m, Value.slice b ys.length d, Value.string nm, Value.int .i64 p, Value.int .i64 q, Value.slice x k ck] 37)).frozen? ⟨w.heap.size, 8, none⟩ = false := Lib.frozen_of_heap Xa.out 8
    have za : w.heap.size < (w.alloc (Obj.cells #[Value.int .i64 3, Value.bool n, Value.slice a xs.length c, Value.bool m, Value.slice b ys.length d, Value.string nm, Value.int .i64 p, Value.int .i64 q, Value.slice x k ck] 37)).heap.size := hlt Xa.out
    go_enter Tryz.func23, Tryz.ntmps23
    go_wp2_with fail
    generalize (w.alloc (Obj.cells #[Value.int .i64 3, Value.bool n, Value.slice a xs.length c, Value.bool m, Value.slice b ys.length d, Value.string nm, Value.int .i64 p, Value.int .i64 q, Value.slice x k ck] 37)) = w1 at *
    refine (noneS n xs m ys a c b d _ (S1.out.below HB.out) (S2.out.below HB.out)).mono ?_
    rintro e w2 ⟨rfl, hb⟩
    have yw2 := hb.size
    clear ka0 fa0 ka1 fa1 ka2 fa2 ka3 fa3 ka4 fa4 ka5 fa5 ka6 fa6 ka7 fa7 ka8 fa8 za
    replace Xa := hide (hbel Xa.out hb (by first | assumption | omega))
    replace HB := hide (bl_trans HB.out hb)
    clear hb
    have ka0 : w2.cell? ⟨w.heap.size, 0, none⟩ = some (Value.int .i64 3) := (Lib.cell_of_heap Xa.out 0).trans rfl
    have fa0 : w2.frozen? ⟨w.heap.size, 0, none⟩ = false := Lib.frozen_of_heap Xa.out 0
    have ka1 : w2.cell? ⟨w.heap.size, 1, none⟩ = some (Value.bool n) := (Lib.cell_of_heap Xa.out 1).trans rfl
    have fa1 : w2.frozen? ⟨w.heap.size, 1, none⟩ = false := Lib.frozen_of_heap Xa.out 1
    have ka2 : w2.cell? ⟨w.heap.size, 2, none⟩ = some (Value.slice a xs.length c) := (Lib.cell_of_heap Xa.out 2).trans rfl
    have fa2 : w2.frozen? ⟨w.heap.size, 2, none⟩ = false := Lib.frozen_of_heap Xa.out 2
    have ka3 : w2.cell? ⟨w.heap.size, 3, none⟩ = some (Value.bool m) := (Lib.cell_of_heap Xa.out 3).trans rfl
    have fa3 : w2.frozen? ⟨w.heap.size, 3, none⟩ = false := Lib.frozen_of_heap Xa.out 3
    have ka4 : w2.cell? ⟨w.heap.size, 4, none⟩ = some (Value.slice b ys.length d) := (Lib.cell_of_heap Xa.out 4).trans rfl
    have fa4 : w2.frozen? ⟨w.heap.size, 4, none⟩ = false := Lib.frozen_of_heap Xa.out 4
    have ka5 : w2.cell? ⟨w.heap.size, 5, none⟩ = some (Value.string nm) := (Lib.cell_of_heap Xa.out 5).trans rfl
    have fa5 : w2.frozen? ⟨w.heap.size, 5, none⟩ = false := Lib.frozen_of_heap Xa.out 5
    have ka6 : w2.cell? ⟨w.heap.size, 6, none⟩ = some (Value.int .i64 p) := (Lib.cell_of_heap Xa.out 6).trans rfl
    have fa6 : w2.frozen? ⟨w.heap.size, 6, none⟩ = false := Lib.frozen_of_heap Xa.out 6
    have ka7 : w2.cell? ⟨w.heap.size, 7, none⟩ = some (Value.int .i64 q) := (Lib.cell_of_heap Xa.out 7).trans rfl
    have fa7 : w2.frozen? ⟨w.heap.size, 7, none⟩ = false := Lib.frozen_of_heap Xa.out 7
    have ka8 : w2.cell? ⟨w.heap.size, 8, none⟩ = some (Value.slice x k ck) := (Lib.cell_of_heap Xa.out 8).trans rfl
    have fa8 : w2.frozen? ⟨w.heap.size, 8, none⟩ = false := Lib.frozen_of_heap Xa.out 8
    have za : w.heap.size < w2.heap.size := hlt Xa.out
    cases hb : blankB n xs m ys with
    | false =>
      have Hb := hide hb
      clear hb
      go_wp2
      go_ret
      exact ⟨ret_bool (by rw [HO.out, Hb.out]; first | rfl | simp), HB.out⟩
    | true =>
      have Hb := hide hb
      clear hb
      cases hn : nm.toList.isEmpty with
      | false =>
        have Hn := hide hn
        go_wp2
        go_ret
        exact ⟨ret_bool (by rw [HO.out, Hb.out, Hn.out]; first | rfl | simp), HB.out⟩
      | true =>
        have Hn := hide hn
        go_wp2
        go_ret
        exact ⟨ret_bool (by rw [HO.out, Hb.out, Hn.out, HFF.out]; first | rfl | simp), HB.out⟩

set_option maxHeartbeats 4000000 in
set_option maxRecDepth 20000 in
theorem ownS4 (n : Bool) (xs : List Nat) (m : Bool) (ys : List Nat) (nm : ByteArray) (p q : Int) (k : Nat) (a : Option Addr) (c : Nat) (b : Option Addr) (d : Nat) (x : Option Addr) (ck : Nat) (w : World) (s1 : Seg w a xs.length c xs) (s2 : Seg w b ys.length d ys) (hk : k ≤ 9223372036854775807) (hnm : nm.size ≤ 140737488355328) :
    Calls Tryz.prog 23 #[Value.agg #[Value.int .i64 4, Value.bool n, Value.slice a xs.length c, Value.bool m, Value.slice b ys.length d, Value.string nm, Value.int .i64 p, Value.int .i64 q, Value.slice x k ck]] w fun e w' => e = .returned (.bool (ownB 4 n xs m ys nm p q k)) ∧ Below w.heap.size w w' := by
  have q1 := s1.le
  have q2 := s2.le
  have sm := hide s1.2.2.2.1
  have S1 := hide s1
  have S2 := hide s2
  clear s1 s2
  obtain ⟨F, hF⟩ : ∃ F, (decide (p = 0) && decide (q = 0)) = F := ⟨_, rfl⟩
  have HF := hide hF
  have HO : Hid (ownB 4 n xs m ys nm p q k = (blankB n xs m ys && (nm.toList.isEmpty && (F && decide (k = 2))))) := hide (by rw [← hF]; exact own_4 ..)
  clear hF
  by_cases hp : p = 0
  all_goals by_cases hq : q = 0
  · have hp2 : (p == 0) = true := by rw [beq_iff_eq]; exact hp
    have hq2 : (q == 0) = true := by rw [beq_iff_eq]; exact hq
    have HFF : Hid (F = true) := hide (by rw [← HF.out, decide_eq_true hp, decide_eq_true hq]; rfl)
    clear hp hq
    have Xa : Hid ((w.alloc (Obj.cells #[Value.int .i64 4, Value.bool n, Value.slice a xs.length c, Value.bool m, Value.slice b ys.length d, Value.string nm, Value.int .i64 p, Value.int .i64 q, Value.slice x k ck] 37)).heap[w.heap.size]? = some (.cells #[Value.int .i64 4, Value.bool n, Value.slice a xs.length c, Value.bool m, Value.slice b ys.length d, Value.string nm, Value.int .i64 p, Value.int .i64 q, Value.slice x k ck] 37 (0, 0))) := hide (by simpa only [World.size_alloc] using (hnew w (Obj.cells #[Value.int .i64 4, Value.bool n, Value.slice a xs.length c, Value.bool m, Value.slice b ys.length d, Value.string nm, Value.int .i64 p, Value.int .i64 q, Value.slice x k ck] 37)))
    have HB : Hid (Below w.heap.size w (w.alloc (Obj.cells #[Value.int .i64 4, Value.bool n, Value.slice a xs.length c, Value.bool m, Value.slice b ys.length d, Value.string nm, Value.int .i64 p, Value.int .i64 q, Value.slice x k ck] 37))) := hide (bl_alloc (bl_refl w) (Obj.cells #[Value.int .i64 4, Value.bool n, Value.slice a xs.length c, Value.bool m, Value.slice b ys.length d, Value.string nm, Value.int .i64 p, Value.int .i64 q, Value.slice x k ck] 37))
    have yw1 : w.heap.size + 1 ≤ (w.alloc (Obj.cells #[Value.int .i64 4, Value.bool n, Value.slice a xs.length c, Value.bool m, Value.slice b ys.length d, Value.string nm, Value.int .i64 p, Value.int .i64 q, Value.slice x k ck] 37)).heap.size := by simp only [World.size_alloc]; omega
    have ka0 : (w.alloc (Obj.cells #[Value.int .i64 4, Value.bool n, Value.slice a xs.length c, Value.bool m, Value.slice b ys.length d, Value.string nm, Value.int .i64 p, Value.int .i64 q, Value.slice x k ck] 37)).cell? ⟨w.heap.size, 0, none⟩ = some (Value.int .i64 4) := (Lib.cell_of_heap Xa.out 0).trans rfl
    have fa0 : (w.alloc (Obj.cells #[Value.int .i64 4, Value.bool n, Value.slice a xs.length c, Value.bool m, Value.slice b ys.length d, Value.string nm, Value.int .i64 p, Value.int .i64 q, Value.slice x k ck] 37)).frozen? ⟨w.heap.size, 0, none⟩ = false := Lib.frozen_of_heap Xa.out 0
    have ka1 : (w.alloc (Obj.cells #[Value.int .i64 4, Value.bool n, Value.slice a xs.length c, Value.bool m, Value.slice b ys.length d, Value.string nm, Value.int .i64 p, Value.int .i64 q, Value.slice x k ck] 37)).cell? ⟨w.heap.size, 1, none⟩ = some (Value.bool n) := (Lib.cell_of_heap Xa.out 1).trans rfl
    have fa1 : (w.alloc (Obj.cells #[Value.int .i64 4, Value.bool n, Value.slice a xs.length c, Value.bool m, Value.slice b ys.length d, Value.string nm, Value.int .i64 p, Value.int .i64 q, Value.slice x k ck] 37)).frozen? ⟨w.heap.size, 1, none⟩ = false := Lib.frozen_of_heap Xa.out 1
    have ka2 : (w.alloc (Obj.cells #[Value.int .i64 4, Value.bool n, Value.slice a xs.length c, Value.bool m, Value.slice b ys.length d, Value.string nm, Value.int .i64 p, Value.int .i64 q, Value.slice x k ck] 37)).cell? ⟨w.heap.size, 2, none⟩ = some (Value.slice a xs.length c) := (Lib.cell_of_heap Xa.out 2).trans rfl
    have fa2 : (w.alloc (Obj.cells #[Value.int .i64 4, Value.bool n, Value.slice a xs.length c, Value.bool m, Value.slice b ys.length d, Value.string nm, Value.int .i64 p, Value.int .i64 q, Value.slice x k ck] 37)).frozen? ⟨w.heap.size, 2, none⟩ = false := Lib.frozen_of_heap Xa.out 2
    have ka3 : (w.alloc (Obj.cells #[Value.int .i64 4, Value.bool n, Value.slice a xs.length c, Value.bool m, Value.slice b ys.length d, Value.string nm, Value.int .i64 p, Value.int .i64 q, Value.slice x k ck] 37)).cell? ⟨w.heap.size, 3, none⟩ = some (Value.bool m) := (Lib.cell_of_heap Xa.out 3).trans rfl
    have fa3 : (w.alloc (Obj.cells #[Value.int .i64 4, Value.bool n, Value.slice a xs.length c, Value.bool m, Value.slice b ys.length d, Value.string nm, Value.int .i64 p, Value.int .i64 q, Value.slice x k ck] 37)).frozen? ⟨w.heap.size, 3, none⟩ = false := Lib.frozen_of_heap Xa.out 3
    have ka4 : (w.alloc (Obj.cells #[Value.int .i64 4, Value.bool n, Value.slice a xs.length c, Value.bool m, Value.slice b ys.length d, Value.string nm, Value.int .i64 p, Value.int .i64 q, Value.slice x k ck] 37)).cell? ⟨w.heap.size, 4, none⟩ = some (Value.slice b ys.length d) := (Lib.cell_of_heap Xa.out 4).trans rfl
    have fa4 : (w.alloc (Obj.cells #[Value.int .i64 4, Value.bool n, Value.slice a xs.length c, Value.bool m, Value.slice b ys.length d, Value.string nm, Value.int .i64 p, Value.int .i64 q, Value.slice x k ck] 37)).frozen? ⟨w.heap.size, 4, none⟩ = false := Lib.frozen_of_heap Xa.out 4
    have ka5 : (w.alloc (Obj.cells #[Value.int .i64 4, Value.bool n, Value.slice a xs.length c, Value.bool m, Value.slice b ys.length d, Value.string nm, Value.int .i64 p, Value.int .i64 q, Value.slice x k ck] 37)).cell? ⟨w.heap.size, 5, none⟩ = some (Value.string nm) := (Lib.cell_of_heap Xa.out 5).trans rfl
    have fa5 : (w.alloc (Obj.cells #[Value.int .i64 4, Value.bool n, Value.slice a xs.length c, Value.bool m, Value.slice b ys.length d, Value.string nm, Value.int .i64 p, Value.int .i64 q, Value.slice x k ck] 37)).frozen? ⟨w.heap.size, 5, none⟩ = false := Lib.frozen_of_heap Xa.out 5
    have ka6 : (w.alloc (Obj.cells #[Value.int .i64 4, Value.bool n, Value.slice a xs.length c, Value.bool m, Value.slice b ys.length d, Value.string nm, Value.int .i64 p, Value.int .i64 q, Value.slice x k ck] 37)).cell? ⟨w.heap.size, 6, none⟩ = some (Value.int .i64 p) := (Lib.cell_of_heap Xa.out 6).trans rfl
    have fa6 : (w.alloc (Obj.cells #[Value.int .i64 4, Value.bool n, Value.slice a xs.length c, Value.bool m, Value.slice b ys.length d, Value.string nm, Value.int .i64 p, Value.int .i64 q, Value.slice x k ck] 37)).frozen? ⟨w.heap.size, 6, none⟩ = false := Lib.frozen_of_heap Xa.out 6
    have ka7 : (w.alloc (Obj.cells #[Value.int .i64 4, Value.bool n, Value.slice a xs.length c, Value.bool m, Value.slice b ys.length d, Value.string nm, Value.int .i64 p, Value.int .i64 q, Value.slice x k ck] 37)).cell? ⟨w.heap.size, 7, none⟩ = some (Value.int .i64 q) := (Lib.cell_of_heap Xa.out 7).trans rfl
    have fa7 : (w.alloc (Obj.cells #[Value.int .i64 4, Value.bool n, Value.slice a xs.length c, Value.bool m, Value.slice b ys.length d, Value.string nm, Value.int .i64 p, Value.int .i64 q, Value.slice x k ck] 37)).frozen? ⟨w.heap.size, 7, none⟩ = false := Lib.frozen_of_heap Xa.out 7
    have ka8 : (w.alloc (Obj.cells #[Value.int .i64 4, Value.bool n, Value.slice a xs.length c, Value.bool m, Value.slice b ys.length d, Value.string nm, Value.int .i64 p, Value.int .i64 q, Value.slice x k ck] 37)).cell? ⟨w.heap.size, 8, none⟩ = some (Value.slice x k ck) := (Lib.cell_of_heap Xa.out 8).trans rfl
    have fa8 : (w.alloc (Obj.cells #[Value.int .i64 4, Value.bool n, Value.slice a xs.length c, Value.bool m, Value.slice b ys.length d, Value.string nm, Value.int .i64 p, Value.int .i64 q, Value.slice x k ck] 37)).frozen? ⟨w.heap.size, 8, none⟩ = false := Lib.frozen_of_heap Xa.out 8
    have za : w.heap.size < (w.alloc (Obj.cells #[Value.int .i64 4, Value.bool n, Value.slice a xs.length c, Value.bool m, Value.slice b ys.length d, Value.string nm, Value.int .i64 p, Value.int .i64 q, Value.slice x k ck] 37)).heap.size := hlt Xa.out
    go_enter Tryz.func23, Tryz.ntmps23
    go_wp2_with fail
    generalize (w.alloc (Obj.cells #[Value.int .i64 4, Value.bool n, Value.slice a xs.length c, Value.bool m, Value.slice b ys.length d, Value.string nm, Value.int .i64 p, Value.int .i64 q, Value.slice x k ck] 37)) = w1 at *
    refine (noneS n xs m ys a c b d _ (S1.out.below HB.out) (S2.out.below HB.out)).mono ?_
    rintro e w2 ⟨rfl, hb⟩
    have yw2 := hb.size
    clear ka0 fa0 ka1 fa1 ka2 fa2 ka3 fa3 ka4 fa4 ka5 fa5 ka6 fa6 ka7 fa7 ka8 fa8 za
    replace Xa := hide (hbel Xa.out hb (by first | assumption | omega))
    replace HB := hide (bl_trans HB.out hb)
    clear hb
    have ka0 : w2.cell? ⟨w.heap.size, 0, none⟩ = some (Value.int .i64 4) := (Lib.cell_of_heap Xa.out 0).trans rfl
    have fa0 : w2.frozen? ⟨w.heap.size, 0, none⟩ = false := Lib.frozen_of_heap Xa.out 0
    have ka1 : w2.cell? ⟨w.heap.size, 1, none⟩ = some (Value.bool n) := (Lib.cell_of_heap Xa.out 1).trans rfl
    have fa1 : w2.frozen? ⟨w.heap.size, 1, none⟩ = false := Lib.frozen_of_heap Xa.out 1
    have ka2 : w2.cell? ⟨w.heap.size, 2, none⟩ = some (Value.slice a xs.length c) := (Lib.cell_of_heap Xa.out 2).trans rfl
    have fa2 : w2.frozen? ⟨w.heap.size, 2, none⟩ = false := Lib.frozen_of_heap Xa.out 2
    have ka3 : w2.cell? ⟨w.heap.size, 3, none⟩ = some (Value.bool m) := (Lib.cell_of_heap Xa.out 3).trans rfl
    have fa3 : w2.frozen? ⟨w.heap.size, 3, none⟩ = false := Lib.frozen_of_heap Xa.out 3
    have ka4 : w2.cell? ⟨w.heap.size, 4, none⟩ = some (Value.slice b ys.length d) := (Lib.cell_of_heap Xa.out 4).trans rfl
    have fa4 : w2.frozen? ⟨w.heap.size, 4, none⟩ = false := Lib.frozen_of_heap Xa.out 4
    have ka5 : w2.cell? ⟨w.heap.size, 5, none⟩ = some (Value.string nm) := (Lib.cell_of_heap Xa.out 5).trans rfl
    have fa5 : w2.frozen? ⟨w.heap.size, 5, none⟩ = false := Lib.frozen_of_heap Xa.out 5
    have ka6 : w2.cell? ⟨w.heap.size, 6, none⟩ = some (Value.int .i64 p) := (Lib.cell_of_heap Xa.out 6).trans rfl
    have fa6 : w2.frozen? ⟨w.heap.size, 6, none⟩ = false := Lib.frozen_of_heap Xa.out 6
    have ka7 : w2.cell? ⟨w.heap.size, 7, none⟩ = some (Value.int .i64 q) := (Lib.cell_of_heap Xa.out 7).trans rfl
    have fa7 : w2.frozen? ⟨w.heap.size, 7, none⟩ = false := Lib.frozen_of_heap Xa.out 7
    have ka8 : w2.cell? ⟨w.heap.size, 8, none⟩ = some (Value.slice x k ck) := (Lib.cell_of_heap Xa.out 8).trans rfl
    have fa8 : w2.frozen? ⟨w.heap.size, 8, none⟩ = false := Lib.frozen_of_heap Xa.out 8
    have za : w.heap.size < w2.heap.size := hlt Xa.out
    cases hb : blankB n xs m ys with
    | false =>
      have Hb := hide hb
      clear hb
      go_wp2
      go_ret
      exact ⟨ret_bool (by rw [HO.out, Hb.out]; first | rfl | simp), HB.out⟩
    | true =>
      have Hb := hide hb
      clear hb
      cases hn : nm.toList.isEmpty with
      | false =>
        have Hn := hide hn
        go_wp2
        go_ret
        exact ⟨ret_bool (by rw [HO.out, Hb.out, Hn.out]; first | rfl | simp), HB.out⟩
      | true =>
        have Hn := hide hn
        by_cases hl : k = 2
        case neg =>
          have HL : Hid (decide (k = 2) = false) := hide (decide_eq_false hl)
          have hl2 : ((k : Int) == 2) = false := by rw [beq_eq_false_iff_ne]; omega
          clear hl
          go_wp2
          go_ret
          exact ⟨ret_bool (by rw [HO.out, Hb.out, Hn.out, HFF.out, HL.out]; first | rfl | simp), HB.out⟩
        have HL : Hid (decide (k = 2) = true) := hide (decide_eq_true hl)
        have hl2 : ((k : Int) == 2) = true := by rw [beq_iff_eq]; omega
        clear hl
        go_wp2
        go_ret
        exact ⟨ret_bool (by rw [HO.out, Hb.out, Hn.out, HFF.out, HL.out]; first | rfl | simp), HB.out⟩
  · have hp2 : (p == 0) = true := by rw [beq_iff_eq]; exact hp
    have hq2 : (q == 0) = false := by rw [beq_eq_false_iff_ne]; exact hq
    have HFF : Hid (F = false) := hide (by rw [← HF.out, decide_eq_true hp, decide_eq_false hq]; rfl)
    clear hp hq
    have Xa : Hid ((w.alloc (Obj.cells #[Value.int .i64 4, Value.bool n, Value.slice a xs.length c, Value.bool m, Value.slice b ys.length d, Value.string nm, Value.int .i64 p, Value.int .i64 q, Value.slice x k ck] 37)).heap[w.heap.size]? = some (.cells #[Value.int .i64 4, Value.bool n, Value.slice a xs.length c, Value.bool m, Value.slice b ys.length d, Value.string nm, Value.int .i64 p, Value.int .i64 q, Value.slice x k ck] 37 (0, 0))) := hide (by simpa only [World.size_alloc] using (hnew w (Obj.cells #[Value.int .i64 4, Value.bool n, Value.slice a xs.length c, Value.bool m, Value.slice b ys.length d, Value.string nm, Value.int .i64 p, Value.int .i64 q, Value.slice x k ck] 37)))
    have HB : Hid (Below w.heap.size w (w.alloc (Obj.cells #[Value.int .i64 4, Value.bool n, Value.slice a xs.length c, Value.bool m, Value.slice b ys.length d, Value.string nm, Value.int .i64 p, Value.int .i64 q, Value.slice x k ck] 37))) := hide (bl_alloc (bl_refl w) (Obj.cells #[Value.int .i64 4, Value.bool n, Value.slice a xs.length c, Value.bool m, Value.slice b ys.length d, Value.string nm, Value.int .i64 p, Value.int .i64 q, Value.slice x k ck] 37))
    have yw1 : w.heap.size + 1 ≤ (w.alloc (Obj.cells #[Value.int .i64 4, Value.bool n, Value.slice a xs.length c, Value.bool m, Value.slice b ys.length d, Value.string nm, Value.int .i64 p, Value.int .i64 q, Value.slice x k ck] 37)).heap.size := by simp only [World.size_alloc]; omega
    have ka0 : (w.alloc (Obj.cells #[Value.int .i64 4, Value.bool n, Value.slice a xs.length c, Value.bool m, Value.slice b ys.length d, Value.string nm, Value.int .i64 p, Value.int .i64 q, Value.slice x k ck] 37)).cell? ⟨w.heap.size, 0, none⟩ = some (Value.int .i64 4) := (Lib.cell_of_heap Xa.out 0).trans rfl
    have fa0 : (w.alloc (Obj.cells #[Value.int .i64 4, Value.bool n, Value.slice a xs.length c, Value.bool m, Value.slice b ys.length d, Value.string nm, Value.int .i64 p, Value.int .i64 q, Value.slice x k ck] 37)).frozen? ⟨w.heap.size, 0, none⟩ = false := Lib.frozen_of_heap Xa.out 0
    have ka1 : (w.alloc (Obj.cells #[Value.int .i64 4, Value.bool n, Value.slice a xs.length c, Value.bool m, Value.slice b ys.length d, Value.string nm, Value.int .i64 p, Value.int .i64 q, Value.slice x k ck] 37)).cell? ⟨w.heap.size, 1, none⟩ = some (Value.bool n) := (Lib.cell_of_heap Xa.out 1).trans rfl
    have fa1 : (w.alloc (Obj.cells #[Value.int .i64 4, Value.bool n, Value.slice a xs.length c, Value.bool m, Value.slice b ys.length d, Value.string nm, Value.int .i64 p, Value.int .i64 q, Value.slice x k ck] 37)).frozen? ⟨w.heap.size, 1, none⟩ = false := Lib.frozen_of_heap Xa.out 1
    have ka2 : (w.alloc (Obj.cells #[Value.int .i64 4, Value.bool n, Value.slice a xs.length c, Value.bool m, Value.slice b ys.length d, Value.string nm, Value.int .i64 p, Value.int .i64 q, Value.slice x k ck] 37)).cell? ⟨w.heap.size, 2, none⟩ = some (Value.slice a xs.length c) := (Lib.cell_of_heap Xa.out 2).trans rfl
    have fa2 : (w.alloc (Obj.cells #[Value.int .i64 4, Value.bool n, Value.slice a xs.length c, Value.bool m, Value.slice b ys.length d, Value.string nm, Value.int .i64 p, Value.int .i64 q, Value.slice x k ck] 37)).frozen? ⟨w.heap.size, 2, none⟩ = false := Lib.frozen_of_heap Xa.out 2
    have ka3 : (w.alloc (Obj.cells #[Value.int .i64 4, Value.bool n, Value.slice a xs.length c, Value.bool m, Value.slice b ys.length d, Value.string nm, Value.int .i64 p, Value.int .i64 q, Value.slice x k ck] 37)).cell? ⟨w.heap.size, 3, none⟩ = some (Value.bool m) := (Lib.cell_of_heap Xa.out 3).trans rfl
    have fa3 : (w.alloc (Obj.cells #[Value.int .i64 4, Value.bool n, Value.slice a xs.length c, Value.bool m, Value.slice b ys.length d, Value.string nm, Value.int .i64 p, Value.int .i64 q, Value.slice x k ck] 37)).frozen? ⟨w.heap.size, 3, none⟩ = false := Lib.frozen_of_heap Xa.out 3
    have ka4 : (w.alloc (Obj.cells #[Value.int .i64 4, Value.bool n, Value.slice a xs.length c, Value.bool m, Value.slice b ys.length d, Value.string nm, Value.int .i64 p, Value.int .i64 q, Value.slice x k ck] 37)).cell? ⟨w.heap.size, 4, none⟩ = some (Value.slice b ys.length d) := (Lib.cell_of_heap Xa.out 4).trans rfl
    have fa4 : (w.alloc (Obj.cells #[Value.int .i64 4, Value.bool n, Value.slice a xs.length c, Value.bool m, Value.slice b ys.length d, Value.string nm, Value.int .i64 p, Value.int .i64 q, Value.slice x k ck] 37)).frozen? ⟨w.heap.size, 4, none⟩ = false := Lib.frozen_of_heap Xa.out 4
    have ka5 : (w.alloc (Obj.cells #[Value.int .i64 4, Value.bool n, Value.slice a xs.length c, Value.bool m, Value.slice b ys.length d, Value.string nm, Value.int .i64 p, Value.int .i64 q, Value.slice x k ck] 37)).cell? ⟨w.heap.size, 5, none⟩ = some (Value.string nm) := (Lib.cell_of_heap Xa.out 5).trans rfl
    have fa5 : (w.alloc (Obj.cells #[Value.int .i64 4, Value.bool n, Value.slice a xs.length c, Value.bool m, Value.slice b ys.length d, Value.string nm, Value.int .i64 p, Value.int .i64 q, Value.slice x k ck] 37)).frozen? ⟨w.heap.size, 5, none⟩ = false := Lib.frozen_of_heap Xa.out 5
    have ka6 : (w.alloc (Obj.cells #[Value.int .i64 4, Value.bool n, Value.slice a xs.length c, Value.bool m, Value.slice b ys.length d, Value.string nm, Value.int .i64 p, Value.int .i64 q, Value.slice x k ck] 37)).cell? ⟨w.heap.size, 6, none⟩ = some (Value.int .i64 p) := (Lib.cell_of_heap Xa.out 6).trans rfl
    have fa6 : (w.alloc (Obj.cells #[Value.int .i64 4, Value.bool n, Value.slice a xs.length c, Value.bool m, Value.slice b ys.length d, Value.string nm, Value.int .i64 p, Value.int .i64 q, Value.slice x k ck] 37)).frozen? ⟨w.heap.size, 6, none⟩ = false := Lib.frozen_of_heap Xa.out 6
    have ka7 : (w.alloc (Obj.cells #[Value.int .i64 4, Value.bool n, Value.slice a xs.length c, Value.bool m, Value.slice b ys.length d, Value.string nm, Value.int .i64 p, Value.int .i64 q, Value.slice x k ck] 37)).cell? ⟨w.heap.size, 7, none⟩ = some (Value.int .i64 q) := (Lib.cell_of_heap Xa.out 7).trans rfl
    have fa7 : (w.alloc (Obj.cells #[Value.int .i64 4, Value.bool n, Value.slice a xs.length c, Value.bool m, Value.slice b ys.length d, Value.string nm, Value.int .i64 p, Value.int .i64 q, Value.slice x k ck] 37)).frozen? ⟨w.heap.size, 7, none⟩ = false := Lib.frozen_of_heap Xa.out 7
    have ka8 : (w.alloc (Obj.cells #[Value.int .i64 4, Value.bool n, Value.slice a xs.length c, Value.bool m, Value.slice b ys.length d, Value.string nm, Value.int .i64 p, Value.int .i64 q, Value.slice x k ck] 37)).cell? ⟨w.heap.size, 8, none⟩ = some (Value.slice x k ck) := (Lib.cell_of_heap Xa.out 8).trans rfl
    have fa8 : (w.alloc (Obj.cells #[Value.int .i64 4, Value.bool n, Value.slice a xs.length c, Value.bool m, Value.slice b ys.length d, Value.string nm, Value.int .i64 p, Value.int .i64 q, Value.slice x k ck] 37)).frozen? ⟨w.heap.size, 8, none⟩ = false := Lib.frozen_of_heap Xa.out 8
    have za : w.heap.size < (w.alloc (Obj.cells #[Value.int .i64 4, Value.bool n, Value.slice a xs.length c, Value.bool m, Value.slice b ys.length d, Value.string nm, Value.int .i64 p, Value.int .i64 q, Value.slice x k ck] 37)).heap.size := hlt Xa.out
    go_enter Tryz.func23, Tryz.ntmps23
    go_wp2_with fail
    generalize (w.alloc (Obj.cells #[Value.int .i64 4, Value.bool n, Value.slice a xs.length c, Value.bool m, Value.slice b ys.length d, Value.string nm, Value.int .i64 p, Value.int .i64 q, Value.slice x k ck] 37)) = w1 at *
    refine (noneS n xs m ys a c b d _ (S1.out.below HB.out) (S2.out.below HB.out)).mono ?_
    rintro e w2 ⟨rfl, hb⟩
    have yw2 := hb.size
    clear ka0 fa0 ka1 fa1 ka2 fa2 ka3 fa3 ka4 fa4 ka5 fa5 ka6 fa6 ka7 fa7 ka8 fa8 za
    replace Xa := hide (hbel Xa.out hb (by first | assumption | omega))
    replace HB := hide (bl_trans HB.out hb)
    clear hb
    have ka0 : w2.cell? ⟨w.heap.size, 0, none⟩ = some (Value.int .i64 4) := (Lib.cell_of_heap Xa.out 0).trans rfl
    have fa0 : w2.frozen? ⟨w.heap.size, 0, none⟩ = false := Lib.frozen_of_heap Xa.out 0
    have ka1 : w2.cell? ⟨w.heap.size, 1, none⟩ = some (Value.bool n) := (Lib.cell_of_heap Xa.out 1).trans rfl
    have fa1 : w2.frozen? ⟨w.heap.size, 1, none⟩ = false := Lib.frozen_of_heap Xa.out 1
    have ka2 : w2.cell? ⟨w.heap.size, 2, none⟩ = some (Value.slice a xs.length c) := (Lib.cell_of_heap Xa.out 2).trans rfl
    have fa2 : w2.frozen? ⟨w.heap.size, 2, none⟩ = false := Lib.frozen_of_heap Xa.out 2
    have ka3 : w2.cell? ⟨w.heap.size, 3, none⟩ = some (Value.bool m) := (Lib.cell_of_heap Xa.out 3).trans rfl
    have fa3 : w2.frozen? ⟨w.heap.size, 3, none⟩ = false := Lib.frozen_of_heap Xa.out 3
    have ka4 : w2.cell? ⟨w.heap.size, 4, none⟩ = some (Value.slice b ys.length d) := (Lib.cell_of_heap Xa.out 4).trans rfl
    have fa4 : w2.frozen? ⟨w.heap.size, 4, none⟩ = false := Lib.frozen_of_heap Xa.out 4
    have ka5 : w2.cell? ⟨w.heap.size, 5, none⟩ = some (Value.string nm) := (Lib.cell_of_heap Xa.out 5).trans rfl
    have fa5 : w2.frozen? ⟨w.heap.size, 5, none⟩ = false := Lib.frozen_of_heap Xa.out 5
    have ka6 : w2.cell? ⟨w.heap.size, 6, none⟩ = some (Value.int .i64 p) := (Lib.cell_of_heap Xa.out 6).trans rfl
    have fa6 : w2.frozen? ⟨w.heap.size, 6, none⟩ = false := Lib.frozen_of_heap Xa.out 6
    have ka7 : w2.cell? ⟨w.heap.size, 7, none⟩ = some (Value.int .i64 q) := (Lib.cell_of_heap Xa.out 7).trans rfl
    have fa7 : w2.frozen? ⟨w.heap.size, 7, none⟩ = false := Lib.frozen_of_heap Xa.out 7
    have ka8 : w2.cell? ⟨w.heap.size, 8, none⟩ = some (Value.slice x k ck) := (Lib.cell_of_heap Xa.out 8).trans rfl
    have fa8 : w2.frozen? ⟨w.heap.size, 8, none⟩ = false := Lib.frozen_of_heap Xa.out 8
    have za : w.heap.size < w2.heap.size := hlt Xa.out
    cases hb : blankB n xs m ys with
    | false =>
      have Hb := hide hb
      clear hb
      go_wp2
      go_ret
      exact ⟨ret_bool (by rw [HO.out, Hb.out]; first | rfl | simp), HB.out⟩
    | true =>
      have Hb := hide hb
      clear hb
      cases hn : nm.toList.isEmpty with
      | false =>
        have Hn := hide hn
        go_wp2
        go_ret
        exact ⟨ret_bool (by rw [HO.out, Hb.out, Hn.out]; first | rfl | simp), HB.out⟩
      | true =>
        have Hn := hide hn
        go_wp2
        go_ret
        exact ⟨ret_bool (by rw [HO.out, Hb.out, Hn.out, HFF.out]; first | rfl | simp), HB.out⟩
  · have hp2 : (p == 0) = false := by rw [beq_eq_false_iff_ne]; exact hp
    have hq2 : (q == 0) = true := by rw [beq_iff_eq]; exact hq
    have HFF : Hid (F = false) := hide (by rw [← HF.out, decide_eq_false hp, decide_eq_true hq]; rfl)
    clear hp hq
    have Xa : Hid ((w.alloc (Obj.cells #[Value.int .i64 4, Value.bool n, Value.slice a xs.length c, Value.bool m, Value.slice b ys.length d, Value.string nm, Value.int .i64 p, Value.int .i64 q, Value.slice x k ck] 37)).heap[w.heap.size]? = some (.cells #[Value.int .i64 4, Value.bool n, Value.slice a xs.length c, Value.bool m, Value.slice b ys.length d, Value.string nm, Value.int .i64 p, Value.int .i64 q, Value.slice x k ck] 37 (0, 0))) := hide (by simpa only [World.size_alloc] using (hnew w (Obj.cells #[Value.int .i64 4, Value.bool n, Value.slice a xs.length c, Value.bool m, Value.slice b ys.length d, Value.string nm, Value.int .i64 p, Value.int .i64 q, Value.slice x k ck] 37)))
    have HB : Hid (Below w.heap.size w (w.alloc (Obj.cells #[Value.int .i64 4, Value.bool n, Value.slice a xs.length c, Value.bool m, Value.slice b ys.length d, Value.string nm, Value.int .i64 p, Value.int .i64 q, Value.slice x k ck] 37))) := hide (bl_alloc (bl_refl w) (Obj.cells #[Value.int .i64 4, Value.bool n, Value.slice a xs.length c, Value.bool m, Value.slice b ys.length d, Value.string nm, Value.int .i64 p, Value.int .i64 q, Value.slice x k ck] 37))
    have yw1 : w.heap.size + 1 ≤ (w.alloc (Obj.cells #[Value.int .i64 4, Value.bool n, Value.slice a xs.length c, Value.bool m, Value.slice b ys.length d, Value.string nm, Value.int .i64 p, Value.int .i64 q, Value.slice x k ck] 37)).heap.size := by simp only [World.size_alloc]; omega
    have ka0 : (w.alloc (Obj.cells #[Value.int .i64 4, Value.bool n, Value.slice a xs.length c, Value.bool m, Value.slice b ys.length d, Value.string nm, Value.int .i64 p, Value.int .i64 q, Value.slice x k ck] 37)).cell? ⟨w.heap.size, 0, none⟩ = some (Value.int .i64 4) := (Lib.cell_of_heap Xa.out 0).trans rfl
    have fa0 : (w.alloc (Obj.cells #[Value.int .i64 4, Value.bool n, Value.slice a xs.length c, Value.bool m, Value.slice b ys.length d, Value.string nm, Value.int .i64 p, Value.int .i64 q, Value.slice x k ck] 37)).frozen? ⟨w.heap.size, 0, none⟩ = false := Lib.frozen_of_heap Xa.out 0
    have ka1 : (w.alloc (Obj.cells #[Value.int .i64 4, Value.bool n, Value.slice a xs.length c, Value.bool m, Value.slice b ys.length d, Value.string nm, Value.int .i64 p, Value.int .i64 q, Value.slice x k ck] 37)).cell? ⟨w.heap.size, 1, none⟩ = some (Value.bool n) := (Lib.cell_of_heap Xa.out 1).trans rfl
    have fa1 : (w.alloc (Obj.cells #[Value.int .i64 4, Value.bool n, Value.slice a xs.length c, Value.bool m, Value.slice b ys.length d, Value.string nm, Value.int .i64 p, Value.int .i64 q, Value.slice x k ck] 37)).frozen? ⟨w.heap.size, 1, none⟩ = false := Lib.frozen_of_heap Xa.out 1
    have ka2 : (w.alloc (Obj.cells #[Value.int .i64 4, Value.bool n, Value.slice a xs.length c, Value.bool m, Value.slice b ys.length d, Value.string nm, Value.int .i64 p, Value.int .i64 q, Value.slice x k ck] 37)).cell? ⟨w.heap.size, 2, none⟩ = some (Value.slice a xs.length c) := (Lib.cell_of_heap Xa.out 2).trans rfl
    have fa2 : (w.alloc (Obj.cells #[Value.int .i64 4, Value.bool n, Value.slice a xs.length c, Value.bool m, Value.slice b ys.length d, Value.string nm, Value.int .i64 p, Value.int .i64 q, Value.slice x k ck] 37)).frozen? ⟨w.heap.size, 2, none⟩ = false := Lib.frozen_of_heap Xa.out 2
    have ka3 : (w.alloc (Obj.cells #[Value.int .i64 4, Value.bool n, Value.slice a xs.length c, Value.bool m, Value.slice b ys.length d, Value.string nm, Value.int .i64 p, Value.int .i64 q, Value.slice x k ck] 37)).cell? ⟨w.heap.size, 3, none⟩ = some (Value.bool m) := (Lib.cell_of_heap Xa.out 3).trans rfl
    have fa3 : (w.alloc (Obj.cells #[Value.int .i64 4, Value.bool n, Value.slice a xs.length c, Value.bool m, Value.slice b ys.length d, Value.string nm, Value.int .i64 p, Value.int .i64 q, Value.slice x k ck] 37)).frozen? ⟨w.heap.size, 3, none⟩ = false := Lib.frozen_of_heap Xa.out 3
    have ka4 : (w.alloc (Obj.cells #[Value.int .i64 4, Value.bool n, Value.slice a xs.length c, Value.bool m, Value.slice b ys.length d, Value.string nm, Value.int .i64 p, Value.int .i64 q, Value.slice x k ck] 37)).cell? ⟨w.heap.size, 4, none⟩ = some (Value.slice b ys.length d) := (Lib.cell_of_heap Xa.out 4).trans rfl
    have fa4 : (w.alloc (Obj.cells #[Value.int .i64 4, Value.bool n, Value.slice a xs.length c, Value.bool m, Value.slice b ys.length d, Value.string nm, Value.int .i64 p, Value.int .i64 q, Value.slice x k ck] 37)).frozen? ⟨w.heap.size, 4, none⟩ = false := Lib.frozen_of_heap Xa.out 4
    have ka5 : (w.alloc (Obj.cells #[Value.int .i64 4, Value.bool n, Value.slice a xs.length c, Value.bool m, Value.slice b ys.length d, Value.string nm, Value.int .i64 p, Value.int .i64 q, Value.slice x k ck] 37)).cell? ⟨w.heap.size, 5, none⟩ = some (Value.string nm) := (Lib.cell_of_heap Xa.out 5).trans rfl
    have fa5 : (w.alloc (Obj.cells #[Value.int .i64 4, Value.bool n, Value.slice a xs.length c, Value.bool m, Value.slice b ys.length d, Value.string nm, Value.int .i64 p, Value.int .i64 q, Value.slice x k ck] 37)).frozen? ⟨w.heap.size, 5, none⟩ = false := Lib.frozen_of_heap Xa.out 5
    have ka6 : (w.alloc (Obj.cells #[Value.int .i64 4, Value.bool n, Value.slice a xs.length c, Value.bool m, Value.slice b ys.length d, Value.string nm, Value.int .i64 p, Value.int .i64 q, Value.slice x k ck] 37)).cell? ⟨w.heap.size, 6, none⟩ = some (Value.int .i64 p) := (Lib.cell_of_heap Xa.out 6).trans rfl
    have fa6 : (w.alloc (Obj.cells #[Value.int .i64 4, Value.bool n, Value.slice a xs.length c, Value.bool m, Value.slice b ys.length d, Value.string nm, Value.int .i64 p, Value.int .i64 q, Value.slice x k ck] 37)).frozen? ⟨w.heap.size, 6, none⟩ = false := Lib.frozen_of_heap Xa.out 6
    have ka7 : (w.alloc (Obj.cells #[Value.int .i64 4, Value.bool n, Value.slice a xs.length c, Value.bool m, Value.slice b ys.length d, Value.string nm, Value.int .i64 p, Value.int .i64 q, Value.slice x k ck] 37)).cell? ⟨w.heap.size, 7, none⟩ = some (Value.int .i64 q) := (Lib.cell_of_heap Xa.out 7).trans rfl
    have fa7 : (w.alloc (Obj.cells #[Value.int .i64 4, Value.bool n, Value.slice a xs.length c, Value.bool m, Value.slice b ys.length d, Value.string nm, Value.int .i64 p, Value.int .i64 q, Value.slice x k ck] 37)).frozen? ⟨w.heap.size, 7, none⟩ = false := Lib.frozen_of_heap Xa.out 7
    have ka8 : (w.alloc (Obj.cells #[Value.int .i64 4, Value.bool n, Value.slice a xs.length c, Value.bool m, Value.slice b ys.length d, Value.string nm, Value.int .i64 p, Value.int .i64 q, Value.slice x k ck] 37)).cell? ⟨w.heap.size, 8, none⟩ = some (Value.slice x k ck) := (Lib.cell_of_heap Xa.out 8).trans rfl
    have fa8 : (w.alloc (Obj.cells #[Value.int .i64 4, Value.bool n, Value.slice a xs.length c, Value.bool m, Value.slice b ys.length d, Value.string nm, Value.int .i64 p, Value.int .i64 q, Value.slice x k ck] 37)).frozen? ⟨w.heap.size, 8, none⟩ = false := Lib.frozen_of_heap Xa.out 8
    have za : w.heap.size < (w.alloc (Obj.cells #[Value.int .i64 4, Value.bool n, Value.slice a xs.length c, Value.bool m, Value.slice b ys.length d, Value.string nm, Value.int .i64 p, Value.int .i64 q, Value.slice x k ck] 37)).heap.size := hlt Xa.out
    go_enter Tryz.func23, Tryz.ntmps23
    go_wp2_with fail
    generalize (w.alloc (Obj.cells #[Value.int .i64 4, Value.bool n, Value.slice a xs.length c, Value.bool m, Value.slice b ys.length d, Value.string nm, Value.int .i64 p, Value.int .i64 q, Value.slice x k ck] 37)) = w1 at *
    refine (noneS n xs m ys a c b d _ (S1.out.below HB.out) (S2.out.below HB.out)).mono ?_
    rintro e w2 ⟨rfl, hb⟩
    have yw2 := hb.size
    clear ka0 fa0 ka1 fa1 ka2 fa2 ka3 fa3 ka4 fa4 ka5 fa5 ka6 fa6 ka7 fa7 ka8 fa8 za
    replace Xa := hide (hbel Xa.out hb (by first | assumption | omega))
    replace HB := hide (bl_trans HB.out hb)
    clear hb
    have ka0 : w2.cell? ⟨w.heap.size, 0, none⟩ = some (Value.int .i64 4) := (Lib.cell_of_heap Xa.out 0).trans rfl
    have fa0 : w2.frozen? ⟨w.heap.size, 0, none⟩ = false := Lib.frozen_of_heap Xa.out 0
    have ka1 : w2.cell? ⟨w.heap.size, 1, none⟩ = some (Value.bool n) := (Lib.cell_of_heap Xa.out 1).trans rfl
    have fa1 : w2.frozen? ⟨w.heap.size, 1, none⟩ = false := Lib.frozen_of_heap Xa.out 1
    have ka2 : w2.cell? ⟨w.heap.size, 2, none⟩ = some (Value.slice a xs.length c) := (Lib.cell_of_heap Xa.out 2).trans rfl
    have fa2 : w2.frozen? ⟨w.heap.size, 2, none⟩ = false := Lib.frozen_of_heap Xa.out 2
    have ka3 : w2.cell? ⟨w.heap.size, 3, none⟩ = some (Value.bool m) := (Lib.cell_of_heap Xa.out 3).trans rfl
    have fa3 : w2.frozen? ⟨w.heap.size, 3, none⟩ = false := Lib.frozen_of_heap Xa.out 3
    have ka4 : w2.cell? ⟨w.heap.size, 4, none⟩ = some (Value.slice b ys.length d) := (Lib.cell_of_heap Xa.out 4).trans rfl
    have fa4 : w2.frozen? ⟨w.heap.size, 4, none⟩ = false := Lib.frozen_of_heap Xa.out 4
    have ka5 : w2.cell? ⟨w.heap.size, 5, none⟩ = some (Value.string nm) := (Lib.cell_of_heap Xa.out 5).trans rfl
    have fa5 : w2.frozen? ⟨w.heap.size, 5, none⟩ = false := Lib.frozen_of_heap Xa.out 5
    have ka6 : w2.cell? ⟨w.heap.size, 6, none⟩ = some (Value.int .i64 p) := (Lib.cell_of_heap Xa.out 6).trans rfl
    have fa6 : w2.frozen? ⟨w.heap.size, 6, none⟩ = false := Lib.frozen_of_heap Xa.out 6
    have ka7 : w2.cell? ⟨w.heap.size, 7, none⟩ = some (Value.int .i64 q) := (Lib.cell_of_heap Xa.out 7).trans rfl
    have fa7 : w2.frozen? ⟨w.heap.size, 7, none⟩ = false := Lib.frozen_of_heap Xa.out 7
    have ka8 : w2.cell? ⟨w.heap.size, 8, none⟩ = some (Value.slice x k ck) := (Lib.cell_of_heap Xa.out 8).trans rfl
    have fa8 : w2.frozen? ⟨w.heap.size, 8, none⟩ = false := Lib.frozen_of_heap Xa.out 8
    have za : w.heap.size < w2.heap.size := hlt Xa.out
    cases hb : blankB n xs m ys with
    | false =>
      have Hb := hide hb
      clear hb
      go_wp2
      go_ret
      exact ⟨ret_bool (by rw [HO.out, Hb.out]; first | rfl | simp), HB.out⟩
    | true =>
      have Hb := hide hb
      clear hb
      cases hn : nm.toList.isEmpty with
      | false =>
        have Hn := hide hn
        go_wp2
        go_ret
        exact ⟨ret_bool (by rw [HO.out, Hb.out, Hn.out]; first | rfl | simp), HB.out⟩
      | true =>
        have Hn := hide hn
        go_wp2
        go_ret
        exact ⟨ret_bool (by rw [HO.out, Hb.out, Hn.out, HFF.out]; first | rfl | simp), HB.out⟩
  · have hp2 : (p == 0) = false := by rw [beq_eq_false_iff_ne]; exact hp
    have hq2 : (q == 0) = false := by rw [beq_eq_false_iff_ne]; exact hq
    have HFF : Hid (F = false) := hide (by rw [← HF.out, decide_eq_false hp, decide_eq_false hq]; rfl)
    clear hp hq
    have Xa : Hid ((w.alloc (Obj.cells #[Value.int .i64 4, Value.bool n, Value.slice a xs.length c, Value.bool m, Value.slice b ys.length d, Value.string nm, Value.int .i64 p, Value.int .i64 q, Value.slice x k ck] 37)).heap[w.heap.size]? = some (.cells #[Value.int .i64 4, Value.bool n, Value.slice a xs.length c, Value.bool m, Value.slice b ys.length d, Value.string nm, Value.int .i64 p, Value.int .i64 q, Value.slice x k ck] 37 (0, 0))) := hide (by simpa only [World.size_alloc] using (hnew w (Obj.cells #[Value.int .i64 4, Value.bool n, Value.slice a xs.length c, Value.bool m, Value.slice b ys.length d, Value.string nm, Value.int .i64 p, Value.int .i64 q, Value.slice x k ck] 37)))
    have HB : Hid (Below w.heap.size w (w.alloc (Obj.cells #[Value.int .i64 4, Value.bool n, Value.slice a xs.length c, Value.bool m, Value.slice b ys.length d, Value.string nm, Value.int .i64 p, Value.int .i64 q, Value.slice x k ck] 37))) := hide (bl_alloc (bl_refl w) (Obj.cells #[Value.int .i64 4, Value.bool n, Value.slice a xs.length c, Value.bool m, Value.slice b ys.length d, Value.string nm, Value.int .i64 p, Value.int .i64 q, Value.slice x k ck] 37))
    have yw1 : w.heap.size + 1 ≤ (w.alloc (Obj.cells #[Value.int .i64 4, Value.bool n, Value.slice a xs.length c, Value.bool m, Value.slice b ys.length d, Value.string nm, Value.int .i64 p, Value.int .i64 q, Value.slice x k ck] 37)).heap.size := by simp only [World.size_alloc]; omega
    have ka0 : (w.alloc (Obj.cells #[Value.int .i64 4, Value.bool n, Value.slice a xs.length c, Value.bool m, Value.slice b ys.length d, Value.string nm, Value.int .i64 p, Value.int .i64 q, Value.slice x k ck] 37)).cell? ⟨w.heap.size, 0, none⟩ = some (Value.int .i64 4) := (Lib.cell_of_heap Xa.out 0).trans rfl
    have fa0 : (w.alloc (Obj.cells #[Value.int .i64 4, Value.bool n, Value.slice a xs.length c, Value.bool m, Value.slice b ys.length d, Value.string nm, Value.int .i64 p, Value.int .i64 q, Value.slice x k ck] 37)).frozen? ⟨w.heap.size, 0, none⟩ = false := Lib.frozen_of_heap Xa.out 0
    have ka1 : (w.alloc (Obj.cells #[Value.int .i64 4, Value.bool n, Value.slice a xs.length c, Value.bool m, Value.slice b ys.length d, Value.string nm, Value.int .i64 p, Value.int .i64 q, Value.slice x k ck] 37)).cell? ⟨w.heap.size, 1, none⟩ = some (Value.bool n) := (Lib.cell_of_heap Xa.out 1).trans rfl
    have fa1 : (w.alloc (Obj.cells #[Value.int .i64 4, Value.bool n, Value.slice a xs.length c, Value.bool m, Value.slice b ys.length d, Value.string nm, Value.int .i64 p, Value.int .i64 q, Value.slice x k ck] 37)).frozen? ⟨w.heap.size, 1, none⟩ = false := Lib.frozen_of_heap Xa.out 1
    have ka2 : (w.alloc (Obj.cells #[Value.int .i64 4, Value.bool n, Value.slice a xs.length c, Value.bool m, Value.slice b ys.length d, Value.string nm, Value.int .i64 p, Value.int .i64 q, Value.slice x k ck] 37)).cell? ⟨w.heap.size, 2, none⟩ = some (Value.slice a xs.length c) := (Lib.cell_of_heap Xa.out 2).trans rfl
    have fa2 : (w.alloc (Obj.cells #[Value.int .i64 4, Value.bool n, Value.slice a xs.length c, Value.bool m, Value.slice b ys.length d, Value.string nm, Value.int .i64 p, Value.int .i64 q, Value.slice x k ck] 37)).frozen? ⟨w.heap.size, 2, none⟩ = false := Lib.frozen_of_heap Xa.out 2
    have ka3 : (w.alloc (Obj.cells #[Value.int .i64 4, Value.bool n, Value.slice a xs.length c, Value.bool m, Value.slice b ys.length d, Value.string nm, Value.int .i64 p, Value.int .i64 q, Value.slice x k ck] 37)).cell? ⟨w.heap.size, 3, none⟩ = some (Value.bool m) := (Lib.cell_of_heap Xa.out 3).trans rfl
    have fa3 : (w.alloc (Obj.cells #[Value.int .i64 4, Value.bool n, Value.slice a xs.length c, Value.bool m, Value.slice b ys.length d, Value.string nm, Value.int .i64 p, Value.int .i64 q, Value.slice x k ck] 37)).frozen? ⟨w.heap.size, 3, none⟩ = false := Lib.frozen_of_heap Xa.out 3
    have ka4 : (w.alloc (Obj.cells #[Value.int .i64 4, Value.bool n, Value.slice a xs.length c, Value.bool m, Value.slice b ys.length d, Value.string nm, Value.int .i64 p, Value.int .i64 q, Value.slice x k ck] 37)).cell? ⟨w.heap.size, 4, none⟩ = some (Value.slice b ys.length d) := (Lib.cell_of_heap Xa.out 4).trans rfl
    have fa4 : (w.alloc (Obj.cells #[Value.int .i64 4, Value.bool n, Value.slice a xs.length c, Value.bool m, Value.slice b ys.length d, Value.string nm, Value.int .i64 p, Value.int .i64 q, Value.slice x k ck] 37)).frozen? ⟨w.heap.size, 4, none⟩ = false := Lib.frozen_of_heap Xa.out 4
    have ka5 : (w.alloc (Obj.cells #[Value.int .i64 4, Value.bool n, Value.slice a xs.length c, Value.bool m, Value.slice b ys.length d, Value.string nm, Value.int .i64 p, Value.int .i64 q, Value.slice x k ck] 37)).cell? ⟨w.heap.size, 5, none⟩ = some (Value.string nm) := (Lib.cell_of_heap Xa.out 5).trans rfl
    have fa5 : (w.alloc (Obj.cells #[Value.int .i64 4, Value.bool n, Value.slice a xs.length c, Value.bool m, Value.slice b ys.length d, Value.string nm, Value.int .i64 p, Value.int .i64 q, Value.slice x k ck] 37)).frozen? ⟨w.heap.size, 5, none⟩ = false := Lib.frozen_of_heap Xa.out 5
    have ka6 : (w.alloc (Obj.cells #[Value.int .i64 4, Value.bool n, Value.slice a xs.length c, Value.bool m, Value.slice b ys.length d, Value.string nm, Value.int .i64 p, Value.int .i64 q, Value.slice x k ck] 37)).cell? ⟨w.heap.size, 6, none⟩ = some (Value.int .i64 p) := (Lib.cell_of_heap Xa.out 6).trans rfl
    have fa6 : (w.alloc (Obj.cells #[Value.int .i64 4, Value.bool n, Value.slice a xs.length c, Value.bool m, Value.slice b ys.length d, Value.string nm, Value.int .i64 p, Value.int .i64 q, Value.slice x k ck] 37)).frozen? ⟨w.heap.size, 6, none⟩ = false := Lib.frozen_of_heap Xa.out 6
    have ka7 : (w.alloc (Obj.cells #[Value.int .i64 4, Value.bool n, Value.slice a xs.length c, Value.bool m, Value.slice b ys.length d, Value.string nm, Value.int .i64 p, Value.int .i64 q, Value.slice x k ck] 37)).cell? ⟨w.heap.size, 7, none⟩ = some (Value.int .i64 q) := (Lib.cell_of_heap Xa.out 7).trans rfl
    have fa7 : (w.alloc (Obj.cells #[Value.int .i64 4, Value.bool n, Value.slice a xs.length c, Value.bool m, Value.slice b ys.length d, Value.string nm, Value.int .i64 p, Value.int .i64 q, Value.slice x k ck] 37)).frozen? ⟨w.heap.size, 7, none⟩ = false := Lib.frozen_of_heap Xa.out 7
    have ka8 : (w.alloc (Obj.cells #[Value.int .i64 4, Value.bool n, Value.slice a xs.length c, Value.bool m, Value.slice b ys.length d, Value.string nm, Value.int .i64 p, Value.int .i64 q, Value.slice x k ck] 37)).cell? ⟨w.heap.size, 8, none⟩ = some (Value.slice x k ck) := (Lib.cell_of_heap Xa.out 8).trans rfl
    have fa8 : (w.alloc (Obj.cells #[Value.int .i64 4, Value.bool n, Value.slice a xs.length c, Value.bool m, Value.slice b ys.length d, Value.string nm, Value.int .i64 p, Value.int .i64 q, Value.slice x k ck] 37)).frozen? ⟨w.heap.size, 8, none⟩ = false := Lib.frozen_of_heap Xa.out 8
    have za : w.heap.size < (w.alloc (Obj.cells #[Value.int .i64 4, Value.bool n, Value.slice a xs.length c, Value.bool m, Value.slice b ys.length d, Value.string nm, Value.int .i64 p, Value.int .i64 q, Value.slice x k ck] 37)).heap.size := hlt Xa.out
    go_enter Tryz.func23, Tryz.ntmps23
    go_wp2_with fail
    generalize (w.alloc (Obj.cells #[Value.int .i64 4, Value.bool n, Value.slice a xs.length c, Value.bool m, Value.slice b ys.length d, Value.string nm, Value.int .i64 p, Value.int .i64 q, Value.slice x k ck] 37)) = w1 at *
    refine (noneS n xs m ys a c b d _ (S1.out.below HB.out) (S2.out.below HB.out)).mono ?_
    rintro e w2 ⟨rfl, hb⟩
    have yw2 := hb.size
    clear ka0 fa0 ka1 fa1 ka2 fa2 ka3 fa3 ka4 fa4 ka5 fa5 ka6 fa6 ka7 fa7 ka8 fa8 za
    replace Xa := hide (hbel Xa.out hb (by first | assumption | omega))
    replace HB := hide (bl_trans HB.out hb)
    clear hb
    have ka0 : w2.cell? ⟨w.heap.size, 0, none⟩ = some (Value.int .i64 4) := (Lib.cell_of_heap Xa.out 0).trans rfl
    have fa0 : w2.frozen? ⟨w.heap.size, 0, none⟩ = false := Lib.frozen_of_heap Xa.out 0
    have ka1 : w2.cell? ⟨w.heap.size, 1, none⟩ = some (Value.bool n) := (Lib.cell_of_heap Xa.out 1).trans rfl
    have fa1 : w2.frozen? ⟨w.heap.size, 1, none⟩ = false := Lib.frozen_of_heap Xa.out 1
    have ka2 : w2.cell? ⟨w.heap.size, 2, none⟩ = some (Value.slice a xs.length c) := (Lib.cell_of_heap Xa.out 2).trans rfl
    have fa2 : w2.frozen? ⟨w.heap.size, 2, none⟩ = false := Lib.frozen_of_heap Xa.out 2
    have ka3 : w2.cell? ⟨w.heap.size, 3, none⟩ = some (Value.bool m) := (Lib.cell_of_heap Xa.out 3).trans rfl
    have fa3 : w2.frozen? ⟨w.heap.size, 3, none⟩ = false := Lib.frozen_of_heap Xa.out 3
    have ka4 : w2.cell? ⟨w.heap.size, 4, none⟩ = some (Value.slice b ys.length d) := (Lib.cell_of_heap Xa.out 4).trans rfl
    have fa4 : w2.frozen? ⟨w.heap.size, 4, none⟩ = false := Lib.frozen_of_heap Xa.out 4
    have ka5 : w2.cell? ⟨w.heap.size, 5, none⟩ = some (Value.string nm) := (Lib.cell_of_heap Xa.out 5).trans rfl
    have fa5 : w2.frozen? ⟨w.heap.size, 5, none⟩ = false := Lib.frozen_of_heap Xa.out 5
    have ka6 : w2.cell? ⟨w.heap.size, 6, none⟩ = some (Value.int .i64 p) := (Lib.cell_of_heap Xa.out 6).trans rfl
    have fa6 : w2.frozen? ⟨w.heap.size, 6, none⟩ = false := Lib.frozen_of_heap Xa.out 6
    have ka7 : w2.cell? ⟨w.heap.size, 7, none⟩ = some (Value.int .i64 q) := (Lib.cell_of_heap Xa.out 7).trans rfl
    have fa7 : w2.frozen? ⟨w.heap.size, 7, none⟩ = false := Lib.frozen_of_heap Xa.out 7
    have ka8 : w2.cell? ⟨w.heap.size, 8, none⟩ = some (Value.slice x k ck) := (Lib.cell_of_heap Xa.out 8).trans rfl
    have fa8 : w2.frozen? ⟨w.heap.size, 8, none⟩ = false := Lib.frozen_of_heap Xa.out 8
    have za : w.heap.size < w2.heap.size := hlt Xa.out
    cases hb : blankB n xs m ys with
    | false =>
      have Hb := hide hb
      clear hb
      go_wp2
      go_ret
      exact ⟨ret_bool (by rw [HO.out, Hb.out]; first | rfl | simp), HB.out⟩
    | true =>
      have Hb := hide hb
      clear hb
      cases hn : nm.toList.isEmpty with
      | false =>
        have Hn := hide hn
        go_wp2
        go_ret
        exact ⟨ret_bool (by rw [HO.out, Hb.out, Hn.out]; first | rfl | simp), HB.out⟩
      | true =>
        have Hn := hide hn
        go_wp2
        go_ret
        exact ⟨ret_bool (by rw [HO.out, Hb.out, Hn.out, HFF.out]; first | rfl | simp), HB.out⟩

set_option maxHeartbeats 4000000 in
set_option maxRecDepth 20000 in
theorem ownS5 (n : Bool) (xs : List Nat) (m : Bool) (ys : List Nat) (nm : ByteArray) (p q : Int) (k : Nat) (a : Option Addr) (c : Nat) (b : Option Addr) (d : Nat) (x : Option Addr) (ck : Nat) (w : World) (s1 : Seg w a xs.length c xs) (s2 : Seg w b ys.length d ys) (hk : k ≤ 9223372036854775807) (hnm : nm.size ≤ 140737488355328) :
    Calls Tryz.prog 23 #[Value.agg #[Value.int .i64 5, Value.bool n, Value.slice a xs.length c, Value.bool m, Value.slice b ys.length d, Value.string nm, Value.int .i64 p, Value.int .i64 q, Value.slice x k ck]] w fun e w' => e = .returned (.bool (ownB 5 n xs m ys nm p q k)) ∧ Below w.heap.size w w' := by
  have q1 := s1.le
  have q2 := s2.le
  have sm := hide s1.2.2.2.1
  have S1 := hide s1
  have S2 := hide s2
  clear s1 s2
  obtain ⟨F, hF⟩ : ∃ F, (decide (p = 0) && decide (q = 0)) = F := ⟨_, rfl⟩
  have HF := hide hF
  have HO : Hid (ownB 5 n xs m ys nm p q k = (blankB n xs m ys && (nm.toList.isEmpty && (F && decide (k = 2))))) := hide (by rw [← hF]; exact own_5 ..)
  clear hF
  by_cases hp : p = 0
  all_goals by_cases hq : q = 0
  · have hp2 : (p == 0) = true := by rw [beq_iff_eq]; exact hp
    have hq2 : (q == 0) = true := by rw [beq_iff_eq]; exact hq
    have HFF : Hid (F = true) := hide (by rw [← HF.out, decide_eq_true hp, decide_eq_true hq]; rfl)
    clear hp hq
    have Xa : Hid ((w.alloc (Obj.cells #[Value.int .i64 5, Value.bool n, Value.slice a xs.length c, Value.bool m, Value.slice b ys.length d, Value.string nm, Value.int .i64 p, Value.int .i64 q, Value.slice x k ck] 37)).heap[w.heap.size]? = some (.cells #[Value.int .i64 5, Value.bool n, Value.slice a xs.length c, Value.bool m, Value.slice b ys.length d, Value.string nm, Value.int .i64 p, Value.int .i64 q, Value.slice x k ck] 37 (0, 0))) := hide (by simpa only [World.size_alloc] using (hnew w (Obj.cells #[Value.int .i64 5, Value.bool n, Value.slice a xs.length c, Value.bool m, Value.slice b ys.length d, Value.string nm, Value.int .i64 p, Value.int .i64 q, Value.slice x k ck] 37)))
    have HB : Hid (Below w.heap.size w (w.alloc (Obj.cells #[Value.int .i64 5, Value.bool n, Value.slice a xs.length c, Value.bool m, Value.slice b ys.length d, Value.string nm, Value.int .i64 p, Value.int .i64 q, Value.slice x k ck] 37))) := hide (bl_alloc (bl_refl w) (Obj.cells #[Value.int .i64 5, Value.bool n, Value.slice a xs.length c, Value.bool m, Value.slice b ys.length d, Value.string nm, Value.int .i64 p, Value.int .i64 q, Value.slice x k ck] 37))
    have yw1 : w.heap.size + 1 ≤ (w.alloc (Obj.cells #[Value.int .i64 5, Value.bool n, Value.slice a xs.length c, Value.bool m, Value.slice b ys.length d, Value.string nm, Value.int .i64 p, Value.int .i64 q, Value.slice x k ck] 37)).heap.size := by simp only [World.size_alloc]; omega
    have ka0 : (w.alloc (Obj.cells #[Value.int .i64 5, Value.bool n, Value.slice a xs.length c, Value.bool m, Value.slice b ys.length d, Value.string nm, Value.int .i64 p, Value.int .i64 q, Value.slice x k ck] 37)).cell? ⟨w.heap.size, 0, none⟩ = some (Value.int .i64 5) := (Lib.cell_of_heap Xa.out 0).trans rfl
    have fa0 : (w.alloc (Obj.cells #[Value.int .i64 5, Value.bool n, Value.slice a xs.length c, Value.bool m, Value.slice b ys.length d, Value.string nm, Value.int .i64 p, Value.int .i64 q, Value.slice x k ck] 37)).frozen? ⟨w.heap.size, 0, none⟩ = false := Lib.frozen_of_heap Xa.out 0
    have ka1 : (w.alloc (Obj.cells #[Value.int .i64 5, Value.bool n, Value.slice a xs.length c, Value.bool m, Value.slice b ys.length d, Value.string nm, Value.int .i64 p, Value.int .i64 q, Value.slice x k ck] 37)).cell? ⟨w.heap.size, 1, none⟩ = some (Value.bool n) := (Lib.cell_of_heap Xa.out 1).trans rfl
    have fa1 : (w.alloc (Obj.cells #[Value.int .i64 5, Value.bool n, Value.slice a xs.length c, Value.bool m, Value.slice b ys.length d, Value.string nm, Value.int .i64 p, Value.int .i64 q, Value.slice x k ck] 37)).frozen? ⟨w.heap.size, 1, none⟩ = false := Lib.frozen_of_heap Xa.out 1
    have ka2 : (w.alloc (Obj.cells #[Value.int .i64 5, Value.bool n, Value.slice a xs.length c, Value.bool m, Value.slice b ys.length d, Value.string nm, Value.int .i64 p, Value.int .i64 q, Value.slice x k ck] 37)).cell? ⟨w.heap.size, 2, none⟩ = some (Value.slice a xs.length c) := (Lib.cell_of_heap Xa.out 2).trans rfl
    have fa2 : (w.alloc (Obj.cells #[Value.int .i64 5, Value.bool n, Value.slice a xs.length c, Value.bool m, Value.slice b ys.length d, Value.string nm, Value.int .i64 p, Value.int .i64 q, Value.slice x k ck] 37)).frozen? ⟨w.heap.size, 2, none⟩ = false := Lib.frozen_of_heap Xa.out 2
    have ka3 : (w.alloc (Obj.cells #[Value.int .i64 5, Value.bool n, Value.slice a xs.length c, Value.bool m, Value.slice b ys.length d, Value.string nm, Value.int .i64 p, Value.int .i64 q, Value.slice x k ck] 37)).cell? ⟨w.heap.size, 3, none⟩ = some (Value.bool m) := (Lib.cell_of_heap Xa.out 3).trans rfl
    have fa3 : (w.alloc (Obj.cells #[Value.int .i64 5, Value.bool n, Value.slice a xs.length c, Value.bool m, Value.slice b ys.length d, Value.string nm, Value.int .i64 p, Value.int .i64 q, Value.slice x k ck] 37)).frozen? ⟨w.heap.size, 3, none⟩ = false := Lib.frozen_of_heap Xa.out 3
    have ka4 : (w.alloc (Obj.cells #[Value.int .i64 5, Value.bool n, Value.slice a xs.length c, Value.bool m, Value.slice b ys.length d, Value.string nm, Value.int .i64 p, Value.int .i64 q, Value.slice x k ck] 37)).cell? ⟨w.heap.size, 4, none⟩ = some (Value.slice b ys.length d) := (Lib.cell_of_heap Xa.out 4).trans rfl
    have fa4 : (w.alloc (Obj.cells #[Value.int .i64 5, Value.bool n, Value.slice a xs.length c, Value.bool m, Value.slice b ys.length d, Value.string nm, Value.int .i64 p, Value.int .i64 q, Value.slice x k ck] 37)).frozen? ⟨w.heap.size, 4, none⟩ = false := Lib.frozen_of_heap Xa.out 4
    have ka5 : (w.alloc (Obj.cells #[Value.int .i64 5, Value.bool n, Value.slice a xs.length c, Value.bool m, Value.slice b ys.length d, Value.string nm, Value.int .i64 p, Value.int .i64 q, Value.slice x k ck] 37)).cell? ⟨w.heap.size, 5, none⟩ = some (Value.string nm) := (Lib.cell_of_heap Xa.out 5).trans rfl
    have fa5 : (w.alloc (Obj.cells #[Value.int .i64 5, Value.bool n, Value.slice a xs.length c, Value.bool m, Value.slice b ys.length d, Value.string nm, Value.int .i64 p, Value.int .i64 q, Value.slice x k ck] 37)).frozen? ⟨w.heap.size, 5, none⟩ = false := Lib.frozen_of_heap Xa.out 5
    have ka6 : (w.alloc (Obj.cells #[Value.int .i64 5, Value.bool n, Value.slice a xs.length c, Value.bool m, Value.slice b ys.length d, Value.string nm, Value.int .i64 p, Value.int .i64 q, Value.slice x k ck] 37)).cell? ⟨w.heap.size, 6, none⟩ = some (Value.int .i64 p) := (Lib.cell_of_heap Xa.out 6).trans rfl
    have fa6 : (w.alloc (Obj.cells #[Value.int .i64 5, Value.bool n, Value.slice a xs.length c, Value.bool m, Value.slice b ys.length d, Value.string nm, Value.int .i64 p, Value.int .i64 q, Value.slice x k ck] 37)).frozen? ⟨w.heap.size, 6, none⟩ = false := Lib.frozen_of_heap Xa.out 6
    have ka7 : (w.alloc (Obj.cells #[Value.int .i64 5, Value.bool n, Value.slice a xs.length c, Value.bool m, Value.slice b ys.length d, Value.string nm, Value.int .i64 p, Value.int .i64 q, Value.slice x k ck] 37)).cell? ⟨w.heap.size, 7, none⟩ = some (Value.int .i64 q) := (Lib.cell_of_heap Xa.out 7).trans rfl
    have fa7 : (w.alloc (Obj.cells #[Value.int .i64 5, Value.bool n, Value.slice a xs.length c, Value.bool m, Value.slice b ys.length d, Value.string nm, Value.int .i64 p, Value.int .i64 q, Value.slice x k ck] 37)).frozen? ⟨w.heap.size, 7, none⟩ = false := Lib.frozen_of_heap Xa.out 7
    have ka8 : (w.alloc (Obj.cells #[Value.int .i64 5, Value.bool n, Value.slice a xs.length c, Value.bool m, Value.slice b ys.length d, Value.string nm, Value.int .i64 p, Value.int .i64 q, Value.slice x k ck] 37)).cell? ⟨w.heap.size, 8, none⟩ = some (Value.slice x k ck) := (Lib.cell_of_heap Xa.out 8).trans rfl
    have fa8 : (w.alloc (Obj.cells #[Value.int .i64 5, Value.bool n, Value.slice a xs.length c, Value.bool m, Value.slice b ys.length d, Value.string nm, Value.int .i64 p, Value.int .i64 q, Value.slice x k ck] 37)).frozen? ⟨w.heap.size, 8, none⟩ = false := Lib.frozen_of_heap Xa.out 8
    have za : w.heap.size < (w.alloc (Obj.cells #[Value.int .i64 5, Value.bool n, Value.slice a xs.length c, Value.bool m, Value.slice b ys.length d, Value.string nm, Value.int .i64 p, Value.int .i64 q, Value.slice x k ck] 37)).heap.size := hlt Xa.out
    go_enter Tryz.func23, Tryz.ntmps23
    go_wp2_with fail
    generalize (w.alloc (Obj.cells #[Value.int .i64 5, Value.bool n, Value.slice a xs.length c, Value.bool m, Value.slice b ys.length d, Value.string nm, Value.int .i64 p, Value.int .i64 q, Value.slice x k ck] 37)) = w1 at *
    refine (noneS n xs m ys a c b d _ (S1.out.below HB.out) (S2.out.below HB.out)).mono ?_
    rintro e w2 ⟨rfl, hb⟩
    have yw2 := hb.size
    clear ka0 fa0 ka1 fa1 ka2 fa2 ka3 fa3 ka4 fa4 ka5 fa5 ka6 fa6 ka7 fa7 ka8 fa8 za
    replace Xa := hide (hbel Xa.out hb (by first | assumption | omega))
    replace HB := hide (bl_trans HB.out hb)
    clear hb
    have ka0 : w2.cell? ⟨w.heap.size, 0, none⟩ = some (Value.int .i64 5) := (Lib.cell_of_heap Xa.out 0).trans rfl
    have fa0 : w2.frozen? ⟨w.heap.size, 0, none⟩ = false := Lib.frozen_of_heap Xa.out 0
    have ka1 : w2.cell? ⟨w.heap.size, 1, none⟩ = some (Value.bool n) := (Lib.cell_of_heap Xa.out 1).trans rfl
    have fa1 : w2.frozen? ⟨w.heap.size, 1, none⟩ = false := Lib.frozen_of_heap Xa.out 1
    have ka2 : w2.cell? ⟨w.heap.size, 2, none⟩ = some (Value.slice a xs.length c) := (Lib.cell_of_heap Xa.out 2).trans rfl
    have fa2 : w2.frozen? ⟨w.heap.size, 2, none⟩ = false := Lib.frozen_of_heap Xa.out 2
    have ka3 : w2.cell? ⟨w.heap.size, 3, none⟩ = some (Value.bool m) := (Lib.cell_of_heap Xa.out 3).trans rfl
    have fa3 : w2.frozen? ⟨w.heap.size, 3, none⟩ = false := Lib.frozen_of_heap Xa.out 3
    have ka4 : w2.cell? ⟨w.heap.size, 4, none⟩ = some (Value.slice b ys.length d) := (Lib.cell_of_heap Xa.out 4).trans rfl
    have fa4 : w2.frozen? ⟨w.heap.size, 4, none⟩ = false := Lib.frozen_of_heap Xa.out 4
    have ka5 : w2.cell? ⟨w.heap.size, 5, none⟩ = some (Value.string nm) := (Lib.cell_of_heap Xa.out 5).trans rfl
    have fa5 : w2.frozen? ⟨w.heap.size, 5, none⟩ = false := Lib.frozen_of_heap Xa.out 5
    have ka6 : w2.cell? ⟨w.heap.size, 6, none⟩ = some (Value.int .i64 p) := (Lib.cell_of_heap Xa.out 6).trans rfl
    have fa6 : w2.frozen? ⟨w.heap.size, 6, none⟩ = false := Lib.frozen_of_heap Xa.out 6
    have ka7 : w2.cell? ⟨w.heap.size, 7, none⟩ = some (Value.int .i64 q) := (Lib.cell_of_heap Xa.out 7).trans rfl
    have fa7 : w2.frozen? ⟨w.heap.size, 7, none⟩ = false := Lib.frozen_of_heap Xa.out 7
    have ka8 : w2.cell? ⟨w.heap.size, 8, none⟩ = some (Value.slice x k ck) := (Lib.cell_of_heap Xa.out 8).trans rfl
    have fa8 : w2.frozen? ⟨w.heap.size, 8, none⟩ = false := Lib.frozen_of_heap Xa.out 8
    have za : w.heap.size < w2.heap.size := hlt Xa.out
    cases hb : blankB n xs m ys with
    | false =>
      have Hb := hide hb
      clear hb
      go_wp2
      go_ret
      exact ⟨ret_bool (by rw [HO.out, Hb.out]; first | rfl | simp), HB.out⟩
    | true =>
      have Hb := hide hb
      clear hb
      cases hn : nm.toList.isEmpty with
      | false =>
        have Hn := hide hn
        go_wp2
        go_ret
        exact ⟨ret_bool (by rw [HO.out, Hb.out, Hn.out]; first | rfl | simp), HB.out⟩
      | true =>
        have Hn := hide hn
        by_cases hl : k = 2
        case neg =>
          have HL : Hid (decide (k = 2) = false) := hide (decide_eq_false hl)
          have hl2 : ((k : Int) == 2) = false := by rw [beq_eq_false_iff_ne]; omega
          clear hl
          go_wp2
          go_ret
          exact ⟨ret_bool (by rw [HO.out, Hb.out, Hn.out, HFF.out, HL.out]; first | rfl | simp), HB.out⟩
        have HL : Hid (decide (k = 2) = true) := hide (decide_eq_true hl)
        have hl2 : ((k : Int) == 2) = true := by rw [beq_iff_eq]; omega
        clear hl
        go_wp2
        go_ret
        exact ⟨ret_bool (by rw [HO.out, Hb.out, Hn.out, HFF.out, HL.out]; first | rfl | simp), HB.out⟩
  · have hp2 : (p == 0) = true := by rw [beq_iff_eq]; exact hp
    have hq2 : (q == 0) = false := by rw [beq_eq_false_iff_ne]; exact hq
    have HFF : Hid (F = false) := hide (by rw [← HF.out, decide_eq_true hp, decide_eq_false hq]; rfl)
    clear hp hq
    have Xa : Hid ((w.alloc (Obj.cells #[Value.int .i64 5, Value.bool n, Value.slice a xs.length c, Value.bool m, Value.slice b ys.length d, Value.string nm, Value.int .i64 p, Value.int .i64 q, Value.slice x k ck] 37)).heap[w.heap.size]? = some (.cells #[Value.int .i64 5, Value.bool n, Value.slice a xs.length c, Value.bool m, Value.slice b ys.length d, Value.string nm, Value.int .i64 p, Value.int .i64 q, Value.slice x k ck] 37 (0, 0))) := hide (by simpa only [World.size_alloc] using (hnew w (Obj.cells #[Value.int .i64 5, Value.bool n, Value.slice a xs.length c, Value.bool m, Value.slice b ys.length d, Value.string nm, Value.int .i64 p, Value.int .i64 q, Value.slice x k ck] 37)))
    have HB : Hid (Below w.heap.size w (w.alloc (Obj.cells #[Value.int .i64 5, Value.bool n, Value.slice a xs.length c, Value.bool m, Value.slice b ys.length d, Value.string nm, Value.int .i64 p, Value.int .i64 q, Value.slice x k ck] 37))) := hide (bl_alloc (bl_refl w) (Obj.cells #[Value.int .i64 5, Value.bool n, Value.slice a xs.length c, Value.bool m, Value.slice b ys.length d, Value.string nm, Value.int .i64 p, Value.int .i64 q, Value.slice x k ck] 37))
    have yw1 : w.heap.size + 1 ≤ (w.alloc (Obj.cells #[Value.int .i64 5, Value.bool n, Value.slice a xs.length c, Value.bool m, Value.slice b ys.length d, Value.string nm, Value.int .i64 p, Value.int .i64 q, Value.slice x k ck] 37)).heap.size := by simp only [World.size_alloc]; omega
    have ka0 : (w.alloc (Obj.cells #[Value.int .i64 5, Value.bool n, Value.slice a xs.length c, Value.bool m, Value.slice b ys.length d, Value.string nm, Value.int .i64 p, Value.int .i64 q, Value.slice x k ck] 37)).cell? ⟨w.heap.size, 0, none⟩ = some (Value.int .i64 5) := (Lib.cell_of_heap Xa.out 0).trans rfl
    have fa0 : (w.alloc (Obj.cells #[Value.int .i64 5, Value.bool n, Value.slice a xs.length c, Value.bool m, Value.slice b ys.length d, Value.string nm, Value.int .i64 p, Value.int .i64 q, Value.slice x k ck] 37)).frozen? ⟨w.heap.size, 0, none⟩ = false := Lib.frozen_of_heap Xa.out 0
    have ka1 : (w.alloc (Obj.cells #[Value.int .i64 5, Value.bool n, Value.slice a xs.length c, Value.bool m, Value.slice b ys.length d, Value.string nm, Value.int .i64 p, Value.int .i64 q, Value.slice x k ck] 37)).cell? ⟨w.heap.size, 1, none⟩ = some (Value.bool n) := (Lib.cell_of_heap Xa.out 1).trans rfl
    have fa1 : (w.alloc (Obj.cells #[Value.int .i64 5, Value.bool n, Value.slice a xs.length c, Value.bool m, Value.slice b ys.length d, Value.string nm, Value.int .i64 p, Value.int .i64 q, Value.slice x k ck] 37)).frozen? ⟨w.heap.size, 1, none⟩ = false := Lib.frozen_of_heap Xa.out 1
    have ka2 : (w.alloc (Obj.cells #[Value.int .i64 5, Value.bool n, Value.slice a xs.length c, Value.bool m, Value.slice b ys.length d, Value.string nm, Value.int .i64 p, Value.int .i64 q, Value.slice x k ck] 37)).cell? ⟨w.heap.size, 2, none⟩ = some (Value.slice a xs.length c) := (Lib.cell_of_heap Xa.out 2).trans rfl
    have fa2 : (w.alloc (Obj.cells #[Value.int .i64 5, Value.bool n, Value.slice a xs.length c, Value.bool m, Value.slice b ys.length d, Value.string nm, Value.int .i64 p, Value.int .i64 q, Value.slice x k ck] 37)).frozen? ⟨w.heap.size, 2, none⟩ = false := Lib.frozen_of_heap Xa.out 2
    have ka3 : (w.alloc (Obj.cells #[Value.int .i64 5, Value.bool n, Value.slice a xs.length c, Value.bool m, Value.slice b ys.length d, Value.string nm, Value.int .i64 p, Value.int .i64 q, Value.slice x k ck] 37)).cell? ⟨w.heap.size, 3, none⟩ = some (Value.bool m) := (Lib.cell_of_heap Xa.out 3).trans rfl
    have fa3 : (w.alloc (Obj.cells #[Value.int .i64 5, Value.bool n, Value.slice a xs.length c, Value.bool m, Value.slice b ys.length d, Value.string nm, Value.int .i64 p, Value.int .i64 q, Value.slice x k ck] 37)).frozen? ⟨w.heap.size, 3, none⟩ = false := Lib.frozen_of_heap Xa.out 3
    have ka4 : (w.alloc (Obj.cells #[Value.int .i64 5, Value.bool n, Value.slice a xs.length c, Value.bool m, Value.slice b ys.length d, Value.string nm, Value.int .i64 p, Value.int .i64 q, Value.slice x k ck] 37)).cell? ⟨w.heap.size, 4, none⟩ = some (Value.slice b ys.length d) := (Lib.cell_of_heap Xa.out 4).trans rfl
    have fa4 : (w.alloc (Obj.cells #[Value.int .i64 5, Value.bool n, Value.slice a xs.length c, Value.bool m, Value.slice b ys.length d, Value.string nm, Value.int .i64 p, Value.int .i64 q, Value.slice x k ck] 37)).frozen? ⟨w.heap.size, 4, none⟩ = false := Lib.frozen_of_heap Xa.out 4
    have ka5 : (w.alloc (Obj.cells #[Value.int .i64 5, Value.bool n, Value.slice a xs.length c, Value.bool m, Value.slice b ys.length d, Value.string nm, Value.int .i64 p, Value.int .i64 q, Value.slice x k ck] 37)).cell? ⟨w.heap.size, 5, none⟩ = some (Value.string nm) := (Lib.cell_of_heap Xa.out 5).trans rfl
    have fa5 : (w.alloc (Obj.cells #[Value.int .i64 5, Value.bool n, Value.slice a xs.length c, Value.bool m, Value.slice b ys.length d, Value.string nm, Value.int .i64 p, Value.int .i64 q, Value.slice x k ck] 37)).frozen? ⟨w.heap.size, 5, none⟩ = false := Lib.frozen_of_heap Xa.out 5
    have ka6 : (w.alloc (Obj.cells #[Value.int .i64 5, Value.bool n, Value.slice a xs.length c, Value.bool m, Value.slice b ys.length d, Value.string nm, Value.int .i64 p, Value.int .i64 q, Value.slice x k ck] 37)).cell? ⟨w.heap.size, 6, none⟩ = some (Value.int .i64 p) := (Lib.cell_of_heap Xa.out 6).trans rfl
    have fa6 : (w.alloc (Obj.cells #[Value.int .i64 5, Value.bool n, Value.slice a xs.length c, Value.bool m, Value.slice b ys.length d, Value.string nm, Value.int .i64 p, Value.int .i64 q, Value.slice x k ck] 37)).frozen? ⟨w.heap.size, 6, none⟩ = false := Lib.frozen_of_heap Xa.out 6
    have ka7 : (w.alloc (Obj.cells #[Value.int .i64 5, Value.bool n, Value.slice a xs.length c, Value.bool m, Value.slice b ys.length d, Value.string nm, Value.int .i64 p, Value.int .i64 q, Value.slice x k ck] 37)).cell? ⟨w.heap.size, 7, none⟩ = some (Value.int .i64 q) := (Lib.cell_of_heap Xa.out 7).trans rfl
    have fa7 : (w.alloc (Obj.cells #[Value.int .i64 5, Value.bool n, Value.slice a xs.length c, Value.bool m, Value.slice b ys.length d, Value.string nm, Value.int .i64 p, Value.int .i64 q, Value.slice x k ck] 37)).frozen? ⟨w.heap.size, 7, none⟩ = false := Lib.frozen_of_heap Xa.out 7
    have ka8 : (w.alloc (Obj.cells #[Value.int .i64 5, Value.bool n, Value.slice a xs.length c, Value.bool m, Value.slice b ys.length d, Value.string nm, Value.int .i64 p, Value.int .i64 q, Value.slice x k ck] 37)).cell? ⟨w.heap.size, 8, none⟩ = some (Value.slice x k ck) := (Lib.cell_of_heap Xa.out 8).trans rfl
    have fa8 : (w.alloc (Obj.cells #[Value.int .i64 5, Value.bool n, Value.slice a xs.length c, Value.bool m, Value.slice b ys.length d, Value.string nm, Value.int .i64 p, Value.int .i64 q, Value.slice x k ck] 37)).frozen? ⟨w.heap.size, 8, none⟩ = false := Lib.frozen_of_heap Xa.out 8
    have za : w.heap.size < (w.alloc (Obj.cells #[Value.int .i64 5, Value.bool n, Value.slice a xs.length c, Value.bool m, Value.slice b ys.length d, Value.string nm, Value.int .i64 p, Value.int .i64 q, Value.slice x k ck] 37)).heap.size := hlt Xa.out
    go_enter Tryz.func23, Tryz.ntmps23
    go_wp2_with fail
    generalize (w.alloc (Obj.cells #[Value.int .i64 5, Value.bool n, Value.slice a xs.length c, Value.bool m, Value.slice b ys.length d, Value.string nm, Value.int .i64 p, Value.int .i64 q, Value.slice x k ck] 37)) = w1 at *
    refine (noneS n xs m ys a c b d _ (S1.out.below HB.out) (S2.out.below HB.out)).mono ?_
    rintro e w2 ⟨rfl, hb⟩
    have yw2 := hb.size
    clear ka0 fa0 ka1 fa1 ka2 fa2 ka3 fa3 ka4 fa4 ka5 fa5 ka6 fa6 ka7 fa7 ka8 fa8 za
    replace Xa := hide (hbel Xa.out hb (by first | assumption | omega))
    replace HB := hide (bl_trans HB.out hb)
    clear hb
    have ka0 : w2.cell? ⟨w.heap.size, 0, none⟩ = some (Value.int .i64 5) := (Lib.cell_of_heap Xa.out 0).trans rfl
    have fa0 : w2.frozen? ⟨w.heap.size, 0, none⟩ = false := Lib.frozen_of_heap Xa.out 0
    have ka1 : w2.cell? ⟨w.heap.size, 1, none⟩ = some (Value.bool n) := (Lib.cell_of_heap Xa.out 1).trans rfl
    have fa1 : w2.frozen? ⟨w.heap.size, 1, none⟩ = false := Lib.frozen_of_heap Xa.out 1
    have ka2 : w2.cell? ⟨w.heap.size, 2, none⟩ = some (Value.slice a xs.length c) := (Lib.cell_of_heap Xa.out 2).trans rfl
    have fa2 : w2.frozen? ⟨w.heap.size, 2, none⟩ = false := Lib.frozen_of_heap Xa.out 2
    have ka3 : w2.cell? ⟨w.heap.size, 3, none⟩ = some (Value.bool m) := (Lib.cell_of_heap Xa.out 3).trans rfl
    have fa3 : w2.frozen? ⟨w.heap.size, 3, none⟩ = false := Lib.frozen_of_heap Xa.out 3
    have ka4 : w2.cell? ⟨w.heap.size, 4, none⟩ = some (Value.slice b ys.length d) := (Lib.cell_of_heap Xa.out 4).trans rfl
    have fa4 : w2.frozen? ⟨w.heap.size, 4, none⟩ = false := Lib.frozen_of_heap Xa.out 4
    have ka5 : w2.cell? ⟨w.heap.size, 5, none⟩ = some (Value.string nm) := (Lib.cell_of_heap Xa.out 5).trans rfl
    have fa5 : w2.frozen? ⟨w.heap.size, 5, none⟩ = false := Lib.frozen_of_heap Xa.out 5
    have ka6 : w2.cell? ⟨w.heap.size, 6, none⟩ = some (Value.int .i64 p) := (Lib.cell_of_heap Xa.out 6).trans rfl
    have fa6 : w2.frozen? ⟨w.heap.size, 6, none⟩ = false := Lib.frozen_of_heap Xa.out 6
    have ka7 : w2.cell? ⟨w.heap.size, 7, none⟩ = some (Value.int .i64 q) := (Lib.cell_of_heap Xa.out 7).trans rfl
    have fa7 : w2.frozen? ⟨w.heap.size, 7, none⟩ = false := Lib.frozen_of_heap Xa.out 7
    have ka8 : w2.cell? ⟨w.heap.size, 8, none⟩ = some (Value.slice x k ck) := (Lib.cell_of_heap Xa.out 8).trans rfl
    have fa8 : w2.frozen? ⟨w.heap.size, 8, none⟩ = false := Lib.frozen_of_heap Xa.out 8
    have za : w.heap.size < w2.heap.size := hlt Xa.out
    cases hb : blankB n xs m ys with
    | false =>
      have Hb := hide hb
      clear hb
      go_wp2
      go_ret
      exact ⟨ret_bool (by rw [HO.out, Hb.out]; first | rfl | simp), HB.out⟩
    | true =>
      have Hb := hide hb
      clear hb
      cases hn : nm.toList.isEmpty with
      | false =>
        have Hn := hide hn
        go_wp2
        go_ret
        exact ⟨ret_bool (by rw [HO.out, Hb.out, Hn.out]; first | rfl | simp), HB.out⟩
      | true =>
        have Hn := hide hn
        go_wp2
        go_ret
        exact ⟨ret_bool (by rw [HO.out, Hb.out, Hn.out, HFF.out]; first | rfl | simp), HB.out⟩
  · have hp2 : (p == 0) = false := by rw [beq_eq_false_iff_ne]; exact hp
    have hq2 : (q == 0) = true := by rw [beq_iff_eq]; exact hq
    have HFF : Hid (F = false) := hide (by rw [← HF.out, decide_eq_false hp, decide_eq_true hq]; rfl)
    clear hp hq
    have Xa : Hid ((w.alloc (Obj.cells #[Value.int .i64 5, Value.bool n, Value.slice a xs.length c, Value.bool m, Value.slice b ys.length d, Value.string nm, Value.int .i64 p, Value.int .i64 q, Value.slice x k ck] 37)).heap[w.heap.size]? = some (.cells #[Value.int .i64 5, Value.bool n, Value.slice a xs.length c, Value.bool m, Value.slice b ys.length d, Value.string nm, Value.int .i64 p, Value.int .i64 q, Value.slice x k ck] 37 (0, 0))) := hide (by simpa only [World.size_alloc] using (hnew w (Obj.cells #[Value.int .i64 5, Value.bool n, Value.slice a xs.length c, Value.bool m, Value.slice b ys.length d, Value.string nm, Value.int .i64 p, Value.int .i64 q, Value.slice x k ck] 37)))
    have HB : Hid (Below w.heap.size w (w.alloc (Obj.cells #[Value.int .i64 5, Value.bool n, Value.slice a xs.length c, Value.bool m, Value.slice b ys.length d, Value.string nm, Value.int .i64 p, Value.int .i64 q, Value.slice x k ck] 37))) := hide (bl_alloc (bl_refl w) (Obj.cells #[Value.int .i64 5, Value.bool n, Value.slice a xs.length c, Value.bool m, Value.slice b ys.length d, Value.string nm, Value.int .i64 p, Value.int .i64 q, Value.slice x k ck] 37))
    have yw1 : w.heap.size + 1 ≤ (w.alloc (Obj.cells #[Value.int .i64 5, Value.bool n, Value.slice a xs.length c, Value.bool m, Value.slice b ys.length d, Value.string nm, Value.int .i64 p, Value.int .i64 q, Value.slice x k ck] 37)).heap.size := by simp only [World.size_alloc]; omega
    have ka0 : (w.alloc (Obj.cells #[Value.int .i64 5, Value.bool n, Value.slice a xs.length c, Value.bool m, Value.slice b ys.length d, Value.string nm, Value.int .i64 p, Value.int .i64 q, Value.slice x k ck] 37)).cell? ⟨w.heap.size, 0, none⟩ = some (Value.int .i64 5) := (Lib.cell_of_heap Xa.out 0).trans rfl
    have fa0 : (w.alloc (Obj.cells #[Value.int .i64 5, Value.bool n, Value.slice a xs.length c, Value.bool m, Value.slice b ys.length d, Value.string nm, Value.int .i64 p, Value.int .i64 q, Value.slice x k ck] 37)).frozen? ⟨w.heap.size, 0, none⟩ = false := Lib.frozen_of_heap Xa.out 0
    have ka1 : (w.alloc (Obj.cells #[Value.int .i64 5, Value.bool n, Value.slice a xs.length c, Value.bool m, Value.slice b ys.length d, Value.string nm, Value.int .i64 p, Value.int .i64 q, Value.slice x k ck] 37)).cell? ⟨w.heap.size, 1, none⟩ = some (Value.bool n) := (Lib.cell_of_heap Xa.out 1).trans rfl
    have fa1 : (w.alloc (Obj.cells #[Value.int .i64 5, Value.bool n, Value.slice a xs.length c, Value.bool m, Value.slice b ys.length d, Value.string nm, Value.int .i64 p, Value.int .i64 q, Value.slice x k ck] 37)).frozen? ⟨w.heap.size, 1, none⟩ = false := Lib.frozen_of_heap Xa.out 1
    have ka2 : (w.alloc (Obj.cells #[Value.int .i64 5, Value.bool n, Value.slice a xs.length c, Value.bool m, Value.slice b ys.length d, Value.string nm, Value.int .i64 p, Value.int .i64 q, Value.slice x k ck] 37)).cell? ⟨w.heap.size, 2, none⟩ = some (Value.slice a xs.length c) := (Lib.cell_of_heap Xa.out 2).trans rfl
    have fa2 : (w.alloc (Obj.cells #[Value.int .i64 5, Value.bool n, Value.slice a xs.length c, Value.bool m, Value.slice b ys.length d, Value.string nm, Value.int .i64 p, Value.int .i64 q, Value.slice x k ck] 37)).frozen? ⟨w.heap.size, 2, none⟩ = false := Lib.frozen_of_heap Xa.out 2
    have ka3 : (w.alloc (Obj.cells #[Value.int .i64 5, Value.bool n, Value.slice a xs.length c, Value.bool m, Value.slice b ys.length d, Value.string nm, Value.int .i64 p, Value.int .i64 q, Value.slice x k ck] 37)).cell? ⟨w.heap.size, 3, none⟩ = some (Value.bool m) := (Lib.cell_of_heap Xa.out 3).trans rfl
    have fa3 : (w.alloc (Obj.cells #[Value.int .i64 5, Value.bool n, Value.slice a xs.length c, Value.bool m, Value.slice b ys.length d, Value.string nm, Value.int .i64 p, Value.int .i64 q, Value.slice x k ck] 37)).frozen? ⟨w.heap.size, 3, none⟩ = false := Lib.frozen_of_heap Xa.out 3
    have ka4 : (w.alloc (Obj.cells #[Value.int .i64 5, Value.bool n, Value.slice a xs.length c, Value.bool m, Value.slice b ys.length d, Value.string nm, Value.int .i64 p, Value.int .i64 q, Value.slice x k ck] 37)).cell? ⟨w.heap.size, 4, none⟩ = some (Value.slice b ys.length d) := (Lib.cell_of_heap Xa.out 4).trans rfl
    have fa4 : (w.alloc (Obj.cells #[Value.int .i64 5, Value.bool n, Value.slice a xs.length c, Value.bool m, Value.slice b ys.length d, Value.string nm, Value.int .i64 p, Value.int .i64 q, Value.slice x k ck] 37)).frozen? ⟨w.heap.size, 4, none⟩ = false := Lib.frozen_of_heap Xa.out 4
    have ka5 : (w.alloc (Obj.cells #[Value.int .i64 5, Value.bool n, Value.slice a xs.length c, Value.bool m, Value.slice b ys.length d, Value.string nm, Value.int .i64 p, Value.int .i64 q, Value.slice x k ck] 37)).cell? ⟨w.heap.size, 5, none⟩ = some (Value.string nm) := (Lib.cell_of_heap Xa.out 5).trans rfl
    have fa5 : (w.alloc (Obj.cells #[Value.int .i64 5, Value.bool n, Value.slice a xs.length c, Value.bool m, Value.slice b ys.length d, Value.string nm, Value.int .i64 p, Value.int .i64 q, Value.slice x k ck] 37)).frozen? ⟨w.heap.size, 5, none⟩ = false := Lib.frozen_of_heap Xa.out 5
    have ka6 : (w.alloc (Obj.cells #[Value.int .i64 5, Value.bool n, Value.slice a xs.length c, Value.bool m, Value.slice b ys.length d, Value.string nm, Value.int .i64 p, Value.int .i64 q, Value.slice x k ck] 37)).cell? ⟨w.heap.size, 6, none⟩ = some (Value.int .i64 p) := (Lib.cell_of_heap Xa.out 6).trans rfl
    have fa6 : (w.alloc (Obj.cells #[Value.int .i64 5, Value.bool n, Value.slice a xs.length c, Value.bool m, Value.slice b ys.length d, Value.string nm, Value.int .i64 p, Value.int .i64 q, Value.slice x k ck] 37)).frozen? ⟨w.heap.size, 6, none⟩ = false := Lib.frozen_of_heap Xa.out 6
    have ka7 : (w.alloc (Obj.cells #[Value.int .i64 5, Value.bool n, Value.slice a xs.length c, Value.bool m, Value.slice b ys.length d, Value.string nm, Value.int .i64 p, Value.int .i64 q, Value.slice x k ck] 37)).cell? ⟨w.heap.size, 7, none⟩ = some (Value.int .i64 q) := (Lib.cell_of_heap Xa.out 7).trans rfl
    have fa7 : (w.alloc (Obj.cells #[Value.int .i64 5, Value.bool n, Value.slice a xs.length c, Value.bool m, Value.slice b ys.length d, Value.string nm, Value.int .i64 p, Value.int .i64 q, Value.slice x k ck] 37)).frozen? ⟨w.heap.size, 7, none⟩ = false := Lib.frozen_of_heap Xa.out 7
    have ka8 : (w.alloc (Obj.cells #[Value.int .i64 5, Value.bool n, Value.slice a xs.length c, Value.bool m, Value.slice b ys.length d, Value.string nm, Value.int .i64 p, Value.int .i64 q, Value.slice x k ck] 37)).cell? ⟨w.heap.size, 8, none⟩ = some (Value.slice x k ck) := (Lib.cell_of_heap Xa.out 8).trans rfl
    have fa8 : (w.alloc (Obj.cells #[Value.int .i64 5, Value.bool n, Value.slice a xs.length c, Value.bool m, Value.slice b ys.length d, Value.string nm, Value.int .i64 p, Value.int .i64 q, Value.slice x k ck] 37)).frozen? ⟨w.heap.size, 8, none⟩ = false := Lib.frozen_of_heap Xa.out 8
    have za : w.heap.size < (w.alloc (Obj.cells #[Value.int .i64 5, Value.bool n, Value.slice a xs.length c, Value.bool m, Value.slice b ys.length d, Value.string nm, Value.int .i64 p, Value.int .i64 q, Value.slice x k ck] 37)).heap.size := hlt Xa.out
    go_enter Tryz.func23, Tryz.ntmps23
    go_wp2_with fail
    generalize (w.alloc (Obj.cells #[Value.int .i64 5, Value.bool n, Value.slice a xs.length c, Value.bool m, Value.slice b ys.length d, Value.string nm, Value.int .i64 p, Value.int .i64 q, Value.slice x k ck] 37)) = w1 at *
    refine (noneS n xs m ys a c b d _ (S1.out.below HB.out) (S2.out.below HB.out)).mono ?_
    rintro e w2 ⟨rfl, hb⟩
    have yw2 := hb.size
    clear ka0 fa0 ka1 fa1 ka2 fa2 ka3 fa3 ka4 fa4 ka5 fa5 ka6 fa6 ka7 fa7 ka8 fa8 za
    replace Xa := hide (hbel Xa.out hb (by first | assumption | omega))
    replace HB := hide (bl_trans HB.out hb)
    clear hb
    have ka0 : w2.cell? ⟨w.heap.size, 0, none⟩ = some (Value.int .i64 5) := (Lib.cell_of_heap Xa.out 0).trans rfl
    have fa0 : w2.frozen? ⟨w.heap.size, 0, none⟩ = false := Lib.frozen_of_heap Xa.out 0
    have ka1 : w2.cell? ⟨w.heap.size, 1, none⟩ = some (Value.bool n) := (Lib.cell_of_heap Xa.out 1).trans rfl
    have fa1 : w2.frozen? ⟨w.heap.size, 1, none⟩ = false := Lib.frozen_of_heap Xa.out 1
    have ka2 : w2.cell? ⟨w.heap.size, 2, none⟩ = some (Value.slice a xs.length c) := (Lib.cell_of_heap Xa.out 2).trans rfl
    have fa2 : w2.frozen? ⟨w.heap.size, 2, none⟩ = false := Lib.frozen_of_heap Xa.out 2
    have ka3 : w2.cell? ⟨w.heap.size, 3, none⟩ = some (Value.bool m) := (Lib.cell_of_heap Xa.out 3).trans rfl
    have fa3 : w2.frozen? ⟨w.heap.size, 3, none⟩ = false := Lib.frozen_of_heap Xa.out 3
    have ka4 : w2.cell? ⟨w.heap.size, 4, none⟩ = some (Value.slice b ys.length d) := (Lib.cell_of_heap Xa.out 4).trans rfl
    have fa4 : w2.frozen? ⟨w.heap.size, 4, none⟩ = false := Lib.frozen_of_heap Xa.out 4
    have ka5 : w2.cell? ⟨w.heap.size, 5, none⟩ = some (Value.string nm) := (Lib.cell_of_heap Xa.out 5).trans rfl
    have fa5 : w2.frozen? ⟨w.heap.size, 5, none⟩ = false := Lib.frozen_of_heap Xa.out 5
    have ka6 : w2.cell? ⟨w.heap.size, 6, none⟩ = some (Value.int .i64 p) := (Lib.cell_of_heap Xa.out 6).trans rfl
    have fa6 : w2.frozen? ⟨w.heap.size, 6, none⟩ = false := Lib.frozen_of_heap Xa.out 6
    have ka7 : w2.cell? ⟨w.heap.size, 7, none⟩ = some (Value.int .i64 q) := (Lib.cell_of_heap Xa.out 7).trans rfl
    have fa7 : w2.frozen? ⟨w.heap.size, 7, none⟩ = false := Lib.frozen_of_heap Xa.out 7
    have ka8 : w2.cell? ⟨w.heap.size, 8, none⟩ = some (Value.slice x k ck) := (Lib.cell_of_heap Xa.out 8).trans rfl
    have fa8 : w2.frozen? ⟨w.heap.size, 8, none⟩ = false := Lib.frozen_of_heap Xa.out 8
    have za : w.heap.size < w2.heap.size := hlt Xa.out
    cases hb : blankB n xs m ys with
    | false =>
      have Hb := hide hb
      clear hb
      go_wp2
      go_ret
      exact ⟨ret_bool (by rw [HO.out, Hb.out]; first | rfl | simp), HB.out⟩
    | true =>
      have Hb := hide hb
      clear hb
      cases hn : nm.toList.isEmpty with
      | false =>
        have Hn := hide hn
        go_wp2
        go_ret
        exact ⟨ret_bool (by rw [HO.out, Hb.out, Hn.out]; first | rfl | simp), HB.out⟩
      | true =>
        have Hn := hide hn
        go_wp2
        go_ret
        exact ⟨ret_bool (by rw [HO.out, Hb.out, Hn.out, HFF.out]; first | rfl | simp), HB.out⟩
  · have hp2 : (p == 0) = false := by rw [beq_eq_false_iff_ne]; exact hp
    have hq2 : (q == 0) = false := by rw [beq_eq_false_iff_ne]; exact hq
    have HFF : Hid (F = false) := hide (by rw [← HF.out, decide_eq_false hp, decide_eq_false hq]; rfl)
    clear hp hq
    have Xa : Hid ((w.alloc (Obj.cells #[Value.int .i64 5, Value.bool n, Value.slice a xs.length c, Value.bool m, Value.slice b ys.length d, Value.string nm, Value.int .i64 p, Value.int .i64 q, Value.slice x k ck] 37)).heap[w.heap.size]? = some (.cells #[Value.int .i64 5, Value.bool n, Value.slice a xs.length c, Value.bool m, Value.slice b ys.length d, Value.string nm, Value.int .i64 p, Value.int .i64 q, Value.slice x k ck] 37 (0, 0))) := hide (by simpa only [World.size_alloc] using (hnew w (Obj.cells #[Value.int .i64 5, Value.bool n, Value.slice a xs.length c, Value.bool m, Value.slice b ys.length d, Value.string nm, Value.int .i64 p, Value.int .i64 q, Value.slice x k ck] 37)))
    have HB : Hid (Below w.heap.size w (w.alloc (Obj.cells #[Value.int .i64 5, Value.bool n, Value.slice a xs.length c, Value.bool m, Value.slice b ys.length d, Value.string nm, Value.int .i64 p, Value.int .i64 q, Value.slice x k ck] 37))) := hide (bl_alloc (bl_refl w) (Obj.cells #[Value.int .i64 5, Value.bool n, Value.slice a xs.length c, Value.bool m, Value.slice b ys.length d, Value.string nm, Value.int .i64 p, Value.int .i64 q, Value.slice x k ck] 37))
    have yw1 : w.heap.size + 1 ≤ (w.alloc (Obj.cells #[Value.int .i64 5, Value.bool n, Value.slice a xs.length c, Value.bool m, Value.slice b ys.length d, Value.string nm, Value.int .i64 p, Value.int .i64 q, Value.slice x k ck] 37)).heap.size := by simp only [World.size_alloc]; omega
    have ka0 : (w.alloc (Obj.cells #[Value.int .i64 5, Value.bool n, Value.slice a xs.length c, Value.bool m, Value.slice b ys.length d, Value.string nm, Value.int .i64 p, Value.int .i64 q, Value.slice x k ck] 37)).cell? ⟨w.heap.size, 0, none⟩ = some (Value.int .i64 5) := (Lib.cell_of_heap Xa.out 0).trans rfl
    have fa0 : (w.alloc (Obj.cells #[Value.int .i64 5, Value.bool n, Value.slice a xs.length c, Value.bool m, Value.slice b ys.length d, Value.string nm, Value.int .i64 p, Value.int .i64 q, Value.slice x k ck] 37)).frozen? ⟨w.heap.size, 0, none⟩ = false := Lib.frozen_of_heap Xa.out 0
    have ka1 : (w.alloc (Obj.cells #[Value.int .i64 5, Value.bool n, Value.slice a xs.length c, Value.bool m, Value.slice b ys.length d, Value.string nm, Value.int .i64 p, Value.int .i64 q, Value.slice x k ck] 37)).cell? ⟨w.heap.size, 1, none⟩ = some (Value.bool n) := (Lib.cell_of_heap Xa.out 1).trans rfl
    have fa1 : (w.alloc (Obj.cells #[Value.int .i64 5, Value.bool n, Value.slice a xs.length c, Value.bool m, Value.slice b ys.length d, Value.string nm, Value.int .i64 p, Value.int .i64 q, Value.slice x k ck] 37)).frozen? ⟨w.heap.size, 1, none⟩ = false := Lib.frozen_of_heap Xa.out 1
    have ka2 : (w.alloc (Obj.cells #[Value.int .i64 5, Value.bool n, Value.slice a xs.length c, Value.bool m, Value.slice b ys.length d, Value.string nm, Value.int .i64 p, Value.int .i64 q, Value.slice x k ck] 37)).cell? ⟨w.heap.size, 2, none⟩ = some (Value.slice a xs.length c) := (Lib.cell_of_heap Xa.out 2).trans rfl
    have fa2 : (w.alloc (Obj.cells #[Value.int .i64 5, Value.bool n, Value.slice a xs.length c, Value.bool m, Value.slice b ys.length d, Value.string nm, Value.int .i64 p, Value.int .i64 q, Value.slice x k ck] 37)).frozen? ⟨w.heap.size, 2, none⟩ = false := Lib.frozen_of_heap Xa.out 2
    have ka3 : (w.alloc (Obj.cells #[Value.int .i64 5, Value.bool n, Value.slice a xs.length c, Value.bool m, Value.slice b ys.length d, Value.string nm, Value.int .i64 p, Value.int .i64 q, Value.slice x k ck] 37)).cell? ⟨w.heap.size, 3, none⟩ = some (Value.bool m) := (Lib.cell_of_heap Xa.out 3).trans rfl
    have fa3 : (w.alloc (Obj.cells #[Value.int .i64 5, Value.bool n, Value.slice a xs.length c, Value.bool m, Value.slice b ys.length d, Value.string nm, Value.int .i64 p, Value.int .i64 q, Value.slice x k ck] 37)).frozen? ⟨w.heap.size, 3, none⟩ = false := Lib.frozen_of_heap Xa.out 3
    have ka4 : (w.alloc (Obj.cells #[Value.int .i64 5, Value.bool n, Value.slice a xs.length c, Value.bool m, Value.slice b ys.length d, Value.string nm, Value.int .i64 p, Value.int .i64 q, Value.slice x k ck] 37)).cell? ⟨w.heap.size, 4, none⟩ = some (Value.slice b ys.length d) := (Lib.cell_of_heap Xa.out 4).trans rfl
    have fa4 : (w.alloc (Obj.cells #[Value.int .i64 5, Value.bool n, Value.slice a xs.length c, Value.bool m, Value.slice b ys.length d, Value.string nm, Value.int .i64 p, Value.int .i64 q, Value.slice x k ck] 37)).frozen? ⟨w.heap.size, 4, none⟩ = false := Lib.frozen_of_heap Xa.out 4
    have ka5 : (w.alloc (Obj.cells #[Value.int .i64 5, Value.bool n, Value.slice a xs.length c, Value.bool m, Value.slice b ys.length d, Value.string nm, Value.int .i64 p, Value.int .i64 q, Value.slice x k ck] 37)).cell? ⟨w.heap.size, 5, none⟩ = some (Value.string nm) := (Lib.cell_of_heap Xa.out 5).trans rfl
    have fa5 : (w.alloc (Obj.cells #[Value.int .i64 5, Value.bool n, Value.slice a xs.length c, Value.bool m, Value.slice b ys.length d, Value.string nm, Value.int .i64 p, Value.int .i64 q, Value.slice x k ck] 37)).frozen? ⟨w.heap.size, 5, none⟩ = false := Lib.frozen_of_heap Xa.out 5
    have ka6 : (w.alloc (Obj.cells #[Value.int .i64 5, Value.bool n, Value.slice a xs.length c, Value.bool m, Value.slice b ys.length d, Value.string nm, Value.int .i64 p, Value.int .i64 q, Value.slice x k ck] 37)).cell? ⟨w.heap.size, 6, none⟩ = some (Value.int .i64 p) := (Lib.cell_of_heap Xa.out 6).trans rfl
    have fa6 : (w.alloc (Obj.cells #[Value.int .i64 5, Value.bool n, Value.slice a xs.length c, Value.bool m, Value.slice b ys.length d, Value.string nm, Value.int .i64 p, Value.int .i64 q, Value.slice x k ck] 37)).frozen? ⟨w.heap.size, 6, none⟩ = false := Lib.frozen_of_heap Xa.out 6
    have ka7 : (w.alloc (Obj.cells #[Value.int .i64 5, Value.bool n, Value.slice a xs.length c, Value.bool m, Value.slice b ys.length d, Value.string nm, Value.int .i64 p, Value.int .i64 q, Value.slice x k ck] 37)).cell? ⟨w.heap.size, 7, none⟩ = some (Value.int .i64 q) := (Lib.cell_of_heap Xa.out 7).trans rfl
    have fa7 : (w.alloc (Obj.cells #[Value.int .i64 5, Value.bool n, Value.slice a xs.length c, Value.bool m, Value.slice b ys.length d, Value.string nm, Value.int .i64 p, Value.int .i64 q, Value.slice x k ck] 37)).frozen? ⟨w.heap.size, 7, none⟩ = false := Lib.frozen_of_heap Xa.out 7
    have ka8 : (w.alloc (Obj.cells #[Value.int .i64 5, Value.bool n, Value.slice a xs.length c, Value.bool m, Value.slice b ys.length d, Value.string nm, Value.int .i64 p, Value.int .i64 q, Value.slice x k ck] 37)).cell? ⟨w.heap.size, 8, none⟩ = some (Value.slice x k ck) := (Lib.cell_of_heap Xa.out 8).trans rfl
    have fa8 : (w.alloc (Obj.cells #[Value.int .i64 5, Value.bool n, Value.slice a xs.length c, Value.bool m, Value.slice b ys.length d, Value.string nm, Value.int .i64 p, Value.int .i64 q, Value.slice x k ck] 37)).frozen? ⟨w.heap.size, 8, none⟩ = false := Lib.frozen_of_heap Xa.out 8
    have za : w.heap.size < (w.alloc (Obj.cells #[Value.int .i64 5, Value.bool n, Value.slice a xs.length c, Value.bool m, Value.slice b ys.length d, Value.string nm, Value.int .i64 p, Value.int .i64 q, Value.slice x k ck] 37)).heap.size := hlt Xa.out
    go_enter Tryz.func23, Tryz.ntmps23
    go_wp2_with fail
    generalize (w.alloc (Obj.cells #[Value.int .i64 5, Value.bool n, Value.slice a xs.length c, Value.bool m, Value.slice b ys.length d, Value.string nm, Value.int .i64 p, Value.int .i64 q, Value.slice x k ck] 37)) = w1 at *
    refine (noneS n xs m ys a c b d _ (S1.out.below HB.out) (S2.out.below HB.out)).mono ?_
    rintro e w2 ⟨rfl, hb⟩
    have yw2 := hb.size
    clear ka0 fa0 ka1 fa1 ka2 fa2 ka3 fa3 ka4 fa4 ka5 fa5 ka6 fa6 ka7 fa7 ka8 fa8 za
    replace Xa := hide (hbel Xa.out hb (by first | assumption | omega))
    replace HB := hide (bl_trans HB.out hb)
    clear hb
    have ka0 : w2.cell? ⟨w.heap.size, 0, none⟩ = some (Value.int .i64 5) := (Lib.cell_of_heap Xa.out 0).trans rfl
    have fa0 : w2.frozen? ⟨w.heap.size, 0, none⟩ = false := Lib.frozen_of_heap Xa.out 0
    have ka1 : w2.cell? ⟨w.heap.size, 1, none⟩ = some (Value.bool n) := (Lib.cell_of_heap Xa.out 1).trans rfl
    have fa1 : w2.frozen? ⟨w.heap.size, 1, none⟩ = false := Lib.frozen_of_heap Xa.out 1
    have ka2 : w2.cell? ⟨w.heap.size, 2, none⟩ = some (Value.slice a xs.length c) := (Lib.cell_of_heap Xa.out 2).trans rfl
    have fa2 : w2.frozen? ⟨w.heap.size, 2, none⟩ = false := Lib.frozen_of_heap Xa.out 2
    have ka3 : w2.cell? ⟨w.heap.size, 3, none⟩ = some (Value.bool m) := (Lib.cell_of_heap Xa.out 3).trans rfl
    have fa3 : w2.frozen? ⟨w.heap.size, 3, none⟩ = false := Lib.frozen_of_heap Xa.out 3
    have ka4 : w2.cell? ⟨w.heap.size, 4, none⟩ = some (Value.slice b ys.length d) := (Lib.cell_of_heap Xa.out 4).trans rfl
    have fa4 : w2.frozen? ⟨w.heap.size, 4, none⟩ = false := Lib.frozen_of_heap Xa.out 4
    have ka5 : w2.cell? ⟨w.heap.size, 5, none⟩ = some (Value.string nm) := (Lib.cell_of_heap Xa.out 5).trans rfl
    have fa5 : w2.frozen? ⟨w.heap.size, 5, none⟩ = false := Lib.frozen_of_heap Xa.out 5
    have ka6 : w2.cell? ⟨w.heap.size, 6, none⟩ = some (Value.int .i64 p) := (Lib.cell_of_heap Xa.out 6).trans rfl
    have fa6 : w2.frozen? ⟨w.heap.size, 6, none⟩ = false := Lib.frozen_of_heap Xa.out 6
    have ka7 : w2.cell? ⟨w.heap.size, 7, none⟩ = some (Value.int .i64 q) := (Lib.cell_of_heap Xa.out 7).trans rfl
    have fa7 : w2.frozen? ⟨w.heap.size, 7, none⟩ = false := Lib.frozen_of_heap Xa.out 7
    have ka8 : w2.cell? ⟨w.heap.size, 8, none⟩ = some (Value.slice x k ck) := (Lib.cell_of_heap Xa.out 8).trans rfl
    have fa8 : w2.frozen? ⟨w.heap.size, 8, none⟩ = false := Lib.frozen_of_heap Xa.out 8
    have za : w.heap.size < w2.heap.size := hlt Xa.out
    cases hb : blankB n xs m ys with
    | false =>
      have Hb := hide hb
      clear hb
      go_wp2
      go_ret
      exact ⟨ret_bool (by rw [HO.out, Hb.out]; first | rfl | simp), HB.out⟩
    | true =>
      have Hb := hide hb
      clear hb
      cases hn : nm.toList.isEmpty with
      | false =>
        have Hn := hide hn
        go_wp2
        go_ret
        exact ⟨ret_bool (by rw [HO.out, Hb.out, Hn.out]; first | rfl | simp), HB.out⟩
      | true =>
        have Hn := hide hn
        go_wp2
        go_ret
        exact ⟨ret_bool (by rw [HO.out, Hb.out, Hn.out, HFF.out]; first | rfl | simp), HB.out⟩

set_option maxHeartbeats 4000000 in
set_option maxRecDepth 20000 in
theorem ownS6 (n : Bool) (xs : List Nat) (m : Bool) (ys : List Nat) (nm : ByteArray) (p q : Int) (k : Nat) (a : Option Addr) (c : Nat) (b : Option Addr) (d : Nat) (x : Option Addr) (ck : Nat) (w : World) (s1 : Seg w a xs.length c xs) (s2 : Seg w b ys.length d ys) (hk : k ≤ 9223372036854775807) (hnm : nm.size ≤ 140737488355328) :
    Calls Tryz.prog 23 #[Value.agg #[Value.int .i64 6, Value.bool n, Value.slice a xs.length c, Value.bool m, Value.slice b ys.length d, Value.string nm, Value.int .i64 p, Value.int .i64 q, Value.slice x k ck]] w fun e w' => e = .returned (.bool (ownB 6 n xs m ys nm p q k)) ∧ Below w.heap.size w w' := by
  have q1 := s1.le
  have q2 := s2.le
  have sm := hide s1.2.2.2.1
  have S1 := hide s1
  have S2 := hide s2
  clear s1 s2
  obtain ⟨F, hF⟩ : ∃ F, (decide (p = 0) && decide (q = 0)) = F := ⟨_, rfl⟩
  have HF := hide hF
  have HO : Hid (ownB 6 n xs m ys nm p q k = (blankB n xs m ys && (nm.toList.isEmpty && (F && decide (k = 1))))) := hide (by rw [← hF]; exact own_6 ..)
  clear hF
  by_cases hp : p = 0
  all_goals by_cases hq : q = 0
  · have hp2 : (p == 0) = true := by rw [beq_iff_eq]; exact hp
    have hq2 : (q == 0) = true := by rw [beq_iff_eq]; exact hq
    have HFF : Hid (F = true) := hide (by rw [← HF.out, decide_eq_true hp, decide_eq_true hq]; rfl)
    clear hp hq
    have Xa : Hid ((w.alloc (Obj.cells #[Value.int .i64 6, Value.bool n, Value.slice a xs.length c, Value.bool m, Value.slice b ys.length d, Value.string nm, Value.int .i64 p, Value.int .i64 q, Value.slice x k ck] 37)).heap[w.heap.size]? = some (.cells #[Value.int .i64 6, Value.bool n, Value.slice a xs.length c, Value.bool m, Value.slice b ys.length d, Value.string nm, Value.int .i64 p, Value.int .i64 q, Value.slice x k ck] 37 (0, 0))) := hide (by simpa only [World.size_alloc] using (hnew w (Obj.cells #[Value.int .i64 6, Value.bool n, Value.slice a xs.length c, Value.bool m, Value.slice b ys.length d, Value.string nm, Value.int .i64 p, Value.int .i64 q, Value.slice x k ck] 37)))
    have HB : Hid (Below w.heap.size w (w.alloc (Obj.cells #[Value.int .i64 6, Value.bool n, Value.slice a xs.length c, Value.bool m, Value.slice b ys.length d, Value.string nm, Value.int .i64 p, Value.int .i64 q, Value.slice x k ck] 37))) := hide (bl_alloc (bl_refl w) (Obj.cells #[Value.int .i64 6, Value.bool n, Value.slice a xs.length c, Value.bool m, Value.slice b ys.length d, Value.string nm, Value.int .i64 p, Value.int .i64 q, Value.slice x k ck] 37))
    have yw1 : w.heap.size + 1 ≤ (w.alloc (Obj.cells #[Value.int .i64 6, Value.bool n, Value.slice a xs.length c, Value.bool m, Value.slice b ys.length d, Value.string nm, Value.int .i64 p, Value.int .i64 q, Value.slice x k ck] 37)).heap.size := by simp only [World.size_alloc]; omega
    have ka0 : (w.alloc (Obj.cells #[Value.int .i64 6, Value.bool n, Value.slice a xs.length c, Value.bool m, Value.slice b ys.length d, Value.string nm, Value.int .i64 p, Value.int .i64 q, Value.slice x k ck] 37)).cell? ⟨w.heap.size, 0, none⟩ = some (Value.int .i64 6) := (Lib.cell_of_heap Xa.out 0).trans rfl
    have fa0 : (w.alloc (Obj.cells #[Value.int .i64 6, Value.bool n, Value.slice a xs.length c, Value.bool m, Value.slice b ys.length d, Value.string nm, Value.int .i64 p, Value.int .i64 q, Value.slice x k ck] 37)).frozen? ⟨w.heap.size, 0, none⟩ = false := Lib.frozen_of_heap Xa.out 0
    have ka1 : (w.alloc (Obj.cells #[Value.int .i64 6, Value.bool n, Value.slice a xs.length c, Value.bool m, Value.slice b ys.length d, Value.string nm, Value.int .i64 p, Value.int .i64 q, Value.slice x k ck] 37)).cell? ⟨w.heap.size, 1, none⟩ = some (Value.bool n) := (Lib.cell_of_heap Xa.out 1).trans rfl
    have fa1 : (w.alloc (Obj.cells #[Value.int .i64 6, Value.bool n, Value.slice a xs.length c, Value.bool m, Value.slice b ys.length d, Value.string nm, Value.int .i64 p, Value.int .i64 q, Value.slice x k ck] 37)).frozen? ⟨w.heap.size, 1, none⟩ = false := Lib.frozen_of_heap Xa.out 1
    have ka2 : (w.alloc (Obj.cells #[Value.int .i64 6, Value.bool n, Value.slice a xs.length c, Value.bool m, Value.slice b ys.length d, Value.string nm, Value.int .i64 p, Value.int .i64 q, Value.slice x k ck] 37)).cell? ⟨w.heap.size, 2, none⟩ = some (Value.slice a xs.length c) := (Lib.cell_of_heap Xa.out 2).trans rfl
    have fa2 : (w.alloc (Obj.cells #[Value.int .i64 6, Value.bool n, Value.slice a xs.length c, Value.bool m, Value.slice b ys.length d, Value.string nm, Value.int .i64 p, Value.int .i64 q, Value.slice x k ck] 37)).frozen? ⟨w.heap.size, 2, none⟩ = false := Lib.frozen_of_heap Xa.out 2
    have ka3 : (w.alloc (Obj.cells #[Value.int .i64 6, Value.bool n, Value.slice a xs.length c, Value.bool m, Value.slice b ys.length d, Value.string nm, Value.int .i64 p, Value.int .i64 q, Value.slice x k ck] 37)).cell? ⟨w.heap.size, 3, none⟩ = some (Value.bool m) := (Lib.cell_of_heap Xa.out 3).trans rfl
    have fa3 : (w.alloc (Obj.cells #[Value.int .i64 6, Value.bool n, Value.slice a xs.length c, Value.bool m, Value.slice b ys.length d, Value.string nm, Value.int .i64 p, Value.int .i64 q, Value.slice x k ck] 37)).frozen? ⟨w.heap.size, 3, none⟩ = false := Lib.frozen_of_heap Xa.out 3
    have ka4 : (w.alloc (Obj.cells #[Value.int .i64 6, Value.bool n, Value.slice a xs.length c, Value.bool m, Value.slice b ys.length d, Value.string nm, Value.int .i64 p, Value.int .i64 q, Value.slice x k ck] 37)).cell? ⟨w.heap.size, 4, none⟩ = some (Value.slice b ys.length d) := (Lib.cell_of_heap Xa.out 4).trans rfl
    have fa4 : (w.alloc (Obj.cells #[Value.int .i64 6, Value.bool n, Value.slice a xs.length c, Value.bool m, Value.slice b ys.length d, Value.string nm, Value.int .i64 p, Value.int .i64 q, Value.slice x k ck] 37)).frozen? ⟨w.heap.size, 4, none⟩ = false := Lib.frozen_of_heap Xa.out 4
    have ka5 : (w.alloc (Obj.cells #[Value.int .i64 6, Value.bool n, Value.slice a xs.length c, Value.bool m, Value.slice b ys.length d, Value.string nm, Value.int .i64 p, Value.int .i64 q, Value.slice x k ck] 37)).cell? ⟨w.heap.size, 5, none⟩ = some (Value.string nm) := (Lib.cell_of_heap Xa.out 5).trans rfl
    have fa5 : (w.alloc (Obj.cells #[Value.int .i64 6, Value.bool n, Value.slice a xs.length c, Value.bool m, Value.slice b ys.length d, Value.string nm, Value.int .i64 p, Value.int .i64 q, Value.slice x k ck] 37)).frozen? ⟨w.heap.size, 5, none⟩ = false := Lib.frozen_of_heap Xa.out 5
    have ka6 : (w.alloc (Obj.cells #[Value.int .i64 6, Value.bool n, Value.slice a xs.length c, Value.bool m, Value.slice b ys.length d, Value.string nm, Value.int .i64 p, Value.int .i64 q, Value.slice x k ck] 37)).cell? ⟨w.heap.size, 6, none⟩ = some (Value.int .i64 p) := (Lib.cell_of_heap Xa.out 6).trans rfl
    have fa6 : (w.alloc (Obj.cells #[Value.int .i64 6, Value.bool n, Value.slice a xs.length c, Value.bool m, Value.slice b ys.length d, Value.string nm, Value.int .i64 p, Value.int .i64 q, Value.slice x k ck] 37)).frozen? ⟨w.heap.size, 6, none⟩ = false := Lib.frozen_of_heap Xa.out 6
    have ka7 : (w.alloc (Obj.cells #[Value.int .i64 6, Value.bool n, Value.slice a xs.length c, Value.bool m, Value.slice b ys.length d, Value.string nm, Value.int .i64 p, Value.int .i64 q, Value.slice x k ck] 37)).cell? ⟨w.heap.size, 7, none⟩ = some (Value.int .i64 q) := (Lib.cell_of_heap Xa.out 7).trans rfl
    have fa7 : (w.alloc (Obj.cells #[Value.int .i64 6, Value.bool n, Value.slice a xs.length c, Value.bool m, Value.slice b ys.length d, Value.string nm, Value.int .i64 p, Value.int .i64 q, Value.slice x k ck] 37)).frozen? ⟨w.heap.size, 7, none⟩ = false := Lib.frozen_of_heap Xa.out 7
    have ka8 : (w.alloc (Obj.cells #[Value.int .i64 6, Value.bool n, Value.slice a xs.length c, Value.bool m, Value.slice b ys.length d, Value.string nm, Value.int .i64 p, Value.int .i64 q, Value.slice x k ck] 37)).cell? ⟨w.heap.size, 8, none⟩ = some (Value.slice x k ck) := (Lib.cell_of_heap Xa.out 8).trans rfl
    have fa8 : (w.alloc (Obj.cells #[Value.int .i64 6, Value.bool n, Value.slice a xs.length c, Value.bool m, Value.slice b ys.length d, Value.string nm, Value.int .i64 p, Value.int .i64 q, Value.slice x k ck] 37)).frozen? ⟨w.heap.size, 8, none⟩ = false := Lib.frozen_of_heap Xa.out 8
    have za : w.heap.size < (w.alloc (Obj.cells #[Value.int .i64 6, Value.bool n, Value.slice a xs.length c, Value.bool m, Value.slice b ys.length d, Value.string nm, Value.int .i64 p, Value.int .i64 q, Value.slice x k ck] 37)).heap.size := hlt Xa.out
    go_enter Tryz.func23, Tryz.ntmps23
    go_wp2_with fail
    generalize (w.alloc (Obj.cells #[Value.int .i64 6, Value.bool n, Value.slice a xs.length c, Value.bool m, Value.slice b ys.length d, Value.string nm, Value.int .i64 p, Value.int .i64 q, Value.slice x k ck] 37)) = w1 at *
    refine (noneS n xs m ys a c b d _ (S1.out.below HB.out) (S2.out.below HB.out)).mono ?_
    rintro e w2 ⟨rfl, hb⟩
    have yw2 := hb.size
    clear ka0 fa0 ka1 fa1 ka2 fa2 ka3 fa3 ka4 fa4 ka5 fa5 ka6 fa6 ka7 fa7 ka8 fa8 za
    replace Xa := hide (hbel Xa.out hb (by first | assumption | omega))
    replace HB := hide (bl_trans HB.out hb)
    clear hb
    have ka0 : w2.cell? ⟨w.heap.size, 0, none⟩ = some (Value.int .i64 6) := (Lib.cell_of_heap Xa.out 0).trans rfl
    have fa0 : w2.frozen? ⟨w.heap.size, 0, none⟩ = false := Lib.frozen_of_heap Xa.out 0
    have ka1 : w2.cell? ⟨w.heap.size, 1, none⟩ = some (Value.bool n) := (Lib.cell_of_heap Xa.out 1).trans rfl
    have fa1 : w2.frozen? ⟨w.heap.size, 1, none⟩ = false := Lib.frozen_of_heap Xa.out 1
    have ka2 : w2.cell? ⟨w.heap.size, 2, none⟩ = some (Value.slice a xs.length c) := (Lib.cell_of_heap Xa.out 2).trans rfl
    have fa2 : w2.frozen? ⟨w.heap.size, 2, none⟩ = false := Lib.frozen_of_heap Xa.out 2
    have ka3 : w2.cell? ⟨w.heap.size, 3, none⟩ = some (Value.bool m) := (Lib.cell_of_heap Xa.out 3).trans rfl
    have fa3 : w2.frozen? ⟨w.heap.size, 3, none⟩ = false := Lib.frozen_of_heap Xa.out 3
    have ka4 : w2.cell? ⟨w.heap.size, 4, none⟩ = some (Value.slice b ys.length d) := (Lib.cell_of_heap Xa.out 4).trans rfl
    have fa4 : w2.frozen? ⟨w.heap.size, 4, none⟩ = false := Lib.frozen_of_heap Xa.out 4
    have ka5 : w2.cell? ⟨w.heap.size, 5, none⟩ = some (Value.string nm) := (Lib.cell_of_heap Xa.out 5).trans rfl
    have fa5 : w2.frozen? ⟨w.heap.size, 5, none⟩ = false := Lib.frozen_of_heap Xa.out 5
    have ka6 : w2.cell? ⟨w.heap.size, 6, none⟩ = some (Value.int .i64 p) := (Lib.cell_of_heap Xa.out 6).trans rfl
    have fa6 : w2.frozen? ⟨w.heap.size, 6, none⟩ = false := Lib.frozen_of_heap Xa.out 6
    have ka7 : w2.cell? ⟨w.heap.size, 7, none⟩ = some (Value.int .i64 q) := (Lib.cell_of_heap Xa.out 7).trans rfl
    have fa7 : w2.frozen? ⟨w.heap.size, 7, none⟩ = false := Lib.frozen_of_heap Xa.out 7
    have ka8 : w2.cell? ⟨w.heap.size, 8, none⟩ = some (Value.slice x k ck) := (Lib.cell_of_heap Xa.out 8).trans rfl
    have fa8 : w2.frozen? ⟨w.heap.size, 8, none⟩ = false := Lib.frozen_of_heap Xa.out 8
    have za : w.heap.size < w2.heap.size := hlt Xa.out
    cases hb : blankB n xs m ys with
    | false =>
      have Hb := hide hb
      clear hb
      go_wp2
      go_ret
      exact ⟨ret_bool (by rw [HO.out, Hb.out]; first | rfl | simp), HB.out⟩
    | true =>
      have Hb := hide hb
      clear hb
      cases hn : nm.toList.isEmpty with
      | false =>
        have Hn := hide hn
        go_wp2
        go_ret
        exact ⟨ret_bool (by rw [HO.out, Hb.out, Hn.out]; first | rfl | simp), HB.out⟩
      | true =>
        have Hn := hide hn
        by_cases hl : k = 1
        case neg =>
          have HL : Hid (decide (k = 1) = false) := hide (decide_eq_false hl)
          have hl2 : ((k : Int) == 1) = false := by rw [beq_eq_false_iff_ne]; omega
          clear hl
          go_wp2
          go_ret
          exact ⟨ret_bool (by rw [HO.out, Hb.out, Hn.out, HFF.out, HL.out]; first | rfl | simp), HB.out⟩
        have HL : Hid (decide (k = 1) = true) := hide (decide_eq_true hl)
        have hl2 : ((k : Int) == 1) = true := by rw [beq_iff_eq]; omega
        clear hl
        go_wp2
        go_ret
        exact ⟨ret_bool (by rw [HO.out, Hb.out, Hn.out, HFF.out, HL.out]; first | rfl | simp), HB.out⟩
  · have hp2 : (p == 0) = true := by rw [beq_iff_eq]; exact hp
    have hq2 : (q == 0) = false := by rw [beq_eq_false_iff_ne]; exact hq
    have HFF : Hid (F = false) := hide (by rw [← HF.out, decide_eq_true hp, decide_eq_false hq]; rfl)
    clear hp hq
    have Xa : Hid ((w.alloc (Obj.cells #[Value.int .i64 6, Value.bool n, Value.slice a xs.length c, Value.bool m, Value.slice b ys.length d, Value.string nm, Value.int .i64 p, Value.int .i64 q, Value.slice x k ck] 37)).heap[w.heap.size]? = some (.cells #[Value.int .i64 6, Value.bool n, Value.slice a xs.length c, Value.bool m, Value.slice b ys.length d, Value.string nm, Value.int .i64 p, Value.int .i64 q, Value.slice x k ck] 37 (0, 0))) := hide (by simpa only [World.size_alloc] using (hnew w (Obj.cells #[Value.int .i64 6, Value.bool n, Value.slice a xs.length c, Value.bool m, Value.slice b ys.length d, Value.string nm, Value.int .i64 p, Value.int .i64 q, Value.slice x k ck] 37)))
    have HB : Hid (Below w.heap.size w (w.alloc (Obj.cells #[Value.int .i64 6, Value.bool n, Value.slice a xs.length c, Value.bool m, Value.slice b ys.length d, Value.string nm, Value.int .i64 p, Value.int .i64 q, Value.slice x k ck] 37))) := hide (bl_alloc (bl_refl w) (Obj.cells #[Value.int .i64 6, Value.bool n, Value.slice a xs.length c, Value.bool m, Value.slice b ys.length d, Value.string nm, Value.int .i64 p, Value.int .i64 q, Value.slice x k ck] 37))
    have yw1 : w.heap.size + 1 ≤ (w.alloc (Obj.cells #[Value.int .i64 6, Value.bool n, Value.slice a xs.length c, Value.bool m, Value.slice b ys.length d, Value.string nm, Value.int .i64 p, Value.int .i64 q, Value.slice x k ck] 37)).heap.size := by simp only [World.size_alloc]; omega
    have ka0 : (w.alloc (Obj.cells #[Value.int .i64 6, Value.bool n, Value.slice a xs.length c, Value.bool m, Value.slice b ys.length d, Value.string nm, Value.int .i64 p, Value.int .i64 q, Value.slice x k ck] 37)).cell? ⟨w.heap.size, 0, none⟩ = some (Value.int .i64 6) := (Lib.cell_of_heap Xa.out 0).trans rfl
    have fa0 : (w.alloc (Obj.cells #[Value.int .i64 6, Value.bool n, Value.slice a xs.length c, Value.bool m, Value.slice b ys.length d, Value.string nm, Value.int .i64 p, Value.int .i64 q, Value.slice x k ck] 37)).frozen? ⟨w.heap.size, 0, none⟩ = false := Lib.frozen_of_heap Xa.out 0
    have ka1 : (w.alloc (Obj.cells #[Value.int .i64 6, Value.bool n, Value.slice a xs.length c, Value.bool m, Value.slice b ys.length d, Value.string nm, Value.int .i64 p, Value.int .i64 q, Value.slice x k ck] 37)).cell? ⟨w.heap.size, 1, none⟩ = some (Value.bool n) := (Lib.cell_of_heap Xa.out 1).trans rfl
    have fa1 : (w.alloc (Obj.cells #[Value.int .i64 6, Value.bool n, Value.slice a xs.length c, Value.bool m, Value.slice b ys.length d, Value.string nm, Value.int .i64 p, Value.int .i64 q, Value.slice x k ck] 37)).frozen? ⟨w.heap.size, 1, none⟩ = false := Lib.frozen_of_heap Xa.out 1
    have ka2 : (w.alloc (Obj.cells #[Value.int .i64 6, Value.bool n, Value.slice a xs.length c, Value.bool m, Value.slice b ys.length d, Value.string nm, Value.int .i64 p, Value.int .i64 q, Value.slice x k ck] 37)).cell? ⟨w.heap.size, 2, none⟩ = some (Value.slice a xs.length c) := (Lib.cell_of_heap Xa.out 2).trans rfl
    have fa2 : (w.alloc (Obj.cells #[Value.int .i64 6, Value.bool n, Value.slice a xs.length c, Value.bool m, Value.slice b ys.length d, Value.string nm, Value.int .i64 p, Value.int .i64 q, Value.slice x k ck] 37)).frozen? ⟨w.heap.size, 2, none⟩ = false := Lib.frozen_of_heap Xa.out 2
    have ka3 : (w.alloc (Obj.cells #[Value.int .i64 6, Value.bool n, Value.slice a xs.length c, Value.bool m, Value.slice b ys.length d, Value.string nm, Value.int .i64 p, Value.int .i64 q, Value.slice x k ck] 37)).cell? ⟨w.heap.size, 3, none⟩ = some (Value.bool m) := (Lib.cell_of_heap Xa.out 3).trans rfl
    have fa3 : (w.alloc (Obj.cells #[Value.int .i64 6, Value.bool n, Value.slice a xs.length c, Value.bool m, Value.slice b ys.length d, Value.string nm, Value.int .i64 p, Value.int .i64 q, Value.slice x k ck] 37)).frozen? ⟨w.heap.size, 3, none⟩ = false := Lib.frozen_of_heap Xa.out 3
    have ka4 : (w.alloc (Obj.cells #[Value.int .i64 6, Value.bool n, Value.slice a xs.length c, Value.bool m, Value.slice b ys.length d, Value.string nm, Value.int .i64 p, Value.int .i64 q, Value.slice x k ck] 37)).cell? ⟨w.heap.size, 4, none⟩ = some (Value.slice b ys.length d) := (Lib.cell_of_heap Xa.out 4).trans rfl
    have fa4 : (w.alloc (Obj.cells #[Value.int .i64 6, Value.bool n, Value.slice a xs.length c, Value.bool m, Value.slice b ys.length d, Value.string nm, Value.int .i64 p, Value.int .i64 q, Value.slice x k ck] 37)).frozen? ⟨w.heap.size, 4, none⟩ = false := Lib.frozen_of_heap Xa.out 4
    have ka5 : (w.alloc (Obj.cells #[Value.int .i64 6, Value.bool n, Value.slice a xs.length c, Value.bool m, Value.slice b ys.length d, Value.string nm, Value.int .i64 p, Value.int .i64 q, Value.slice x k ck] 37)).cell? ⟨w.heap.size, 5, none⟩ = some (Value.string nm) := (Lib.cell_of_heap Xa.out 5).trans rfl
    have fa5 : (w.alloc (Obj.cells #[Value.int .i64 6, Value.bool n, Value.slice a xs.length c, Value.bool m, Value.slice b ys.length d, Value.string nm, Value.int .i64 p, Value.int .i64 q, Value.slice x k ck] 37)).frozen? ⟨w.heap.size, 5, none⟩ = false := Lib.frozen_of_heap Xa.out 5
    have ka6 : (w.alloc (Obj.cells #[Value.int .i64 6, Value.bool n, Value.slice a xs.length c, Value.bool m, Value.slice b ys.length d, Value.string nm, Value.int .i64 p, Value.int .i64 q, Value.slice x k ck] 37)).cell? ⟨w.heap.size, 6, none⟩ = some (Value.int .i64 p) := (Lib.cell_of_heap Xa.out 6).trans rfl
    have fa6 : (w.alloc (Obj.cells #[Value.int .i64 6, Value.bool n, Value.slice a xs.length c, Value.bool m, Value.slice b ys.length d, Value.string nm, Value.int .i64 p, Value.int .i64 q, Value.slice x k ck] 37)).frozen? ⟨w.heap.size, 6, none⟩ = false := Lib.frozen_of_heap Xa.out 6
    have ka7 : (w.alloc (Obj.cells #[Value.int .i64 6, Value.bool n, Value.slice a xs.length c, Value.bool m, Value.slice b ys.length d, Value.string nm, Value.int .i64 p, Value.int .i64 q, Value.slice x k ck] 37)).cell? ⟨w.heap.size, 7, none⟩ = some (Value.int .i64 q) := (Lib.cell_of_heap Xa.out 7).trans rfl
    have fa7 : (w.alloc (Obj.cells #[Value.int .i64 6, Value.bool n, Value.slice a xs.length c, Value.bool m, Value.slice b ys.length d, Value.string nm, Value.int .i64 p, Value.int .i64 q, Value.slice x k ck] 37)).frozen? ⟨w.heap.size, 7, none⟩ = false := Lib.frozen_of_heap Xa.out 7
    have ka8 : (w.alloc (Obj.cells #[Value.int .i64 6, Value.bool n, Value.slice a xs.length c, Value.bool m, Value.slice b ys.length d, Value.string nm, Value.int .i64 p, Value.int .i64 q, Value.slice x k ck] 37)).cell? ⟨w.heap.size, 8, none⟩ = some (Value.slice x k ck) := (Lib.cell_of_heap Xa.out 8).trans rfl
    have fa8 : (w.alloc (Obj.cells #[Value.int .i64 6, Value.bool n, Value.slice a xs.length c, Value.bool m, Value.slice b ys.length d, Value.string nm, Value.int .i64 p, Value.int .i64 q, Value.slice x k ck] 37)).frozen? ⟨w.heap.size, 8, none⟩ = false := Lib.frozen_of_heap Xa.out 8
    have za : w.heap.size < (w.alloc (Obj.cells #[Value.int .i64 6, Value.bool n, Value.slice a xs.length c, Value.bool m, Value.slice b ys.length d, Value.string nm, Value.int .i64 p, Value.int .i64 q, Value.slice x k ck] 37)).heap.size := hlt Xa.out
    go_enter Tryz.func23, Tryz.ntmps23
    go_wp2_with fail
    generalize (w.alloc (Obj.cells #[Value.int .i64 6, Value.bool n, Value.slice a xs.length c, Value.bool m, Value.slice b ys.length d, Value.string nm, Value.int .i64 p, Value.int .i64 q, Value.slice x k ck] 37)) = w1 at *
    refine (noneS n xs m ys a c b d _ (S1.out.below HB.out) (S2.out.below HB.out)).mono ?_
    rintro e w2 ⟨rfl, hb⟩
    have yw2 := hb.size
    clear ka0 fa0 ka1 fa1 ka2 fa2 ka3 fa3 ka4 fa4 ka5 fa5 ka6 fa6 ka7 fa7 ka8 fa8 za
    replace Xa := hide (hbel Xa.out hb (by first | assumption | omega))
    replace HB := hide (bl_trans HB.out hb)
    clear hb
    have ka0 : w2.cell? ⟨w.heap.size, 0, none⟩ = some (Value.int .i64 6) := (Lib.cell_of_heap Xa.out 0).trans rfl
    have fa0 : w2.frozen? ⟨w.heap.size, 0, none⟩ = false := Lib.frozen_of_heap Xa.out 0
    have ka1 : w2.cell? ⟨w.heap.size, 1, none⟩ = some (Value.bool n) := (Lib.cell_of_heap Xa.out 1).trans rfl
    have fa1 : w2.frozen? ⟨w.heap.size, 1, none⟩ = false := Lib.frozen_of_heap Xa.out 1
    have ka2 : w2.cell? ⟨w.heap.size, 2, none⟩ = some (Value.slice a xs.length c) := (Lib.cell_of_heap Xa.out 2).trans rfl
    have fa2 : w2.frozen? ⟨w.heap.size, 2, none⟩ = false := Lib.frozen_of_heap Xa.out 2
    have ka3 : w2.cell? ⟨w.heap.size, 3, none⟩ = some (Value.bool m) := (Lib.cell_of_heap Xa.out 3).trans rfl
    have fa3 : w2.frozen? ⟨w.heap.size, 3, none⟩ = false := Lib.frozen_of_heap Xa.out 3
    have ka4 : w2.cell? ⟨w.heap.size, 4, none⟩ = some (Value.slice b ys.length d) := (Lib.cell_of_heap Xa.out 4).trans rfl
    have fa4 : w2.frozen? ⟨w.heap.size, 4, none⟩ = false := Lib.frozen_of_heap Xa.out 4
    have ka5 : w2.cell? ⟨w.heap.size, 5, none⟩ = some (Value.string nm) := (Lib.cell_of_heap Xa.out 5).trans rfl
    have fa5 : w2.frozen? ⟨w.heap.size, 5, none⟩ = false := Lib.frozen_of_heap Xa.out 5
    have ka6 : w2.cell? ⟨w.heap.size, 6, none⟩ = some (Value.int .i64 p) := (Lib.cell_of_heap Xa.out 6).trans rfl
    have fa6 : w2.frozen? ⟨w.heap.size, 6, none⟩ = false := Lib.frozen_of_heap Xa.out 6
    have ka7 : w2.cell? ⟨w.heap.size, 7, none⟩ = some (Value.int .i64 q) := (Lib.cell_of_heap Xa.out 7).trans rfl
    have fa7 : w2.frozen? ⟨w.heap.size, 7, none⟩ = false := Lib.frozen_of_heap Xa.out 7
    have ka8 : w2.cell? ⟨w.heap.size, 8, none⟩ = some (Value.slice x k ck) := (Lib.cell_of_heap Xa.out 8).trans rfl
    have fa8 : w2.frozen? ⟨w.heap.size, 8, none⟩ = false := Lib.frozen_of_heap Xa.out 8
    have za : w.heap.size < w2.heap.size := hlt Xa.out
    cases hb : blankB n xs m ys with
    | false =>
      have Hb := hide hb
      clear hb
      go_wp2
      go_ret
      exact ⟨ret_bool (by rw [HO.out, Hb.out]; first | rfl | simp), HB.out⟩
    | true =>
      have Hb := hide hb
      clear hb
      cases hn : nm.toList.isEmpty with
      | false =>
        have Hn := hide hn
        go_wp2
        go_ret
        exact ⟨ret_bool (by rw [HO.out, Hb.out, Hn.out]; first | rfl | simp), HB.out⟩
      | true =>
        have Hn := hide hn
        go_wp2
        go_ret
        exact ⟨ret_bool (by rw [HO.out, Hb.out, Hn.out, HFF.out]; first | rfl | simp), HB.out⟩
  · have hp2 : (p == 0) = false := by rw [beq_eq_false_iff_ne]; exact hp
    have hq2 : (q == 0) = true := by rw [beq_iff_eq]; exact hq
    have HFF : Hid (F = false) := hide (by rw [← HF.out, decide_eq_false hp, decide_eq_true hq]; rfl)
    clear hp hq
    have Xa : Hid ((w.alloc (Obj.cells #[Value.int .i64 6, Value.bool n, Value.slice a xs.length c, Value.bool m, Value.slice b ys.length d, Value.string nm, Value.int .i64 p, Value.int .i64 q, Value.slice x k ck] 37)).heap[w.heap.size]? = some (.cells #[Value.int .i64 6, Value.bool n, Value.slice a xs.length c, Value.bool m, Value.slice b ys.length d, Value.string nm, Value.int .i64 p, Value.int .i64 q, Value.slice x k ck] 37 (0, 0))) := hide (by simpa only [World.size_alloc] using (hnew w (Obj.cells #[Value.int .i64 6, Value.bool n, Value.slice a xs.length c, Value.bool m, Value.slice b ys.length d, Value.string nm, Value.int .i64 p, Value.int .i64 q, Value.slice x k ck] 37)))
    have HB : Hid (Below w.heap.size w (w.alloc (Obj.cells #[Value.int .i64 6, Value.bool n, Value.slice a xs.length c, Value.bool m, Value.slice b ys.length d, Value.string nm, Value.int .i64 p, Value.int .i64 q, Value.slice x k ck] 37))) := hide (bl_alloc (bl_refl w) (Obj.cells #[Value.int .i64 6, Value.bool n, Value.slice a xs.length c, Value.bool m, Value.slice b ys.length d, Value.string nm, Value.int .i64 p, Value.int .i64 q, Value.slice x k ck] 37))
    have yw1 : w.heap.size + 1 ≤ (w.alloc (Obj.cells #[Value.int .i64 6, Value.bool n, Value.slice a xs.length c, Value.bool m, Value.slice b ys.length d, Value.string nm, Value.int .i64 p, Value.int .i64 q, Value.slice x k ck] 37)).heap.size := by simp only [World.size_alloc]; omega
    have ka0 : (w.alloc (Obj.cells #[Value.int .i64 6, Value.bool n, Value.slice a xs.length c, Value.bool m, Value.slice b ys.length d, Value.string nm, Value.int .i64 p, Value.int .i64 q, Value.slice x k ck] 37)).cell? ⟨w.heap.size, 0, none⟩ = some (Value.int .i64 6) := (Lib.cell_of_heap Xa.out 0).trans rfl
    have fa0 : (w.alloc (Obj.cells #[Value.int .i64 6, Value.bool n, Value.slice a xs.length c, Value.bool m, Value.slice b ys.length d, Value.string nm, Value.int .i64 p, Value.int .i64 q, Value.slice x k ck] 37)).frozen? ⟨w.heap.size, 0, none⟩ = false := Lib.frozen_of_heap Xa.out 0
    have ka1 : (w.alloc (Obj.cells #[Value.int .i64 6, Value.bool n, Value.slice a xs.length c, Value.bool m, Value.slice b ys.length d, Value.string nm, Value.int .i64 p, Value.int .i64 q, Value.slice x k ck] 37)).cell? ⟨w.heap.size, 1, none⟩ = some (Value.bool n) := (Lib.cell_of_heap Xa.out 1).trans rfl
    have fa1 : (w.alloc (Obj.cells #[Value.int .i64 6, Value.bool n, Value.slice a xs.length c, Value.bool m, Value.slice b ys.length d, Value.string nm, Value.int .i64 p, Value.int .i64 q, Value.slice x k ck] 37)).frozen? ⟨w.heap.size, 1, none⟩ = false := Lib.frozen_of_heap Xa.out 1
    have ka2 : (w.alloc (Obj.cells #[Value.int .i64 6, Value.bool n, Value.slice a xs.length c, Value.bool m, Value.slice b ys.length d, Value.string nm, Value.int .i64 p, Value.int .i64 q, Value.slice x k ck] 37)).cell? ⟨w.heap.size, 2, none⟩ = some (Value.slice a xs.length c) := (Lib.cell_of_heap Xa.out 2).trans rfl
    have fa2 : (w.alloc (Obj.cells #[Value.int .i64 6, Value.bool n, Value.slice a xs.length c, Value.bool m, Value.slice b ys.length d, Value.string nm, Value.int .i64 p, Value.int .i64 q, Value.slice x k ck] 37)).frozen? ⟨w.heap.size, 2, none⟩ = false := Lib.frozen_of_heap Xa.out 2
    have ka3 : (w.alloc (Obj.cells #[Value.int .i64 6, Value.bool n, Value.slice a xs.length c, Value.bool m, Value.slice b ys.length d, Value.string nm, Value.int .i64 p, Value.int .i64 q, Value.slice x k ck] 37)).cell? ⟨w.heap.size, 3, none⟩ = some (Value.bool m) := (Lib.cell_of_heap Xa.out 3).trans rfl
    have fa3 : (w.alloc (Obj.cells #[Value.int .i64 6, Value.bool n, Value.slice a xs.length c, Value.bool m, Value.slice b ys.length d, Value.string nm, Value.int .i64 p, Value.int .i64 q, Value.slice x k ck] 37)).frozen? ⟨w.heap.size, 3, none⟩ = false := Lib.frozen_of_heap Xa.out 3
    have ka4 : (w.alloc (Obj.cells #[Value.int .i64 6, Value.bool n, Value.slice a xs.length c, Value.bool m, Value.slice b ys.length d, Value.string nm, Value.int .i64 p, Value.int .i64 q, Value.slice x k ck] 37)).cell? ⟨w.heap.size, 4, none⟩ = some (Value.slice b ys.length d) := (Lib.cell_of_heap Xa.out 4).trans rfl
    have fa4 : (w.alloc (Obj.cells #[Value.int .i64 6, Value.bool n, Value.slice a xs.length c, Value.bool m, Value.slice b ys.length d, Value.string nm, Value.int .i64 p, Value.int .i64 q, Value.slice x k ck] 37)).frozen? ⟨w.heap.size, 4, none⟩ = false := Lib.frozen_of_heap Xa.out 4
    have ka5 : (w.alloc (Obj.cells #[Value.int .i64 6, Value.bool n, Value.slice a xs.length c, Value.bool m, Value.slice b ys.length d, Value.string nm, Value.int .i64 p, Value.int .i64 q, Value.slice x k ck] 37)).cell? ⟨w.heap.size, 5, none⟩ = some (Value.string nm) := (Lib.cell_of_heap Xa.out 5).trans rfl
    have fa5 : (w.alloc (Obj.cells #[Value.int .i64 6, Value.bool n, Value.slice a xs.length c, Value.bool m, Value.slice b ys.length d, Value.string nm, Value.int .i64 p, Value.int .i64 q, Value.slice x k ck] 37)).frozen? ⟨w.heap.size, 5, none⟩ = false := Lib.frozen_of_heap Xa.out 5
    have ka6 : (w.alloc (Obj.cells #[Value.int .i64 6, Value.bool n, Value.slice a xs.length c, Value.bool m, Value.slice b ys.length d, Value.string nm, Value.int .i64 p, Value.int .i64 q, Value.slice x k ck] 37)).cell? ⟨w.heap.size, 6, none⟩ = some (Value.int .i64 p) := (Lib.cell_of_heap Xa.out 6).trans rfl
    have fa6 : (w.alloc (Obj.cells #[Value.int .i64 6, Value.bool n, Value.slice a xs.length c, Value.bool m, Value.slice b ys.length d, Value.string nm, Value.int .i64 p, Value.int .i64 q, Value.slice x k ck] 37)).frozen? ⟨w.heap.size, 6, none⟩ = false := Lib.frozen_of_heap Xa.out 6
    have ka7 : (w.alloc (Obj.cells #[Value.int .i64 6, Value.bool n, Value.slice a xs.length c, Value.bool m, Value.slice b ys.length d, Value.string nm, Value.int .i64 p, Value.int .i64 q, Value.slice x k ck] 37)).cell? ⟨w.heap.size, 7, none⟩ = some (Value.int .i64 q) := (Lib.cell_of_heap Xa.out 7).trans rfl
    have fa7 : (w.alloc (Obj.cells #[Value.int .i64 6, Value.bool n, Value.slice a xs.length c, Value.bool m, Value.slice b ys.length d, Value.string nm, Value.int .i64 p, Value.int .i64 q, Value.slice x k ck] 37)).frozen? ⟨w.heap.size, 7, none⟩ = false := Lib.frozen_of_heap Xa.out 7
    have ka8 : (w.alloc (Obj.cells #[Value.int .i64 6, Value.bool n, Value.slice a xs.length c, Value.bool m, Value.slice b ys.length d, Value.string nm, Value.int .i64 p, Value.int .i64 q, Value.slice x k ck] 37)).cell? ⟨w.heap.size, 8, none⟩ = some (Value.slice x k ck) := (Lib.cell_of_heap Xa.out 8).trans rfl
    have fa8 : (w.alloc (Obj.cells #[Value.int .i64 6, Value.bool n, Value.slice a xs.length c, Value.bool m, Value.slice b ys.length d, Value.string nm, Value.int .i64 p, Value.int .i64 q, Value.slice x k ck] 37)).frozen? ⟨w.heap.size, 8, none⟩ = false := Lib.frozen_of_heap Xa.out 8
    have za : w.heap.size < (w.alloc (Obj.cells #[Value.int .i64 6, Value.bool n, Value.slice a xs.length c, Value.bool m, Value.slice b ys.length d, Value.string nm, Value.int .i64 p, Value.int .i64 q, Value.slice x k ck] 37)).heap.size := hlt Xa.out
    go_enter Tryz.func23, Tryz.ntmps23
    go_wp2_with fail
    generalize (w.alloc (Obj.cells #[Value.int .i64 6, Value.bool n, Value.slice a xs.length c, Value.bool m, Value.slice b ys.length d, Value.string nm, Value.int .i64 p, Value.int .i64 q, Value.slice x k ck] 37)) = w1 at *
    refine (noneS n xs m ys a c b d _ (S1.out.below HB.out) (S2.out.below HB.out)).mono ?_
    rintro e w2 ⟨rfl, hb⟩
    have yw2 := hb.size
    clear ka0 fa0 ka1 fa1 ka2 fa2 ka3 fa3 ka4 fa4 ka5 fa5 ka6 fa6 ka7 fa7 ka8 fa8 za
    replace Xa := hide (hbel Xa.out hb (by first | assumption | omega))
    replace HB := hide (bl_trans HB.out hb)
    clear hb
    have ka0 : w2.cell? ⟨w.heap.size, 0, none⟩ = some (Value.int .i64 6) := (Lib.cell_of_heap Xa.out 0).trans rfl
    have fa0 : w2.frozen? ⟨w.heap.size, 0, none⟩ = false := Lib.frozen_of_heap Xa.out 0
    have ka1 : w2.cell? ⟨w.heap.size, 1, none⟩ = some (Value.bool n) := (Lib.cell_of_heap Xa.out 1).trans rfl
    have fa1 : w2.frozen? ⟨w.heap.size, 1, none⟩ = false := Lib.frozen_of_heap Xa.out 1
    have ka2 : w2.cell? ⟨w.heap.size, 2, none⟩ = some (Value.slice a xs.length c) := (Lib.cell_of_heap Xa.out 2).trans rfl
    have fa2 : w2.frozen? ⟨w.heap.size, 2, none⟩ = false := Lib.frozen_of_heap Xa.out 2
    have ka3 : w2.cell? ⟨w.heap.size, 3, none⟩ = some (Value.bool m) := (Lib.cell_of_heap Xa.out 3).trans rfl
    have fa3 : w2.frozen? ⟨w.heap.size, 3, none⟩ = false := Lib.frozen_of_heap Xa.out 3
    have ka4 : w2.cell? ⟨w.heap.size, 4, none⟩ = some (Value.slice b ys.length d) := (Lib.cell_of_heap Xa.out 4).trans rfl
    have fa4 : w2.frozen? ⟨w.heap.size, 4, none⟩ = false := Lib.frozen_of_heap Xa.out 4
    have ka5 : w2.cell? ⟨w.heap.size, 5, none⟩ = some (Value.string nm) := (Lib.cell_of_heap Xa.out 5).trans rfl
    have fa5 : w2.frozen? ⟨w.heap.size, 5, none⟩ = false := Lib.frozen_of_heap Xa.out 5
    have ka6 : w2.cell? ⟨w.heap.size, 6, none⟩ = some (Value.int .i64 p) := (Lib.cell_of_heap Xa.out 6).trans rfl
    have fa6 : w2.frozen? ⟨w.heap.size, 6, none⟩ = false := Lib.frozen_of_heap Xa.out 6
    have ka7 : w2.cell? ⟨w.heap.size, 7, none⟩ = some (Value.int .i64 q) := (Lib.cell_of_heap Xa.out 7).trans rfl
    have fa7 : w2.frozen? ⟨w.heap.size, 7, none⟩ = false := Lib.frozen_of_heap Xa.out 7
    have ka8 : w2.cell? ⟨w.heap.size, 8, none⟩ = some (Value.slice x k ck) := (Lib.cell_of_heap Xa.out 8).trans rfl
    have fa8 : w2.frozen? ⟨w.heap.size, 8, none⟩ = false := Lib.frozen_of_heap Xa.out 8
    have za : w.heap.size < w2.heap.size := hlt Xa.out
    cases hb : blankB n xs m ys with
    | false =>
      have Hb := hide hb
      clear hb
      go_wp2
      go_ret
      exact ⟨ret_bool (by rw [HO.out, Hb.out]; first | rfl | simp), HB.out⟩
    | true =>
      have Hb := hide hb
      clear hb
      cases hn : nm.toList.isEmpty with
      | false =>
        have Hn := hide hn
        go_wp2
        go_ret
        exact ⟨ret_bool (by rw [HO.out, Hb.out, Hn.out]; first | rfl | simp), HB.out⟩
      | true =>
        have Hn := hide hn
        go_wp2
        go_ret
        exact ⟨ret_bool (by rw [HO.out, Hb.out, Hn.out, HFF.out]; first | rfl | simp), HB.out⟩
  · have hp2 : (p == 0) = false := by rw [beq_eq_false_iff_ne]; exact hp
    have hq2 : (q == 0) = false := by rw [beq_eq_false_iff_ne]; exact hq
    have HFF : Hid (F = false) := hide (by rw [← HF.out, decide_eq_false hp, decide_eq_false hq]; rfl)
    clear hp hq
    have Xa : Hid ((w.alloc (Obj.cells #[Value.int .i64 6, Value.bool n, Value.slice a xs.length c, Value.bool m, Value.slice b ys.length d, Value.string nm, Value.int .i64 p, Value.int .i64 q, Value.slice x k ck] 37)).heap[w.heap.size]? = some (.cells #[Value.int .i64 6, Value.bool n, Value.slice a xs.length c, Value.bool m, Value.slice b ys.length d, Value.string nm, Value.int .i64 p, Value.int .i64 q, Value.slice x k ck] 37 (0, 0))) := hide (by simpa only [World.size_alloc] using (hnew w (Obj.cells #[Value.int .i64 6, Value.bool n, Value.slice a xs.length c, Value.bool m, Value.slice b ys.length d, Value.string nm, Value.int .i64 p, Value.int .i64 q, Value.slice x k ck] 37)))
    have HB : Hid (Below w.heap.size w (w.alloc (Obj.cells #[Value.int .i64 6, Value.bool n, Value.slice a xs.length c, Value.bool m, Value.slice b ys.length d, Value.string nm, Value.int .i64 p, Value.int .i64 q, Value.slice x k ck] 37))) := hide (bl_alloc (bl_refl w) (Obj.cells #[Value.int .i64 6, Value.bool n, Value.slice a xs.length c, Value.bool m, Value.slice b ys.length d, Value.string nm, Value.int .i64 p, Value.int .i64 q, Value.slice x k ck] 37))
    have yw1 : w.heap.size + 1 ≤ (w.alloc (Obj.cells #[Value.int .i64 6, Value.bool n, Value.slice a xs.length c, Value.bool m, Value.slice b ys.length d, Value.string nm, Value.int .i64 p, Value.int .i64 q, Value.slice x k ck] 37)).heap.size := by simp only [World.size_alloc]; omega
    have ka0 : (w.alloc (Obj.cells #[Value.int .i64 6, Value.bool n, Value.slice a xs.length c, Value.bool m, Value.slice b ys.length d, Value.string nm, Value.int .i64 p, Value.int .i64 q, Value.slice x k ck] 37)).cell? ⟨w.heap.size, 0, none⟩ = some (Value.int .i64 6) := (Lib.cell_of_heap Xa.out 0).trans rfl
    have fa0 : (w.alloc (Obj.cells #[Value.int .i64 6, Value.bool n, Value.slice a xs.length c, Value.bool m, Value.slice b ys.length d, Value.string nm, Value.int .i64 p, Value.int .i64 q, Value.slice x k ck] 37)).frozen? ⟨w.heap.size, 0, none⟩ = false := Lib.frozen_of_heap Xa.out 0
    have ka1 : (w.alloc (Obj.cells #[Value.int .i64 6, Value.bool n, Value.slice a xs.length c, Value.bool m, Value.slice b ys.length d, Value.string nm, Value.int .i64 p, Value.int .i64 q, Value.slice x k ck] 37)).cell? ⟨w.heap.size, 1, none⟩ = some (Value.bool n) := (Lib.cell_of_heap Xa.out 1).trans rfl
    have fa1 : (w.alloc (Obj.cells #[Value.int .i64 6, Value.bool n, Value.slice a xs.length c, Value.bool m, Value.slice b ys.length d, Value.string nm, Value.int .i64 p, Value.int .i64 q, Value.slice x k ck] 37)).frozen? ⟨w.heap.size, 1, none⟩ = false := Lib.frozen_of_heap Xa.out 1
    have ka2 : (w.alloc (Obj.cells #[Value.int .i64 6, Value.bool n, Value.slice a xs.length c, Value.bool m, Value.slice b ys.length d, Value.string nm, Value.int .i64 p, Value.int .i64 q, Value.slice x k ck] 37)).cell? ⟨w.heap.size, 2, none⟩ = some (Value.slice a xs.length c) := (Lib.cell_of_heap Xa.out 2).trans rfl
    have fa2 : (w.alloc (Obj.cells #[Value.int .i64 6, Value.bool n, Value.slice a xs.length c, Value.bool m, Value.slice b ys.length d, Value.string nm, Value.int .i64 p, Value.int .i64 q, Value.slice x k ck] 37)).frozen? ⟨w.heap.size, 2, none⟩ = false := Lib.frozen_of_heap Xa.out 2
    have ka3 : (w.alloc (Obj.cells #[Value.int .i64 6, Value.bool n, Value.slice a xs.length c, Value.bool m, Value.slice b ys.length d, Value.string nm, Value.int .i64 p, Value.int .i64 q, Value.slice x k ck] 37)).cell? ⟨w.heap.size, 3, none⟩ = some (Value.bool m) := (Lib.cell_of_heap Xa.out 3).trans rfl
    have fa3 : (w.alloc (Obj.cells #[Value.int .i64 6, Value.bool n, Value.slice a xs.length c, Value.bool m, Value.slice b ys.length d, Value.string nm, Value.int .i64 p, Value.int .i64 q, Value.slice x k ck] 37)).frozen? ⟨w.heap.size, 3, none⟩ = false := Lib.frozen_of_heap Xa.out 3
    have ka4 : (w.alloc (Obj.cells #[Value.int .i64 6, Value.bool n, Value.slice a xs.length c, Value.bool m, Value.slice b ys.length d, Value.string nm, Value.int .i64 p, Value.int .i64 q, Value.slice x k ck] 37)).cell? ⟨w.heap.size, 4, none⟩ = some (Value.slice b ys.length d) := (Lib.cell_of_heap Xa.out 4).trans rfl
    have fa4 : (w.alloc (Obj.cells #[Value.int .i64 6, Value.bool n, Value.slice a xs.length c, Value.bool m, Value.slice b ys.length d, Value.string nm, Value.int .i64 p, Value.int .i64 q, Value.slice x k ck] 37)).frozen? ⟨w.heap.size, 4, none⟩ = false := Lib.frozen_of_heap Xa.out 4
    have ka5 : (w.alloc (Obj.cells #[Value.int .i64 6, Value.bool n, Value.slice a xs.length c, Value.bool m, Value.slice b ys.length d, Value.string nm, Value.int .i64 p, Value.int .i64 q, Value.slice x k ck] 37)).cell? ⟨w.heap.size, 5, none⟩ = some (Value.string nm) := (Lib.cell_of_heap Xa.out 5).trans rfl
    have fa5 : (w.alloc (Obj.cells #[Value.int .i64 6, Value.bool n, Value.slice a xs.length c, Value.bool m, Value.slice b ys.length d, Value.string nm, Value.int .i64 p, Value.int .i64 q, Value.slice x k ck] 37)).frozen? ⟨w.heap.size, 5, none⟩ = false := Lib.frozen_of_heap Xa.out 5
    have ka6 : (w.alloc (Obj.cells #[Value.int .i64 6, Value.bool n, Value.slice a xs.length c, Value.bool m, Value.slice b ys.length d, Value.string nm, Value.int .i64 p, Value.int .i64 q, Value.slice x k ck] 37)).cell? ⟨w.heap.size, 6, none⟩ = some (Value.int .i64 p) := (Lib.cell_of_heap Xa.out 6).trans rfl
    have fa6 : (w.alloc (Obj.cells #[Value.int .i64 6, Value.bool n, Value.slice a xs.length c, Value.bool m, Value.slice b ys.length d, Value.string nm, Value.int .i64 p, Value.int .i64 q, Value.slice x k ck] 37)).frozen? ⟨w.heap.size, 6, none⟩ = false := Lib.frozen_of_heap Xa.out 6
    have ka7 : (w.alloc (Obj.cells #[Value.int .i64 6, Value.bool n, Value.slice a xs.length c, Value.bool m, Value.slice b ys.length d, Value.string nm, Value.int .i64 p, Value.int .i64 q, Value.slice x k ck] 37)).cell? ⟨w.heap.size, 7, none⟩ = some (Value.int .i64 q) := (Lib.cell_of_heap Xa.out 7).trans rfl
    have fa7 : (w.alloc (Obj.cells #[Value.int .i64 6, Value.bool n, Value.slice a xs.length c, Value.bool m, Value.slice b ys.length d, Value.string nm, Value.int .i64 p, Value.int .i64 q, Value.slice x k ck] 37)).frozen? ⟨w.heap.size, 7, none⟩ = false := Lib.frozen_of_heap Xa.out 7
    have ka8 : (w.alloc (Obj.cells #[Value.int .i64 6, Value.bool n, Value.slice a xs.length c, Value.bool m, Value.slice b ys.length d, Value.string nm, Value.int .i64 p, Value.int .i64 q, Value.slice x k ck] 37)).cell? ⟨w.heap.size, 8, none⟩ = some (Value.slice x k ck) := (Lib.cell_of_heap Xa.out 8).trans rfl
    have fa8 : (w.alloc (Obj.cells #[Value.int .i64 6, Value.bool n, Value.slice a xs.length c, Value.bool m, Value.slice b ys.length d, Value.string nm, Value.int .i64 p, Value.int .i64 q, Value.slice x k ck] 37)).frozen? ⟨w.heap.size, 8, none⟩ = false := Lib.frozen_of_heap Xa.out 8
    have za : w.heap.size < (w.alloc (Obj.cells #[Value.int .i64 6, Value.bool n, Value.slice a xs.length c, Value.bool m, Value.slice b ys.length d, Value.string nm, Value.int .i64 p, Value.int .i64 q, Value.slice x k ck] 37)).heap.size := hlt Xa.out
    go_enter Tryz.func23, Tryz.ntmps23
    go_wp2_with fail
    generalize (w.alloc (Obj.cells #[Value.int .i64 6, Value.bool n, Value.slice a xs.length c, Value.bool m, Value.slice b ys.length d, Value.string nm, Value.int .i64 p, Value.int .i64 q, Value.slice x k ck] 37)) = w1 at *
    refine (noneS n xs m ys a c b d _ (S1.out.below HB.out) (S2.out.below HB.out)).mono ?_
    rintro e w2 ⟨rfl, hb⟩
    have yw2 := hb.size
    clear ka0 fa0 ka1 fa1 ka2 fa2 ka3 fa3 ka4 fa4 ka5 fa5 ka6 fa6 ka7 fa7 ka8 fa8 za
    replace Xa := hide (hbel Xa.out hb (by first | assumption | omega))
    replace HB := hide (bl_trans HB.out hb)
    clear hb
    have ka0 : w2.cell? ⟨w.heap.size, 0, none⟩ = some (Value.int .i64 6) := (Lib.cell_of_heap Xa.out 0).trans rfl
    have fa0 : w2.frozen? ⟨w.heap.size, 0, none⟩ = false := Lib.frozen_of_heap Xa.out 0
    have ka1 : w2.cell? ⟨w.heap.size, 1, none⟩ = some (Value.bool n) := (Lib.cell_of_heap Xa.out 1).trans rfl
    have fa1 : w2.frozen? ⟨w.heap.size, 1, none⟩ = false := Lib.frozen_of_heap Xa.out 1
    have ka2 : w2.cell? ⟨w.heap.size, 2, none⟩ = some (Value.slice a xs.length c) := (Lib.cell_of_heap Xa.out 2).trans rfl
    have fa2 : w2.frozen? ⟨w.heap.size, 2, none⟩ = false := Lib.frozen_of_heap Xa.out 2
    have ka3 : w2.cell? ⟨w.heap.size, 3, none⟩ = some (Value.bool m) := (Lib.cell_of_heap Xa.out 3).trans rfl
    have fa3 : w2.frozen? ⟨w.heap.size, 3, none⟩ = false := Lib.frozen_of_heap Xa.out 3
    have ka4 : w2.cell? ⟨w.heap.size, 4, none⟩ = some (Value.slice b ys.length d) := (Lib.cell_of_heap Xa.out 4).trans rfl
    have fa4 : w2.frozen? ⟨w.heap.size, 4, none⟩ = false := Lib.frozen_of_heap Xa.out 4
    have ka5 : w2.cell? ⟨w.heap.size, 5, none⟩ = some (Value.string nm) := (Lib.cell_of_heap Xa.out 5).trans rfl
    have fa5 : w2.frozen? ⟨w.heap.size, 5, none⟩ = false := Lib.frozen_of_heap Xa.out 5
    have ka6 : w2.cell? ⟨w.heap.size, 6, none⟩ = some (Value.int .i64 p) := (Lib.cell_of_heap Xa.out 6).trans rfl
    have fa6 : w2.frozen? ⟨w.heap.size, 6, none⟩ = false := Lib.frozen_of_heap Xa.out 6
    have ka7 : w2.cell? ⟨w.heap.size, 7, none⟩ = some (Value.int .i64 q) := (Lib.cell_of_heap Xa.out 7).trans rfl
    have fa7 : w2.frozen? ⟨w.heap.size, 7, none⟩ = false := Lib.frozen_of_heap Xa.out 7
    have ka8 : w2.cell? ⟨w.heap.size, 8, none⟩ = some (Value.slice x k ck) := (Lib.cell_of_heap Xa.out 8).trans rfl
    have fa8 : w2.frozen? ⟨w.heap.size, 8, none⟩ = false := Lib.frozen_of_heap Xa.out 8
    have za : w.heap.size < w2.heap.size := hlt Xa.out
    cases hb : blankB n xs m ys with
    | false =>
      have Hb := hide hb
      clear hb
      go_wp2
      go_ret
      exact ⟨ret_bool (by rw [HO.out, Hb.out]; first | rfl | simp), HB.out⟩
    | true =>
      have Hb := hide hb
      clear hb
      cases hn : nm.toList.isEmpty with
      | false =>
        have Hn := hide hn
        go_wp2
        go_ret
        exact ⟨ret_bool (by rw [HO.out, Hb.out, Hn.out]; first | rfl | simp), HB.out⟩
      | true =>
        have Hn := hide hn
        go_wp2
        go_ret
        exact ⟨ret_bool (by rw [HO.out, Hb.out, Hn.out, HFF.out]; first | rfl | simp), HB.out⟩

set_option maxHeartbeats 4000000 in
set_option maxRecDepth 20000 in
theorem ownS7 (n : Bool) (xs : List Nat) (m : Bool) (ys : List Nat) (nm : ByteArray) (p q : Int) (k : Nat) (a : Option Addr) (c : Nat) (b : Option Addr) (d : Nat) (x : Option Addr) (ck : Nat) (w : World) (s1 : Seg w a xs.length c xs) (s2 : Seg w b ys.length d ys) (hk : k ≤ 9223372036854775807) (hnm : nm.size ≤ 140737488355328) :
    Calls Tryz.prog 23 #[Value.agg #[Value.int .i64 7, Value.bool n, Value.slice a xs.length c, Value.bool m, Value.slice b ys.length d, Value.string nm, Value.int .i64 p, Value.int .i64 q, Value.slice x k ck]] w fun e w' => e = .returned (.bool (ownB 7 n xs m ys nm p q k)) ∧ Below w.heap.size w w' := by
  have q1 := s1.le
  have q2 := s2.le
  have sm := hide s1.2.2.2.1
  have S1 := hide s1
  have S2 := hide s2
  clear s1 s2
  obtain ⟨F, hF⟩ : ∃ F, (decide (p = 0) && decide (q = 0)) = F := ⟨_, rfl⟩
  have HF := hide hF
  have HO : Hid (ownB 7 n xs m ys nm p q k = (blankB n xs m ys && (nm.toList.isEmpty && (Nm.pwB p q && decide (k = 1))))) := hide (own_7 ..)
  clear hF
  by_cases hp : p = 0
  all_goals by_cases hq : q = 0
  · have hp2 : (p == 0) = true := by rw [beq_iff_eq]; exact hp
    have hq2 : (q == 0) = true := by rw [beq_iff_eq]; exact hq
    have HFF : Hid (F = true) := hide (by rw [← HF.out, decide_eq_true hp, decide_eq_true hq]; rfl)
    clear hp hq
    have Xa : Hid ((w.alloc (Obj.cells #[Value.int .i64 7, Value.bool n, Value.slice a xs.length c, Value.bool m, Value.slice b ys.length d, Value.string nm, Value.int .i64 p, Value.int .i64 q, Value.slice x k ck] 37)).heap[w.heap.size]? = some (.cells #[Value.int .i64 7, Value.bool n, Value.slice a xs.length c, Value.bool m, Value.slice b ys.length d, Value.string nm, Value.int .i64 p, Value.int .i64 q, Value.slice x k ck] 37 (0, 0))) := hide (by simpa only [World.size_alloc] using (hnew w (Obj.cells #[Value.int .i64 7, Value.bool n, Value.slice a xs.length c, Value.bool m, Value.slice b ys.length d, Value.string nm, Value.int .i64 p, Value.int .i64 q, Value.slice x k ck] 37)))
    have HB : Hid (Below w.heap.size w (w.alloc (Obj.cells #[Value.int .i64 7, Value.bool n, Value.slice a xs.length c, Value.bool m, Value.slice b ys.length d, Value.string nm, Value.int .i64 p, Value.int .i64 q, Value.slice x k ck] 37))) := hide (bl_alloc (bl_refl w) (Obj.cells #[Value.int .i64 7, Value.bool n, Value.slice a xs.length c, Value.bool m, Value.slice b ys.length d, Value.string nm, Value.int .i64 p, Value.int .i64 q, Value.slice x k ck] 37))
    have yw1 : w.heap.size + 1 ≤ (w.alloc (Obj.cells #[Value.int .i64 7, Value.bool n, Value.slice a xs.length c, Value.bool m, Value.slice b ys.length d, Value.string nm, Value.int .i64 p, Value.int .i64 q, Value.slice x k ck] 37)).heap.size := by simp only [World.size_alloc]; omega
    have ka0 : (w.alloc (Obj.cells #[Value.int .i64 7, Value.bool n, Value.slice a xs.length c, Value.bool m, Value.slice b ys.length d, Value.string nm, Value.int .i64 p, Value.int .i64 q, Value.slice x k ck] 37)).cell? ⟨w.heap.size, 0, none⟩ = some (Value.int .i64 7) := (Lib.cell_of_heap Xa.out 0).trans rfl
    have fa0 : (w.alloc (Obj.cells #[Value.int .i64 7, Value.bool n, Value.slice a xs.length c, Value.bool m, Value.slice b ys.length d, Value.string nm, Value.int .i64 p, Value.int .i64 q, Value.slice x k ck] 37)).frozen? ⟨w.heap.size, 0, none⟩ = false := Lib.frozen_of_heap Xa.out 0
    have ka1 : (w.alloc (Obj.cells #[Value.int .i64 7, Value.bool n, Value.slice a xs.length c, Value.bool m, Value.slice b ys.length d, Value.string nm, Value.int .i64 p, Value.int .i64 q, Value.slice x k ck] 37)).cell? ⟨w.heap.size, 1, none⟩ = some (Value.bool n) := (Lib.cell_of_heap Xa.out 1).trans rfl
    have fa1 : (w.alloc (Obj.cells #[Value.int .i64 7, Value.bool n, Value.slice a xs.length c, Value.bool m, Value.slice b ys.length d, Value.string nm, Value.int .i64 p, Value.int .i64 q, Value.slice x k ck] 37)).frozen? ⟨w.heap.size, 1, none⟩ = false := Lib.frozen_of_heap Xa.out 1
    have ka2 : (w.alloc (Obj.cells #[Value.int .i64 7, Value.bool n, Value.slice a xs.length c, Value.bool m, Value.slice b ys.length d, Value.string nm, Value.int .i64 p, Value.int .i64 q, Value.slice x k ck] 37)).cell? ⟨w.heap.size, 2, none⟩ = some (Value.slice a xs.length c) := (Lib.cell_of_heap Xa.out 2).trans rfl
    have fa2 : (w.alloc (Obj.cells #[Value.int .i64 7, Value.bool n, Value.slice a xs.length c, Value.bool m, Value.slice b ys.length d, Value.string nm, Value.int .i64 p, Value.int .i64 q, Value.slice x k ck] 37)).frozen? ⟨w.heap.size, 2, none⟩ = false := Lib.frozen_of_heap Xa.out 2
    have ka3 : (w.alloc (Obj.cells #[Value.int .i64 7, Value.bool n, Value.slice a xs.length c, Value.bool m, Value.slice b ys.length d, Value.string nm, Value.int .i64 p, Value.int .i64 q, Value.slice x k ck] 37)).cell? ⟨w.heap.size, 3, none⟩ = some (Value.bool m) := (Lib.cell_of_heap Xa.out 3).trans rfl
    have fa3 : (w.alloc (Obj.cells #[Value.int .i64 7, Value.bool n, Value.slice a xs.length c, Value.bool m, Value.slice b ys.length d, Value.string nm, Value.int .i64 p, Value.int .i64 q, Value.slice x k ck] 37)).frozen? ⟨w.heap.size, 3, none⟩ = false := Lib.frozen_of_heap Xa.out 3
    have ka4 : (w.alloc (Obj.cells #[Value.int .i64 7, Value.bool n, Value.slice a xs.length c, Value.bool m, Value.slice b ys.length d, Value.string nm, Value.int .i64 p, Value.int .i64 q, Value.slice x k ck] 37)).cell? ⟨w.heap.size, 4, none⟩ = some (Value.slice b ys.length d) := (Lib.cell_of_heap Xa.out 4).trans rfl
    have fa4 : (w.alloc (Obj.cells #[Value.int .i64 7, Value.bool n, Value.slice a xs.length c, Value.bool m, Value.slice b ys.length d, Value.string nm, Value.int .i64 p, Value.int .i64 q, Value.slice x k ck] 37)).frozen? ⟨w.heap.size, 4, none⟩ = false := Lib.frozen_of_heap Xa.out 4
    have ka5 : (w.alloc (Obj.cells #[Value.int .i64 7, Value.bool n, Value.slice a xs.length c, Value.bool m, Value.slice b ys.length d, Value.string nm, Value.int .i64 p, Value.int .i64 q, Value.slice x k ck] 37)).cell? ⟨w.heap.size, 5, none⟩ = some (Value.string nm) := (Lib.cell_of_heap Xa.out 5).trans rfl
    have fa5 : (w.alloc (Obj.cells #[Value.int .i64 7, Value.bool n, Value.slice a xs.length c, Value.bool m, Value.slice b ys.length d, Value.string nm, Value.int .i64 p, Value.int .i64 q, Value.slice x k ck] 37)).frozen? ⟨w.heap.size, 5, none⟩ = false := Lib.frozen_of_heap Xa.out 5
    have ka6 : (w.alloc (Obj.cells #[Value.int .i64 7, Value.bool n, Value.slice a xs.length c, Value.bool m, Value.slice b ys.length d, Value.string nm, Value.int .i64 p, Value.int .i64 q, Value.slice x k ck] 37)).cell? ⟨w.heap.size, 6, none⟩ = some (Value.int .i64 p) := (Lib.cell_of_heap Xa.out 6).trans rfl
    have fa6 : (w.alloc (Obj.cells #[Value.int .i64 7, Value.bool n, Value.slice a xs.length c, Value.bool m, Value.slice b ys.length d, Value.string nm, Value.int .i64 p, Value.int .i64 q, Value.slice x k ck] 37)).frozen? ⟨w.heap.size, 6, none⟩ = false := Lib.frozen_of_heap Xa.out 6
    have ka7 : (w.alloc (Obj.cells #[Value.int .i64 7, Value.bool n, Value.slice a xs.length c, Value.bool m, Value.slice b ys.length d, Value.string nm, Value.int .i64 p, Value.int .i64 q, Value.slice x k ck] 37)).cell? ⟨w.heap.size, 7, none⟩ = some (Value.int .i64 q) := (Lib.cell_of_heap Xa.out 7).trans rfl
    have fa7 : (w.alloc (Obj.cells #[Value.int .i64 7, Value.bool n, Value.slice a xs.length c, Value.bool m, Value.slice b ys.length d, Value.string nm, Value.int .i64 p, Value.int .i64 q, Value.slice x k ck] 37)).frozen? ⟨w.heap.size, 7, none⟩ = false := Lib.frozen_of_heap Xa.out 7
    have ka8 : (w.alloc (Obj.cells #[Value.int .i64 7, Value.bool n, Value.slice a xs.length c, Value.bool m, Value.slice b ys.length d, Value.string nm, Value.int .i64 p, Value.int .i64 q, Value.slice x k ck] 37)).cell? ⟨w.heap.size, 8, none⟩ = some (Value.slice x k ck) := (Lib.cell_of_heap Xa.out 8).trans rfl
    have fa8 : (w.alloc (Obj.cells #[Value.int .i64 7, Value.bool n, Value.slice a xs.length c, Value.bool m, Value.slice b ys.length d, Value.string nm, Value.int .i64 p, Value.int .i64 q, Value.slice x k ck] 37)).frozen? ⟨w.heap.size, 8, none⟩ = false := Lib.frozen_of_heap Xa.out 8
    have za : w.heap.size < (w.alloc (Obj.cells #[Value.int .i64 7, Value.bool n, Value.slice a xs.length c, Value.bool m, Value.slice b ys.length d, Value.string nm, Value.int .i64 p, Value.int .i64 q, Value.slice x k ck] 37)).heap.size := hlt Xa.out
    go_enter Tryz.func23, Tryz.ntmps23
    go_wp2_with fail
    generalize (w.alloc (Obj.cells #[Value.int .i64 7, Value.bool n, Value.slice a xs.length c, Value.bool m, Value.slice b ys.length d, Value.string nm, Value.int .i64 p, Value.int .i64 q, Value.slice x k ck] 37)) = w1 at *
    refine (noneS n xs m ys a c b d _ (S1.out.below HB.out) (S2.out.below HB.out)).mono ?_
    rintro e w2 ⟨rfl, hb⟩
    have yw2 := hb.size
    clear ka0 fa0 ka1 fa1 ka2 fa2 ka3 fa3 ka4 fa4 ka5 fa5 ka6 fa6 ka7 fa7 ka8 fa8 za
    replace Xa := hide (hbel Xa.out hb (by first | assumption | omega))
    replace HB := hide (bl_trans HB.out hb)
    clear hb
    have ka0 : w2.cell? ⟨w.heap.size, 0, none⟩ = some (Value.int .i64 7) := (Lib.cell_of_heap Xa.out 0).trans rfl
    have fa0 : w2.frozen? ⟨w.heap.size, 0, none⟩ = false := Lib.frozen_of_heap Xa.out 0
    have ka1 : w2.cell? ⟨w.heap.size, 1, none⟩ = some (Value.bool n) := (Lib.cell_of_heap Xa.out 1).trans rfl
    have fa1 : w2.frozen? ⟨w.heap.size, 1, none⟩ = false := Lib.frozen_of_heap Xa.out 1
    have ka2 : w2.cell? ⟨w.heap.size, 2, none⟩ = some (Value.slice a xs.length c) := (Lib.cell_of_heap Xa.out 2).trans rfl
    have fa2 : w2.frozen? ⟨w.heap.size, 2, none⟩ = false := Lib.frozen_of_heap Xa.out 2
    have ka3 : w2.cell? ⟨w.heap.size, 3, none⟩ = some (Value.bool m) := (Lib.cell_of_heap Xa.out 3).trans rfl
    have fa3 : w2.frozen? ⟨w.heap.size, 3, none⟩ = false := Lib.frozen_of_heap Xa.out 3
    have ka4 : w2.cell? ⟨w.heap.size, 4, none⟩ = some (Value.slice b ys.length d) := (Lib.cell_of_heap Xa.out 4).trans rfl
    have fa4 : w2.frozen? ⟨w.heap.size, 4, none⟩ = false := Lib.frozen_of_heap Xa.out 4
    have ka5 : w2.cell? ⟨w.heap.size, 5, none⟩ = some (Value.string nm) := (Lib.cell_of_heap Xa.out 5).trans rfl
    have fa5 : w2.frozen? ⟨w.heap.size, 5, none⟩ = false := Lib.frozen_of_heap Xa.out 5
    have ka6 : w2.cell? ⟨w.heap.size, 6, none⟩ = some (Value.int .i64 p) := (Lib.cell_of_heap Xa.out 6).trans rfl
    have fa6 : w2.frozen? ⟨w.heap.size, 6, none⟩ = false := Lib.frozen_of_heap Xa.out 6
    have ka7 : w2.cell? ⟨w.heap.size, 7, none⟩ = some (Value.int .i64 q) := (Lib.cell_of_heap Xa.out 7).trans rfl
    have fa7 : w2.frozen? ⟨w.heap.size, 7, none⟩ = false := Lib.frozen_of_heap Xa.out 7
    have ka8 : w2.cell? ⟨w.heap.size, 8, none⟩ = some (Value.slice x k ck) := (Lib.cell_of_heap Xa.out 8).trans rfl
    have fa8 : w2.frozen? ⟨w.heap.size, 8, none⟩ = false := Lib.frozen_of_heap Xa.out 8
    have za : w.heap.size < w2.heap.size := hlt Xa.out
    cases hb : blankB n xs m ys with
    | false =>
      have Hb := hide hb
      clear hb
      go_wp2
      go_ret
      exact ⟨ret_bool (by rw [HO.out, Hb.out]; first | rfl | simp), HB.out⟩
    | true =>
      have Hb := hide hb
      clear hb
      cases hn : nm.toList.isEmpty with
      | false =>
        have Hn := hide hn
        go_wp2
        go_ret
        exact ⟨ret_bool (by rw [HO.out, Hb.out, Hn.out]; first | rfl | simp), HB.out⟩
      | true =>
        have Hn := hide hn
        go_wp2_with fail
        refine (Nm.powS p q _).mono ?_
        rintro e w3 ⟨rfl, hw⟩
        have hbd : Below w2.heap.size w2 w3 := by obtain ⟨qd, hw⟩ := hw; rw [hw]; exact below_drewN (bl_refl _) qd
        have yw3 := hbd.size
        clear ka0 fa0 ka1 fa1 ka2 fa2 ka3 fa3 ka4 fa4 ka5 fa5 ka6 fa6 ka7 fa7 ka8 fa8 za
        replace Xa := hide (hbel Xa.out hbd (by first | assumption | omega))
        replace HB := hide (bl_trans HB.out hbd)
        clear hbd
        have ka0 : w3.cell? ⟨w.heap.size, 0, none⟩ = some (Value.int .i64 7) := (Lib.cell_of_heap Xa.out 0).trans rfl
        have fa0 : w3.frozen? ⟨w.heap.size, 0, none⟩ = false := Lib.frozen_of_heap Xa.out 0
        have ka1 : w3.cell? ⟨w.heap.size, 1, none⟩ = some (Value.bool n) := (Lib.cell_of_heap Xa.out 1).trans rfl
        have fa1 : w3.frozen? ⟨w.heap.size, 1, none⟩ = false := Lib.frozen_of_heap Xa.out 1
        have ka2 : w3.cell? ⟨w.heap.size, 2, none⟩ = some (Value.slice a xs.length c) := (Lib.cell_of_heap Xa.out 2).trans rfl
        have fa2 : w3.frozen? ⟨w.heap.size, 2, none⟩ = false := Lib.frozen_of_heap Xa.out 2
        have ka3 : w3.cell? ⟨w.heap.size, 3, none⟩ = some (Value.bool m) := (Lib.cell_of_heap Xa.out 3).trans rfl
        have fa3 : w3.frozen? ⟨w.heap.size, 3, none⟩ = false := Lib.frozen_of_heap Xa.out 3
        have ka4 : w3.cell? ⟨w.heap.size, 4, none⟩ = some (Value.slice b ys.length d) := (Lib.cell_of_heap Xa.out 4).trans rfl
        have fa4 : w3.frozen? ⟨w.heap.size, 4, none⟩ = false := Lib.frozen_of_heap Xa.out 4
        have ka5 : w3.cell? ⟨w.heap.size, 5, none⟩ = some (Value.string nm) := (Lib.cell_of_heap Xa.out 5).trans rfl
        have fa5 : w3.frozen? ⟨w.heap.size, 5, none⟩ = false := Lib.frozen_of_heap Xa.out 5
        have ka6 : w3.cell? ⟨w.heap.size, 6, none⟩ = some (Value.int .i64 p) := (Lib.cell_of_heap Xa.out 6).trans rfl
        have fa6 : w3.frozen? ⟨w.heap.size, 6, none⟩ = false := Lib.frozen_of_heap Xa.out 6
        have ka7 : w3.cell? ⟨w.heap.size, 7, none⟩ = some (Value.int .i64 q) := (Lib.cell_of_heap Xa.out 7).trans rfl
        have fa7 : w3.frozen? ⟨w.heap.size, 7, none⟩ = false := Lib.frozen_of_heap Xa.out 7
        have ka8 : w3.cell? ⟨w.heap.size, 8, none⟩ = some (Value.slice x k ck) := (Lib.cell_of_heap Xa.out 8).trans rfl
        have fa8 : w3.frozen? ⟨w.heap.size, 8, none⟩ = false := Lib.frozen_of_heap Xa.out 8
        have za : w.heap.size < w3.heap.size := hlt Xa.out
        cases hw : Nm.pwB p q with
        | false =>
          have Hw := hide hw
          clear hw
          go_wp2
          go_ret
          exact ⟨ret_bool (by rw [HO.out, Hb.out, Hn.out, Hw.out]; first | rfl | simp), HB.out⟩
        | true =>
          have Hw := hide hw
          clear hw
          by_cases hl : k = 1
          case neg =>
            have HL : Hid (decide (k = 1) = false) := hide (decide_eq_false hl)
            have hl2 : ((k : Int) == 1) = false := by rw [beq_eq_false_iff_ne]; omega
            clear hl
            go_wp2
            go_ret
            exact ⟨ret_bool (by rw [HO.out, Hb.out, Hn.out, Hw.out, HL.out]; first | rfl | simp), HB.out⟩
          have HL : Hid (decide (k = 1) = true) := hide (decide_eq_true hl)
          have hl2 : ((k : Int) == 1) = true := by rw [beq_iff_eq]; omega
          clear hl
          go_wp2
          go_ret
          exact ⟨ret_bool (by rw [HO.out, Hb.out, Hn.out, Hw.out, HL.out]; first | rfl | simp), HB.out⟩
  · have hp2 : (p == 0) = true := by rw [beq_iff_eq]; exact hp
    have hq2 : (q == 0) = false := by rw [beq_eq_false_iff_ne]; exact hq
    have HFF : Hid (F = false) := hide (by rw [← HF.out, decide_eq_true hp, decide_eq_false hq]; rfl)
    clear hp hq
    have Xa : Hid ((w.alloc (Obj.cells #[Value.int .i64 7, Value.bool n, Value.slice a xs.length c, Value.bool m, Value.slice b ys.length d, Value.string nm, Value.int .i64 p, Value.int .i64 q, Value.slice x k ck] 37)).heap[w.heap.size]? = some (.cells #[Value.int .i64 7, Value.bool n, Value.slice a xs.length c, Value.bool m, Value.slice b ys.length d, Value.string nm, Value.int .i64 p, Value.int .i64 q, Value.slice x k ck] 37 (0, 0))) := hide (by simpa only [World.size_alloc] using (hnew w (Obj.cells #[Value.int .i64 7, Value.bool n, Value.slice a xs.length c, Value.bool m, Value.slice b ys.length d, Value.string nm, Value.int .i64 p, Value.int .i64 q, Value.slice x k ck] 37)))
    have HB : Hid (Below w.heap.size w (w.alloc (Obj.cells #[Value.int .i64 7, Value.bool n, Value.slice a xs.length c, Value.bool m, Value.slice b ys.length d, Value.string nm, Value.int .i64 p, Value.int .i64 q, Value.slice x k ck] 37))) := hide (bl_alloc (bl_refl w) (Obj.cells #[Value.int .i64 7, Value.bool n, Value.slice a xs.length c, Value.bool m, Value.slice b ys.length d, Value.string nm, Value.int .i64 p, Value.int .i64 q, Value.slice x k ck] 37))
    have yw1 : w.heap.size + 1 ≤ (w.alloc (Obj.cells #[Value.int .i64 7, Value.bool n, Value.slice a xs.length c, Value.bool m, Value.slice b ys.length d, Value.string nm, Value.int .i64 p, Value.int .i64 q, Value.slice x k ck] 37)).heap.size := by simp only [World.size_alloc]; omega
    have ka0 : (w.alloc (Obj.cells #[Value.int .i64 7, Value.bool n, Value.slice a xs.length c, Value.bool m, Value.slice b ys.length d, Value.string nm, Value.int .i64 p, Value.int .i64 q, Value.slice x k ck] 37)).cell? ⟨w.heap.size, 0, none⟩ = some (Value.int .i64 7) := (Lib.cell_of_heap Xa.out 0).trans rfl
    have fa0 : (w.alloc (Obj.cells #[Value.int .i64 7, Value.bool n, Value.slice a xs.length c, Value.bool m, Value.slice b ys.length d, Value.string nm, Value.int .i64 p, Value.int .i64 q, Value.slice x k ck] 37)).frozen? ⟨w.heap.size, 0, none⟩ = false := Lib.frozen_of_heap Xa.out 0
    have ka1 : (w.alloc (Obj.cells #[Value.int .i64 7, Value.bool n, Value.slice a xs.length c, Value.bool m, Value.slice b ys.length d, Value.string nm, Value.int .i64 p, Value.int .i64 q, Value.slice x k ck] 37)).cell? ⟨w.heap.size, 1, none⟩ = some (Value.bool n) := (Lib.cell_of_heap Xa.out 1).trans rfl
    have fa1 : (w.alloc (Obj.cells #[Value.int .i64 7, Value.bool n, Value.slice a xs.length c, Value.bool m, Value.slice b ys.length d, Value.string nm, Value.int .i64 p, Value.int .i64 q, Value.slice x k ck] 37)).frozen? ⟨w.heap.size, 1, none⟩ = false := Lib.frozen_of_heap Xa.out 1
    have ka2 : (w.alloc (Obj.cells #[Value.int .i64 7, Value.bool n, Value.slice a xs.length c, Value.bool m, Value.slice b ys.length d, Value.string nm, Value.int .i64 p, Value.int .i64 q, Value.slice x k ck] 37)).cell? ⟨w.heap.size, 2, none⟩ = some (Value.slice a xs.length c) := (Lib.cell_of_heap Xa.out 2).trans rfl
    have fa2 : (w.alloc (Obj.cells #[Value.int .i64 7, Value.bool n, Value.slice a xs.length c, Value.bool m, Value.slice b ys.length d, Value.string nm, Value.int .i64 p, Value.int .i64 q, Value.slice x k ck] 37)).frozen? ⟨w.heap.size, 2, none⟩ = false := Lib.frozen_of_heap Xa.out 2
    have ka3 : (w.alloc (Obj.cells #[Value.int .i64 7, Value.bool n, Value.slice a xs.length c, Value.bool m, Value.slice b ys.length d, Value.string nm, Value.int .i64 p, Value.int .i64 q, Value.slice x k ck] 37)).cell? ⟨w.heap.size, 3, none⟩ = some (Value.bool m) := (Lib.cell_of_heap Xa.out 3).trans rfl
    have fa3 : (w.alloc (Obj.cells #[Value.int .i64 7, Value.bool n, Value.slice a xs.length c, Value.bool m, Value.slice b ys.length d, Value.string nm, Value.int .i64 p, Value.int .i64 q, Value.slice x k ck] 37)).frozen? ⟨w.heap.size, 3, none⟩ = false := Lib.frozen_of_heap Xa.out 3
    have ka4 : (w.alloc (Obj.cells #[Value.int .i64 7, Value.bool n, Value.slice a xs.length c, Value.bool m, Value.slice b ys.length d, Value.string nm, Value.int .i64 p, Value.int .i64 q, Value.slice x k ck] 37)).cell? ⟨w.heap.size, 4, none⟩ = some (Value.slice b ys.length d) := (Lib.cell_of_heap Xa.out 4).trans rfl
    have fa4 : (w.alloc (Obj.cells #[Value.int .i64 7, Value.bool n, Value.slice a xs.length c, Value.bool m, Value.slice b ys.length d, Value.string nm, Value.int .i64 p, Value.int .i64 q, Value.slice x k ck] 37)).frozen? ⟨w.heap.size, 4, none⟩ = false := Lib.frozen_of_heap Xa.out 4
    have ka5 : (w.alloc (Obj.cells #[Value.int .i64 7, Value.bool n, Value.slice a xs.length c, Value.bool m, Value.slice b ys.length d, Value.string nm, Value.int .i64 p, Value.int .i64 q, Value.slice x k ck] 37)).cell? ⟨w.heap.size, 5, none⟩ = some (Value.string nm) := (Lib.cell_of_heap Xa.out 5).trans rfl
    have fa5 : (w.alloc (Obj.cells #[Value.int .i64 7, Value.bool n, Value.slice a xs.length c, Value.bool m, Value.slice b ys.length d, Value.string nm, Value.int .i64 p, Value.int .i64 q, Value.slice x k ck] 37)).frozen? ⟨w.heap.size, 5, none⟩ = false := Lib.frozen_of_heap Xa.out 5
    have ka6 : (w.alloc (Obj.cells #[Value.int .i64 7, Value.bool n, Value.slice a xs.length c, Value.bool m, Value.slice b ys.length d, Value.string nm, Value.int .i64 p, Value.int .i64 q, Value.slice x k ck] 37)).cell? ⟨w.heap.size, 6, none⟩ = some (Value.int .i64 p) := (Lib.cell_of_heap Xa.out 6).trans rfl
    have fa6 : (w.alloc (Obj.cells #[Value.int .i64 7, Value.bool n, Value.slice a xs.length c, Value.bool m, Value.slice b ys.length d, Value.string nm, Value.int .i64 p, Value.int .i64 q, Value.slice x k ck] 37)).frozen? ⟨w.heap.size, 6, none⟩ = false := Lib.frozen_of_heap Xa.out 6
    have ka7 : (w.alloc (Obj.cells #[Value.int .i64 7, Value.bool n, Value.slice a xs.length c, Value.bool m, Value.slice b ys.length d, Value.string nm, Value.int .i64 p, Value.int .i64 q, Value.slice x k ck] 37)).cell? ⟨w.heap.size, 7, none⟩ = some (Value.int .i64 q) := (Lib.cell_of_heap Xa.out 7).trans rfl
    have fa7 : (w.alloc (Obj.cells #[Value.int .i64 7, Value.bool n, Value.slice a xs.length c, Value.bool m, Value.slice b ys.length d, Value.string nm, Value.int .i64 p, Value.int .i64 q, Value.slice x k ck] 37)).frozen? ⟨w.heap.size, 7, none⟩ = false := Lib.frozen_of_heap Xa.out 7
    have ka8 : (w.alloc (Obj.cells #[Value.int .i64 7, Value.bool n, Value.slice a xs.length c, Value.bool m, Value.slice b ys.length d, Value.string nm, Value.int .i64 p, Value.int .i64 q, Value.slice x k ck] 37)).cell? ⟨w.heap.size, 8, none⟩ = some (Value.slice x k ck) := (Lib.cell_of_heap Xa.out 8).trans rfl
    have fa8 : (w.alloc (Obj.cells #[Value.int .i64 7, Value.bool n, Value.slice a xs.length c, Value.bool m, Value.slice b ys.length d, Value.string nm, Value.int .i64 p, Value.int .i64 q, Value.slice x k ck] 37)).frozen? ⟨w.heap.size, 8, none⟩ = false := Lib.frozen_of_heap Xa.out 8
    have za : w.heap.size < (w.alloc (Obj.cells #[Value.int .i64 7, Value.bool n, Value.slice a xs.length c, Value.bool m, Value.slice b ys.length d, Value.string nm, Value.int .i64 p, Value.int .i64 q, Value.slice x k ck] 37)).heap.size := hlt Xa.out
    go_enter Tryz.func23, Tryz.ntmps23
    go_wp2_with fail
    generalize (w.alloc (Obj.cells #[Value.int .i64 7, Value.bool n, Value.slice a xs.length c, Value.bool m, Value.slice b ys.length d, Value.string nm, Value.int .i64 p, Value.int .i64 q, Value.slice x k ck] 37)) = w1 at *
    refine (noneS n xs m ys a c b d _ (S1.out.below HB.out) (S2.out.below HB.out)).mono ?_
    rintro e w2 ⟨rfl, hb⟩
    have yw2 := hb.size
    clear ka0 fa0 ka1 fa1 ka2 fa2 ka3 fa3 ka4 fa4 ka5 fa5 ka6 fa6 ka7 fa7 ka8 fa8 za
    replace Xa := hide (hbel Xa.out hb (by first | assumption | omega))
    replace HB := hide (bl_trans HB.out hb)
    clear hb
    have ka0 : w2.cell? ⟨w.heap.size, 0, none⟩ = some (Value.int .i64 7) := (Lib.cell_of_heap Xa.out 0).trans rfl
    have fa0 : w2.frozen? ⟨w.heap.size, 0, none⟩ = false := Lib.frozen_of_heap Xa.out 0
    have ka1 : w2.cell? ⟨w.heap.size, 1, none⟩ = some (Value.bool n) := (Lib.cell_of_heap Xa.out 1).trans rfl
    have fa1 : w2.frozen? ⟨w.heap.size, 1, none⟩ = false := Lib.frozen_of_heap Xa.out 1
    have ka2 : w2.cell? ⟨w.heap.size, 2, none⟩ = some (Value.slice a xs.length c) := (Lib.cell_of_heap Xa.out 2).trans rfl
    have fa2 : w2.frozen? ⟨w.heap.size, 2, none⟩ = false := Lib.frozen_of_heap Xa.out 2
    have ka3 : w2.cell? ⟨w.heap.size, 3, none⟩ = some (Value.bool m) := (Lib.cell_of_heap Xa.out 3).trans rfl
    have fa3 : w2.frozen? ⟨w.heap.size, 3, none⟩ = false := Lib.frozen_of_heap Xa.out 3
    have ka4 : w2.cell? ⟨w.heap.size, 4, none⟩ = some (Value.slice b ys.length d) := (Lib.cell_of_heap Xa.out 4).trans rfl
    have fa4 : w2.frozen? ⟨w.heap.size, 4, none⟩ = false := Lib.frozen_of_heap Xa.out 4
    have ka5 : w2.cell? ⟨w.heap.size, 5, none⟩ = some (Value.string nm) := (Lib.cell_of_heap Xa.out 5).trans rfl
    have fa5 : w2.frozen? ⟨w.heap.size, 5, none⟩ = false := Lib.frozen_of_heap Xa.out 5
    have ka6 : w2.cell? ⟨w.heap.size, 6, none⟩ = some (Value.int .i64 p) := (Lib.cell_of_heap Xa.out 6).trans rfl
    have fa6 : w2.frozen? ⟨w.heap.size, 6, none⟩ = false := Lib.frozen_of_heap Xa.out 6
    have ka7 : w2.cell? ⟨w.heap.size, 7, none⟩ = some (Value.int .i64 q) := (Lib.cell_of_heap Xa.out 7).trans rfl
    have fa7 : w2.frozen? ⟨w.heap.size, 7, none⟩ = false := Lib.frozen_of_heap Xa.out 7
    have ka8 : w2.cell? ⟨w.heap.size, 8, none⟩ = some (Value.slice x k ck) := (Lib.cell_of_heap Xa.out 8).trans rfl
    have fa8 : w2.frozen? ⟨w.heap.size, 8, none⟩ = false := Lib.frozen_of_heap Xa.out 8
    have za : w.heap.size < w2.heap.size := hlt Xa.out
    cases hb : blankB n xs m ys with
    | false =>
      have Hb := hide hb
      clear hb
      go_wp2
      go_ret
      exact ⟨ret_bool (by rw [HO.out, Hb.out]; first | rfl | simp), HB.out⟩
    | true =>
      have Hb := hide hb
      clear hb
      cases hn : nm.toList.isEmpty with
      | false =>
        have Hn := hide hn
        go_wp2
        go_ret
        exact ⟨ret_bool (by rw [HO.out, Hb.out, Hn.out]; first | rfl | simp), HB.out⟩
      | true =>
        have Hn := hide hn
        go_wp2_with fail
        refine (Nm.powS p q _).mono ?_
        rintro e w3 ⟨rfl, hw⟩
        have hbd : Below w2.heap.size w2 w3 := by obtain ⟨qd, hw⟩ := hw; rw [hw]; exact below_drewN (bl_refl _) qd
        have yw3 := hbd.size
        clear ka0 fa0 ka1 fa1 ka2 fa2 ka3 fa3 ka4 fa4 ka5 fa5 ka6 fa6 ka7 fa7 ka8 fa8 za
        replace Xa := hide (hbel Xa.out hbd (by first | assumption | omega))
        replace HB := hide (bl_trans HB.out hbd)
        clear hbd
        have ka0 : w3.cell? ⟨w.heap.size, 0, none⟩ = some (Value.int .i64 7) := (Lib.cell_of_heap Xa.out 0).trans rfl
        have fa0 : w3.frozen? ⟨w.heap.size, 0, none⟩ = false := Lib.frozen_of_heap Xa.out 0
        have ka1 : w3.cell? ⟨w.heap.size, 1, none⟩ = some (Value.bool n) := (Lib.cell_of_heap Xa.out 1).trans rfl
        have fa1 : w3.frozen? ⟨w.heap.size, 1, none⟩ = false := Lib.frozen_of_heap Xa.out 1
        have ka2 : w3.cell? ⟨w.heap.size, 2, none⟩ = some (Value.slice a xs.length c) := (Lib.cell_of_heap Xa.out 2).trans rfl
        have fa2 : w3.frozen? ⟨w.heap.size, 2, none⟩ = false := Lib.frozen_of_heap Xa.out 2
        have ka3 : w3.cell? ⟨w.heap.size, 3, none⟩ = some (Value.bool m) := (Lib.cell_of_heap Xa.out 3).trans rfl
        have fa3 : w3.frozen? ⟨w.heap.size, 3, none⟩ = false := Lib.frozen_of_heap Xa.out 3
        have ka4 : w3.cell? ⟨w.heap.size, 4, none⟩ = some (Value.slice b ys.length d) := (Lib.cell_of_heap Xa.out 4).trans rfl
        have fa4 : w3.frozen? ⟨w.heap.size, 4, none⟩ = false := Lib.frozen_of_heap Xa.out 4
        have ka5 : w3.cell? ⟨w.heap.size, 5, none⟩ = some (Value.string nm) := (Lib.cell_of_heap Xa.out 5).trans rfl
        have fa5 : w3.frozen? ⟨w.heap.size, 5, none⟩ = false := Lib.frozen_of_heap Xa.out 5
        have ka6 : w3.cell? ⟨w.heap.size, 6, none⟩ = some (Value.int .i64 p) := (Lib.cell_of_heap Xa.out 6).trans rfl
        have fa6 : w3.frozen? ⟨w.heap.size, 6, none⟩ = false := Lib.frozen_of_heap Xa.out 6
        have ka7 : w3.cell? ⟨w.heap.size, 7, none⟩ = some (Value.int .i64 q) := (Lib.cell_of_heap Xa.out 7).trans rfl
        have fa7 : w3.frozen? ⟨w.heap.size, 7, none⟩ = false := Lib.frozen_of_heap Xa.out 7
        have ka8 : w3.cell? ⟨w.heap.size, 8, none⟩ = some (Value.slice x k ck) := (Lib.cell_of_heap Xa.out 8).trans rfl
        have fa8 : w3.frozen? ⟨w.heap.size, 8, none⟩ = false := Lib.frozen_of_heap Xa.out 8
        have za : w.heap.size < w3.heap.size := hlt Xa.out
        cases hw : Nm.pwB p q with
        | false =>
          have Hw := hide hw
          clear hw
          go_wp2
          go_ret
          exact ⟨ret_bool (by rw [HO.out, Hb.out, Hn.out, Hw.out]; first | rfl | simp), HB.out⟩
        | true =>
          have Hw := hide hw
          clear hw
          by_cases hl : k = 1
          case neg =>
            have HL : Hid (decide (k = 1) = false) := hide (decide_eq_false hl)
            have hl2 : ((k : Int) == 1) = false := by rw [beq_eq_false_iff_ne]; omega
            clear hl
            go_wp2
            go_ret
            exact ⟨ret_bool (by rw [HO.out, Hb.out, Hn.out, Hw.out, HL.out]; first | rfl | simp), HB.out⟩
          have HL : Hid (decide (k = 1) = true) := hide (decide_eq_true hl)
          have hl2 : ((k : Int) == 1) = true := by rw [beq_iff_eq]; omega
          clear hl
          go_wp2
          go_ret
          exact ⟨ret_bool (by rw [HO.out, Hb.out, Hn.out, Hw.out, HL.out]; first | rfl | simp), HB.out⟩
  · have hp2 : (p == 0) = false := by rw [beq_eq_false_iff_ne]; exact hp
    have hq2 : (q == 0) = true := by rw [beq_iff_eq]; exact hq
    have HFF : Hid (F = false) := hide (by rw [← HF.out, decide_eq_false hp, decide_eq_true hq]; rfl)
    clear hp hq
    have Xa : Hid ((w.alloc (Obj.cells #[Value.int .i64 7, Value.bool n, Value.slice a xs.length c, Value.bool m, Value.slice b ys.length d, Value.string nm, Value.int .i64 p, Value.int .i64 q, Value.slice x k ck] 37)).heap[w.heap.size]? = some (.cells #[Value.int .i64 7, Value.bool n, Value.slice a xs.length c, Value.bool m, Value.slice b ys.length d, Value.string nm, Value.int .i64 p, Value.int .i64 q, Value.slice x k ck] 37 (0, 0))) := hide (by simpa only [World.size_alloc] using (hnew w (Obj.cells #[Value.int .i64 7, Value.bool n, Value.slice a xs.length c, Value.bool m, Value.slice b ys.length d, Value.string nm, Value.int .i64 p, Value.int .i64 q, Value.slice x k ck] 37)))
    have HB : Hid (Below w.heap.size w (w.alloc (Obj.cells #[Value.int .i64 7, Value.bool n, Value.slice a xs.length c, Value.bool m, Value.slice b ys.length d, Value.string nm, Value.int .i64 p, Value.int .i64 q, Value.slice x k ck] 37))) := hide (bl_alloc (bl_refl w) (Obj.cells #[Value.int .i64 7, Value.bool n, Value.slice a xs.length c, Value.bool m, Value.slice b ys.length d, Value.string nm, Value.int .i64 p, Value.int .i64 q, Value.slice x k ck] 37))
    have yw1 : w.heap.size + 1 ≤ (w.alloc (Obj.cells #[Value.int .i64 7, Value.bool n, Value.slice a xs.length c, Value.bool m, Value.slice b ys.length d, Value.string nm, Value.int .i64 p, Value.int .i64 q, Value.slice x k ck] 37)).heap.size := by simp only [World.size_alloc]; omega
    have ka0 : (w.alloc (Obj.cells #[Value.int .i64 7, Value.bool n, Value.slice a xs.length c, Value.bool m, Value.slice b ys.length d, Value.string nm, Value.int .i64 p, Value.int .i64 q, Value.slice x k ck] 37)).cell? ⟨w.heap.size, 0, none⟩ = some (Value.int .i64 7) := (Lib.cell_of_heap Xa.out 0).trans rfl
    have fa0 : (w.alloc (Obj.cells #[Value.int .i64 7, Value.bool n, Value.slice a xs.length c, Value.bool m, Value.slice b ys.length d, Value.string nm, Value.int .i64 p, Value.int .i64 q, Value.slice x k ck] 37)).frozen? ⟨w.heap.size, 0, none⟩ = false := Lib.frozen_of_heap Xa.out 0
    have ka1 : (w.alloc (Obj.cells #[Value.int .i64 7, Value.bool n, Value.slice a xs.length c, Value.bool m, Value.slice b ys.length d, Value.string nm, Value.int .i64 p, Value.int .i64 q, Value.slice x k ck] 37)).cell? ⟨w.heap.size, 1, none⟩ = some (Value.bool n) := (Lib.cell_of_heap Xa.out 1).trans rfl
    have fa1 : (w.alloc (Obj.cells #[Value.int .i64 7, Value.bool n, Value.slice a xs.length c, Value.bool m, Value.slice b ys.length d, Value.string nm, Value.int .i64 p, Value.int .i64 q, Value.slice x k ck] 37)).frozen? ⟨w.heap.size, 1, none⟩ = false := Lib.frozen_of_heap Xa.out 1
    have ka2 : (w.alloc (Obj.cells #[Value.int .i64 7, Value.bool n, Value.slice a xs.length c, Value.bool m, Value.slice b ys.length d, Value.string nm, Value.int .i64 p, Value.int .i64 q, Value.slice x k ck] 37)).cell? ⟨w.heap.size, 2, none⟩ = some (Value.slice a xs.length c) := (Lib.cell_of_heap Xa.out 2).trans rfl
    have fa2 : (w.alloc (Obj.cells #[Value.int .i64 7, Value.bool n, Value.slice a xs.length c, Value.bool m, Value.slice b ys.length d, Value.string nm, Value.int .i64 p, Value.int .i64 q, Value.slice x k ck] 37)).frozen? ⟨w.heap.size, 2, none⟩ = false := Lib.frozen_of_heap Xa.out 2
    have ka3 : (w.alloc (Obj.cells #[Value.int .i64 7, Value.bool n, Value.slice a xs.length c, Value.bool m, Value.slice b ys.length d, Value.string nm, Value.int .i64 p, Value.int .i64 q, Value.slice x k ck] 37)).cell? ⟨w.heap.size, 3, none⟩ = some (Value.bool m) := (Lib.cell_of_heap Xa.out 3).trans rfl
    have fa3 : (w.alloc (Obj.cells #[Value.int .i64 7, Value.bool n, Value.slice a xs.length c, Value.bool m, Value.slice b ys.length d, Value.string nm, Value.int .i64 p, Value.int .i64 q, Value.slice x k ck] 37)).frozen? ⟨w.heap.size, 3, none⟩ = false := Lib.frozen_of_heap Xa.out 3
    have ka4 : (w.alloc (Obj.cells #[Value.int .i64 7, Value.bool n, Value.slice a xs.length c, Value.bool m, Value.slice b ys.length d, Value.string nm, Value.int .i64 p, Value.int .i64 q, Value.slice x k ck] 37)).cell? ⟨w.heap.size, 4, none⟩ = some (Value.slice b ys.length d) := (Lib.cell_of_heap Xa.out 4).trans rfl
    have fa4 : (w.alloc (Obj.cells #[Value.int .i64 7, Value.bool n, Value.slice a xs.length c, Value.bool m, Value.slice b ys.length d, Value.string nm, Value.int .i64 p, Value.int .i64 q, Value.slice x k ck] 37)).frozen? ⟨w.heap.size, 4, none⟩ = false := Lib.frozen_of_heap Xa.out 4
    have ka5 : (w.alloc (Obj.cells #[Value.int .i64 7, Value.bool n, Value.slice a xs.length c, Value.bool m, Value.slice b ys.length d, Value.string nm, Value.int .i64 p, Value.int .i64 q, Value.slice x k ck] 37)).cell? ⟨w.heap.size, 5, none⟩ = some (Value.string nm) := (Lib.cell_of_heap Xa.out 5).trans rfl
    have fa5 : (w.alloc (Obj.cells #[Value.int .i64 7, Value.bool n, Value.slice a xs.length c, Value.bool m, Value.slice b ys.length d, Value.string nm, Value.int .i64 p, Value.int .i64 q, Value.slice x k ck] 37)).frozen? ⟨w.heap.size, 5, none⟩ = false := Lib.frozen_of_heap Xa.out 5
    have ka6 : (w.alloc (Obj.cells #[Value.int .i64 7, Value.bool n, Value.slice a xs.length c, Value.bool m, Value.slice b ys.length d, Value.string nm, Value.int .i64 p, Value.int .i64 q, Value.slice x k ck] 37)).cell? ⟨w.heap.size, 6, none⟩ = some (Value.int .i64 p) := (Lib.cell_of_heap Xa.out 6).trans rfl
    have fa6 : (w.alloc (Obj.cells #[Value.int .i64 7, Value.bool n, Value.slice a xs.length c, Value.bool m, Value.slice b ys.length d, Value.string nm, Value.int .i64 p, Value.int .i64 q, Value.slice x k ck] 37)).frozen? ⟨w.heap.size, 6, none⟩ = false := Lib.frozen_of_heap Xa.out 6
    have ka7 : (w.alloc (Obj.cells #[Value.int .i64 7, Value.bool n, Value.slice a xs.length c, Value.bool m, Value.slice b ys.length d, Value.string nm, Value.int .i64 p, Value.int .i64 q, Value.slice x k ck] 37)).cell? ⟨w.heap.size, 7, none⟩ = some (Value.int .i64 q) := (Lib.cell_of_heap Xa.out 7).trans rfl
    have fa7 : (w.alloc (Obj.cells #[Value.int .i64 7, Value.bool n, Value.slice a xs.length c, Value.bool m, Value.slice b ys.length d, Value.string nm, Value.int .i64 p, Value.int .i64 q, Value.slice x k ck] 37)).frozen? ⟨w.heap.size, 7, none⟩ = false := Lib.frozen_of_heap Xa.out 7
    have ka8 : (w.alloc (Obj.cells #[Value.int .i64 7, Value.bool n, Value.slice a xs.length c, Value.bool m, Value.slice b ys.length d, Value.string nm, Value.int .i64 p, Value.int .i64 q, Value.slice x k ck] 37)).cell? ⟨w.heap.size, 8, none⟩ = some (Value.slice x k ck) := (Lib.cell_of_heap Xa.out 8).trans rfl
    have fa8 : (w.alloc (Obj.cells #[Value.int .i64 7, Value.bool n, Value.slice a xs.length c, Value.bool m, Value.slice b ys.length d, Value.string nm, Value.int .i64 p, Value.int .i64 q, Value.slice x k ck] 37)).frozen? ⟨w.heap.size, 8, none⟩ = false := Lib.frozen_of_heap Xa.out 8
    have za : w.heap.size < (w.alloc (Obj.cells #[Value.int .i64 7, Value.bool n, Value.slice a xs.length c, Value.bool m, Value.slice b ys.length d, Value.string nm, Value.int .i64 p, Value.int .i64 q, Value.slice x k ck] 37)).heap.size := hlt Xa.out
    go_enter Tryz.func23, Tryz.ntmps23
    go_wp2_with fail
    generalize (w.alloc (Obj.cells #[Value.int .i64 7, Value.bool n, Value.slice a xs.length c, Value.bool m, Value.slice b ys.length d, Value.string nm, Value.int .i64 p, Value.int .i64 q, Value.slice x k ck] 37)) = w1 at *
    refine (noneS n xs m ys a c b d _ (S1.out.below HB.out) (S2.out.below HB.out)).mono ?_
    rintro e w2 ⟨rfl, hb⟩
    have yw2 := hb.size
    clear ka0 fa0 ka1 fa1 ka2 fa2 ka3 fa3 ka4 fa4 ka5 fa5 ka6 fa6 ka7 fa7 ka8 fa8 za
    replace Xa := hide (hbel Xa.out hb (by first | assumption | omega))
    replace HB := hide (bl_trans HB.out hb)
    clear hb
    have ka0 : w2.cell? ⟨w.heap.size, 0, none⟩ = some (Value.int .i64 7) := (Lib.cell_of_heap Xa.out 0).trans rfl
    have fa0 : w2.frozen? ⟨w.heap.size, 0, none⟩ = false := Lib.frozen_of_heap Xa.out 0
    have ka1 : w2.cell? ⟨w.heap.size, 1, none⟩ = some (Value.bool n) := (Lib.cell_of_heap Xa.out 1).trans rfl
    have fa1 : w2.frozen? ⟨w.heap.size, 1, none⟩ = false := Lib.frozen_of_heap Xa.out 1
    have ka2 : w2.cell? ⟨w.heap.size, 2, none⟩ = some (Value.slice a xs.length c) := (Lib.cell_of_heap Xa.out 2).trans rfl
    have fa2 : w2.frozen? ⟨w.heap.size, 2, none⟩ = false := Lib.frozen_of_heap Xa.out 2
    have ka3 : w2.cell? ⟨w.heap.size, 3, none⟩ = some (Value.bool m) := (Lib.cell_of_heap Xa.out 3).trans rfl
    have fa3 : w2.frozen? ⟨w.heap.size, 3, none⟩ = false := Lib.frozen_of_heap Xa.out 3
    have ka4 : w2.cell? ⟨w.heap.size, 4, none⟩ = some (Value.slice b ys.length d) := (Lib.cell_of_heap Xa.out 4).trans rfl
    have fa4 : w2.frozen? ⟨w.heap.size, 4, none⟩ = false := Lib.frozen_of_heap Xa.out 4
    have ka5 : w2.cell? ⟨w.heap.size, 5, none⟩ = some (Value.string nm) := (Lib.cell_of_heap Xa.out 5).trans rfl
    have fa5 : w2.frozen? ⟨w.heap.size, 5, none⟩ = false := Lib.frozen_of_heap Xa.out 5
    have ka6 : w2.cell? ⟨w.heap.size, 6, none⟩ = some (Value.int .i64 p) := (Lib.cell_of_heap Xa.out 6).trans rfl
    have fa6 : w2.frozen? ⟨w.heap.size, 6, none⟩ = false := Lib.frozen_of_heap Xa.out 6
    have ka7 : w2.cell? ⟨w.heap.size, 7, none⟩ = some (Value.int .i64 q) := (Lib.cell_of_heap Xa.out 7).trans rfl
    have fa7 : w2.frozen? ⟨w.heap.size, 7, none⟩ = false := Lib.frozen_of_heap Xa.out 7
    have ka8 : w2.cell? ⟨w.heap.size, 8, none⟩ = some (Value.slice x k ck) := (Lib.cell_of_heap Xa.out 8).trans rfl
    have fa8 : w2.frozen? ⟨w.heap.size, 8, none⟩ = false := Lib.frozen_of_heap Xa.out 8
    have za : w.heap.size < w2.heap.size := hlt Xa.out
    cases hb : blankB n xs m ys with
    | false =>
      have Hb := hide hb
      clear hb
      go_wp2
      go_ret
      exact ⟨ret_bool (by rw [HO.out, Hb.out]; first | rfl | simp), HB.out⟩
    | true =>
      have Hb := hide hb
      clear hb
      cases hn : nm.toList.isEmpty with
      | false =>
        have Hn := hide hn
        go_wp2
        go_ret
        exact ⟨ret_bool (by rw [HO.out, Hb.out, Hn.out]; first | rfl | simp), HB.out⟩
      | true =>
        have Hn := hide hn
        go_wp2_with fail
        refine (Nm.powS p q _).mono ?_
        rintro e w3 ⟨rfl, hw⟩
        have hbd : Below w2.heap.size w2 w3 := by obtain ⟨qd, hw⟩ := hw; rw [hw]; exact below_drewN (bl_refl _) qd
        have yw3 := hbd.size
        clear ka0 fa0 ka1 fa1 ka2 fa2 ka3 fa3 ka4 fa4 ka5 fa5 ka6 fa6 ka7 fa7 ka8 fa8 za
        replace Xa := hide (hbel Xa.out hbd (by first | assumption | omega))
        replace HB := hide (bl_trans HB.out hbd)
        clear hbd
        have ka0 : w3.cell? ⟨w.heap.size, 0, none⟩ = some (Value.int .i64 7) := (Lib.cell_of_heap Xa.out 0).trans rfl
        have fa0 : w3.frozen? ⟨w.heap.size, 0, none⟩ = false := Lib.frozen_of_heap Xa.out 0
        have ka1 : w3.cell? ⟨w.heap.size, 1, none⟩ = some (Value.bool n) := (Lib.cell_of_heap Xa.out 1).trans rfl
        have fa1 : w3.frozen? ⟨w.heap.size, 1, none⟩ = false := Lib.frozen_of_heap Xa.out 1
        have ka2 : w3.cell? ⟨w.heap.size, 2, none⟩ = some (Value.slice a xs.length c) := (Lib.cell_of_heap Xa.out 2).trans rfl
        have fa2 : w3.frozen? ⟨w.heap.size, 2, none⟩ = false := Lib.frozen_of_heap Xa.out 2
        have ka3 : w3.cell? ⟨w.heap.size, 3, none⟩ = some (Value.bool m) := (Lib.cell_of_heap Xa.out 3).trans rfl
        have fa3 : w3.frozen? ⟨w.heap.size, 3, none⟩ = false := Lib.frozen_of_heap Xa.out 3
        have ka4 : w3.cell? ⟨w.heap.size, 4, none⟩ = some (Value.slice b ys.length d) := (Lib.cell_of_heap Xa.out 4).trans rfl
        have fa4 : w3.frozen? ⟨w.heap.size, 4, none⟩ = false := Lib.frozen_of_heap Xa.out 4
        have ka5 : w3.cell? ⟨w.heap.size, 5, none⟩ = some (Value.string nm) := (Lib.cell_of_heap Xa.out 5).trans rfl
        have fa5 : w3.frozen? ⟨w.heap.size, 5, none⟩ = false := Lib.frozen_of_heap Xa.out 5
        have ka6 : w3.cell? ⟨w.heap.size, 6, none⟩ = some (Value.int .i64 p) := (Lib.cell_of_heap Xa.out 6).trans rfl
        have fa6 : w3.frozen? ⟨w.heap.size, 6, none⟩ = false := Lib.frozen_of_heap Xa.out 6
        have ka7 : w3.cell? ⟨w.heap.size, 7, none⟩ = some (Value.int .i64 q) := (Lib.cell_of_heap Xa.out 7).trans rfl
        have fa7 : w3.frozen? ⟨w.heap.size, 7, none⟩ = false := Lib.frozen_of_heap Xa.out 7
        have ka8 : w3.cell? ⟨w.heap.size, 8, none⟩ = some (Value.slice x k ck) := (Lib.cell_of_heap Xa.out 8).trans rfl
        have fa8 : w3.frozen? ⟨w.heap.size, 8, none⟩ = false := Lib.frozen_of_heap Xa.out 8
        have za : w.heap.size < w3.heap.size := hlt Xa.out
        cases hw : Nm.pwB p q with
        | false =>
          have Hw := hide hw
          clear hw
          go_wp2
          go_ret
          exact ⟨ret_bool (by rw [HO.out, Hb.out, Hn.out, Hw.out]; first | rfl | simp), HB.out⟩
        | true =>
          have Hw := hide hw
          clear hw
          by_cases hl : k = 1
          case neg =>
            have HL : Hid (decide (k = 1) = false) := hide (decide_eq_false hl)
            have hl2 : ((k : Int) == 1) = false := by rw [beq_eq_false_iff_ne]; omega
            clear hl
            go_wp2
            go_ret
            exact ⟨ret_bool (by rw [HO.out, Hb.out, Hn.out, Hw.out, HL.out]; first | rfl | simp), HB.out⟩
          have HL : Hid (decide (k = 1) = true) := hide (decide_eq_true hl)
          have hl2 : ((k : Int) == 1) = true := by rw [beq_iff_eq]; omega
          clear hl
          go_wp2
          go_ret
          exact ⟨ret_bool (by rw [HO.out, Hb.out, Hn.out, Hw.out, HL.out]; first | rfl | simp), HB.out⟩
  · have hp2 : (p == 0) = false := by rw [beq_eq_false_iff_ne]; exact hp
    have hq2 : (q == 0) = false := by rw [beq_eq_false_iff_ne]; exact hq
    have HFF : Hid (F = false) := hide (by rw [← HF.out, decide_eq_false hp, decide_eq_false hq]; rfl)
    clear hp hq
    have Xa : Hid ((w.alloc (Obj.cells #[Value.int .i64 7, Value.bool n, Value.slice a xs.length c, Value.bool m, Value.slice b ys.length d, Value.string nm, Value.int .i64 p, Value.int .i64 q, Value.slice x k ck] 37)).heap[w.heap.size]? = some (.cells #[Value.int .i64 7, Value.bool n, Value.slice a xs.length c, Value.bool m, Value.slice b ys.length d, Value.string nm, Value.int .i64 p, Value.int .i64 q, Value.slice x k ck] 37 (0, 0))) := hide (by simpa only [World.size_alloc] using (hnew w (Obj.cells #[Value.int .i64 7, Value.bool n, Value.slice a xs.length c, Value.bool m, Value.slice b ys.length d, Value.string nm, Value.int .i64 p, Value.int .i64 q, Value.slice x k ck] 37)))
    have HB : Hid (Below w.heap.size w (w.alloc (Obj.cells #[Value.int .i64 7, Value.bool n, Value.slice a xs.length c, Value.bool m, Value.slice b ys.length d, Value.string nm, Value.int .i64 p, Value.int .i64 q, Value.slice x k ck] 37))) := hide (bl_alloc (bl_refl w) (Obj.cells #[Value.int .i64 7, Value.bool n, Value.slice a xs.length c, Value.bool m, Value.slice b ys.length d, Value.string nm, Value.int .i64 p, Value.int .i64 q, Value.slice x k ck] 37))
    have yw1 : w.heap.size + 1 ≤ (w.alloc (Obj.cells #[Value.int .i64 7, Value.bool n, Value.slice a xs.length c, Value.bool m, Value.slice b ys.length d, Value.string nm, Value.int .i64 p, Value.int .i64 q, Value.slice x k ck] 37)).heap.size := by simp only [World.size_alloc]; omega
    have ka0 : (w.alloc (Obj.cells #[Value.int .i64 7, Value.bool n, Value.slice a xs.length c, Value.bool m, Value.slice b ys.length d, Value.string nm, Value.int .i64 p, Value.int .i64 q, Value.slice x k ck] 37)).cell? ⟨w.heap.size, 0, none⟩ = some (Value.int .i64 7) := (Lib.cell_of_heap Xa.out 0).trans rfl
    have fa0 : (w.alloc (Obj.cells #[Value.int .i64 7, Value.bool n, Value.slice a xs.length c, Value.bool m, Value.slice b ys.length d, Value.string nm, Value.int .i64 p, Value.int .i64 q, Value.slice x k ck] 37)).frozen? ⟨w.heap.size, 0, none⟩ = false := Lib.frozen_of_heap Xa.out 0
    have ka1 : (w.alloc (Obj.cells #[Value.int .i64 7, Value.bool n, Value.slice a xs.length c, Value.bool m, Value.slice b ys.length d, Value.string nm, Value.int .i64 p, Value.int .i64 q, Value.slice x k ck] 37)).cell? ⟨w.heap.size, 1, none⟩ = some (Value.bool n) := (Lib.cell_of_heap Xa.out 1).trans rfl
    have fa1 : (w.alloc (Obj.cells #[Value.int .i64 7, Value.bool n, Value.slice a xs.length c, Value.bool m, Value.slice b ys.length d, Value.string nm, Value.int .i64 p, Value.int .i64 q, Value.slice x k ck] 37)).frozen? ⟨w.heap.size, 1, none⟩ = false := Lib.frozen_of_heap Xa.out 1
    have ka2 : (w.alloc (Obj.cells #[Value.int .i64 7, Value.bool n, Value.slice a xs.length c, Value.bool m, Value.slice b ys.length d, Value.string nm, Value.int .i64 p, Value.int .i64 q, Value.slice x k ck] 37)).cell? ⟨w.heap.size, 2, none⟩ = some (Value.slice a xs.length c) := (Lib.cell_of_heap Xa.out 2).trans rfl
    have fa2 : (w.alloc (Obj.cells #[Value.int .i64 7, Value.bool n, Value.slice a xs.length c, Value.bool m, Value.slice b ys.length d, Value.string nm, Value.int .i64 p, Value.int .i64 q, Value.slice x k ck] 37)).frozen? ⟨w.heap.size, 2, none⟩ = false := Lib.frozen_of_heap Xa.out 2
    have ka3 : (w.alloc (Obj.cells #[Value.int .i64 7, Value.bool n, Value.slice a xs.length c, Value.bool m, Value.slice b ys.length d, Value.string nm, Value.int .i64 p, Value.int .i64 q, Value.slice x k ck] 37)).cell? ⟨w.heap.size, 3, none⟩ = some (Value.bool m) := (Lib.cell_of_heap Xa.out 3).trans rfl
    have fa3 : (w.alloc (Obj.cells #[Value.int .i64 7, Value.bool n, Value.slice a xs.length c, Value.bool m, Value.slice b ys.length d, Value.string nm, Value.int .i64 p, Value.int .i64 q, Value.slice x k ck] 37)).frozen? ⟨w.heap.size, 3, none⟩ = false := Lib.frozen_of_heap Xa.out 3
    have ka4 : (w.alloc (Obj.cells #[Value.int .i64 7, Value.bool n, Value.slice a xs.length c, Value.bool m, Value.slice b ys.length d, Value.string nm, Value.int .i64 p, Value.int .i64 q, Value.slice x k ck] 37)).cell? ⟨w.heap.size, 4, none⟩ = some (Value.slice b ys.length d) := (Lib.cell_of_heap Xa.out 4).trans rfl
    have fa4 : (w.alloc (Obj.cells #[Value.int .i64 7, Value.bool n, Value.slice a xs.length c, Value.bool m, Value.slice b ys.length d, Value.string nm, Value.int .i64 p, Value.int .i64 q, Value.slice x k ck] 37)).frozen? ⟨w.heap.size, 4, none⟩ = false := Lib.frozen_of_heap Xa.out 4
    have ka5 : (w.alloc (Obj.cells #[Value.int .i64 7, Value.bool n, Value.slice a xs.length c, Value.bool m, Value.slice b ys.length d, Value.string nm, Value.int .i64 p, Value.int .i64 q, Value.slice x k ck] 37)).cell? ⟨w.heap.size, 5, none⟩ = some (Value.string nm) := (Lib.cell_of_heap Xa.out 5).trans rfl
    have fa5 : (w.alloc (Obj.cells #[Value.int .i64 7, Value.bool n, Value.slice a xs.length c, Value.bool m, Value.slice b ys.length d, Value.string nm, Value.int .i64 p, Value.int .i64 q, Value.slice x k ck] 37)).frozen? ⟨w.heap.size, 5, none⟩ = false := Lib.frozen_of_heap Xa.out 5
    have ka6 : (w.alloc (Obj.cells #[Value.int .i64 7, Value.bool n, Value.slice a xs.length c, Value.bool m, Value.slice b ys.length d, Value.string nm, Value.int .i64 p, Value.int .i64 q, Value.slice x k ck] 37)).cell? ⟨w.heap.size, 6, none⟩ = some (Value.int .i64 p) := (Lib.cell_of_heap Xa.out 6).trans rfl
    have fa6 : (w.alloc (Obj.cells #[Value.int .i64 7, Value.bool n, Value.slice a xs.length c, Value.bool m, Value.slice b ys.length d, Value.string nm, Value.int .i64 p, Value.int .i64 q, Value.slice x k ck] 37)).frozen? ⟨w.heap.size, 6, none⟩ = false := Lib.frozen_of_heap Xa.out 6
    have ka7 : (w.alloc (Obj.cells #[Value.int .i64 7, Value.bool n, Value.slice a xs.length c, Value.bool m, Value.slice b ys.length d, Value.string nm, Value.int .i64 p, Value.int .i64 q, Value.slice x k ck] 37)).cell? ⟨w.heap.size, 7, none⟩ = some (Value.int .i64 q) := (Lib.cell_of_heap Xa.out 7).trans rfl
    have fa7 : (w.alloc (Obj.cells #[Value.int .i64 7, Value.bool n, Value.slice a xs.length c, Value.bool m, Value.slice b ys.length d, Value.string nm, Value.int .i64 p, Value.int .i64 q, Value.slice x k ck] 37)).frozen? ⟨w.heap.size, 7, none⟩ = false := Lib.frozen_of_heap Xa.out 7
    have ka8 : (w.alloc (Obj.cells #[Value.int .i64 7, Value.bool n, Value.slice a xs.length c, Value.bool m, Value.slice b ys.length d, Value.string nm, Value.int .i64 p, Value.int .i64 q, Value.slice x k ck] 37)).cell? ⟨w.heap.size, 8, none⟩ = some (Value.slice x k ck) := (Lib.cell_of_heap Xa.out 8).trans rfl
    have fa8 : (w.alloc (Obj.cells #[Value.int .i64 7, Value.bool n, Value.slice a xs.length c, Value.bool m, Value.slice b ys.length d, Value.string nm, Value.int .i64 p, Value.int .i64 q, Value.slice x k ck] 37)).frozen? ⟨w.heap.size, 8, none⟩ = false := Lib.frozen_of_heap Xa.out 8
    have za : w.heap.size < (w.alloc (Obj.cells #[Value.int .i64 7, Value.bool n, Value.slice a xs.length c, Value.bool m, Value.slice b ys.length d, Value.string nm, Value.int .i64 p, Value.int .i64 q, Value.slice x k ck] 37)).heap.size := hlt Xa.out
    go_enter Tryz.func23, Tryz.ntmps23
    go_wp2_with fail
    generalize (w.alloc (Obj.cells #[Value.int .i64 7, Value.bool n, Value.slice a xs.length c, Value.bool m, Value.slice b ys.length d, Value.string nm, Value.int .i64 p, Value.int .i64 q, Value.slice x k ck] 37)) = w1 at *
    refine (noneS n xs m ys a c b d _ (S1.out.below HB.out) (S2.out.below HB.out)).mono ?_
    rintro e w2 ⟨rfl, hb⟩
    have yw2 := hb.size
    clear ka0 fa0 ka1 fa1 ka2 fa2 ka3 fa3 ka4 fa4 ka5 fa5 ka6 fa6 ka7 fa7 ka8 fa8 za
    replace Xa := hide (hbel Xa.out hb (by first | assumption | omega))
    replace HB := hide (bl_trans HB.out hb)
    clear hb
    have ka0 : w2.cell? ⟨w.heap.size, 0, none⟩ = some (Value.int .i64 7) := (Lib.cell_of_heap Xa.out 0).trans rfl
    have fa0 : w2.frozen? ⟨w.heap.size, 0, none⟩ = false := Lib.frozen_of_heap Xa.out 0
    have ka1 : w2.cell? ⟨w.heap.size, 1, none⟩ = some (Value.bool n) := (Lib.cell_of_heap Xa.out 1).trans rfl
    have fa1 : w2.frozen? ⟨w.heap.size, 1, none⟩ = false := Lib.frozen_of_heap Xa.out 1
    have ka2 : w2.cell? ⟨w.heap.size, 2, none⟩ = some (Value.slice a xs.length c) := (Lib.cell_of_heap Xa.out 2).trans rfl
    have fa2 : w2.frozen? ⟨w.heap.size, 2, none⟩ = false := Lib.frozen_of_heap Xa.out 2
    have ka3 : w2.cell? ⟨w.heap.size, 3, none⟩ = some (Value.bool m) := (Lib.cell_of_heap Xa.out 3).trans rfl
    have fa3 : w2.frozen? ⟨w.heap.size, 3, none⟩ = false := Lib.frozen_of_heap Xa.out 3
    have ka4 : w2.cell? ⟨w.heap.size, 4, none⟩ = some (Value.slice b ys.length d) := (Lib.cell_of_heap Xa.out 4).trans rfl
    have fa4 : w2.frozen? ⟨w.heap.size, 4, none⟩ = false := Lib.frozen_of_heap Xa.out 4
    have ka5 : w2.cell? ⟨w.heap.size, 5, none⟩ = some (Value.string nm) := (Lib.cell_of_heap Xa.out 5).trans rfl
    have fa5 : w2.frozen? ⟨w.heap.size, 5, none⟩ = false := Lib.frozen_of_heap Xa.out 5
    have ka6 : w2.cell? ⟨w.heap.size, 6, none⟩ = some (Value.int .i64 p) := (Lib.cell_of_heap Xa.out 6).trans rfl
    have fa6 : w2.frozen? ⟨w.heap.size, 6, none⟩ = false := Lib.frozen_of_heap Xa.out 6
    have ka7 : w2.cell? ⟨w.heap.size, 7, none⟩ = some (Value.int .i64 q) := (Lib.cell_of_heap Xa.out 7).trans rfl
    have fa7 : w2.frozen? ⟨w.heap.size, 7, none⟩ = false := Lib.frozen_of_heap Xa.out 7
    have ka8 : w2.cell? ⟨w.heap.size, 8, none⟩ = some (Value.slice x k ck) := (Lib.cell_of_heap Xa.out 8).trans rfl
    have fa8 : w2.frozen? ⟨w.heap.size, 8, none⟩ = false := Lib.frozen_of_heap Xa.out 8
    have za : w.heap.size < w2.heap.size := hlt Xa.out
    cases hb : blankB n xs m ys with
    | false =>
      have Hb := hide hb
      clear hb
      go_wp2
      go_ret
      exact ⟨ret_bool (by rw [HO.out, Hb.out]; first | rfl | simp), HB.out⟩
    | true =>
      have Hb := hide hb
      clear hb
      cases hn : nm.toList.isEmpty with
      | false =>
        have Hn := hide hn
        go_wp2
        go_ret
        exact ⟨ret_bool (by rw [HO.out, Hb.out, Hn.out]; first | rfl | simp), HB.out⟩
      | true =>
        have Hn := hide hn
        go_wp2_with fail
        refine (Nm.powS p q _).mono ?_
        rintro e w3 ⟨rfl, hw⟩
        have hbd : Below w2.heap.size w2 w3 := by obtain ⟨qd, hw⟩ := hw; rw [hw]; exact below_drewN (bl_refl _) qd
        have yw3 := hbd.size
        clear ka0 fa0 ka1 fa1 ka2 fa2 ka3 fa3 ka4 fa4 ka5 fa5 ka6 fa6 ka7 fa7 ka8 fa8 za
        replace Xa := hide (hbel Xa.out hbd (by first | assumption | omega))
        replace HB := hide (bl_trans HB.out hbd)
        clear hbd
        have ka0 : w3.cell? ⟨w.heap.size, 0, none⟩ = some (Value.int .i64 7) := (Lib.cell_of_heap Xa.out 0).trans rfl
        have fa0 : w3.frozen? ⟨w.heap.size, 0, none⟩ = false := Lib.frozen_of_heap Xa.out 0
        have ka1 : w3.cell? ⟨w.heap.size, 1, none⟩ = some (Value.bool n) := (Lib.cell_of_heap Xa.out 1).trans rfl
        have fa1 : w3.frozen? ⟨w.heap.size, 1, none⟩ = false := Lib.frozen_of_heap Xa.out 1
        have ka2 : w3.cell? ⟨w.heap.size, 2, none⟩ = some (Value.slice a xs.length c) := (Lib.cell_of_heap Xa.out 2).trans rfl
        have fa2 : w3.frozen? ⟨w.heap.size, 2, none⟩ = false := Lib.frozen_of_heap Xa.out 2
        have ka3 : w3.cell? ⟨w.heap.size, 3, none⟩ = some (Value.bool m) := (Lib.cell_of_heap Xa.out 3).trans rfl
        have fa3 : w3.frozen? ⟨w.heap.size, 3, none⟩ = false := Lib.frozen_of_heap Xa.out 3
        have ka4 : w3.cell? ⟨w.heap.size, 4, none⟩ = some (Value.slice b ys.length d) := (Lib.cell_of_heap Xa.out 4).trans rfl
        have fa4 : w3.frozen? ⟨w.heap.size, 4, none⟩ = false := Lib.frozen_of_heap Xa.out 4
        have ka5 : w3.cell? ⟨w.heap.size, 5, none⟩ = some (Value.string nm) := (Lib.cell_of_heap Xa.out 5).trans rfl
        have fa5 : w3.frozen? ⟨w.heap.size, 5, none⟩ = false := Lib.frozen_of_heap Xa.out 5
        have ka6 : w3.cell? ⟨w.heap.size, 6, none⟩ = some (Value.int .i64 p) := (Lib.cell_of_heap Xa.out 6).trans rfl
        have fa6 : w3.frozen? ⟨w.heap.size, 6, none⟩ = false := Lib.frozen_of_heap Xa.out 6
        have ka7 : w3.cell? ⟨w.heap.size, 7, none⟩ = some (Value.int .i64 q) := (Lib.cell_of_heap Xa.out 7).trans rfl
        have fa7 : w3.frozen? ⟨w.heap.size, 7, none⟩ = false := Lib.frozen_of_heap Xa.out 7
        have ka8 : w3.cell? ⟨w.heap.size, 8, none⟩ = some (Value.slice x k ck) := (Lib.cell_of_heap Xa.out 8).trans rfl
        have fa8 : w3.frozen? ⟨w.heap.size, 8, none⟩ = false := Lib.frozen_of_heap Xa.out 8
        have za : w.heap.size < w3.heap.size := hlt Xa.out
        cases hw : Nm.pwB p q with
        | false =>
          have Hw := hide hw
          clear hw
          go_wp2
          go_ret
          exact ⟨ret_bool (by rw [HO.out, Hb.out, Hn.out, Hw.out]; first | rfl | simp), HB.out⟩
        | true =>
          have Hw := hide hw
          clear hw
          by_cases hl : k = 1
          case neg =>
            have HL : Hid (decide (k = 1) = false) := hide (decide_eq_false hl)
            have hl2 : ((k : Int) == 1) = false := by rw [beq_eq_false_iff_ne]; omega
            clear hl
            go_wp2
            go_ret
            exact ⟨ret_bool (by rw [HO.out, Hb.out, Hn.out, Hw.out, HL.out]; first | rfl | simp), HB.out⟩
          have HL : Hid (decide (k = 1) = true) := hide (decide_eq_true hl)
          have hl2 : ((k : Int) == 1) = true := by rw [beq_iff_eq]; omega
          clear hl
          go_wp2
          go_ret
          exact ⟨ret_bool (by rw [HO.out, Hb.out, Hn.out, Hw.out, HL.out]; first | rfl | simp), HB.out⟩

set_option maxHeartbeats 4000000 in
set_option maxRecDepth 20000 in
theorem ownSelse (kd : Int) (n : Bool) (xs : List Nat) (m : Bool) (ys : List Nat) (nm : ByteArray) (p q : Int) (k : Nat) (a : Option Addr) (c : Nat) (b : Option Addr) (d : Nat) (x : Option Addr) (ck : Nat) (w : World) (s1 : Seg w a xs.length c xs) (s2 : Seg w b ys.length d ys) (hk : k ≤ 9223372036854775807) (hkd : ¬ (0 ≤ kd ∧ kd ≤ 7)) (hnm : nm.size ≤ 140737488355328) :
    Calls Tryz.prog 23 #[Value.agg #[Value.int .i64 kd, Value.bool n, Value.slice a xs.length c, Value.bool m, Value.slice b ys.length d, Value.string nm, Value.int .i64 p, Value.int .i64 q, Value.slice x k ck]] w fun e w' => e = .returned (.bool (ownB kd n xs m ys nm p q k)) ∧ Below w.heap.size w w' := by
  have q1 := s1.le
  have q2 := s2.le
  have sm := hide s1.2.2.2.1
  have S1 := hide s1
  have S2 := hide s2
  clear s1 s2
  obtain ⟨F, hF⟩ : ∃ F, (decide (p = 0) && decide (q = 0)) = F := ⟨_, rfl⟩
  have HF := hide hF
  have hk0 : (kd == 0) = false := by rw [beq_eq_false_iff_ne]; omega
  have hk1 : (kd == 1) = false := by rw [beq_eq_false_iff_ne]; omega
  have hk2 : (kd == 2) = false := by rw [beq_eq_false_iff_ne]; omega
  have hk3 : (kd == 3) = false := by rw [beq_eq_false_iff_ne]; omega
  have hk4 : (kd == 4) = false := by rw [beq_eq_false_iff_ne]; omega
  have hk5 : (kd == 5) = false := by rw [beq_eq_false_iff_ne]; omega
  have hk6 : (kd == 6) = false := by rw [beq_eq_false_iff_ne]; omega
  have hk7 : (kd == 7) = false := by rw [beq_eq_false_iff_ne]; omega
  have HO : Hid (false = ownB kd n xs m ys nm p q k) := hide (own_x kd hkd ..).symm
  clear hkd
  clear hF
  by_cases hp : p = 0
  all_goals by_cases hq : q = 0
  · have hp2 : (p == 0) = true := by rw [beq_iff_eq]; exact hp
    have hq2 : (q == 0) = true := by rw [beq_iff_eq]; exact hq
    have HFF : Hid (F = true) := hide (by rw [← HF.out, decide_eq_true hp, decide_eq_true hq]; rfl)
    clear hp hq
    have HB := hide (bl_alloc (bl_refl w) (Obj.cells #[Value.int .i64 kd, Value.bool n, Value.slice a xs.length c, Value.bool m, Value.slice b ys.length d, Value.string nm, Value.int .i64 p, Value.int .i64 q, Value.slice x k ck] 37))
    go_enter Tryz.func23, Tryz.ntmps23
    go_wp2
    go_ret
    exact ⟨ret_bool HO.out, HB.out⟩
  · have hp2 : (p == 0) = true := by rw [beq_iff_eq]; exact hp
    have hq2 : (q == 0) = false := by rw [beq_eq_false_iff_ne]; exact hq
    have HFF : Hid (F = false) := hide (by rw [← HF.out, decide_eq_true hp, decide_eq_false hq]; rfl)
    clear hp hq
    have HB := hide (bl_alloc (bl_refl w) (Obj.cells #[Value.int .i64 kd, Value.bool n, Value.slice a xs.length c, Value.bool m, Value.slice b ys.length d, Value.string nm, Value.int .i64 p, Value.int .i64 q, Value.slice x k ck] 37))
    go_enter Tryz.func23, Tryz.ntmps23
    go_wp2
    go_ret
    exact ⟨ret_bool HO.out, HB.out⟩
  · have hp2 : (p == 0) = false := by rw [beq_eq_false_iff_ne]; exact hp
    have hq2 : (q == 0) = true := by rw [beq_iff_eq]; exact hq
    have HFF : Hid (F = false) := hide (by rw [← HF.out, decide_eq_false hp, decide_eq_true hq]; rfl)
    clear hp hq
    have HB := hide (bl_alloc (bl_refl w) (Obj.cells #[Value.int .i64 kd, Value.bool n, Value.slice a xs.length c, Value.bool m, Value.slice b ys.length d, Value.string nm, Value.int .i64 p, Value.int .i64 q, Value.slice x k ck] 37))
    go_enter Tryz.func23, Tryz.ntmps23
    go_wp2
    go_ret
    exact ⟨ret_bool HO.out, HB.out⟩
  · have hp2 : (p == 0) = false := by rw [beq_eq_false_iff_ne]; exact hp
    have hq2 : (q == 0) = false := by rw [beq_eq_false_iff_ne]; exact hq
    have HFF : Hid (F = false) := hide (by rw [← HF.out, decide_eq_false hp, decide_eq_false hq]; rfl)
    clear hp hq
    have HB := hide (bl_alloc (bl_refl w) (Obj.cells #[Value.int .i64 kd, Value.bool n, Value.slice a xs.length c, Value.bool m, Value.slice b ys.length d, Value.string nm, Value.int .i64 p, Value.int .i64 q, Value.slice x k ck] 37))
    go_enter Tryz.func23, Tryz.ntmps23
    go_wp2
    go_ret
    exact ⟨ret_bool HO.out, HB.out⟩
end Go.Proofs.YtlknhheafmifnaaGreatDoor
