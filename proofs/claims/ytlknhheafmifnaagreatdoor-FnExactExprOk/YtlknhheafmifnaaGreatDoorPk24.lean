/- My texts XoI, Xr, XrI, in this order. -/
import Derived.Test.YtlknhheafmifnaaGreatDoorXoS
/- What a formula holds of its own: the walk of the program. -/
namespace Go.Proofs.YtlknhheafmifnaaGreatDoor
open Go.RowKit
set_option linter.unusedVariables false
set_option maxRecDepth 20000

theorem seg_none {w : World} : Seg w none ([] : List Nat).length 0 [] := ⟨rfl, Nat.le_refl _, by omega, (fun _ h => by cases h), .inl rfl⟩

theorem powIB (p q : Int) (w : World) : Calls Tryz.prog 36 #[.int .i64 p, .int .i64 q] w fun e w' => e = .returned (.bool (Nm.pwB p q)) ∧ Below w.heap.size w w' :=
  (Nm.powI p q w).mono fun e w' ⟨h, n, hw⟩ => ⟨h, by rw [hw]; exact below_drewN (bl_refl _) n⟩

set_option maxHeartbeats 4000000 in
set_option maxRecDepth 20000 in
theorem ownI0 (n : Bool) (xs : List Nat) (m : Bool) (ys : List Nat) (nm : ByteArray) (p q : Int) (k : Nat) (a : Option Addr) (c : Nat) (b : Option Addr) (d : Nat) (x : Option Addr) (ck : Nat) (w : World) (s1 : Seg w a xs.length c xs) (s2 : Seg w b ys.length d ys) (hk : k ≤ 9223372036854775807) (htab : Tabs w) (hnm : nm.size ≤ 140737488355328) :
    Calls Tryz.prog 25 #[Value.agg #[Value.int .i64 0, Value.bool n, Value.slice a xs.length c, Value.bool m, Value.slice b ys.length d, Value.string nm, Value.int .i64 p, Value.int .i64 q, Value.slice x k ck]] w fun e w' => e = .returned (.bool (ownB 0 n xs m ys nm p q k)) ∧ Below w.heap.size w w' := by
  have q1 := s1.le
  have q2 := s2.le
  have sm := hide s1.2.2.2.1
  have S1 := hide s1
  have S2 := hide s2
  clear s1 s2
  have HT := hide htab
  clear htab
  have HO : Hid (ownB 0 n xs m ys nm p q k = (numB n xs m ys && bareB false [] false [] nm p q k)) := hide rfl
  have Xa : Hid ((w.alloc (Obj.cells #[Value.int .i64 0, Value.bool n, Value.slice a xs.length c, Value.bool m, Value.slice b ys.length d, Value.string nm, Value.int .i64 p, Value.int .i64 q, Value.slice x k ck] 37)).heap[w.heap.size]? = some (.cells #[Value.int .i64 0, Value.bool n, Value.slice a xs.length c, Value.bool m, Value.slice b ys.length d, Value.string nm, Value.int .i64 p, Value.int .i64 q, Value.slice x k ck] 37 (0, 0))) := hide (by simpa only [World.size_alloc] using (hnew w (Obj.cells #[Value.int .i64 0, Value.bool n, Value.slice a xs.length c, Value.bool m, Value.slice b ys.length d, Value.string nm, Value.int .i64 p, Value.int .i64 q, Value.slice x k ck] 37)))
  have HB : Hid (Below w.heap.size w (w.alloc (Obj.cells #[Value.int .i64 0, Value.bool n, Value.slice a xs.length c, Value.bool m, Value.slice b ys.length d, Value.string nm, Value.int .i64 p, Value.int .i64 q, Value.slice x k ck] 37))) := hide (bl_alloc (bl_refl w) (Obj.cells #[Value.int .i64 0, Value.bool n, Value.slice a xs.length c, Value.bool m, Value.slice b ys.length d, Value.string nm, Value.int .i64 p, Value.int .i64 q, Value.slice x k ck] 37))
  have yw1 : w.heap.size + 1 ≤ (w.alloc (Obj.cells #[Value.int .i64 0, Value.bool n, Value.slice a xs.length c, Value.bool m, Value.slice b ys.length d, Value.string nm, Value.int .i64 p, Value.int .i64 q, Value.slice x k ck] 37)).heap.size := by simp only [World.size_alloc]; omega
  have ka0 : (w.alloc (Obj.cells #[Value.int .i64 0, Value.bool n, Value.slice a xs.length c, Value.bool m, Value.slice b ys.length d, Value.string nm, Value.int .i64 p, Value.int .i64 q, Value.slice x k ck] 37)).cell? ⟨w.heap.size, 0, none⟩ = some (Value.int .i64 0) := (Lib.cell_of_heap Xa.out 0).trans rfl
  have fa0 : (w.alloc (Obj.cells #[Value.int .i64 0, Value.bool n, Value.slice a xs.length c, Value.bool m, Value.slice b ys.length d, Value.string nm, Value.int .i64 p, Value.int .i64 q, Value.slice x k ck] 37)).frozen? ⟨w.heap.size, 0, none⟩ = false := Lib.frozen_of_heap Xa.out 0
  have ka1 : (w.alloc (Obj.cells #[Value.int .i64 0, Value.bool n, Value.slice a xs.length c, Value.bool m, Value.slice b ys.length d, Value.string nm, Value.int .i64 p, Value.int .i64 q, Value.slice x k ck] 37)).cell? ⟨w.heap.size, 1, none⟩ = some (Value.bool n) := (Lib.cell_of_heap Xa.out 1).trans rfl
  have fa1 : (w.alloc (Obj.cells #[Value.int .i64 0, Value.bool n, Value.slice a xs.length c, Value.bool m, Value.slice b ys.length d, Value.string nm, Value.int .i64 p, Value.int .i64 q, Value.slice x k ck] 37)).frozen? ⟨w.heap.size, 1, none⟩ = false := Lib.frozen_of_heap Xa.out 1
  have ka2 : (w.alloc (Obj.cells #[Value.int .i64 0, Value.bool n, Value.slice a xs.length c, Value.bool m, Value.slice b ys.length d, Value.string nm, Value.int .i64 p, Value.int .i64 q, Value.slice x k ck] 37)).cell? ⟨w.heap.size, 2, none⟩ = some (Value.slice a xs.length c) := (Lib.cell_of_heap Xa.out 2).trans rfl
  have fa2 : (w.alloc (Obj.cells #[Value.int .i64 0, Value.bool n, Value.slice a xs.length c, Value.bool m, Value.slice b ys.length d, Value.string nm, Value.int .i64 p, Value.int .i64 q, Value.slice x k ck] 37)).frozen? ⟨w.heap.size, 2, none⟩ = false := Lib.frozen_of_heap Xa.out 2
  have ka3 : (w.alloc (Obj.cells #[Value.int .i64 0, Value.bool n, Value.slice a xs.length c, Value.bool m, Value.slice b ys.length d, Value.string nm, Value.int .i64 p, Value.int .i64 q, Value.slice x k ck] 37)).cell? ⟨w.heap.size, 3, none⟩ = some (Value.bool m) := (Lib.cell_of_heap Xa.out 3).trans rfl
  have fa3 : (w.alloc (Obj.cells #[Value.int .i64 0, Value.bool n, Value.slice a xs.length c, Value.bool m, Value.slice b ys.length d, Value.string nm, Value.int .i64 p, Value.int .i64 q, Value.slice x k ck] 37)).frozen? ⟨w.heap.size, 3, none⟩ = false := Lib.frozen_of_heap Xa.out 3
  have ka4 : (w.alloc (Obj.cells #[Value.int .i64 0, Value.bool n, Value.slice a xs.length c, Value.bool m, Value.slice b ys.length d, Value.string nm, Value.int .i64 p, Value.int .i64 q, Value.slice x k ck] 37)).cell? ⟨w.heap.size, 4, none⟩ = some (Value.slice b ys.length d) := (Lib.cell_of_heap Xa.out 4).trans rfl
  have fa4 : (w.alloc (Obj.cells #[Value.int .i64 0, Value.bool n, Value.slice a xs.length c, Value.bool m, Value.slice b ys.length d, Value.string nm, Value.int .i64 p, Value.int .i64 q, Value.slice x k ck] 37)).frozen? ⟨w.heap.size, 4, none⟩ = false := Lib.frozen_of_heap Xa.out 4
  have ka5 : (w.alloc (Obj.cells #[Value.int .i64 0, Value.bool n, Value.slice a xs.length c, Value.bool m, Value.slice b ys.length d, Value.string nm, Value.int .i64 p, Value.int .i64 q, Value.slice x k ck] 37)).cell? ⟨w.heap.size, 5, none⟩ = some (Value.string nm) := (Lib.cell_of_heap Xa.out 5).trans rfl
  have fa5 : (w.alloc (Obj.cells #[Value.int .i64 0, Value.bool n, Value.slice a xs.length c, Value.bool m, Value.slice b ys.length d, Value.string nm, Value.int .i64 p, Value.int .i64 q, Value.slice x k ck] 37)).frozen? ⟨w.heap.size, 5, none⟩ = false := Lib.frozen_of_heap Xa.out 5
  have ka6 : (w.alloc (Obj.cells #[Value.int .i64 0, Value.bool n, Value.slice a xs.length c, Value.bool m, Value.slice b ys.length d, Value.string nm, Value.int .i64 p, Value.int .i64 q, Value.slice x k ck] 37)).cell? ⟨w.heap.size, 6, none⟩ = some (Value.int .i64 p) := (Lib.cell_of_heap Xa.out 6).trans rfl
  have fa6 : (w.alloc (Obj.cells #[Value.int .i64 0, Value.bool n, Value.slice a xs.length c, Value.bool m, Value.slice b ys.length d, Value.string nm, Value.int .i64 p, Value.int .i64 q, Value.slice x k ck] 37)).frozen? ⟨w.heap.size, 6, none⟩ = false := Lib.frozen_of_heap Xa.out 6
  have ka7 : (w.alloc (Obj.cells #[Value.int .i64 0, Value.bool n, Value.slice a xs.length c, Value.bool m, Value.slice b ys.length d, Value.string nm, Value.int .i64 p, Value.int .i64 q, Value.slice x k ck] 37)).cell? ⟨w.heap.size, 7, none⟩ = some (Value.int .i64 q) := (Lib.cell_of_heap Xa.out 7).trans rfl
  have fa7 : (w.alloc (Obj.cells #[Value.int .i64 0, Value.bool n, Value.slice a xs.length c, Value.bool m, Value.slice b ys.length d, Value.string nm, Value.int .i64 p, Value.int .i64 q, Value.slice x k ck] 37)).frozen? ⟨w.heap.size, 7, none⟩ = false := Lib.frozen_of_heap Xa.out 7
  have ka8 : (w.alloc (Obj.cells #[Value.int .i64 0, Value.bool n, Value.slice a xs.length c, Value.bool m, Value.slice b ys.length d, Value.string nm, Value.int .i64 p, Value.int .i64 q, Value.slice x k ck] 37)).cell? ⟨w.heap.size, 8, none⟩ = some (Value.slice x k ck) := (Lib.cell_of_heap Xa.out 8).trans rfl
  have fa8 : (w.alloc (Obj.cells #[Value.int .i64 0, Value.bool n, Value.slice a xs.length c, Value.bool m, Value.slice b ys.length d, Value.string nm, Value.int .i64 p, Value.int .i64 q, Value.slice x k ck] 37)).frozen? ⟨w.heap.size, 8, none⟩ = false := Lib.frozen_of_heap Xa.out 8
  have za : w.heap.size < (w.alloc (Obj.cells #[Value.int .i64 0, Value.bool n, Value.slice a xs.length c, Value.bool m, Value.slice b ys.length d, Value.string nm, Value.int .i64 p, Value.int .i64 q, Value.slice x k ck] 37)).heap.size := hlt Xa.out
  go_enter Tryz.func25, Tryz.ntmps25
  go_wp2_with fail
  generalize (w.alloc (Obj.cells #[Value.int .i64 0, Value.bool n, Value.slice a xs.length c, Value.bool m, Value.slice b ys.length d, Value.string nm, Value.int .i64 p, Value.int .i64 q, Value.slice x k ck] 37)) = w1 at *
  refine (numI n xs m ys a c b d _ (S1.out.below HB.out) (S2.out.below HB.out) (HT.out.below HB.out)).mono ?_
  rintro e w2 ⟨rfl, hb⟩
  have yw2 := hb.size
  clear ka0 fa0 ka1 fa1 ka2 fa2 ka3 fa3 ka4 fa4 ka5 fa5 ka6 fa6 ka7 fa7 ka8 fa8 za
  replace Xa := hide (hbel Xa.out hb (by first | assumption | omega))
  replace HB := hide (bl_trans HB.out hb)
  clear hb
  have ka0 : w2.cell? ⟨w.heap.size, 0, none⟩ = some (Value.int .i64 0) := (Lib.cell_of_heap Xa.out 0).trans rfl
  have fa0 : w2.frozen? ⟨w.heap.size, 0, none⟩ = false := Lib.frozen_of_heap Xa.out 0
  have ka1 : w2.cell? ⟨w.heap.size, 1, none⟩ = some (Value.bool n) := (Lib.cell_of_heap Xa.out 1).trans rfl
  have fa1 : w2.frozen? ⟨w.heap.size, 1, none⟩ = false := Lib.frozen_of_heap Xa.out 1
  have ka2 : w2.cell? ⟨w.heap.size, 2, none⟩ = some (Value.slice a xs.length c) := (Lib.cell_of_heap Xa.out 2).trans rfl
  have fa2 : w2.frozen? ⟨w.heap.size, 2, none⟩ = false := Lib.frozen_of_heap Xa.out 2
  have ka3 : w2.cell? ⟨w.heap.size, 3, none⟩ = some (Value.bool m) := (Lib.cell_of_heap Xa.out 3).trans rfl
  have fa3 : w2.frozen? ⟨w.heap.size, 3, none⟩ = false := Lib.frozen_of_heap Xa.out 3
  have ka4 : w2.cell? ⟨w.heap.size, 4, none⟩ = some (Value.slice b ys.length d) := (Lib.cell_of_heap Xa.out 4).trans rfl
  have fa4 : w2.frozen? ⟨w.heap.size, 4, none⟩ = false := Lib.frozen_of_heap Xa.out 4
  have ka5 : w2.cell? ⟨w.heap.size, 5, none⟩ = some (Value.string nm) := (Lib.cell_of_heap Xa.out 5).trans rfl
  have fa5 : w2.frozen? ⟨w.heap.size, 5, none⟩ = false := Lib.frozen_of_heap Xa.out 5
  have ka6 : w2.cell? ⟨w.heap.size, 6, none⟩ = some (Value.int .i64 p) := (Lib.cell_of_heap Xa.out 6).trans rfl
  have fa6 : w2.frozen? ⟨w.heap.size, 6, none⟩ = false := Lib.frozen_of_heap Xa.out 6
  have ka7 : w2.cell? ⟨w.heap.size, 7, none⟩ = some (Value.int .i64 q) := (Lib.cell_of_heap Xa.out 7).trans rfl
  have fa7 : w2.frozen? ⟨w.heap.size, 7, none⟩ = false := Lib.frozen_of_heap Xa.out 7
  have ka8 : w2.cell? ⟨w.heap.size, 8, none⟩ = some (Value.slice x k ck) := (Lib.cell_of_heap Xa.out 8).trans rfl
  have fa8 : w2.frozen? ⟨w.heap.size, 8, none⟩ = false := Lib.frozen_of_heap Xa.out 8
  have za : w.heap.size < w2.heap.size := hlt Xa.out
  cases h1 : numB n xs m ys with
  | false =>
    have H1 := hide h1
    clear h1
    go_wp2
    go_ret
    exact ⟨ret_bool (by rw [HO.out, H1.out]; first | rfl | simp), St.below HB.out (st_cells w.heap.size [Value.bool false, Value.slice none 0 0, Value.bool false, Value.slice none 0 0] 1 _ _ (St.refl _ _)) (by omega)⟩
  | true =>
    have H1 := hide h1
    clear h1
    go_wp2_with fail
    obtain ⟨w3, ew3⟩ : ∃ x, x = ((((w2.setCell ⟨w.heap.size, 1, none⟩ (Value.bool false)).setCell ⟨w.heap.size, 2, none⟩ (Value.slice none 0 0)).setCell ⟨w.heap.size, 3, none⟩ (Value.bool false)).setCell ⟨w.heap.size, 4, none⟩ (Value.slice none 0 0)) := ⟨_, rfl⟩
    have hst : St (w.heap.size) w2 w3 := by rw [ew3]; exact (((((St.refl (w.heap.size) w2).set 1 (Value.bool false)).set 2 (Value.slice none 0 0)).set 3 (Value.bool false)).set 4 (Value.slice none 0 0))
    rw [← ew3]
    have XX : Hid (w3.heap[w.heap.size]? = some (.cells #[Value.int .i64 0, Value.bool false, Value.slice none 0 0, Value.bool false, Value.slice none 0 0, Value.string nm, Value.int .i64 p, Value.int .i64 q, Value.slice x k ck] 37 (0, 0))) := hide (by rw [ew3]; exact (hset (hset (hset (hset Xa.out 1 (Value.bool false)) 2 (Value.slice none 0 0)) 3 (Value.bool false)) 4 (Value.slice none 0 0)))
    have yw3 : w2.heap.size ≤ w3.heap.size := Nat.le_of_eq hst.size.symm
    clear ew3
    clear ka0 fa0 ka1 fa1 ka2 fa2 ka3 fa3 ka4 fa4 ka5 fa5 ka6 fa6 ka7 fa7 ka8 fa8 za
    replace HB := hide (St.below HB.out hst (by omega))
    have Xa := XX
    clear XX hst
    have ka0 : w3.cell? ⟨w.heap.size, 0, none⟩ = some (Value.int .i64 0) := (Lib.cell_of_heap Xa.out 0).trans rfl
    have fa0 : w3.frozen? ⟨w.heap.size, 0, none⟩ = false := Lib.frozen_of_heap Xa.out 0
    have ka1 : w3.cell? ⟨w.heap.size, 1, none⟩ = some (Value.bool false) := (Lib.cell_of_heap Xa.out 1).trans rfl
    have fa1 : w3.frozen? ⟨w.heap.size, 1, none⟩ = false := Lib.frozen_of_heap Xa.out 1
    have ka2 : w3.cell? ⟨w.heap.size, 2, none⟩ = some (Value.slice none 0 0) := (Lib.cell_of_heap Xa.out 2).trans rfl
    have fa2 : w3.frozen? ⟨w.heap.size, 2, none⟩ = false := Lib.frozen_of_heap Xa.out 2
    have ka3 : w3.cell? ⟨w.heap.size, 3, none⟩ = some (Value.bool false) := (Lib.cell_of_heap Xa.out 3).trans rfl
    have fa3 : w3.frozen? ⟨w.heap.size, 3, none⟩ = false := Lib.frozen_of_heap Xa.out 3
    have ka4 : w3.cell? ⟨w.heap.size, 4, none⟩ = some (Value.slice none 0 0) := (Lib.cell_of_heap Xa.out 4).trans rfl
    have fa4 : w3.frozen? ⟨w.heap.size, 4, none⟩ = false := Lib.frozen_of_heap Xa.out 4
    have ka5 : w3.cell? ⟨w.heap.size, 5, none⟩ = some (Value.string nm) := (Lib.cell_of_heap Xa.out 5).trans rfl
    have fa5 : w3.frozen? ⟨w.heap.size, 5, none⟩ = false := Lib.frozen_of_heap Xa.out 5
    have ka6 : w3.cell? ⟨w.heap.size, 6, none⟩ = some (Value.int .i64 p) := (Lib.cell_of_heap Xa.out 6).trans rfl
    have fa6 : w3.frozen? ⟨w.heap.size, 6, none⟩ = false := Lib.frozen_of_heap Xa.out 6
    have ka7 : w3.cell? ⟨w.heap.size, 7, none⟩ = some (Value.int .i64 q) := (Lib.cell_of_heap Xa.out 7).trans rfl
    have fa7 : w3.frozen? ⟨w.heap.size, 7, none⟩ = false := Lib.frozen_of_heap Xa.out 7
    have ka8 : w3.cell? ⟨w.heap.size, 8, none⟩ = some (Value.slice x k ck) := (Lib.cell_of_heap Xa.out 8).trans rfl
    have fa8 : w3.frozen? ⟨w.heap.size, 8, none⟩ = false := Lib.frozen_of_heap Xa.out 8
    have za : w.heap.size < w3.heap.size := hlt Xa.out
    refine (bareI 0 false [] false [] nm p q k none 0 none 0 x ck _ seg_none seg_none hk).mono ?_
    rintro e w4 ⟨rfl, hb⟩
    have yw4 := hb.size
    clear ka0 fa0 ka1 fa1 ka2 fa2 ka3 fa3 ka4 fa4 ka5 fa5 ka6 fa6 ka7 fa7 ka8 fa8 za
    replace Xa := hide (hbel Xa.out hb (by first | assumption | omega))
    replace HB := hide (bl_trans HB.out hb)
    clear hb
    have ka0 : w4.cell? ⟨w.heap.size, 0, none⟩ = some (Value.int .i64 0) := (Lib.cell_of_heap Xa.out 0).trans rfl
    have fa0 : w4.frozen? ⟨w.heap.size, 0, none⟩ = false := Lib.frozen_of_heap Xa.out 0
    have ka1 : w4.cell? ⟨w.heap.size, 1, none⟩ = some (Value.bool false) := (Lib.cell_of_heap Xa.out 1).trans rfl
    have fa1 : w4.frozen? ⟨w.heap.size, 1, none⟩ = false := Lib.frozen_of_heap Xa.out 1
    have ka2 : w4.cell? ⟨w.heap.size, 2, none⟩ = some (Value.slice none 0 0) := (Lib.cell_of_heap Xa.out 2).trans rfl
    have fa2 : w4.frozen? ⟨w.heap.size, 2, none⟩ = false := Lib.frozen_of_heap Xa.out 2
    have ka3 : w4.cell? ⟨w.heap.size, 3, none⟩ = some (Value.bool false) := (Lib.cell_of_heap Xa.out 3).trans rfl
    have fa3 : w4.frozen? ⟨w.heap.size, 3, none⟩ = false := Lib.frozen_of_heap Xa.out 3
    have ka4 : w4.cell? ⟨w.heap.size, 4, none⟩ = some (Value.slice none 0 0) := (Lib.cell_of_heap Xa.out 4).trans rfl
    have fa4 : w4.frozen? ⟨w.heap.size, 4, none⟩ = false := Lib.frozen_of_heap Xa.out 4
    have ka5 : w4.cell? ⟨w.heap.size, 5, none⟩ = some (Value.string nm) := (Lib.cell_of_heap Xa.out 5).trans rfl
    have fa5 : w4.frozen? ⟨w.heap.size, 5, none⟩ = false := Lib.frozen_of_heap Xa.out 5
    have ka6 : w4.cell? ⟨w.heap.size, 6, none⟩ = some (Value.int .i64 p) := (Lib.cell_of_heap Xa.out 6).trans rfl
    have fa6 : w4.frozen? ⟨w.heap.size, 6, none⟩ = false := Lib.frozen_of_heap Xa.out 6
    have ka7 : w4.cell? ⟨w.heap.size, 7, none⟩ = some (Value.int .i64 q) := (Lib.cell_of_heap Xa.out 7).trans rfl
    have fa7 : w4.frozen? ⟨w.heap.size, 7, none⟩ = false := Lib.frozen_of_heap Xa.out 7
    have ka8 : w4.cell? ⟨w.heap.size, 8, none⟩ = some (Value.slice x k ck) := (Lib.cell_of_heap Xa.out 8).trans rfl
    have fa8 : w4.frozen? ⟨w.heap.size, 8, none⟩ = false := Lib.frozen_of_heap Xa.out 8
    have za : w.heap.size < w4.heap.size := hlt Xa.out
    go_wp2
    go_ret
    exact ⟨ret_bool (by rw [HO.out, H1.out]; first | rfl | simp), HB.out⟩

set_option maxHeartbeats 4000000 in
set_option maxRecDepth 20000 in
theorem ownI1 (n : Bool) (xs : List Nat) (m : Bool) (ys : List Nat) (nm : ByteArray) (p q : Int) (k : Nat) (a : Option Addr) (c : Nat) (b : Option Addr) (d : Nat) (x : Option Addr) (ck : Nat) (w : World) (s1 : Seg w a xs.length c xs) (s2 : Seg w b ys.length d ys) (hk : k ≤ 9223372036854775807) (htab : Tabs w) (hnm : nm.size ≤ 140737488355328) :
    Calls Tryz.prog 25 #[Value.agg #[Value.int .i64 1, Value.bool n, Value.slice a xs.length c, Value.bool m, Value.slice b ys.length d, Value.string nm, Value.int .i64 p, Value.int .i64 q, Value.slice x k ck]] w fun e w' => e = .returned (.bool (ownB 1 n xs m ys nm p q k)) ∧ Below w.heap.size w w' := by
  have q1 := s1.le
  have q2 := s2.le
  have sm := hide s1.2.2.2.1
  have S1 := hide s1
  have S2 := hide s2
  clear s1 s2
  have HT := hide htab
  clear htab
  have HO : Hid (ownB 1 n xs m ys nm p q k = (Nm.nameOkB nm && bareB n xs m ys ⟨#[]⟩ p q k)) := hide rfl
  have Xa : Hid ((w.alloc (Obj.cells #[Value.int .i64 1, Value.bool n, Value.slice a xs.length c, Value.bool m, Value.slice b ys.length d, Value.string nm, Value.int .i64 p, Value.int .i64 q, Value.slice x k ck] 37)).heap[w.heap.size]? = some (.cells #[Value.int .i64 1, Value.bool n, Value.slice a xs.length c, Value.bool m, Value.slice b ys.length d, Value.string nm, Value.int .i64 p, Value.int .i64 q, Value.slice x k ck] 37 (0, 0))) := hide (by simpa only [World.size_alloc] using (hnew w (Obj.cells #[Value.int .i64 1, Value.bool n, Value.slice a xs.length c, Value.bool m, Value.slice b ys.length d, Value.string nm, Value.int .i64 p, Value.int .i64 q, Value.slice x k ck] 37)))
  have HB : Hid (Below w.heap.size w (w.alloc (Obj.cells #[Value.int .i64 1, Value.bool n, Value.slice a xs.length c, Value.bool m, Value.slice b ys.length d, Value.string nm, Value.int .i64 p, Value.int .i64 q, Value.slice x k ck] 37))) := hide (bl_alloc (bl_refl w) (Obj.cells #[Value.int .i64 1, Value.bool n, Value.slice a xs.length c, Value.bool m, Value.slice b ys.length d, Value.string nm, Value.int .i64 p, Value.int .i64 q, Value.slice x k ck] 37))
  have yw1 : w.heap.size + 1 ≤ (w.alloc (Obj.cells #[Value.int .i64 1, Value.bool n, Value.slice a xs.length c, Value.bool m, Value.slice b ys.length d, Value.string nm, Value.int .i64 p, Value.int .i64 q, Value.slice x k ck] 37)).heap.size := by simp only [World.size_alloc]; omega
  have ka0 : (w.alloc (Obj.cells #[Value.int .i64 1, Value.bool n, Value.slice a xs.length c, Value.bool m, Value.slice b ys.length d, Value.string nm, Value.int .i64 p, Value.int .i64 q, Value.slice x k ck] 37)).cell? ⟨w.heap.size, 0, none⟩ = some (Value.int .i64 1) := (Lib.cell_of_heap Xa.out 0).trans rfl
  have fa0 : (w.alloc (Obj.cells #[Value.int .i64 1, Value.bool n, Value.slice a xs.length c, Value.bool m, Value.slice b ys.length d, Value.string nm, Value.int .i64 p, Value.int .i64 q, Value.slice x k ck] 37)).frozen? ⟨w.heap.size, 0, none⟩ = false := Lib.frozen_of_heap Xa.out 0
  have ka1 : (w.alloc (Obj.cells #[Value.int .i64 1, Value.bool n, Value.slice a xs.length c, Value.bool m, Value.slice b ys.length d, Value.string nm, Value.int .i64 p, Value.int .i64 q, Value.slice x k ck] 37)).cell? ⟨w.heap.size, 1, none⟩ = some (Value.bool n) := (Lib.cell_of_heap Xa.out 1).trans rfl
  have fa1 : (w.alloc (Obj.cells #[Value.int .i64 1, Value.bool n, Value.slice a xs.length c, Value.bool m, Value.slice b ys.length d, Value.string nm, Value.int .i64 p, Value.int .i64 q, Value.slice x k ck] 37)).frozen? ⟨w.heap.size, 1, none⟩ = false := Lib.frozen_of_heap Xa.out 1
  have ka2 : (w.alloc (Obj.cells #[Value.int .i64 1, Value.bool n, Value.slice a xs.length c, Value.bool m, Value.slice b ys.length d, Value.string nm, Value.int .i64 p, Value.int .i64 q, Value.slice x k ck] 37)).cell? ⟨w.heap.size, 2, none⟩ = some (Value.slice a xs.length c) := (Lib.cell_of_heap Xa.out 2).trans rfl
  have fa2 : (w.alloc (Obj.cells #[Value.int .i64 1, Value.bool n, Value.slice a xs.length c, Value.bool m, Value.slice b ys.length d, Value.string nm, Value.int .i64 p, Value.int .i64 q, Value.slice x k ck] 37)).frozen? ⟨w.heap.size, 2, none⟩ = false := Lib.frozen_of_heap Xa.out 2
  have ka3 : (w.alloc (Obj.cells #[Value.int .i64 1, Value.bool n, Value.slice a xs.length c, Value.bool m, Value.slice b ys.length d, Value.string nm, Value.int .i64 p, Value.int .i64 q, Value.slice x k ck] 37)).cell? ⟨w.heap.size, 3, none⟩ = some (Value.bool m) := (Lib.cell_of_heap Xa.out 3).trans rfl
  have fa3 : (w.alloc (Obj.cells #[Value.int .i64 1, Value.bool n, Value.slice a xs.length c, Value.bool m, Value.slice b ys.length d, Value.string nm, Value.int .i64 p, Value.int .i64 q, Value.slice x k ck] 37)).frozen? ⟨w.heap.size, 3, none⟩ = false := Lib.frozen_of_heap Xa.out 3
  have ka4 : (w.alloc (Obj.cells #[Value.int .i64 1, Value.bool n, Value.slice a xs.length c, Value.bool m, Value.slice b ys.length d, Value.string nm, Value.int .i64 p, Value.int .i64 q, Value.slice x k ck] 37)).cell? ⟨w.heap.size, 4, none⟩ = some (Value.slice b ys.length d) := (Lib.cell_of_heap Xa.out 4).trans rfl
  have fa4 : (w.alloc (Obj.cells #[Value.int .i64 1, Value.bool n, Value.slice a xs.length c, Value.bool m, Value.slice b ys.length d, Value.string nm, Value.int .i64 p, Value.int .i64 q, Value.slice x k ck] 37)).frozen? ⟨w.heap.size, 4, none⟩ = false := Lib.frozen_of_heap Xa.out 4
  have ka5 : (w.alloc (Obj.cells #[Value.int .i64 1, Value.bool n, Value.slice a xs.length c, Value.bool m, Value.slice b ys.length d, Value.string nm, Value.int .i64 p, Value.int .i64 q, Value.slice x k ck] 37)).cell? ⟨w.heap.size, 5, none⟩ = some (Value.string nm) := (Lib.cell_of_heap Xa.out 5).trans rfl
  have fa5 : (w.alloc (Obj.cells #[Value.int .i64 1, Value.bool n, Value.slice a xs.length c, Value.bool m, Value.slice b ys.length d, Value.string nm, Value.int .i64 p, Value.int .i64 q, Value.slice x k ck] 37)).frozen? ⟨w.heap.size, 5, none⟩ = false := Lib.frozen_of_heap Xa.out 5
  have ka6 : (w.alloc (Obj.cells #[Value.int .i64 1, Value.bool n, Value.slice a xs.length c, Value.bool m, Value.slice b ys.length d, Value.string nm, Value.int .i64 p, Value.int .i64 q, Value.slice x k ck] 37)).cell? ⟨w.heap.size, 6, none⟩ = some (Value.int .i64 p) := (Lib.cell_of_heap Xa.out 6).trans rfl
  have fa6 : (w.alloc (Obj.cells #[Value.int .i64 1, Value.bool n, Value.slice a xs.length c, Value.bool m, Value.slice b ys.length d, Value.string nm, Value.int .i64 p, Value.int .i64 q, Value.slice x k ck] 37)).frozen? ⟨w.heap.size, 6, none⟩ = false := Lib.frozen_of_heap Xa.out 6
  have ka7 : (w.alloc (Obj.cells #[Value.int .i64 1, Value.bool n, Value.slice a xs.length c, Value.bool m, Value.slice b ys.length d, Value.string nm, Value.int .i64 p, Value.int .i64 q, Value.slice x k ck] 37)).cell? ⟨w.heap.size, 7, none⟩ = some (Value.int .i64 q) := (Lib.cell_of_heap Xa.out 7).trans rfl
  have fa7 : (w.alloc (Obj.cells #[Value.int .i64 1, Value.bool n, Value.slice a xs.length c, Value.bool m, Value.slice b ys.length d, Value.string nm, Value.int .i64 p, Value.int .i64 q, Value.slice x k ck] 37)).frozen? ⟨w.heap.size, 7, none⟩ = false := Lib.frozen_of_heap Xa.out 7
  have ka8 : (w.alloc (Obj.cells #[Value.int .i64 1, Value.bool n, Value.slice a xs.length c, Value.bool m, Value.slice b ys.length d, Value.string nm, Value.int .i64 p, Value.int .i64 q, Value.slice x k ck] 37)).cell? ⟨w.heap.size, 8, none⟩ = some (Value.slice x k ck) := (Lib.cell_of_heap Xa.out 8).trans rfl
  have fa8 : (w.alloc (Obj.cells #[Value.int .i64 1, Value.bool n, Value.slice a xs.length c, Value.bool m, Value.slice b ys.length d, Value.string nm, Value.int .i64 p, Value.int .i64 q, Value.slice x k ck] 37)).frozen? ⟨w.heap.size, 8, none⟩ = false := Lib.frozen_of_heap Xa.out 8
  have za : w.heap.size < (w.alloc (Obj.cells #[Value.int .i64 1, Value.bool n, Value.slice a xs.length c, Value.bool m, Value.slice b ys.length d, Value.string nm, Value.int .i64 p, Value.int .i64 q, Value.slice x k ck] 37)).heap.size := hlt Xa.out
  go_enter Tryz.func25, Tryz.ntmps25
  go_wp2_with fail
  generalize (w.alloc (Obj.cells #[Value.int .i64 1, Value.bool n, Value.slice a xs.length c, Value.bool m, Value.slice b ys.length d, Value.string nm, Value.int .i64 p, Value.int .i64 q, Value.slice x k ck] 37)) = w1 at *
  refine (Nm.nameI nm _ hnm).mono ?_
  rintro e w2 ⟨rfl, hb⟩
  have yw2 := hb.size
  clear ka0 fa0 ka1 fa1 ka2 fa2 ka3 fa3 ka4 fa4 ka5 fa5 ka6 fa6 ka7 fa7 ka8 fa8 za
  replace Xa := hide (hbel Xa.out hb (by first | assumption | omega))
  replace HB := hide (bl_trans HB.out hb)
  clear hb
  have ka0 : w2.cell? ⟨w.heap.size, 0, none⟩ = some (Value.int .i64 1) := (Lib.cell_of_heap Xa.out 0).trans rfl
  have fa0 : w2.frozen? ⟨w.heap.size, 0, none⟩ = false := Lib.frozen_of_heap Xa.out 0
  have ka1 : w2.cell? ⟨w.heap.size, 1, none⟩ = some (Value.bool n) := (Lib.cell_of_heap Xa.out 1).trans rfl
  have fa1 : w2.frozen? ⟨w.heap.size, 1, none⟩ = false := Lib.frozen_of_heap Xa.out 1
  have ka2 : w2.cell? ⟨w.heap.size, 2, none⟩ = some (Value.slice a xs.length c) := (Lib.cell_of_heap Xa.out 2).trans rfl
  have fa2 : w2.frozen? ⟨w.heap.size, 2, none⟩ = false := Lib.frozen_of_heap Xa.out 2
  have ka3 : w2.cell? ⟨w.heap.size, 3, none⟩ = some (Value.bool m) := (Lib.cell_of_heap Xa.out 3).trans rfl
  have fa3 : w2.frozen? ⟨w.heap.size, 3, none⟩ = false := Lib.frozen_of_heap Xa.out 3
  have ka4 : w2.cell? ⟨w.heap.size, 4, none⟩ = some (Value.slice b ys.length d) := (Lib.cell_of_heap Xa.out 4).trans rfl
  have fa4 : w2.frozen? ⟨w.heap.size, 4, none⟩ = false := Lib.frozen_of_heap Xa.out 4
  have ka5 : w2.cell? ⟨w.heap.size, 5, none⟩ = some (Value.string nm) := (Lib.cell_of_heap Xa.out 5).trans rfl
  have fa5 : w2.frozen? ⟨w.heap.size, 5, none⟩ = false := Lib.frozen_of_heap Xa.out 5
  have ka6 : w2.cell? ⟨w.heap.size, 6, none⟩ = some (Value.int .i64 p) := (Lib.cell_of_heap Xa.out 6).trans rfl
  have fa6 : w2.frozen? ⟨w.heap.size, 6, none⟩ = false := Lib.frozen_of_heap Xa.out 6
  have ka7 : w2.cell? ⟨w.heap.size, 7, none⟩ = some (Value.int .i64 q) := (Lib.cell_of_heap Xa.out 7).trans rfl
  have fa7 : w2.frozen? ⟨w.heap.size, 7, none⟩ = false := Lib.frozen_of_heap Xa.out 7
  have ka8 : w2.cell? ⟨w.heap.size, 8, none⟩ = some (Value.slice x k ck) := (Lib.cell_of_heap Xa.out 8).trans rfl
  have fa8 : w2.frozen? ⟨w.heap.size, 8, none⟩ = false := Lib.frozen_of_heap Xa.out 8
  have za : w.heap.size < w2.heap.size := hlt Xa.out
  cases h1 : Nm.nameOkB nm with
  | false =>
    have H1 := hide h1
    clear h1
    go_wp2
    go_ret
    exact ⟨ret_bool (by rw [HO.out, H1.out]; first | rfl | simp), St.below HB.out (st_cells w.heap.size [Value.string ⟨#[]⟩] 5 _ _ (St.refl _ _)) (by omega)⟩
  | true =>
    have H1 := hide h1
    clear h1
    go_wp2_with fail
    obtain ⟨w3, ew3⟩ : ∃ x, x = (w2.setCell ⟨w.heap.size, 5, none⟩ (Value.string ⟨#[]⟩)) := ⟨_, rfl⟩
    have hst : St (w.heap.size) w2 w3 := by rw [ew3]; exact ((St.refl (w.heap.size) w2).set 5 (Value.string ⟨#[]⟩))
    rw [← ew3]
    have XX : Hid (w3.heap[w.heap.size]? = some (.cells #[Value.int .i64 1, Value.bool n, Value.slice a xs.length c, Value.bool m, Value.slice b ys.length d, Value.string ⟨#[]⟩, Value.int .i64 p, Value.int .i64 q, Value.slice x k ck] 37 (0, 0))) := hide (by rw [ew3]; exact (hset Xa.out 5 (Value.string ⟨#[]⟩)))
    have yw3 : w2.heap.size ≤ w3.heap.size := Nat.le_of_eq hst.size.symm
    clear ew3
    clear ka0 fa0 ka1 fa1 ka2 fa2 ka3 fa3 ka4 fa4 ka5 fa5 ka6 fa6 ka7 fa7 ka8 fa8 za
    replace HB := hide (St.below HB.out hst (by omega))
    have Xa := XX
    clear XX hst
    have ka0 : w3.cell? ⟨w.heap.size, 0, none⟩ = some (Value.int .i64 1) := (Lib.cell_of_heap Xa.out 0).trans rfl
    have fa0 : w3.frozen? ⟨w.heap.size, 0, none⟩ = false := Lib.frozen_of_heap Xa.out 0
    have ka1 : w3.cell? ⟨w.heap.size, 1, none⟩ = some (Value.bool n) := (Lib.cell_of_heap Xa.out 1).trans rfl
    have fa1 : w3.frozen? ⟨w.heap.size, 1, none⟩ = false := Lib.frozen_of_heap Xa.out 1
    have ka2 : w3.cell? ⟨w.heap.size, 2, none⟩ = some (Value.slice a xs.length c) := (Lib.cell_of_heap Xa.out 2).trans rfl
    have fa2 : w3.frozen? ⟨w.heap.size, 2, none⟩ = false := Lib.frozen_of_heap Xa.out 2
    have ka3 : w3.cell? ⟨w.heap.size, 3, none⟩ = some (Value.bool m) := (Lib.cell_of_heap Xa.out 3).trans rfl
    have fa3 : w3.frozen? ⟨w.heap.size, 3, none⟩ = false := Lib.frozen_of_heap Xa.out 3
    have ka4 : w3.cell? ⟨w.heap.size, 4, none⟩ = some (Value.slice b ys.length d) := (Lib.cell_of_heap Xa.out 4).trans rfl
    have fa4 : w3.frozen? ⟨w.heap.size, 4, none⟩ = false := Lib.frozen_of_heap Xa.out 4
    have ka5 : w3.cell? ⟨w.heap.size, 5, none⟩ = some (Value.string ⟨#[]⟩) := (Lib.cell_of_heap Xa.out 5).trans rfl
    have fa5 : w3.frozen? ⟨w.heap.size, 5, none⟩ = false := Lib.frozen_of_heap Xa.out 5
    have ka6 : w3.cell? ⟨w.heap.size, 6, none⟩ = some (Value.int .i64 p) := (Lib.cell_of_heap Xa.out 6).trans rfl
    have fa6 : w3.frozen? ⟨w.heap.size, 6, none⟩ = false := Lib.frozen_of_heap Xa.out 6
    have ka7 : w3.cell? ⟨w.heap.size, 7, none⟩ = some (Value.int .i64 q) := (Lib.cell_of_heap Xa.out 7).trans rfl
    have fa7 : w3.frozen? ⟨w.heap.size, 7, none⟩ = false := Lib.frozen_of_heap Xa.out 7
    have ka8 : w3.cell? ⟨w.heap.size, 8, none⟩ = some (Value.slice x k ck) := (Lib.cell_of_heap Xa.out 8).trans rfl
    have fa8 : w3.frozen? ⟨w.heap.size, 8, none⟩ = false := Lib.frozen_of_heap Xa.out 8
    have za : w.heap.size < w3.heap.size := hlt Xa.out
    refine (bareI 1 n xs m ys ⟨#[]⟩ p q k a c b d x ck _ (S1.out.below HB.out) (S2.out.below HB.out) hk).mono ?_
    rintro e w4 ⟨rfl, hb⟩
    have yw4 := hb.size
    clear ka0 fa0 ka1 fa1 ka2 fa2 ka3 fa3 ka4 fa4 ka5 fa5 ka6 fa6 ka7 fa7 ka8 fa8 za
    replace Xa := hide (hbel Xa.out hb (by first | assumption | omega))
    replace HB := hide (bl_trans HB.out hb)
    clear hb
    have ka0 : w4.cell? ⟨w.heap.size, 0, none⟩ = some (Value.int .i64 1) := (Lib.cell_of_heap Xa.out 0).trans rfl
    have fa0 : w4.frozen? ⟨w.heap.size, 0, none⟩ = false := Lib.frozen_of_heap Xa.out 0
    have ka1 : w4.cell? ⟨w.heap.size, 1, none⟩ = some (Value.bool n) := (Lib.cell_of_heap Xa.out 1).trans rfl
    have fa1 : w4.frozen? ⟨w.heap.size, 1, none⟩ = false := Lib.frozen_of_heap Xa.out 1
    have ka2 : w4.cell? ⟨w.heap.size, 2, none⟩ = some (Value.slice a xs.length c) := (Lib.cell_of_heap Xa.out 2).trans rfl
    have fa2 : w4.frozen? ⟨w.heap.size, 2, none⟩ = false := Lib.frozen_of_heap Xa.out 2
    have ka3 : w4.cell? ⟨w.heap.size, 3, none⟩ = some (Value.bool m) := (Lib.cell_of_heap Xa.out 3).trans rfl
    have fa3 : w4.frozen? ⟨w.heap.size, 3, none⟩ = false := Lib.frozen_of_heap Xa.out 3
    have ka4 : w4.cell? ⟨w.heap.size, 4, none⟩ = some (Value.slice b ys.length d) := (Lib.cell_of_heap Xa.out 4).trans rfl
    have fa4 : w4.frozen? ⟨w.heap.size, 4, none⟩ = false := Lib.frozen_of_heap Xa.out 4
    have ka5 : w4.cell? ⟨w.heap.size, 5, none⟩ = some (Value.string ⟨#[]⟩) := (Lib.cell_of_heap Xa.out 5).trans rfl
    have fa5 : w4.frozen? ⟨w.heap.size, 5, none⟩ = false := Lib.frozen_of_heap Xa.out 5
    have ka6 : w4.cell? ⟨w.heap.size, 6, none⟩ = some (Value.int .i64 p) := (Lib.cell_of_heap Xa.out 6).trans rfl
    have fa6 : w4.frozen? ⟨w.heap.size, 6, none⟩ = false := Lib.frozen_of_heap Xa.out 6
    have ka7 : w4.cell? ⟨w.heap.size, 7, none⟩ = some (Value.int .i64 q) := (Lib.cell_of_heap Xa.out 7).trans rfl
    have fa7 : w4.frozen? ⟨w.heap.size, 7, none⟩ = false := Lib.frozen_of_heap Xa.out 7
    have ka8 : w4.cell? ⟨w.heap.size, 8, none⟩ = some (Value.slice x k ck) := (Lib.cell_of_heap Xa.out 8).trans rfl
    have fa8 : w4.frozen? ⟨w.heap.size, 8, none⟩ = false := Lib.frozen_of_heap Xa.out 8
    have za : w.heap.size < w4.heap.size := hlt Xa.out
    go_wp2
    go_ret
    exact ⟨ret_bool (by rw [HO.out, H1.out]; first | rfl | simp), HB.out⟩

set_option maxHeartbeats 4000000 in
set_option maxRecDepth 20000 in
theorem ownI2 (n : Bool) (xs : List Nat) (m : Bool) (ys : List Nat) (nm : ByteArray) (p q : Int) (k : Nat) (a : Option Addr) (c : Nat) (b : Option Addr) (d : Nat) (x : Option Addr) (ck : Nat) (w : World) (s1 : Seg w a xs.length c xs) (s2 : Seg w b ys.length d ys) (hk : k ≤ 9223372036854775807) (htab : Tabs w) (hnm : nm.size ≤ 140737488355328) :
    Calls Tryz.prog 25 #[Value.agg #[Value.int .i64 2, Value.bool n, Value.slice a xs.length c, Value.bool m, Value.slice b ys.length d, Value.string nm, Value.int .i64 p, Value.int .i64 q, Value.slice x k ck]] w fun e w' => e = .returned (.bool (ownB 2 n xs m ys nm p q k)) ∧ Below w.heap.size w w' := by
  have q1 := s1.le
  have q2 := s2.le
  have sm := hide s1.2.2.2.1
  have S1 := hide s1
  have S2 := hide s2
  clear s1 s2
  have HT := hide htab
  clear htab
  have HO : Hid (ownB 2 n xs m ys nm p q k = (decide (k = 2) && bareB n xs m ys nm p q 0)) := hide rfl
  by_cases hl : k = 2
  case neg =>
    have HL : Hid (decide (k = 2) = false) := hide (decide_eq_false hl)
    have hl2 : ((k : Int) == 2) = false := by rw [beq_eq_false_iff_ne]; omega
    clear hl
    have HB0 := hide (bl_alloc (bl_refl w) (Obj.cells #[Value.int .i64 2, Value.bool n, Value.slice a xs.length c, Value.bool m, Value.slice b ys.length d, Value.string nm, Value.int .i64 p, Value.int .i64 q, Value.slice none 0 0] 37))
    go_enter Tryz.func25, Tryz.ntmps25
    go_wp2
    go_ret
    exact ⟨ret_bool (by rw [HO.out, HL.out]; first | rfl | simp), HB0.out⟩
  have HL : Hid (decide (k = 2) = true) := hide (decide_eq_true hl)
  have hl2 : ((k : Int) == 2) = true := by rw [beq_iff_eq]; omega
  clear hl
  have Xa : Hid ((w.alloc (Obj.cells #[Value.int .i64 2, Value.bool n, Value.slice a xs.length c, Value.bool m, Value.slice b ys.length d, Value.string nm, Value.int .i64 p, Value.int .i64 q, Value.slice none 0 0] 37)).heap[w.heap.size]? = some (.cells #[Value.int .i64 2, Value.bool n, Value.slice a xs.length c, Value.bool m, Value.slice b ys.length d, Value.string nm, Value.int .i64 p, Value.int .i64 q, Value.slice none 0 0] 37 (0, 0))) := hide (by simpa only [World.size_alloc] using (hnew w (Obj.cells #[Value.int .i64 2, Value.bool n, Value.slice a xs.length c, Value.bool m, Value.slice b ys.length d, Value.string nm, Value.int .i64 p, Value.int .i64 q, Value.slice none 0 0] 37)))
  have HB : Hid (Below w.heap.size w (w.alloc (Obj.cells #[Value.int .i64 2, Value.bool n, Value.slice a xs.length c, Value.bool m, Value.slice b ys.length d, Value.string nm, Value.int .i64 p, Value.int .i64 q, Value.slice none 0 0] 37))) := hide (bl_alloc (bl_refl w) (Obj.cells #[Value.int .i64 2, Value.bool n, Value.slice a xs.length c, Value.bool m, Value.slice b ys.length d, Value.string nm, Value.int .i64 p, Value.int .i64 q, Value.slice none 0 0] 37))
  have yw1 : w.heap.size + 1 ≤ (w.alloc (Obj.cells #[Value.int .i64 2, Value.bool n, Value.slice a xs.length c, Value.bool m, Value.slice b ys.length d, Value.string nm, Value.int .i64 p, Value.int .i64 q, Value.slice none 0 0] 37)).heap.size := by simp only [World.size_alloc]; omega
  have ka0 : (w.alloc (Obj.cells #[Value.int .i64 2, Value.bool n, Value.slice a xs.length c, Value.bool m, Value.slice b ys.length d, Value.string nm, Value.int .i64 p, Value.int .i64 q, Value.slice none 0 0] 37)).cell? ⟨w.heap.size, 0, none⟩ = some (Value.int .i64 2) := (Lib.cell_of_heap Xa.out 0).trans rfl
  have fa0 : (w.alloc (Obj.cells #[Value.int .i64 2, Value.bool n, Value.slice a xs.length c, Value.bool m, Value.slice b ys.length d, Value.string nm, Value.int .i64 p, Value.int .i64 q, Value.slice none 0 0] 37)).frozen? ⟨w.heap.size, 0, none⟩ = false := Lib.frozen_of_heap Xa.out 0
  have ka1 : (w.alloc (Obj.cells #[Value.int .i64 2, Value.bool n, Value.slice a xs.length c, Value.bool m, Value.slice b ys.length d, Value.string nm, Value.int .i64 p, Value.int .i64 q, Value.slice none 0 0] 37)).cell? ⟨w.heap.size, 1, none⟩ = some (Value.bool n) := (Lib.cell_of_heap Xa.out 1).trans rfl
  have fa1 : (w.alloc (Obj.cells #[Value.int .i64 2, Value.bool n, Value.slice a xs.length c, Value.bool m, Value.slice b ys.length d, Value.string nm, Value.int .i64 p, Value.int .i64 q, Value.slice none 0 0] 37)).frozen? ⟨w.heap.size, 1, none⟩ = false := Lib.frozen_of_heap Xa.out 1
  have ka2 : (w.alloc (Obj.cells #[Value.int .i64 2, Value.bool n, Value.slice a xs.length c, Value.bool m, Value.slice b ys.length d, Value.string nm, Value.int .i64 p, Value.int .i64 q, Value.slice none 0 0] 37)).cell? ⟨w.heap.size, 2, none⟩ = some (Value.slice a xs.length c) := (Lib.cell_of_heap Xa.out 2).trans rfl
  have fa2 : (w.alloc (Obj.cells #[Value.int .i64 2, Value.bool n, Value.slice a xs.length c, Value.bool m, Value.slice b ys.length d, Value.string nm, Value.int .i64 p, Value.int .i64 q, Value.slice none 0 0] 37)).frozen? ⟨w.heap.size, 2, none⟩ = false := Lib.frozen_of_heap Xa.out 2
  have ka3 : (w.alloc (Obj.cells #[Value.int .i64 2, Value.bool n, Value.slice a xs.length c, Value.bool m, Value.slice b ys.length d, Value.string nm, Value.int .i64 p, Value.int .i64 q, Value.slice none 0 0] 37)).cell? ⟨w.heap.size, 3, none⟩ = some (Value.bool m) := (Lib.cell_of_heap Xa.out 3).trans rfl
  have fa3 : (w.alloc (Obj.cells #[Value.int .i64 2, Value.bool n, Value.slice a xs.length c, Value.bool m, Value.slice b ys.length d, Value.string nm, Value.int .i64 p, Value.int .i64 q, Value.slice none 0 0] 37)).frozen? ⟨w.heap.size, 3, none⟩ = false := Lib.frozen_of_heap Xa.out 3
  have ka4 : (w.alloc (Obj.cells #[Value.int .i64 2, Value.bool n, Value.slice a xs.length c, Value.bool m, Value.slice b ys.length d, Value.string nm, Value.int .i64 p, Value.int .i64 q, Value.slice none 0 0] 37)).cell? ⟨w.heap.size, 4, none⟩ = some (Value.slice b ys.length d) := (Lib.cell_of_heap Xa.out 4).trans rfl
  have fa4 : (w.alloc (Obj.cells #[Value.int .i64 2, Value.bool n, Value.slice a xs.length c, Value.bool m, Value.slice b ys.length d, Value.string nm, Value.int .i64 p, Value.int .i64 q, Value.slice none 0 0] 37)).frozen? ⟨w.heap.size, 4, none⟩ = false := Lib.frozen_of_heap Xa.out 4
  have ka5 : (w.alloc (Obj.cells #[Value.int .i64 2, Value.bool n, Value.slice a xs.length c, Value.bool m, Value.slice b ys.length d, Value.string nm, Value.int .i64 p, Value.int .i64 q, Value.slice none 0 0] 37)).cell? ⟨w.heap.size, 5, none⟩ = some (Value.string nm) := (Lib.cell_of_heap Xa.out 5).trans rfl
  have fa5 : (w.alloc (Obj.cells #[Value.int .i64 2, Value.bool n, Value.slice a xs.length c, Value.bool m, Value.slice b ys.length d, Value.string nm, Value.int .i64 p, Value.int .i64 q, Value.slice none 0 0] 37)).frozen? ⟨w.heap.size, 5, none⟩ = false := Lib.frozen_of_heap Xa.out 5
  have ka6 : (w.alloc (Obj.cells #[Value.int .i64 2, Value.bool n, Value.slice a xs.length c, Value.bool m, Value.slice b ys.length d, Value.string nm, Value.int .i64 p, Value.int .i64 q, Value.slice none 0 0] 37)).cell? ⟨w.heap.size, 6, none⟩ = some (Value.int .i64 p) := (Lib.cell_of_heap Xa.out 6).trans rfl
  have fa6 : (w.alloc (Obj.cells #[Value.int .i64 2, Value.bool n, Value.slice a xs.length c, Value.bool m, Value.slice b ys.length d, Value.string nm, Value.int .i64 p, Value.int .i64 q, Value.slice none 0 0] 37)).frozen? ⟨w.heap.size, 6, none⟩ = false := Lib.frozen_of_heap Xa.out 6
  have ka7 : (w.alloc (Obj.cells #[Value.int .i64 2, Value.bool n, Value.slice a xs.length c, Value.bool m, Value.slice b ys.length d, Value.string nm, Value.int .i64 p, Value.int .i64 q, Value.slice none 0 0] 37)).cell? ⟨w.heap.size, 7, none⟩ = some (Value.int .i64 q) := (Lib.cell_of_heap Xa.out 7).trans rfl
  have fa7 : (w.alloc (Obj.cells #[Value.int .i64 2, Value.bool n, Value.slice a xs.length c, Value.bool m, Value.slice b ys.length d, Value.string nm, Value.int .i64 p, Value.int .i64 q, Value.slice none 0 0] 37)).frozen? ⟨w.heap.size, 7, none⟩ = false := Lib.frozen_of_heap Xa.out 7
  have ka8 : (w.alloc (Obj.cells #[Value.int .i64 2, Value.bool n, Value.slice a xs.length c, Value.bool m, Value.slice b ys.length d, Value.string nm, Value.int .i64 p, Value.int .i64 q, Value.slice none 0 0] 37)).cell? ⟨w.heap.size, 8, none⟩ = some (Value.slice none 0 0) := (Lib.cell_of_heap Xa.out 8).trans rfl
  have fa8 : (w.alloc (Obj.cells #[Value.int .i64 2, Value.bool n, Value.slice a xs.length c, Value.bool m, Value.slice b ys.length d, Value.string nm, Value.int .i64 p, Value.int .i64 q, Value.slice none 0 0] 37)).frozen? ⟨w.heap.size, 8, none⟩ = false := Lib.frozen_of_heap Xa.out 8
  have za : w.heap.size < (w.alloc (Obj.cells #[Value.int .i64 2, Value.bool n, Value.slice a xs.length c, Value.bool m, Value.slice b ys.length d, Value.string nm, Value.int .i64 p, Value.int .i64 q, Value.slice none 0 0] 37)).heap.size := hlt Xa.out
  go_enter Tryz.func25, Tryz.ntmps25
  go_wp2_with fail
  generalize (w.alloc (Obj.cells #[Value.int .i64 2, Value.bool n, Value.slice a xs.length c, Value.bool m, Value.slice b ys.length d, Value.string nm, Value.int .i64 p, Value.int .i64 q, Value.slice none 0 0] 37)) = w1 at *
  refine (bareI 2 n xs m ys nm p q 0 a c b d none 0 _ (S1.out.below HB.out) (S2.out.below HB.out) (by omega)).mono ?_
  rintro e w2 ⟨rfl, hb⟩
  have yw2 := hb.size
  clear ka0 fa0 ka1 fa1 ka2 fa2 ka3 fa3 ka4 fa4 ka5 fa5 ka6 fa6 ka7 fa7 ka8 fa8 za
  replace Xa := hide (hbel Xa.out hb (by first | assumption | omega))
  replace HB := hide (bl_trans HB.out hb)
  clear hb
  have ka0 : w2.cell? ⟨w.heap.size, 0, none⟩ = some (Value.int .i64 2) := (Lib.cell_of_heap Xa.out 0).trans rfl
  have fa0 : w2.frozen? ⟨w.heap.size, 0, none⟩ = false := Lib.frozen_of_heap Xa.out 0
  have ka1 : w2.cell? ⟨w.heap.size, 1, none⟩ = some (Value.bool n) := (Lib.cell_of_heap Xa.out 1).trans rfl
  have fa1 : w2.frozen? ⟨w.heap.size, 1, none⟩ = false := Lib.frozen_of_heap Xa.out 1
  have ka2 : w2.cell? ⟨w.heap.size, 2, none⟩ = some (Value.slice a xs.length c) := (Lib.cell_of_heap Xa.out 2).trans rfl
  have fa2 : w2.frozen? ⟨w.heap.size, 2, none⟩ = false := Lib.frozen_of_heap Xa.out 2
  have ka3 : w2.cell? ⟨w.heap.size, 3, none⟩ = some (Value.bool m) := (Lib.cell_of_heap Xa.out 3).trans rfl
  have fa3 : w2.frozen? ⟨w.heap.size, 3, none⟩ = false := Lib.frozen_of_heap Xa.out 3
  have ka4 : w2.cell? ⟨w.heap.size, 4, none⟩ = some (Value.slice b ys.length d) := (Lib.cell_of_heap Xa.out 4).trans rfl
  have fa4 : w2.frozen? ⟨w.heap.size, 4, none⟩ = false := Lib.frozen_of_heap Xa.out 4
  have ka5 : w2.cell? ⟨w.heap.size, 5, none⟩ = some (Value.string nm) := (Lib.cell_of_heap Xa.out 5).trans rfl
  have fa5 : w2.frozen? ⟨w.heap.size, 5, none⟩ = false := Lib.frozen_of_heap Xa.out 5
  have ka6 : w2.cell? ⟨w.heap.size, 6, none⟩ = some (Value.int .i64 p) := (Lib.cell_of_heap Xa.out 6).trans rfl
  have fa6 : w2.frozen? ⟨w.heap.size, 6, none⟩ = false := Lib.frozen_of_heap Xa.out 6
  have ka7 : w2.cell? ⟨w.heap.size, 7, none⟩ = some (Value.int .i64 q) := (Lib.cell_of_heap Xa.out 7).trans rfl
  have fa7 : w2.frozen? ⟨w.heap.size, 7, none⟩ = false := Lib.frozen_of_heap Xa.out 7
  have ka8 : w2.cell? ⟨w.heap.size, 8, none⟩ = some (Value.slice none 0 0) := (Lib.cell_of_heap Xa.out 8).trans rfl
  have fa8 : w2.frozen? ⟨w.heap.size, 8, none⟩ = false := Lib.frozen_of_heap Xa.out 8
  have za : w.heap.size < w2.heap.size := hlt Xa.out
  go_wp2
  go_ret
  exact ⟨ret_bool (by rw [HO.out, HL.out]; first | rfl | simp), HB.out⟩

set_option maxHeartbeats 4000000 in
set_option maxRecDepth 20000 in
theorem ownI3 (n : Bool) (xs : List Nat) (m : Bool) (ys : List Nat) (nm : ByteArray) (p q : Int) (k : Nat) (a : Option Addr) (c : Nat) (b : Option Addr) (d : Nat) (x : Option Addr) (ck : Nat) (w : World) (s1 : Seg w a xs.length c xs) (s2 : Seg w b ys.length d ys) (hk : k ≤ 9223372036854775807) (htab : Tabs w) (hnm : nm.size ≤ 140737488355328) :
    Calls Tryz.prog 25 #[Value.agg #[Value.int .i64 3, Value.bool n, Value.slice a xs.length c, Value.bool m, Value.slice b ys.length d, Value.string nm, Value.int .i64 p, Value.int .i64 q, Value.slice x k ck]] w fun e w' => e = .returned (.bool (ownB 3 n xs m ys nm p q k)) ∧ Below w.heap.size w w' := by
  have q1 := s1.le
  have q2 := s2.le
  have sm := hide s1.2.2.2.1
  have S1 := hide s1
  have S2 := hide s2
  clear s1 s2
  have HT := hide htab
  clear htab
  have HO : Hid (ownB 3 n xs m ys nm p q k = (decide (k = 2) && bareB n xs m ys nm p q 0)) := hide rfl
  by_cases hl : k = 2
  case neg =>
    have HL : Hid (decide (k = 2) = false) := hide (decide_eq_false hl)
    have hl2 : ((k : Int) == 2) = false := by rw [beq_eq_false_iff_ne]; omega
    clear hl
    have HB0 := hide (bl_alloc (bl_refl w) (Obj.cells #[Value.int .i64 3, Value.bool n, Value.slice a xs.length c, Value.bool m, Value.slice b ys.length d, Value.string nm, Value.int .i64 p, Value.int .i64 q, Value.slice none 0 0] 37))
    go_enter Tryz.func25, Tryz.ntmps25
    go_wp2
    go_ret
    exact ⟨ret_bool (by rw [HO.out, HL.out]; first | rfl | simp), HB0.out⟩
  have HL : Hid (decide (k = 2) = true) := hide (decide_eq_true hl)
  have hl2 : ((k : Int) == 2) = true := by rw [beq_iff_eq]; omega
  clear hl
  have Xa : Hid ((w.alloc (Obj.cells #[Value.int .i64 3, Value.bool n, Value.slice a xs.length c, Value.bool m, Value.slice b ys.length d, Value.string nm, Value.int .i64 p, Value.int .i64 q, Value.slice none 0 0] 37)).heap[w.heap.size]? = some (.cells #[Value.int .i64 3, Value.bool n, Value.slice a xs.length c, Value.bool m, Value.slice b ys.length d, Value.string nm, Value.int .i64 p, Value.int .i64 q, Value.slice none 0 0] 37 (0, 0))) := hide (by simpa only [World.size_alloc] using (hnew w (Obj.cells #[Value.int .i64 3, Value.bool n, Value.slice a xs.length c, Value.bool m, Value.slice b ys.length d, Value.string nm, Value.int .i64 p, Value.int .i64 q, Value.slice none 0 0] 37)))
  have HB : Hid (Below w.heap.size w (w.alloc (Obj.cells #[Value.int .i64 3, Value.bool n, Value.slice a xs.length c, Value.bool m, Value.slice b ys.length d, Value.string nm, Value.int .i64 p, Value.int .i64 q, Value.slice none 0 0] 37))) := hide (bl_alloc (bl_refl w) (Obj.cells #[Value.int .i64 3, Value.bool n, Value.slice a xs.length c, Value.bool m, Value.slice b ys.length d, Value.string nm, Value.int .i64 p, Value.int .i64 q, Value.slice none 0 0] 37))
  have yw1 : w.heap.size + 1 ≤ (w.alloc (Obj.cells #[Value.int .i64 3, Value.bool n, Value.slice a xs.length c, Value.bool m, Value.slice b ys.length d, Value.string nm, Value.int .i64 p, Value.int .i64 q, Value.slice none 0 0] 37)).heap.size := by simp only [World.size_alloc]; omega
  have ka0 : (w.alloc (Obj.cells #[Value.int .i64 3, Value.bool n, Value.slice a xs.length c, Value.bool m, Value.slice b ys.length d, Value.string nm, Value.int .i64 p, Value.int .i64 q, Value.slice none 0 0] 37)).cell? ⟨w.heap.size, 0, none⟩ = some (Value.int .i64 3) := (Lib.cell_of_heap Xa.out 0).trans rfl
  have fa0 : (w.alloc (Obj.cells #[Value.int .i64 3, Value.bool n, Value.slice a xs.length c, Value.bool m, Value.slice b ys.length d, Value.string nm, Value.int .i64 p, Value.int .i64 q, Value.slice none 0 0] 37)).frozen? ⟨w.heap.size, 0, none⟩ = false := Lib.frozen_of_heap Xa.out 0
  have ka1 : (w.alloc (Obj.cells #[Value.int .i64 3, Value.bool n, Value.slice a xs.length c, Value.bool m, Value.slice b ys.length d, Value.string nm, Value.int .i64 p, Value.int .i64 q, Value.slice none 0 0] 37)).cell? ⟨w.heap.size, 1, none⟩ = some (Value.bool n) := (Lib.cell_of_heap Xa.out 1).trans rfl
  have fa1 : (w.alloc (Obj.cells #[Value.int .i64 3, Value.bool n, Value.slice a xs.length c, Value.bool m, Value.slice b ys.length d, Value.string nm, Value.int .i64 p, Value.int .i64 q, Value.slice none 0 0] 37)).frozen? ⟨w.heap.size, 1, none⟩ = false := Lib.frozen_of_heap Xa.out 1
  have ka2 : (w.alloc (Obj.cells #[Value.int .i64 3, Value.bool n, Value.slice a xs.length c, Value.bool m, Value.slice b ys.length d, Value.string nm, Value.int .i64 p, Value.int .i64 q, Value.slice none 0 0] 37)).cell? ⟨w.heap.size, 2, none⟩ = some (Value.slice a xs.length c) := (Lib.cell_of_heap Xa.out 2).trans rfl
  have fa2 : (w.alloc (Obj.cells #[Value.int .i64 3, Value.bool n, Value.slice a xs.length c, Value.bool m, Value.slice b ys.length d, Value.string nm, Value.int .i64 p, Value.int .i64 q, Value.slice none 0 0] 37)).frozen? ⟨w.heap.size, 2, none⟩ = false := Lib.frozen_of_heap Xa.out 2
  have ka3 : (w.alloc (Obj.cells #[Value.int .i64 3, Value.bool n, Value.slice a xs.length c, Value.bool m, Value.slice b ys.length d, Value.string nm, Value.int .i64 p, Value.int .i64 q, Value.slice none 0 0] 37)).cell? ⟨w.heap.size, 3, none⟩ = some (Value.bool m) := (Lib.cell_of_heap Xa.out 3).trans rfl
  have fa3 : (w.alloc (Obj.cells #[Value.int .i64 3, Value.bool n, Value.slice a xs.length c, Value.bool m, Value.slice b ys.length d, Value.string nm, Value.int .i64 p, Value.int .i64 q, Value.slice none 0 0] 37)).frozen? ⟨w.heap.size, 3, none⟩ = false := Lib.frozen_of_heap Xa.out 3
  have ka4 : (w.alloc (Obj.cells #[Value.int .i64 3, Value.bool n, Value.slice a xs.length c, Value.bool m, Value.slice b ys.length d, Value.string nm, Value.int .i64 p, Value.int .i64 q, Value.slice none 0 0] 37)).cell? ⟨w.heap.size, 4, none⟩ = some (Value.slice b ys.length d) := (Lib.cell_of_heap Xa.out 4).trans rfl
  have fa4 : (w.alloc (Obj.cells #[Value.int .i64 3, Value.bool n, Value.slice a xs.length c, Value.bool m, Value.slice b ys.length d, Value.string nm, Value.int .i64 p, Value.int .i64 q, Value.slice none 0 0] 37)).frozen? ⟨w.heap.size, 4, none⟩ = false := Lib.frozen_of_heap Xa.out 4
  have ka5 : (w.alloc (Obj.cells #[Value.int .i64 3, Value.bool n, Value.slice a xs.length c, Value.bool m, Value.slice b ys.length d, Value.string nm, Value.int .i64 p, Value.int .i64 q, Value.slice none 0 0] 37)).cell? ⟨w.heap.size, 5, none⟩ = some (Value.string nm) := (Lib.cell_of_heap Xa.out 5).trans rfl
  have fa5 : (w.alloc (Obj.cells #[Value.int .i64 3, Value.bool n, Value.slice a xs.length c, Value.bool m, Value.slice b ys.length d, Value.string nm, Value.int .i64 p, Value.int .i64 q, Value.slice none 0 0] 37)).frozen? ⟨w.heap.size, 5, none⟩ = false := Lib.frozen_of_heap Xa.out 5
  have ka6 : (w.alloc (Obj.cells #[Value.int .i64 3, Value.bool n, Value.slice a xs.length c, Value.bool m, Value.slice b ys.length d, Value.string nm, Value.int .i64 p, Value.int .i64 q, Value.slice none 0 0] 37)).cell? ⟨w.heap.size, 6, none⟩ = some (Value.int .i64 p) := (Lib.cell_of_heap Xa.out 6).trans rfl
  have fa6 : (w.alloc (Obj.cells #[Value.int .i64 3, Value.bool n, Value.slice a xs.length c, Value.bool m, Value.slice b ys.length d, Value.string nm, Value.int .i64 p, Value.int .i64 q, Value.slice none 0 0] 37)).frozen? ⟨w.heap.size, 6, none⟩ = false := Lib.frozen_of_heap Xa.out 6
  have ka7 : (w.alloc (Obj.cells #[Value.int .i64 3, Value.bool n, Value.slice a xs.length c, Value.bool m, Value.slice b ys.length d, Value.string nm, Value.int .i64 p, Value.int .i64 q, Value.slice none 0 0] 37)).cell? ⟨w.heap.size, 7, none⟩ = some (Value.int .i64 q) := (Lib.cell_of_heap Xa.out 7).trans rfl
  have fa7 : (w.alloc (Obj.cells #[Value.int .i64 3, Value.bool n, Value.slice a xs.length c, Value.bool m, Value.slice b ys.length d, Value.string nm, Value.int .i64 p, Value.int .i64 q, Value.slice none 0 0] 37)).frozen? ⟨w.heap.size, 7, none⟩ = false := Lib.frozen_of_heap Xa.out 7
  have ka8 : (w.alloc (Obj.cells #[Value.int .i64 3, Value.bool n, Value.slice a xs.length c, Value.bool m, Value.slice b ys.length d, Value.string nm, Value.int .i64 p, Value.int .i64 q, Value.slice none 0 0] 37)).cell? ⟨w.heap.size, 8, none⟩ = some (Value.slice none 0 0) := (Lib.cell_of_heap Xa.out 8).trans rfl
  have fa8 : (w.alloc (Obj.cells #[Value.int .i64 3, Value.bool n, Value.slice a xs.length c, Value.bool m, Value.slice b ys.length d, Value.string nm, Value.int .i64 p, Value.int .i64 q, Value.slice none 0 0] 37)).frozen? ⟨w.heap.size, 8, none⟩ = false := Lib.frozen_of_heap Xa.out 8
  have za : w.heap.size < (w.alloc (Obj.cells #[Value.int .i64 3, Value.bool n, Value.slice a xs.length c, Value.bool m, Value.slice b ys.length d, Value.string nm, Value.int .i64 p, Value.int .i64 q, Value.slice none 0 0] 37)).heap.size := hlt Xa.out
  go_enter Tryz.func25, Tryz.ntmps25
  go_wp2_with fail
  generalize (w.alloc (Obj.cells #[Value.int .i64 3, Value.bool n, Value.slice a xs.length c, Value.bool m, Value.slice b ys.length d, Value.string nm, Value.int .i64 p, Value.int .i64 q, Value.slice none 0 0] 37)) = w1 at *
  refine (bareI 3 n xs m ys nm p q 0 a c b d none 0 _ (S1.out.below HB.out) (S2.out.below HB.out) (by omega)).mono ?_
  rintro e w2 ⟨rfl, hb⟩
  have yw2 := hb.size
  clear ka0 fa0 ka1 fa1 ka2 fa2 ka3 fa3 ka4 fa4 ka5 fa5 ka6 fa6 ka7 fa7 ka8 fa8 za
  replace Xa := hide (hbel Xa.out hb (by first | assumption | omega))
  replace HB := hide (bl_trans HB.out hb)
  clear hb
  have ka0 : w2.cell? ⟨w.heap.size, 0, none⟩ = some (Value.int .i64 3) := (Lib.cell_of_heap Xa.out 0).trans rfl
  have fa0 : w2.frozen? ⟨w.heap.size, 0, none⟩ = false := Lib.frozen_of_heap Xa.out 0
  have ka1 : w2.cell? ⟨w.heap.size, 1, none⟩ = some (Value.bool n) := (Lib.cell_of_heap Xa.out 1).trans rfl
  have fa1 : w2.frozen? ⟨w.heap.size, 1, none⟩ = false := Lib.frozen_of_heap Xa.out 1
  have ka2 : w2.cell? ⟨w.heap.size, 2, none⟩ = some (Value.slice a xs.length c) := (Lib.cell_of_heap Xa.out 2).trans rfl
  have fa2 : w2.frozen? ⟨w.heap.size, 2, none⟩ = false := Lib.frozen_of_heap Xa.out 2
  have ka3 : w2.cell? ⟨w.heap.size, 3, none⟩ = some (Value.bool m) := (Lib.cell_of_heap Xa.out 3).trans rfl
  have fa3 : w2.frozen? ⟨w.heap.size, 3, none⟩ = false := Lib.frozen_of_heap Xa.out 3
  have ka4 : w2.cell? ⟨w.heap.size, 4, none⟩ = some (Value.slice b ys.length d) := (Lib.cell_of_heap Xa.out 4).trans rfl
  have fa4 : w2.frozen? ⟨w.heap.size, 4, none⟩ = false := Lib.frozen_of_heap Xa.out 4
  have ka5 : w2.cell? ⟨w.heap.size, 5, none⟩ = some (Value.string nm) := (Lib.cell_of_heap Xa.out 5).trans rfl
  have fa5 : w2.frozen? ⟨w.heap.size, 5, none⟩ = false := Lib.frozen_of_heap Xa.out 5
  have ka6 : w2.cell? ⟨w.heap.size, 6, none⟩ = some (Value.int .i64 p) := (Lib.cell_of_heap Xa.out 6).trans rfl
  have fa6 : w2.frozen? ⟨w.heap.size, 6, none⟩ = false := Lib.frozen_of_heap Xa.out 6
  have ka7 : w2.cell? ⟨w.heap.size, 7, none⟩ = some (Value.int .i64 q) := (Lib.cell_of_heap Xa.out 7).trans rfl
  have fa7 : w2.frozen? ⟨w.heap.size, 7, none⟩ = false := Lib.frozen_of_heap Xa.out 7
  have ka8 : w2.cell? ⟨w.heap.size, 8, none⟩ = some (Value.slice none 0 0) := (Lib.cell_of_heap Xa.out 8).trans rfl
  have fa8 : w2.frozen? ⟨w.heap.size, 8, none⟩ = false := Lib.frozen_of_heap Xa.out 8
  have za : w.heap.size < w2.heap.size := hlt Xa.out
  go_wp2
  go_ret
  exact ⟨ret_bool (by rw [HO.out, HL.out]; first | rfl | simp), HB.out⟩

set_option maxHeartbeats 4000000 in
set_option maxRecDepth 20000 in
theorem ownI4 (n : Bool) (xs : List Nat) (m : Bool) (ys : List Nat) (nm : ByteArray) (p q : Int) (k : Nat) (a : Option Addr) (c : Nat) (b : Option Addr) (d : Nat) (x : Option Addr) (ck : Nat) (w : World) (s1 : Seg w a xs.length c xs) (s2 : Seg w b ys.length d ys) (hk : k ≤ 9223372036854775807) (htab : Tabs w) (hnm : nm.size ≤ 140737488355328) :
    Calls Tryz.prog 25 #[Value.agg #[Value.int .i64 4, Value.bool n, Value.slice a xs.length c, Value.bool m, Value.slice b ys.length d, Value.string nm, Value.int .i64 p, Value.int .i64 q, Value.slice x k ck]] w fun e w' => e = .returned (.bool (ownB 4 n xs m ys nm p q k)) ∧ Below w.heap.size w w' := by
  have q1 := s1.le
  have q2 := s2.le
  have sm := hide s1.2.2.2.1
  have S1 := hide s1
  have S2 := hide s2
  clear s1 s2
  have HT := hide htab
  clear htab
  have HO : Hid (ownB 4 n xs m ys nm p q k = (decide (k = 2) && bareB n xs m ys nm p q 0)) := hide rfl
  by_cases hl : k = 2
  case neg =>
    have HL : Hid (decide (k = 2) = false) := hide (decide_eq_false hl)
    have hl2 : ((k : Int) == 2) = false := by rw [beq_eq_false_iff_ne]; omega
    clear hl
    have HB0 := hide (bl_alloc (bl_refl w) (Obj.cells #[Value.int .i64 4, Value.bool n, Value.slice a xs.length c, Value.bool m, Value.slice b ys.length d, Value.string nm, Value.int .i64 p, Value.int .i64 q, Value.slice none 0 0] 37))
    go_enter Tryz.func25, Tryz.ntmps25
    go_wp2
    go_ret
    exact ⟨ret_bool (by rw [HO.out, HL.out]; first | rfl | simp), HB0.out⟩
  have HL : Hid (decide (k = 2) = true) := hide (decide_eq_true hl)
  have hl2 : ((k : Int) == 2) = true := by rw [beq_iff_eq]; omega
  clear hl
  have Xa : Hid ((w.alloc (Obj.cells #[Value.int .i64 4, Value.bool n, Value.slice a xs.length c, Value.bool m, Value.slice b ys.length d, Value.string nm, Value.int .i64 p, Value.int .i64 q, Value.slice none 0 0] 37)).heap[w.heap.size]? = some (.cells #[Value.int .i64 4, Value.bool n, Value.slice a xs.length c, Value.bool m, Value.slice b ys.length d, Value.string nm, Value.int .i64 p, Value.int .i64 q, Value.slice none 0 0] 37 (0, 0))) := hide (by simpa only [World.size_alloc] using (hnew w (Obj.cells #[Value.int .i64 4, Value.bool n, Value.slice a xs.length c, Value.bool m, Value.slice b ys.length d, Value.string nm, Value.int .i64 p, Value.int .i64 q, Value.slice none 0 0] 37)))
  have HB : Hid (Below w.heap.size w (w.alloc (Obj.cells #[Value.int .i64 4, Value.bool n, Value.slice a xs.length c, Value.bool m, Value.slice b ys.length d, Value.string nm, Value.int .i64 p, Value.int .i64 q, Value.slice none 0 0] 37))) := hide (bl_alloc (bl_refl w) (Obj.cells #[Value.int .i64 4, Value.bool n, Value.slice a xs.length c, Value.bool m, Value.slice b ys.length d, Value.string nm, Value.int .i64 p, Value.int .i64 q, Value.slice none 0 0] 37))
  have yw1 : w.heap.size + 1 ≤ (w.alloc (Obj.cells #[Value.int .i64 4, Value.bool n, Value.slice a xs.length c, Value.bool m, Value.slice b ys.length d, Value.string nm, Value.int .i64 p, Value.int .i64 q, Value.slice none 0 0] 37)).heap.size := by simp only [World.size_alloc]; omega
  have ka0 : (w.alloc (Obj.cells #[Value.int .i64 4, Value.bool n, Value.slice a xs.length c, Value.bool m, Value.slice b ys.length d, Value.string nm, Value.int .i64 p, Value.int .i64 q, Value.slice none 0 0] 37)).cell? ⟨w.heap.size, 0, none⟩ = some (Value.int .i64 4) := (Lib.cell_of_heap Xa.out 0).trans rfl
  have fa0 : (w.alloc (Obj.cells #[Value.int .i64 4, Value.bool n, Value.slice a xs.length c, Value.bool m, Value.slice b ys.length d, Value.string nm, Value.int .i64 p, Value.int .i64 q, Value.slice none 0 0] 37)).frozen? ⟨w.heap.size, 0, none⟩ = false := Lib.frozen_of_heap Xa.out 0
  have ka1 : (w.alloc (Obj.cells #[Value.int .i64 4, Value.bool n, Value.slice a xs.length c, Value.bool m, Value.slice b ys.length d, Value.string nm, Value.int .i64 p, Value.int .i64 q, Value.slice none 0 0] 37)).cell? ⟨w.heap.size, 1, none⟩ = some (Value.bool n) := (Lib.cell_of_heap Xa.out 1).trans rfl
  have fa1 : (w.alloc (Obj.cells #[Value.int .i64 4, Value.bool n, Value.slice a xs.length c, Value.bool m, Value.slice b ys.length d, Value.string nm, Value.int .i64 p, Value.int .i64 q, Value.slice none 0 0] 37)).frozen? ⟨w.heap.size, 1, none⟩ = false := Lib.frozen_of_heap Xa.out 1
  have ka2 : (w.alloc (Obj.cells #[Value.int .i64 4, Value.bool n, Value.slice a xs.length c, Value.bool m, Value.slice b ys.length d, Value.string nm, Value.int .i64 p, Value.int .i64 q, Value.slice none 0 0] 37)).cell? ⟨w.heap.size, 2, none⟩ = some (Value.slice a xs.length c) := (Lib.cell_of_heap Xa.out 2).trans rfl
  have fa2 : (w.alloc (Obj.cells #[Value.int .i64 4, Value.bool n, Value.slice a xs.length c, Value.bool m, Value.slice b ys.length d, Value.string nm, Value.int .i64 p, Value.int .i64 q, Value.slice none 0 0] 37)).frozen? ⟨w.heap.size, 2, none⟩ = false := Lib.frozen_of_heap Xa.out 2
  have ka3 : (w.alloc (Obj.cells #[Value.int .i64 4, Value.bool n, Value.slice a xs.length c, Value.bool m, Value.slice b ys.length d, Value.string nm, Value.int .i64 p, Value.int .i64 q, Value.slice none 0 0] 37)).cell? ⟨w.heap.size, 3, none⟩ = some (Value.bool m) := (Lib.cell_of_heap Xa.out 3).trans rfl
  have fa3 : (w.alloc (Obj.cells #[Value.int .i64 4, Value.bool n, Value.slice a xs.length c, Value.bool m, Value.slice b ys.length d, Value.string nm, Value.int .i64 p, Value.int .i64 q, Value.slice none 0 0] 37)).frozen? ⟨w.heap.size, 3, none⟩ = false := Lib.frozen_of_heap Xa.out 3
  have ka4 : (w.alloc (Obj.cells #[Value.int .i64 4, Value.bool n, Value.slice a xs.length c, Value.bool m, Value.slice b ys.length d, Value.string nm, Value.int .i64 p, Value.int .i64 q, Value.slice none 0 0] 37)).cell? ⟨w.heap.size, 4, none⟩ = some (Value.slice b ys.length d) := (Lib.cell_of_heap Xa.out 4).trans rfl
  have fa4 : (w.alloc (Obj.cells #[Value.int .i64 4, Value.bool n, Value.slice a xs.length c, Value.bool m, Value.slice b ys.length d, Value.string nm, Value.int .i64 p, Value.int .i64 q, Value.slice none 0 0] 37)).frozen? ⟨w.heap.size, 4, none⟩ = false := Lib.frozen_of_heap Xa.out 4
  have ka5 : (w.alloc (Obj.cells #[Value.int .i64 4, Value.bool n, Value.slice a xs.length c, Value.bool m, Value.slice b ys.length d, Value.string nm, Value.int .i64 p, Value.int .i64 q, Value.slice none 0 0] 37)).cell? ⟨w.heap.size, 5, none⟩ = some (Value.string nm) := (Lib.cell_of_heap Xa.out 5).trans rfl
  have fa5 : (w.alloc (Obj.cells #[Value.int .i64 4, Value.bool n, Value.slice a xs.length c, Value.bool m, Value.slice b ys.length d, Value.string nm, Value.int .i64 p, Value.int .i64 q, Value.slice none 0 0] 37)).frozen? ⟨w.heap.size, 5, none⟩ = false := Lib.frozen_of_heap Xa.out 5
  have ka6 : (w.alloc (Obj.cells #[Value.int .i64 4, Value.bool n, Value.slice a xs.length c, Value.bool m, Value.slice b ys.length d, Value.string nm, Value.int .i64 p, Value.int .i64 q, Value.slice none 0 0] 37)).cell? ⟨w.heap.size, 6, none⟩ = some (Value.int .i64 p) := (Lib.cell_of_heap Xa.out 6).trans rfl
  have fa6 : (w.alloc (Obj.cells #[Value.int .i64 4, Value.bool n, Value.slice a xs.length c, Value.bool m, Value.slice b ys.length d, Value.string nm, Value.int .i64 p, Value.int .i64 q, Value.slice none 0 0] 37)).frozen? ⟨w.heap.size, 6, none⟩ = false := Lib.frozen_of_heap Xa.out 6
  have ka7 : (w.alloc (Obj.cells #[Value.int .i64 4, Value.bool n, Value.slice a xs.length c, Value.bool m, Value.slice b ys.length d, Value.string nm, Value.int .i64 p, Value.int .i64 q, Value.slice none 0 0] 37)).cell? ⟨w.heap.size, 7, none⟩ = some (Value.int .i64 q) := (Lib.cell_of_heap Xa.out 7).trans rfl
  have fa7 : (w.alloc (Obj.cells #[Value.int .i64 4, Value.bool n, Value.slice a xs.length c, Value.bool m, Value.slice b ys.length d, Value.string nm, Value.int .i64 p, Value.int .i64 q, Value.slice none 0 0] 37)).frozen? ⟨w.heap.size, 7, none⟩ = false := Lib.frozen_of_heap Xa.out 7
  have ka8 : (w.alloc (Obj.cells #[Value.int .i64 4, Value.bool n, Value.slice a xs.length c, Value.bool m, Value.slice b ys.length d, Value.string nm, Value.int .i64 p, Value.int .i64 q, Value.slice none 0 0] 37)).cell? ⟨w.heap.size, 8, none⟩ = some (Value.slice none 0 0) := (Lib.cell_of_heap Xa.out 8).trans rfl
  have fa8 : (w.alloc (Obj.cells #[Value.int .i64 4, Value.bool n, Value.slice a xs.length c, Value.bool m, Value.slice b ys.length d, Value.string nm, Value.int .i64 p, Value.int .i64 q, Value.slice none 0 0] 37)).frozen? ⟨w.heap.size, 8, none⟩ = false := Lib.frozen_of_heap Xa.out 8
  have za : w.heap.size < (w.alloc (Obj.cells #[Value.int .i64 4, Value.bool n, Value.slice a xs.length c, Value.bool m, Value.slice b ys.length d, Value.string nm, Value.int .i64 p, Value.int .i64 q, Value.slice none 0 0] 37)).heap.size := hlt Xa.out
  go_enter Tryz.func25, Tryz.ntmps25
  go_wp2_with fail
  generalize (w.alloc (Obj.cells #[Value.int .i64 4, Value.bool n, Value.slice a xs.length c, Value.bool m, Value.slice b ys.length d, Value.string nm, Value.int .i64 p, Value.int .i64 q, Value.slice none 0 0] 37)) = w1 at *
  refine (bareI 4 n xs m ys nm p q 0 a c b d none 0 _ (S1.out.below HB.out) (S2.out.below HB.out) (by omega)).mono ?_
  rintro e w2 ⟨rfl, hb⟩
  have yw2 := hb.size
  clear ka0 fa0 ka1 fa1 ka2 fa2 ka3 fa3 ka4 fa4 ka5 fa5 ka6 fa6 ka7 fa7 ka8 fa8 za
  replace Xa := hide (hbel Xa.out hb (by first | assumption | omega))
  replace HB := hide (bl_trans HB.out hb)
  clear hb
  have ka0 : w2.cell? ⟨w.heap.size, 0, none⟩ = some (Value.int .i64 4) := (Lib.cell_of_heap Xa.out 0).trans rfl
  have fa0 : w2.frozen? ⟨w.heap.size, 0, none⟩ = false := Lib.frozen_of_heap Xa.out 0
  have ka1 : w2.cell? ⟨w.heap.size, 1, none⟩ = some (Value.bool n) := (Lib.cell_of_heap Xa.out 1).trans rfl
  have fa1 : w2.frozen? ⟨w.heap.size, 1, none⟩ = false := Lib.frozen_of_heap Xa.out 1
  have ka2 : w2.cell? ⟨w.heap.size, 2, none⟩ = some (Value.slice a xs.length c) := (Lib.cell_of_heap Xa.out 2).trans rfl
  have fa2 : w2.frozen? ⟨w.heap.size, 2, none⟩ = false := Lib.frozen_of_heap Xa.out 2
  have ka3 : w2.cell? ⟨w.heap.size, 3, none⟩ = some (Value.bool m) := (Lib.cell_of_heap Xa.out 3).trans rfl
  have fa3 : w2.frozen? ⟨w.heap.size, 3, none⟩ = false := Lib.frozen_of_heap Xa.out 3
  have ka4 : w2.cell? ⟨w.heap.size, 4, none⟩ = some (Value.slice b ys.length d) := (Lib.cell_of_heap Xa.out 4).trans rfl
  have fa4 : w2.frozen? ⟨w.heap.size, 4, none⟩ = false := Lib.frozen_of_heap Xa.out 4
  have ka5 : w2.cell? ⟨w.heap.size, 5, none⟩ = some (Value.string nm) := (Lib.cell_of_heap Xa.out 5).trans rfl
  have fa5 : w2.frozen? ⟨w.heap.size, 5, none⟩ = false := Lib.frozen_of_heap Xa.out 5
  have ka6 : w2.cell? ⟨w.heap.size, 6, none⟩ = some (Value.int .i64 p) := (Lib.cell_of_heap Xa.out 6).trans rfl
  have fa6 : w2.frozen? ⟨w.heap.size, 6, none⟩ = false := Lib.frozen_of_heap Xa.out 6
  have ka7 : w2.cell? ⟨w.heap.size, 7, none⟩ = some (Value.int .i64 q) := (Lib.cell_of_heap Xa.out 7).trans rfl
  have fa7 : w2.frozen? ⟨w.heap.size, 7, none⟩ = false := Lib.frozen_of_heap Xa.out 7
  have ka8 : w2.cell? ⟨w.heap.size, 8, none⟩ = some (Value.slice none 0 0) := (Lib.cell_of_heap Xa.out 8).trans rfl
  have fa8 : w2.frozen? ⟨w.heap.size, 8, none⟩ = false := Lib.frozen_of_heap Xa.out 8
  have za : w.heap.size < w2.heap.size := hlt Xa.out
  go_wp2
  go_ret
  exact ⟨ret_bool (by rw [HO.out, HL.out]; first | rfl | simp), HB.out⟩

set_option maxHeartbeats 4000000 in
set_option maxRecDepth 20000 in
theorem ownI5 (n : Bool) (xs : List Nat) (m : Bool) (ys : List Nat) (nm : ByteArray) (p q : Int) (k : Nat) (a : Option Addr) (c : Nat) (b : Option Addr) (d : Nat) (x : Option Addr) (ck : Nat) (w : World) (s1 : Seg w a xs.length c xs) (s2 : Seg w b ys.length d ys) (hk : k ≤ 9223372036854775807) (htab : Tabs w) (hnm : nm.size ≤ 140737488355328) :
    Calls Tryz.prog 25 #[Value.agg #[Value.int .i64 5, Value.bool n, Value.slice a xs.length c, Value.bool m, Value.slice b ys.length d, Value.string nm, Value.int .i64 p, Value.int .i64 q, Value.slice x k ck]] w fun e w' => e = .returned (.bool (ownB 5 n xs m ys nm p q k)) ∧ Below w.heap.size w w' := by
  have q1 := s1.le
  have q2 := s2.le
  have sm := hide s1.2.2.2.1
  have S1 := hide s1
  have S2 := hide s2
  clear s1 s2
  have HT := hide htab
  clear htab
  have HO : Hid (ownB 5 n xs m ys nm p q k = (decide (k = 2) && bareB n xs m ys nm p q 0)) := hide rfl
  by_cases hl : k = 2
  case neg =>
    have HL : Hid (decide (k = 2) = false) := hide (decide_eq_false hl)
    have hl2 : ((k : Int) == 2) = false := by rw [beq_eq_false_iff_ne]; omega
    clear hl
    have HB0 := hide (bl_alloc (bl_refl w) (Obj.cells #[Value.int .i64 5, Value.bool n, Value.slice a xs.length c, Value.bool m, Value.slice b ys.length d, Value.string nm, Value.int .i64 p, Value.int .i64 q, Value.slice none 0 0] 37))
    go_enter Tryz.func25, Tryz.ntmps25
    go_wp2
    go_ret
    exact ⟨ret_bool (by rw [HO.out, HL.out]; first | rfl | simp), HB0.out⟩
  have HL : Hid (decide (k = 2) = true) := hide (decide_eq_true hl)
  have hl2 : ((k : Int) == 2) = true := by rw [beq_iff_eq]; omega
  clear hl
  have Xa : Hid ((w.alloc (Obj.cells #[Value.int .i64 5, Value.bool n, Value.slice a xs.length c, Value.bool m, Value.slice b ys.length d, Value.string nm, Value.int .i64 p, Value.int .i64 q, Value.slice none 0 0] 37)).heap[w.heap.size]? = some (.cells #[Value.int .i64 5, Value.bool n, Value.slice a xs.length c, Value.bool m, Value.slice b ys.length d, Value.string nm, Value.int .i64 p, Value.int .i64 q, Value.slice none 0 0] 37 (0, 0))) := hide (by simpa only [World.size_alloc] using (hnew w (Obj.cells #[Value.int .i64 5, Value.bool n, Value.slice a xs.length c, Value.bool m, Value.slice b ys.length d, Value.string nm, Value.int .i64 p, Value.int .i64 q, Value.slice none 0 0] 37)))
  have HB : Hid (Below w.heap.size w (w.alloc (Obj.cells #[Value.int .i64 5, Value.bool n, Value.slice a xs.length c, Value.bool m, Value.slice b ys.length d, Value.string nm, Value.int .i64 p, Value.int .i64 q, Value.slice none 0 0] 37))) := hide (bl_alloc (bl_refl w) (Obj.cells #[Value.int .i64 5, Value.bool n, Value.slice a xs.length c, Value.bool m, Value.slice b ys.length d, Value.string nm, Value.int .i64 p, Value.int .i64 q, Value.slice none 0 0] 37))
  have yw1 : w.heap.size + 1 ≤ (w.alloc (Obj.cells #[Value.int .i64 5, Value.bool n, Value.slice a xs.length c, Value.bool m, Value.slice b ys.length d, Value.string nm, Value.int .i64 p, Value.int .i64 q, Value.slice none 0 0] 37)).heap.size := by simp only [World.size_alloc]; omega
  have ka0 : (w.alloc (Obj.cells #[Value.int .i64 5, Value.bool n, Value.slice a xs.length c, Value.bool m, Value.slice b ys.length d, Value.string nm, Value.int .i64 p, Value.int .i64 q, Value.slice none 0 0] 37)).cell? ⟨w.heap.size, 0, none⟩ = some (Value.int .i64 5) := (Lib.cell_of_heap Xa.out 0).trans rfl
  have fa0 : (w.alloc (Obj.cells #[Value.int .i64 5, Value.bool n, Value.slice a xs.length c, Value.bool m, Value.slice b ys.length d, Value.string nm, Value.int .i64 p, Value.int .i64 q, Value.slice none 0 0] 37)).frozen? ⟨w.heap.size, 0, none⟩ = false := Lib.frozen_of_heap Xa.out 0
  have ka1 : (w.alloc (Obj.cells #[Value.int .i64 5, Value.bool n, Value.slice a xs.length c, Value.bool m, Value.slice b ys.length d, Value.string nm, Value.int .i64 p, Value.int .i64 q, Value.slice none 0 0] 37)).cell? ⟨w.heap.size, 1, none⟩ = some (Value.bool n) := (Lib.cell_of_heap Xa.out 1).trans rfl
  have fa1 : (w.alloc (Obj.cells #[Value.int .i64 5, Value.bool n, Value.slice a xs.length c, Value.bool m, Value.slice b ys.length d, Value.string nm, Value.int .i64 p, Value.int .i64 q, Value.slice none 0 0] 37)).frozen? ⟨w.heap.size, 1, none⟩ = false := Lib.frozen_of_heap Xa.out 1
  have ka2 : (w.alloc (Obj.cells #[Value.int .i64 5, Value.bool n, Value.slice a xs.length c, Value.bool m, Value.slice b ys.length d, Value.string nm, Value.int .i64 p, Value.int .i64 q, Value.slice none 0 0] 37)).cell? ⟨w.heap.size, 2, none⟩ = some (Value.slice a xs.length c) := (Lib.cell_of_heap Xa.out 2).trans rfl
  have fa2 : (w.alloc (Obj.cells #[Value.int .i64 5, Value.bool n, Value.slice a xs.length c, Value.bool m, Value.slice b ys.length d, Value.string nm, Value.int .i64 p, Value.int .i64 q, Value.slice none 0 0] 37)).frozen? ⟨w.heap.size, 2, none⟩ = false := Lib.frozen_of_heap Xa.out 2
  have ka3 : (w.alloc (Obj.cells #[Value.int .i64 5, Value.bool n, Value.slice a xs.length c, Value.bool m, Value.slice b ys.length d, Value.string nm, Value.int .i64 p, Value.int .i64 q, Value.slice none 0 0] 37)).cell? ⟨w.heap.size, 3, none⟩ = some (Value.bool m) := (Lib.cell_of_heap Xa.out 3).trans rfl
  have fa3 : (w.alloc (Obj.cells #[Value.int .i64 5, Value.bool n, Value.slice a xs.length c, Value.bool m, Value.slice b ys.length d, Value.string nm, Value.int .i64 p, Value.int .i64 q, Value.slice none 0 0] 37)).frozen? ⟨w.heap.size, 3, none⟩ = false := Lib.frozen_of_heap Xa.out 3
  have ka4 : (w.alloc (Obj.cells #[Value.int .i64 5, Value.bool n, Value.slice a xs.length c, Value.bool m, Value.slice b ys.length d, Value.string nm, Value.int .i64 p, Value.int .i64 q, Value.slice none 0 0] 37)).cell? ⟨w.heap.size, 4, none⟩ = some (Value.slice b ys.length d) := (Lib.cell_of_heap Xa.out 4).trans rfl
  have fa4 : (w.alloc (Obj.cells #[Value.int .i64 5, Value.bool n, Value.slice a xs.length c, Value.bool m, Value.slice b ys.length d, Value.string nm, Value.int .i64 p, Value.int .i64 q, Value.slice none 0 0] 37)).frozen? ⟨w.heap.size, 4, none⟩ = false := Lib.frozen_of_heap Xa.out 4
  have ka5 : (w.alloc (Obj.cells #[Value.int .i64 5, Value.bool n, Value.slice a xs.length c, Value.bool m, Value.slice b ys.length d, Value.string nm, Value.int .i64 p, Value.int .i64 q, Value.slice none 0 0] 37)).cell? ⟨w.heap.size, 5, none⟩ = some (Value.string nm) := (Lib.cell_of_heap Xa.out 5).trans rfl
  have fa5 : (w.alloc (Obj.cells #[Value.int .i64 5, Value.bool n, Value.slice a xs.length c, Value.bool m, Value.slice b ys.length d, Value.string nm, Value.int .i64 p, Value.int .i64 q, Value.slice none 0 0] 37)).frozen? ⟨w.heap.size, 5, none⟩ = false := Lib.frozen_of_heap Xa.out 5
  have ka6 : (w.alloc (Obj.cells #[Value.int .i64 5, Value.bool n, Value.slice a xs.length c, Value.bool m, Value.slice b ys.length d, Value.string nm, Value.int .i64 p, Value.int .i64 q, Value.slice none 0 0] 37)).cell? ⟨w.heap.size, 6, none⟩ = some (Value.int .i64 p) := (Lib.cell_of_heap Xa.out 6).trans rfl
  have fa6 : (w.alloc (Obj.cells #[Value.int .i64 5, Value.bool n, Value.slice a xs.length c, Value.bool m, Value.slice b ys.length d, Value.string nm, Value.int .i64 p, Value.int .i64 q, Value.slice none 0 0] 37)).frozen? ⟨w.heap.size, 6, none⟩ = false := Lib.frozen_of_heap Xa.out 6
  have ka7 : (w.alloc (Obj.cells #[Value.int .i64 5, Value.bool n, Value.slice a xs.length c, Value.bool m, Value.slice b ys.length d, Value.string nm, Value.int .i64 p, Value.int .i64 q, Value.slice none 0 0] 37)).cell? ⟨w.heap.size, 7, none⟩ = some (Value.int .i64 q) := (Lib.cell_of_heap Xa.out 7).trans rfl
  have fa7 : (w.alloc (Obj.cells #[Value.int .i64 5, Value.bool n, Value.slice a xs.length c, Value.bool m, Value.slice b ys.length d, Value.string nm, Value.int .i64 p, Value.int .i64 q, Value.slice none 0 0] 37)).frozen? ⟨w.heap.size, 7, none⟩ = false := Lib.frozen_of_heap Xa.out 7
  have ka8 : (w.alloc (Obj.cells #[Value.int .i64 5, Value.bool n, Value.slice a xs.length c, Value.bool m, Value.slice b ys.length d, Value.string nm, Value.int .i64 p, Value.int .i64 q, Value.slice none 0 0] 37)).cell? ⟨w.heap.size, 8, none⟩ = some (Value.slice none 0 0) := (Lib.cell_of_heap Xa.out 8).trans rfl
  have fa8 : (w.alloc (Obj.cells #[Value.int .i64 5, Value.bool n, Value.slice a xs.length c, Value.bool m, Value.slice b ys.length d, Value.string nm, Value.int .i64 p, Value.int .i64 q, Value.slice none 0 0] 37)).frozen? ⟨w.heap.size, 8, none⟩ = false := Lib.frozen_of_heap Xa.out 8
  have za : w.heap.size < (w.alloc (Obj.cells #[Value.int .i64 5, Value.bool n, Value.slice a xs.length c, Value.bool m, Value.slice b ys.length d, Value.string nm, Value.int .i64 p, Value.int .i64 q, Value.slice none 0 0] 37)).heap.size := hlt Xa.out
  go_enter Tryz.func25, Tryz.ntmps25
  go_wp2_with fail
  generalize (w.alloc (Obj.cells #[Value.int .i64 5, Value.bool n, Value.slice a xs.length c, Value.bool m, Value.slice b ys.length d, Value.string nm, Value.int .i64 p, Value.int .i64 q, Value.slice none 0 0] 37)) = w1 at *
  refine (bareI 5 n xs m ys nm p q 0 a c b d none 0 _ (S1.out.below HB.out) (S2.out.below HB.out) (by omega)).mono ?_
  rintro e w2 ⟨rfl, hb⟩
  have yw2 := hb.size
  clear ka0 fa0 ka1 fa1 ka2 fa2 ka3 fa3 ka4 fa4 ka5 fa5 ka6 fa6 ka7 fa7 ka8 fa8 za
  replace Xa := hide (hbel Xa.out hb (by first | assumption | omega))
  replace HB := hide (bl_trans HB.out hb)
  clear hb
  have ka0 : w2.cell? ⟨w.heap.size, 0, none⟩ = some (Value.int .i64 5) := (Lib.cell_of_heap Xa.out 0).trans rfl
  have fa0 : w2.frozen? ⟨w.heap.size, 0, none⟩ = false := Lib.frozen_of_heap Xa.out 0
  have ka1 : w2.cell? ⟨w.heap.size, 1, none⟩ = some (Value.bool n) := (Lib.cell_of_heap Xa.out 1).trans rfl
  have fa1 : w2.frozen? ⟨w.heap.size, 1, none⟩ = false := Lib.frozen_of_heap Xa.out 1
  have ka2 : w2.cell? ⟨w.heap.size, 2, none⟩ = some (Value.slice a xs.length c) := (Lib.cell_of_heap Xa.out 2).trans rfl
  have fa2 : w2.frozen? ⟨w.heap.size, 2, none⟩ = false := Lib.frozen_of_heap Xa.out 2
  have ka3 : w2.cell? ⟨w.heap.size, 3, none⟩ = some (Value.bool m) := (Lib.cell_of_heap Xa.out 3).trans rfl
  have fa3 : w2.frozen? ⟨w.heap.size, 3, none⟩ = false := Lib.frozen_of_heap Xa.out 3
  have ka4 : w2.cell? ⟨w.heap.size, 4, none⟩ = some (Value.slice b ys.length d) := (Lib.cell_of_heap Xa.out 4).trans rfl
  have fa4 : w2.frozen? ⟨w.heap.size, 4, none⟩ = false := Lib.frozen_of_heap Xa.out 4
  have ka5 : w2.cell? ⟨w.heap.size, 5, none⟩ = some (Value.string nm) := (Lib.cell_of_heap Xa.out 5).trans rfl
  have fa5 : w2.frozen? ⟨w.heap.size, 5, none⟩ = false := Lib.frozen_of_heap Xa.out 5
  have ka6 : w2.cell? ⟨w.heap.size, 6, none⟩ = some (Value.int .i64 p) := (Lib.cell_of_heap Xa.out 6).trans rfl
  have fa6 : w2.frozen? ⟨w.heap.size, 6, none⟩ = false := Lib.frozen_of_heap Xa.out 6
  have ka7 : w2.cell? ⟨w.heap.size, 7, none⟩ = some (Value.int .i64 q) := (Lib.cell_of_heap Xa.out 7).trans rfl
  have fa7 : w2.frozen? ⟨w.heap.size, 7, none⟩ = false := Lib.frozen_of_heap Xa.out 7
  have ka8 : w2.cell? ⟨w.heap.size, 8, none⟩ = some (Value.slice none 0 0) := (Lib.cell_of_heap Xa.out 8).trans rfl
  have fa8 : w2.frozen? ⟨w.heap.size, 8, none⟩ = false := Lib.frozen_of_heap Xa.out 8
  have za : w.heap.size < w2.heap.size := hlt Xa.out
  go_wp2
  go_ret
  exact ⟨ret_bool (by rw [HO.out, HL.out]; first | rfl | simp), HB.out⟩

set_option maxHeartbeats 4000000 in
set_option maxRecDepth 20000 in
theorem ownI6 (n : Bool) (xs : List Nat) (m : Bool) (ys : List Nat) (nm : ByteArray) (p q : Int) (k : Nat) (a : Option Addr) (c : Nat) (b : Option Addr) (d : Nat) (x : Option Addr) (ck : Nat) (w : World) (s1 : Seg w a xs.length c xs) (s2 : Seg w b ys.length d ys) (hk : k ≤ 9223372036854775807) (htab : Tabs w) (hnm : nm.size ≤ 140737488355328) :
    Calls Tryz.prog 25 #[Value.agg #[Value.int .i64 6, Value.bool n, Value.slice a xs.length c, Value.bool m, Value.slice b ys.length d, Value.string nm, Value.int .i64 p, Value.int .i64 q, Value.slice x k ck]] w fun e w' => e = .returned (.bool (ownB 6 n xs m ys nm p q k)) ∧ Below w.heap.size w w' := by
  have q1 := s1.le
  have q2 := s2.le
  have sm := hide s1.2.2.2.1
  have S1 := hide s1
  have S2 := hide s2
  clear s1 s2
  have HT := hide htab
  clear htab
  have HO : Hid (ownB 6 n xs m ys nm p q k = (decide (k = 1) && bareB n xs m ys nm p q 0)) := hide rfl
  by_cases hl : k = 1
  case neg =>
    have HL : Hid (decide (k = 1) = false) := hide (decide_eq_false hl)
    have hl2 : ((k : Int) == 1) = false := by rw [beq_eq_false_iff_ne]; omega
    clear hl
    have HB0 := hide (bl_alloc (bl_refl w) (Obj.cells #[Value.int .i64 6, Value.bool n, Value.slice a xs.length c, Value.bool m, Value.slice b ys.length d, Value.string nm, Value.int .i64 p, Value.int .i64 q, Value.slice none 0 0] 37))
    go_enter Tryz.func25, Tryz.ntmps25
    go_wp2
    go_ret
    exact ⟨ret_bool (by rw [HO.out, HL.out]; first | rfl | simp), HB0.out⟩
  have HL : Hid (decide (k = 1) = true) := hide (decide_eq_true hl)
  have hl2 : ((k : Int) == 1) = true := by rw [beq_iff_eq]; omega
  clear hl
  have Xa : Hid ((w.alloc (Obj.cells #[Value.int .i64 6, Value.bool n, Value.slice a xs.length c, Value.bool m, Value.slice b ys.length d, Value.string nm, Value.int .i64 p, Value.int .i64 q, Value.slice none 0 0] 37)).heap[w.heap.size]? = some (.cells #[Value.int .i64 6, Value.bool n, Value.slice a xs.length c, Value.bool m, Value.slice b ys.length d, Value.string nm, Value.int .i64 p, Value.int .i64 q, Value.slice none 0 0] 37 (0, 0))) := hide (by simpa only [World.size_alloc] using (hnew w (Obj.cells #[Value.int .i64 6, Value.bool n, Value.slice a xs.length c, Value.bool m, Value.slice b ys.length d, Value.string nm, Value.int .i64 p, Value.int .i64 q, Value.slice none 0 0] 37)))
  have HB : Hid (Below w.heap.size w (w.alloc (Obj.cells #[Value.int .i64 6, Value.bool n, Value.slice a xs.length c, Value.bool m, Value.slice b ys.length d, Value.string nm, Value.int .i64 p, Value.int .i64 q, Value.slice none 0 0] 37))) := hide (bl_alloc (bl_refl w) (Obj.cells #[Value.int .i64 6, Value.bool n, Value.slice a xs.length c, Value.bool m, Value.slice b ys.length d, Value.string nm, Value.int .i64 p, Value.int .i64 q, Value.slice none 0 0] 37))
  have yw1 : w.heap.size + 1 ≤ (w.alloc (Obj.cells #[Value.int .i64 6, Value.bool n, Value.slice a xs.length c, Value.bool m, Value.slice b ys.length d, Value.string nm, Value.int .i64 p, Value.int .i64 q, Value.slice none 0 0] 37)).heap.size := by simp only [World.size_alloc]; omega
  have ka0 : (w.alloc (Obj.cells #[Value.int .i64 6, Value.bool n, Value.slice a xs.length c, Value.bool m, Value.slice b ys.length d, Value.string nm, Value.int .i64 p, Value.int .i64 q, Value.slice none 0 0] 37)).cell? ⟨w.heap.size, 0, none⟩ = some (Value.int .i64 6) := (Lib.cell_of_heap Xa.out 0).trans rfl
  have fa0 : (w.alloc (Obj.cells #[Value.int .i64 6, Value.bool n, Value.slice a xs.length c, Value.bool m, Value.slice b ys.length d, Value.string nm, Value.int .i64 p, Value.int .i64 q, Value.slice none 0 0] 37)).frozen? ⟨w.heap.size, 0, none⟩ = false := Lib.frozen_of_heap Xa.out 0
  have ka1 : (w.alloc (Obj.cells #[Value.int .i64 6, Value.bool n, Value.slice a xs.length c, Value.bool m, Value.slice b ys.length d, Value.string nm, Value.int .i64 p, Value.int .i64 q, Value.slice none 0 0] 37)).cell? ⟨w.heap.size, 1, none⟩ = some (Value.bool n) := (Lib.cell_of_heap Xa.out 1).trans rfl
  have fa1 : (w.alloc (Obj.cells #[Value.int .i64 6, Value.bool n, Value.slice a xs.length c, Value.bool m, Value.slice b ys.length d, Value.string nm, Value.int .i64 p, Value.int .i64 q, Value.slice none 0 0] 37)).frozen? ⟨w.heap.size, 1, none⟩ = false := Lib.frozen_of_heap Xa.out 1
  have ka2 : (w.alloc (Obj.cells #[Value.int .i64 6, Value.bool n, Value.slice a xs.length c, Value.bool m, Value.slice b ys.length d, Value.string nm, Value.int .i64 p, Value.int .i64 q, Value.slice none 0 0] 37)).cell? ⟨w.heap.size, 2, none⟩ = some (Value.slice a xs.length c) := (Lib.cell_of_heap Xa.out 2).trans rfl
  have fa2 : (w.alloc (Obj.cells #[Value.int .i64 6, Value.bool n, Value.slice a xs.length c, Value.bool m, Value.slice b ys.length d, Value.string nm, Value.int .i64 p, Value.int .i64 q, Value.slice none 0 0] 37)).frozen? ⟨w.heap.size, 2, none⟩ = false := Lib.frozen_of_heap Xa.out 2
  have ka3 : (w.alloc (Obj.cells #[Value.int .i64 6, Value.bool n, Value.slice a xs.length c, Value.bool m, Value.slice b ys.length d, Value.string nm, Value.int .i64 p, Value.int .i64 q, Value.slice none 0 0] 37)).cell? ⟨w.heap.size, 3, none⟩ = some (Value.bool m) := (Lib.cell_of_heap Xa.out 3).trans rfl
  have fa3 : (w.alloc (Obj.cells #[Value.int .i64 6, Value.bool n, Value.slice a xs.length c, Value.bool m, Value.slice b ys.length d, Value.string nm, Value.int .i64 p, Value.int .i64 q, Value.slice none 0 0] 37)).frozen? ⟨w.heap.size, 3, none⟩ = false := Lib.frozen_of_heap Xa.out 3
  have ka4 : (w.alloc (Obj.cells #[Value.int .i64 6, Value.bool n, Value.slice a xs.length c, Value.bool m, Value.slice b ys.length d, Value.string nm, Value.int .i64 p, Value.int .i64 q, Value.slice none 0 0] 37)).cell? ⟨w.heap.size, 4, none⟩ = some (Value.slice b ys.length d) := (Lib.cell_of_heap Xa.out 4).trans rfl
  have fa4 : (w.alloc (Obj.cells #[Value.int .i64 6, Value.bool n, Value.slice a xs.length c, Value.bool m, Value.slice b ys.length d, Value.string nm, Value.int .i64 p, Value.int .i64 q, Value.slice none 0 0] 37)).frozen? ⟨w.heap.size, 4, none⟩ = false := Lib.frozen_of_heap Xa.out 4
  have ka5 : (w.alloc (Obj.cells #[Value.int .i64 6, Value.bool n, Value.slice a xs.length c, Value.bool m, Value.slice b ys.length d, Value.string nm, Value.int .i64 p, Value.int .i64 q, Value.slice none 0 0] 37)).cell? ⟨w.heap.size, 5, none⟩ = some (Value.string nm) := (Lib.cell_of_heap Xa.out 5).trans rfl
  have fa5 : (w.alloc (Obj.cells #[Value.int .i64 6, Value.bool n, Value.slice a xs.length c, Value.bool m, Value.slice b ys.length d, Value.string nm, Value.int .i64 p, Value.int .i64 q, Value.slice none 0 0] 37)).frozen? ⟨w.heap.size, 5, none⟩ = false := Lib.frozen_of_heap Xa.out 5
  have ka6 : (w.alloc (Obj.cells #[Value.int .i64 6, Value.bool n, Value.slice a xs.length c, Value.bool m, Value.slice b ys.length d, Value.string nm, Value.int .i64 p, Value.int .i64 q, Value.slice none 0 0] 37)).cell? ⟨w.heap.size, 6, none⟩ = some (Value.int .i64 p) := (Lib.cell_of_heap Xa.out 6).trans rfl
  have fa6 : (w.alloc (Obj.cells #[Value.int .i64 6, Value.bool n, Value.slice a xs.length c, Value.bool m, Value.slice b ys.length d, Value.string nm, Value.int .i64 p, Value.int .i64 q, Value.slice none 0 0] 37)).frozen? ⟨w.heap.size, 6, none⟩ = false := Lib.frozen_of_heap Xa.out 6
  have ka7 : (w.alloc (Obj.cells #[Value.int .i64 6, Value.bool n, Value.slice a xs.length c, Value.bool m, Value.slice b ys.length d, Value.string nm, Value.int .i64 p, Value.int .i64 q, Value.slice none 0 0] 37)).cell? ⟨w.heap.size, 7, none⟩ = some (Value.int .i64 q) := (Lib.cell_of_heap Xa.out 7).trans rfl
  have fa7 : (w.alloc (Obj.cells #[Value.int .i64 6, Value.bool n, Value.slice a xs.length c, Value.bool m, Value.slice b ys.length d, Value.string nm, Value.int .i64 p, Value.int .i64 q, Value.slice none 0 0] 37)).frozen? ⟨w.heap.size, 7, none⟩ = false := Lib.frozen_of_heap Xa.out 7
  have ka8 : (w.alloc (Obj.cells #[Value.int .i64 6, Value.bool n, Value.slice a xs.length c, Value.bool m, Value.slice b ys.length d, Value.string nm, Value.int .i64 p, Value.int .i64 q, Value.slice none 0 0] 37)).cell? ⟨w.heap.size, 8, none⟩ = some (Value.slice none 0 0) := (Lib.cell_of_heap Xa.out 8).trans rfl
  have fa8 : (w.alloc (Obj.cells #[Value.int .i64 6, Value.bool n, Value.slice a xs.length c, Value.bool m, Value.slice b ys.length d, Value.string nm, Value.int .i64 p, Value.int .i64 q, Value.slice none 0 0] 37)).frozen? ⟨w.heap.size, 8, none⟩ = false := Lib.frozen_of_heap Xa.out 8
  have za : w.heap.size < (w.alloc (Obj.cells #[Value.int .i64 6, Value.bool n, Value.slice a xs.length c, Value.bool m, Value.slice b ys.length d, Value.string nm, Value.int .i64 p, Value.int .i64 q, Value.slice none 0 0] 37)).heap.size := hlt Xa.out
  go_enter Tryz.func25, Tryz.ntmps25
  go_wp2_with fail
  generalize (w.alloc (Obj.cells #[Value.int .i64 6, Value.bool n, Value.slice a xs.length c, Value.bool m, Value.slice b ys.length d, Value.string nm, Value.int .i64 p, Value.int .i64 q, Value.slice none 0 0] 37)) = w1 at *
  refine (bareI 6 n xs m ys nm p q 0 a c b d none 0 _ (S1.out.below HB.out) (S2.out.below HB.out) (by omega)).mono ?_
  rintro e w2 ⟨rfl, hb⟩
  have yw2 := hb.size
  clear ka0 fa0 ka1 fa1 ka2 fa2 ka3 fa3 ka4 fa4 ka5 fa5 ka6 fa6 ka7 fa7 ka8 fa8 za
  replace Xa := hide (hbel Xa.out hb (by first | assumption | omega))
  replace HB := hide (bl_trans HB.out hb)
  clear hb
  have ka0 : w2.cell? ⟨w.heap.size, 0, none⟩ = some (Value.int .i64 6) := (Lib.cell_of_heap Xa.out 0).trans rfl
  have fa0 : w2.frozen? ⟨w.heap.size, 0, none⟩ = false := Lib.frozen_of_heap Xa.out 0
  have ka1 : w2.cell? ⟨w.heap.size, 1, none⟩ = some (Value.bool n) := (Lib.cell_of_heap Xa.out 1).trans rfl
  have fa1 : w2.frozen? ⟨w.heap.size, 1, none⟩ = false := Lib.frozen_of_heap Xa.out 1
  have ka2 : w2.cell? ⟨w.heap.size, 2, none⟩ = some (Value.slice a xs.length c) := (Lib.cell_of_heap Xa.out 2).trans rfl
  have fa2 : w2.frozen? ⟨w.heap.size, 2, none⟩ = false := Lib.frozen_of_heap Xa.out 2
  have ka3 : w2.cell? ⟨w.heap.size, 3, none⟩ = some (Value.bool m) := (Lib.cell_of_heap Xa.out 3).trans rfl
  have fa3 : w2.frozen? ⟨w.heap.size, 3, none⟩ = false := Lib.frozen_of_heap Xa.out 3
  have ka4 : w2.cell? ⟨w.heap.size, 4, none⟩ = some (Value.slice b ys.length d) := (Lib.cell_of_heap Xa.out 4).trans rfl
  have fa4 : w2.frozen? ⟨w.heap.size, 4, none⟩ = false := Lib.frozen_of_heap Xa.out 4
  have ka5 : w2.cell? ⟨w.heap.size, 5, none⟩ = some (Value.string nm) := (Lib.cell_of_heap Xa.out 5).trans rfl
  have fa5 : w2.frozen? ⟨w.heap.size, 5, none⟩ = false := Lib.frozen_of_heap Xa.out 5
  have ka6 : w2.cell? ⟨w.heap.size, 6, none⟩ = some (Value.int .i64 p) := (Lib.cell_of_heap Xa.out 6).trans rfl
  have fa6 : w2.frozen? ⟨w.heap.size, 6, none⟩ = false := Lib.frozen_of_heap Xa.out 6
  have ka7 : w2.cell? ⟨w.heap.size, 7, none⟩ = some (Value.int .i64 q) := (Lib.cell_of_heap Xa.out 7).trans rfl
  have fa7 : w2.frozen? ⟨w.heap.size, 7, none⟩ = false := Lib.frozen_of_heap Xa.out 7
  have ka8 : w2.cell? ⟨w.heap.size, 8, none⟩ = some (Value.slice none 0 0) := (Lib.cell_of_heap Xa.out 8).trans rfl
  have fa8 : w2.frozen? ⟨w.heap.size, 8, none⟩ = false := Lib.frozen_of_heap Xa.out 8
  have za : w.heap.size < w2.heap.size := hlt Xa.out
  go_wp2
  go_ret
  exact ⟨ret_bool (by rw [HO.out, HL.out]; first | rfl | simp), HB.out⟩

set_option maxHeartbeats 4000000 in
set_option maxRecDepth 20000 in
theorem ownI7 (n : Bool) (xs : List Nat) (m : Bool) (ys : List Nat) (nm : ByteArray) (p q : Int) (k : Nat) (a : Option Addr) (c : Nat) (b : Option Addr) (d : Nat) (x : Option Addr) (ck : Nat) (w : World) (s1 : Seg w a xs.length c xs) (s2 : Seg w b ys.length d ys) (hk : k ≤ 9223372036854775807) (htab : Tabs w) (hnm : nm.size ≤ 140737488355328) :
    Calls Tryz.prog 25 #[Value.agg #[Value.int .i64 7, Value.bool n, Value.slice a xs.length c, Value.bool m, Value.slice b ys.length d, Value.string nm, Value.int .i64 p, Value.int .i64 q, Value.slice x k ck]] w fun e w' => e = .returned (.bool (ownB 7 n xs m ys nm p q k)) ∧ Below w.heap.size w w' := by
  have q1 := s1.le
  have q2 := s2.le
  have sm := hide s1.2.2.2.1
  have S1 := hide s1
  have S2 := hide s2
  clear s1 s2
  have HT := hide htab
  clear htab
  have HO : Hid (ownB 7 n xs m ys nm p q k = ((decide (k = 1) && Nm.pwB p q) && bareB n xs m ys nm 0 0 0)) := hide rfl
  by_cases hl : k = 1
  case neg =>
    have HL : Hid (decide (k = 1) = false) := hide (decide_eq_false hl)
    have hl2 : ((k : Int) == 1) = false := by rw [beq_eq_false_iff_ne]; omega
    clear hl
    have HB0 := hide (bl_alloc (bl_refl w) (Obj.cells #[Value.int .i64 7, Value.bool n, Value.slice a xs.length c, Value.bool m, Value.slice b ys.length d, Value.string nm, Value.int .i64 0, Value.int .i64 0, Value.slice none 0 0] 37))
    go_enter Tryz.func25, Tryz.ntmps25
    go_wp2
    go_ret
    exact ⟨ret_bool (by rw [HO.out, HL.out]; first | rfl | simp), HB0.out⟩
  have HL : Hid (decide (k = 1) = true) := hide (decide_eq_true hl)
  have hl2 : ((k : Int) == 1) = true := by rw [beq_iff_eq]; omega
  clear hl
  have Xa : Hid ((w.alloc (Obj.cells #[Value.int .i64 7, Value.bool n, Value.slice a xs.length c, Value.bool m, Value.slice b ys.length d, Value.string nm, Value.int .i64 p, Value.int .i64 q, Value.slice x k ck] 37)).heap[w.heap.size]? = some (.cells #[Value.int .i64 7, Value.bool n, Value.slice a xs.length c, Value.bool m, Value.slice b ys.length d, Value.string nm, Value.int .i64 p, Value.int .i64 q, Value.slice x k ck] 37 (0, 0))) := hide (by simpa only [World.size_alloc] using (hnew w (Obj.cells #[Value.int .i64 7, Value.bool n, Value.slice a xs.length c, Value.bool m, Value.slice b ys.length d, Value.string nm, Value.int .i64 p, Value.int .i64 q, Value.slice x k ck] 37)))
  have HB : Hid (Below w.heap.size w (w.alloc (Obj.cells #[Value.int .i64 7, Value.bool n, Value.slice a xs.length c, Value.bool m, Value.slice b ys.length d, Value.string nm, Value.int .i64 p, Value.int .i64 q, Value.slice x k ck] 37))) := hide (bl_alloc (bl_refl w) (Obj.cells #[Value.int .i64 7, Value.bool n, Value.slice a xs.length c, Value.bool m, Value.slice b ys.length d, Value.string nm, Value.int .i64 p, Value.int .i64 q, Value.slice x k ck] 37))
  have yw1 : w.heap.size + 1 ≤ (w.alloc (Obj.cells #[Value.int .i64 7, Value.bool n, Value.slice a xs.length c, Value.bool m, Value.slice b ys.length d, Value.string nm, Value.int .i64 p, Value.int .i64 q, Value.slice x k ck] 37)).heap.size := by simp only [World.size_alloc]; omega
  have ka0 : (w.alloc (Obj.cells #[Value.int .i64 7, Value.bool n, Value.slice a xs.length c, Value.bool m, Value.slice b ys.length d, Value.string nm, Value.int .i64 p, Value.int .i64 q, Value.slice x k ck] 37)).cell? ⟨w.heap.size, 0, none⟩ = some (Value.int .i64 7) := (Lib.cell_of_heap Xa.out 0).trans rfl
  have fa0 : (w.alloc (Obj.cells #[Value.int .i64 7, Value.bool n, Value.slice a xs.length c, Value.bool m, Value.slice b ys.length d, Value.string nm, Value.int .i64 p, Value.int .i64 q, Value.slice x k ck] 37)).frozen? ⟨w.heap.size, 0, none⟩ = false := Lib.frozen_of_heap Xa.out 0
  have ka1 : (w.alloc (Obj.cells #[Value.int .i64 7, Value.bool n, Value.slice a xs.length c, Value.bool m, Value.slice b ys.length d, Value.string nm, Value.int .i64 p, Value.int .i64 q, Value.slice x k ck] 37)).cell? ⟨w.heap.size, 1, none⟩ = some (Value.bool n) := (Lib.cell_of_heap Xa.out 1).trans rfl
  have fa1 : (w.alloc (Obj.cells #[Value.int .i64 7, Value.bool n, Value.slice a xs.length c, Value.bool m, Value.slice b ys.length d, Value.string nm, Value.int .i64 p, Value.int .i64 q, Value.slice x k ck] 37)).frozen? ⟨w.heap.size, 1, none⟩ = false := Lib.frozen_of_heap Xa.out 1
  have ka2 : (w.alloc (Obj.cells #[Value.int .i64 7, Value.bool n, Value.slice a xs.length c, Value.bool m, Value.slice b ys.length d, Value.string nm, Value.int .i64 p, Value.int .i64 q, Value.slice x k ck] 37)).cell? ⟨w.heap.size, 2, none⟩ = some (Value.slice a xs.length c) := (Lib.cell_of_heap Xa.out 2).trans rfl
  have fa2 : (w.alloc (Obj.cells #[Value.int .i64 7, Value.bool n, Value.slice a xs.length c, Value.bool m, Value.slice b ys.length d, Value.string nm, Value.int .i64 p, Value.int .i64 q, Value.slice x k ck] 37)).frozen? ⟨w.heap.size, 2, none⟩ = false := Lib.frozen_of_heap Xa.out 2
  have ka3 : (w.alloc (Obj.cells #[Value.int .i64 7, Value.bool n, Value.slice a xs.length c, Value.bool m, Value.slice b ys.length d, Value.string nm, Value.int .i64 p, Value.int .i64 q, Value.slice x k ck] 37)).cell? ⟨w.heap.size, 3, none⟩ = some (Value.bool m) := (Lib.cell_of_heap Xa.out 3).trans rfl
  have fa3 : (w.alloc (Obj.cells #[Value.int .i64 7, Value.bool n, Value.slice a xs.length c, Value.bool m, Value.slice b ys.length d, Value.string nm, Value.int .i64 p, Value.int .i64 q, Value.slice x k ck] 37)).frozen? ⟨w.heap.size, 3, none⟩ = false := Lib.frozen_of_heap Xa.out 3
  have ka4 : (w.alloc (Obj.cells #[Value.int .i64 7, Value.bool n, Value.slice a xs.length c, Value.bool m, Value.slice b ys.length d, Value.string nm, Value.int .i64 p, Value.int .i64 q, Value.slice x k ck] 37)).cell? ⟨w.heap.size, 4, none⟩ = some (Value.slice b ys.length d) := (Lib.cell_of_heap Xa.out 4).trans rfl
  have fa4 : (w.alloc (Obj.cells #[Value.int .i64 7, Value.bool n, Value.slice a xs.length c, Value.bool m, Value.slice b ys.length d, Value.string nm, Value.int .i64 p, Value.int .i64 q, Value.slice x k ck] 37)).frozen? ⟨w.heap.size, 4, none⟩ = false := Lib.frozen_of_heap Xa.out 4
  have ka5 : (w.alloc (Obj.cells #[Value.int .i64 7, Value.bool n, Value.slice a xs.length c, Value.bool m, Value.slice b ys.length d, Value.string nm, Value.int .i64 p, Value.int .i64 q, Value.slice x k ck] 37)).cell? ⟨w.heap.size, 5, none⟩ = some (Value.string nm) := (Lib.cell_of_heap Xa.out 5).trans rfl
  have fa5 : (w.alloc (Obj.cells #[Value.int .i64 7, Value.bool n, Value.slice a xs.length c, Value.bool m, Value.slice b ys.length d, Value.string nm, Value.int .i64 p, Value.int .i64 q, Value.slice x k ck] 37)).frozen? ⟨w.heap.size, 5, none⟩ = false := Lib.frozen_of_heap Xa.out 5
  have ka6 : (w.alloc (Obj.cells #[Value.int .i64 7, Value.bool n, Value.slice a xs.length c, Value.bool m, Value.slice b ys.length d, Value.string nm, Value.int .i64 p, Value.int .i64 q, Value.slice x k ck] 37)).cell? ⟨w.heap.size, 6, none⟩ = some (Value.int .i64 p) := (Lib.cell_of_heap Xa.out 6).trans rfl
  have fa6 : (w.alloc (Obj.cells #[Value.int .i64 7, Value.bool n, Value.slice a xs.length c, Value.bool m, Value.slice b ys.length d, Value.string nm, Value.int .i64 p, Value.int .i64 q, Value.slice x k ck] 37)).frozen? ⟨w.heap.size, 6, none⟩ = false := Lib.frozen_of_heap Xa.out 6
  have ka7 : (w.alloc (Obj.cells #[Value.int .i64 7, Value.bool n, Value.slice a xs.length c, Value.bool m, Value.slice b ys.length d, Value.string nm, Value.int .i64 p, Value.int .i64 q, Value.slice x k ck] 37)).cell? ⟨w.heap.size, 7, none⟩ = some (Value.int .i64 q) := (Lib.cell_of_heap Xa.out 7).trans rfl
  have fa7 : (w.alloc (Obj.cells #[Value.int .i64 7, Value.bool n, Value.slice a xs.length c, Value.bool m, Value.slice b ys.length d, Value.string nm, Value.int .i64 p, Value.int .i64 q, Value.slice x k ck] 37)).frozen? ⟨w.heap.size, 7, none⟩ = false := Lib.frozen_of_heap Xa.out 7
  have ka8 : (w.alloc (Obj.cells #[Value.int .i64 7, Value.bool n, Value.slice a xs.length c, Value.bool m, Value.slice b ys.length d, Value.string nm, Value.int .i64 p, Value.int .i64 q, Value.slice x k ck] 37)).cell? ⟨w.heap.size, 8, none⟩ = some (Value.slice x k ck) := (Lib.cell_of_heap Xa.out 8).trans rfl
  have fa8 : (w.alloc (Obj.cells #[Value.int .i64 7, Value.bool n, Value.slice a xs.length c, Value.bool m, Value.slice b ys.length d, Value.string nm, Value.int .i64 p, Value.int .i64 q, Value.slice x k ck] 37)).frozen? ⟨w.heap.size, 8, none⟩ = false := Lib.frozen_of_heap Xa.out 8
  have za : w.heap.size < (w.alloc (Obj.cells #[Value.int .i64 7, Value.bool n, Value.slice a xs.length c, Value.bool m, Value.slice b ys.length d, Value.string nm, Value.int .i64 p, Value.int .i64 q, Value.slice x k ck] 37)).heap.size := hlt Xa.out
  go_enter Tryz.func25, Tryz.ntmps25
  go_wp2_with fail
  generalize (w.alloc (Obj.cells #[Value.int .i64 7, Value.bool n, Value.slice a xs.length c, Value.bool m, Value.slice b ys.length d, Value.string nm, Value.int .i64 p, Value.int .i64 q, Value.slice x k ck] 37)) = w1 at *
  refine (powIB p q _).mono ?_
  rintro e w2 ⟨rfl, hb⟩
  have yw2 := hb.size
  clear ka0 fa0 ka1 fa1 ka2 fa2 ka3 fa3 ka4 fa4 ka5 fa5 ka6 fa6 ka7 fa7 ka8 fa8 za
  replace Xa := hide (hbel Xa.out hb (by first | assumption | omega))
  replace HB := hide (bl_trans HB.out hb)
  clear hb
  have ka0 : w2.cell? ⟨w.heap.size, 0, none⟩ = some (Value.int .i64 7) := (Lib.cell_of_heap Xa.out 0).trans rfl
  have fa0 : w2.frozen? ⟨w.heap.size, 0, none⟩ = false := Lib.frozen_of_heap Xa.out 0
  have ka1 : w2.cell? ⟨w.heap.size, 1, none⟩ = some (Value.bool n) := (Lib.cell_of_heap Xa.out 1).trans rfl
  have fa1 : w2.frozen? ⟨w.heap.size, 1, none⟩ = false := Lib.frozen_of_heap Xa.out 1
  have ka2 : w2.cell? ⟨w.heap.size, 2, none⟩ = some (Value.slice a xs.length c) := (Lib.cell_of_heap Xa.out 2).trans rfl
  have fa2 : w2.frozen? ⟨w.heap.size, 2, none⟩ = false := Lib.frozen_of_heap Xa.out 2
  have ka3 : w2.cell? ⟨w.heap.size, 3, none⟩ = some (Value.bool m) := (Lib.cell_of_heap Xa.out 3).trans rfl
  have fa3 : w2.frozen? ⟨w.heap.size, 3, none⟩ = false := Lib.frozen_of_heap Xa.out 3
  have ka4 : w2.cell? ⟨w.heap.size, 4, none⟩ = some (Value.slice b ys.length d) := (Lib.cell_of_heap Xa.out 4).trans rfl
  have fa4 : w2.frozen? ⟨w.heap.size, 4, none⟩ = false := Lib.frozen_of_heap Xa.out 4
  have ka5 : w2.cell? ⟨w.heap.size, 5, none⟩ = some (Value.string nm) := (Lib.cell_of_heap Xa.out 5).trans rfl
  have fa5 : w2.frozen? ⟨w.heap.size, 5, none⟩ = false := Lib.frozen_of_heap Xa.out 5
  have ka6 : w2.cell? ⟨w.heap.size, 6, none⟩ = some (Value.int .i64 p) := (Lib.cell_of_heap Xa.out 6).trans rfl
  have fa6 : w2.frozen? ⟨w.heap.size, 6, none⟩ = false := Lib.frozen_of_heap Xa.out 6
  have ka7 : w2.cell? ⟨w.heap.size, 7, none⟩ = some (Value.int .i64 q) := (Lib.cell_of_heap Xa.out 7).trans rfl
  have fa7 : w2.frozen? ⟨w.heap.size, 7, none⟩ = false := Lib.frozen_of_heap Xa.out 7
  have ka8 : w2.cell? ⟨w.heap.size, 8, none⟩ = some (Value.slice x k ck) := (Lib.cell_of_heap Xa.out 8).trans rfl
  have fa8 : w2.frozen? ⟨w.heap.size, 8, none⟩ = false := Lib.frozen_of_heap Xa.out 8
  have za : w.heap.size < w2.heap.size := hlt Xa.out
  cases h1 : Nm.pwB p q with
  | false =>
    have H1 := hide h1
    clear h1
    have HS8 := hide (St.set (St.set (St.set (St.refl w.heap.size w2) 8 (Value.slice none 0 0)) 6 (Value.int .i64 0)) 7 (Value.int .i64 0))
    go_wp2
    go_ret
    exact ⟨ret_bool (by rw [HO.out, HL.out, H1.out]; first | rfl | simp), St.below HB.out HS8.out (by omega)⟩
  | true =>
    have H1 := hide h1
    clear h1
    go_wp2_with fail
    obtain ⟨w3, ew3⟩ : ∃ x, x = (w2.setCell ⟨w.heap.size, 8, none⟩ (Value.slice none 0 0)) := ⟨_, rfl⟩
    have hst : St (w.heap.size) w2 w3 := by rw [ew3]; exact ((St.refl (w.heap.size) w2).set 8 (Value.slice none 0 0))
    rw [← ew3]
    have XX : Hid (w3.heap[w.heap.size]? = some (.cells #[Value.int .i64 7, Value.bool n, Value.slice a xs.length c, Value.bool m, Value.slice b ys.length d, Value.string nm, Value.int .i64 p, Value.int .i64 q, Value.slice none 0 0] 37 (0, 0))) := hide (by rw [ew3]; exact (hset Xa.out 8 (Value.slice none 0 0)))
    have yw3 : w2.heap.size ≤ w3.heap.size := Nat.le_of_eq hst.size.symm
    clear ew3
    clear ka0 fa0 ka1 fa1 ka2 fa2 ka3 fa3 ka4 fa4 ka5 fa5 ka6 fa6 ka7 fa7 ka8 fa8 za
    replace HB := hide (St.below HB.out hst (by omega))
    have Xa := XX
    clear XX hst
    have ka0 : w3.cell? ⟨w.heap.size, 0, none⟩ = some (Value.int .i64 7) := (Lib.cell_of_heap Xa.out 0).trans rfl
    have fa0 : w3.frozen? ⟨w.heap.size, 0, none⟩ = false := Lib.frozen_of_heap Xa.out 0
    have ka1 : w3.cell? ⟨w.heap.size, 1, none⟩ = some (Value.bool n) := (Lib.cell_of_heap Xa.out 1).trans rfl
    have fa1 : w3.frozen? ⟨w.heap.size, 1, none⟩ = false := Lib.frozen_of_heap Xa.out 1
    have ka2 : w3.cell? ⟨w.heap.size, 2, none⟩ = some (Value.slice a xs.length c) := (Lib.cell_of_heap Xa.out 2).trans rfl
    have fa2 : w3.frozen? ⟨w.heap.size, 2, none⟩ = false := Lib.frozen_of_heap Xa.out 2
    have ka3 : w3.cell? ⟨w.heap.size, 3, none⟩ = some (Value.bool m) := (Lib.cell_of_heap Xa.out 3).trans rfl
    have fa3 : w3.frozen? ⟨w.heap.size, 3, none⟩ = false := Lib.frozen_of_heap Xa.out 3
    have ka4 : w3.cell? ⟨w.heap.size, 4, none⟩ = some (Value.slice b ys.length d) := (Lib.cell_of_heap Xa.out 4).trans rfl
    have fa4 : w3.frozen? ⟨w.heap.size, 4, none⟩ = false := Lib.frozen_of_heap Xa.out 4
    have ka5 : w3.cell? ⟨w.heap.size, 5, none⟩ = some (Value.string nm) := (Lib.cell_of_heap Xa.out 5).trans rfl
    have fa5 : w3.frozen? ⟨w.heap.size, 5, none⟩ = false := Lib.frozen_of_heap Xa.out 5
    have ka6 : w3.cell? ⟨w.heap.size, 6, none⟩ = some (Value.int .i64 p) := (Lib.cell_of_heap Xa.out 6).trans rfl
    have fa6 : w3.frozen? ⟨w.heap.size, 6, none⟩ = false := Lib.frozen_of_heap Xa.out 6
    have ka7 : w3.cell? ⟨w.heap.size, 7, none⟩ = some (Value.int .i64 q) := (Lib.cell_of_heap Xa.out 7).trans rfl
    have fa7 : w3.frozen? ⟨w.heap.size, 7, none⟩ = false := Lib.frozen_of_heap Xa.out 7
    have ka8 : w3.cell? ⟨w.heap.size, 8, none⟩ = some (Value.slice none 0 0) := (Lib.cell_of_heap Xa.out 8).trans rfl
    have fa8 : w3.frozen? ⟨w.heap.size, 8, none⟩ = false := Lib.frozen_of_heap Xa.out 8
    have za : w.heap.size < w3.heap.size := hlt Xa.out
    obtain ⟨w4, ew4⟩ : ∃ x, x = (w3.setCell ⟨w.heap.size, 6, none⟩ (Value.int .i64 0)) := ⟨_, rfl⟩
    have hst : St (w.heap.size) w3 w4 := by rw [ew4]; exact ((St.refl (w.heap.size) w3).set 6 (Value.int .i64 0))
    rw [← ew4]
    have XX : Hid (w4.heap[w.heap.size]? = some (.cells #[Value.int .i64 7, Value.bool n, Value.slice a xs.length c, Value.bool m, Value.slice b ys.length d, Value.string nm, Value.int .i64 0, Value.int .i64 q, Value.slice none 0 0] 37 (0, 0))) := hide (by rw [ew4]; exact (hset Xa.out 6 (Value.int .i64 0)))
    have yw4 : w3.heap.size ≤ w4.heap.size := Nat.le_of_eq hst.size.symm
    clear ew4
    clear ka0 fa0 ka1 fa1 ka2 fa2 ka3 fa3 ka4 fa4 ka5 fa5 ka6 fa6 ka7 fa7 ka8 fa8 za
    replace HB := hide (St.below HB.out hst (by omega))
    have Xa := XX
    clear XX hst
    have ka0 : w4.cell? ⟨w.heap.size, 0, none⟩ = some (Value.int .i64 7) := (Lib.cell_of_heap Xa.out 0).trans rfl
    have fa0 : w4.frozen? ⟨w.heap.size, 0, none⟩ = false := Lib.frozen_of_heap Xa.out 0
    have ka1 : w4.cell? ⟨w.heap.size, 1, none⟩ = some (Value.bool n) := (Lib.cell_of_heap Xa.out 1).trans rfl
    have fa1 : w4.frozen? ⟨w.heap.size, 1, none⟩ = false := Lib.frozen_of_heap Xa.out 1
    have ka2 : w4.cell? ⟨w.heap.size, 2, none⟩ = some (Value.slice a xs.length c) := (Lib.cell_of_heap Xa.out 2).trans rfl
    have fa2 : w4.frozen? ⟨w.heap.size, 2, none⟩ = false := Lib.frozen_of_heap Xa.out 2
    have ka3 : w4.cell? ⟨w.heap.size, 3, none⟩ = some (Value.bool m) := (Lib.cell_of_heap Xa.out 3).trans rfl
    have fa3 : w4.frozen? ⟨w.heap.size, 3, none⟩ = false := Lib.frozen_of_heap Xa.out 3
    have ka4 : w4.cell? ⟨w.heap.size, 4, none⟩ = some (Value.slice b ys.length d) := (Lib.cell_of_heap Xa.out 4).trans rfl
    have fa4 : w4.frozen? ⟨w.heap.size, 4, none⟩ = false := Lib.frozen_of_heap Xa.out 4
    have ka5 : w4.cell? ⟨w.heap.size, 5, none⟩ = some (Value.string nm) := (Lib.cell_of_heap Xa.out 5).trans rfl
    have fa5 : w4.frozen? ⟨w.heap.size, 5, none⟩ = false := Lib.frozen_of_heap Xa.out 5
    have ka6 : w4.cell? ⟨w.heap.size, 6, none⟩ = some (Value.int .i64 0) := (Lib.cell_of_heap Xa.out 6).trans rfl
    have fa6 : w4.frozen? ⟨w.heap.size, 6, none⟩ = false := Lib.frozen_of_heap Xa.out 6
    have ka7 : w4.cell? ⟨w.heap.size, 7, none⟩ = some (Value.int .i64 q) := (Lib.cell_of_heap Xa.out 7).trans rfl
    have fa7 : w4.frozen? ⟨w.heap.size, 7, none⟩ = false := Lib.frozen_of_heap Xa.out 7
    have ka8 : w4.cell? ⟨w.heap.size, 8, none⟩ = some (Value.slice none 0 0) := (Lib.cell_of_heap Xa.out 8).trans rfl
    have fa8 : w4.frozen? ⟨w.heap.size, 8, none⟩ = false := Lib.frozen_of_heap Xa.out 8
    have za : w.heap.size < w4.heap.size := hlt Xa.out
    obtain ⟨w5, ew5⟩ : ∃ x, x = (w4.setCell ⟨w.heap.size, 7, none⟩ (Value.int .i64 0)) := ⟨_, rfl⟩
    have hst : St (w.heap.size) w4 w5 := by rw [ew5]; exact ((St.refl (w.heap.size) w4).set 7 (Value.int .i64 0))
    rw [← ew5]
    have XX : Hid (w5.heap[w.heap.size]? = some (.cells #[Value.int .i64 7, Value.bool n, Value.slice a xs.length c, Value.bool m, Value.slice b ys.length d, Value.string nm, Value.int .i64 0, Value.int .i64 0, Value.slice none 0 0] 37 (0, 0))) := hide (by rw [ew5]; exact (hset Xa.out 7 (Value.int .i64 0)))
    have yw5 : w4.heap.size ≤ w5.heap.size := Nat.le_of_eq hst.size.symm
    clear ew5
    clear ka0 fa0 ka1 fa1 ka2 fa2 ka3 fa3 ka4 fa4 ka5 fa5 ka6 fa6 ka7 fa7 ka8 fa8 za
    replace HB := hide (St.below HB.out hst (by omega))
    have Xa := XX
    clear XX hst
    have ka0 : w5.cell? ⟨w.heap.size, 0, none⟩ = some (Value.int .i64 7) := (Lib.cell_of_heap Xa.out 0).trans rfl
    have fa0 : w5.frozen? ⟨w.heap.size, 0, none⟩ = false := Lib.frozen_of_heap Xa.out 0
    have ka1 : w5.cell? ⟨w.heap.size, 1, none⟩ = some (Value.bool n) := (Lib.cell_of_heap Xa.out 1).trans rfl
    have fa1 : w5.frozen? ⟨w.heap.size, 1, none⟩ = false := Lib.frozen_of_heap Xa.out 1
    have ka2 : w5.cell? ⟨w.heap.size, 2, none⟩ = some (Value.slice a xs.length c) := (Lib.cell_of_heap Xa.out 2).trans rfl
    have fa2 : w5.frozen? ⟨w.heap.size, 2, none⟩ = false := Lib.frozen_of_heap Xa.out 2
    have ka3 : w5.cell? ⟨w.heap.size, 3, none⟩ = some (Value.bool m) := (Lib.cell_of_heap Xa.out 3).trans rfl
    have fa3 : w5.frozen? ⟨w.heap.size, 3, none⟩ = false := Lib.frozen_of_heap Xa.out 3
    have ka4 : w5.cell? ⟨w.heap.size, 4, none⟩ = some (Value.slice b ys.length d) := (Lib.cell_of_heap Xa.out 4).trans rfl
    have fa4 : w5.frozen? ⟨w.heap.size, 4, none⟩ = false := Lib.frozen_of_heap Xa.out 4
    have ka5 : w5.cell? ⟨w.heap.size, 5, none⟩ = some (Value.string nm) := (Lib.cell_of_heap Xa.out 5).trans rfl
    have fa5 : w5.frozen? ⟨w.heap.size, 5, none⟩ = false := Lib.frozen_of_heap Xa.out 5
    have ka6 : w5.cell? ⟨w.heap.size, 6, none⟩ = some (Value.int .i64 0) := (Lib.cell_of_heap Xa.out 6).trans rfl
    have fa6 : w5.frozen? ⟨w.heap.size, 6, none⟩ = false := Lib.frozen_of_heap Xa.out 6
    have ka7 : w5.cell? ⟨w.heap.size, 7, none⟩ = some (Value.int .i64 0) := (Lib.cell_of_heap Xa.out 7).trans rfl
    have fa7 : w5.frozen? ⟨w.heap.size, 7, none⟩ = false := Lib.frozen_of_heap Xa.out 7
    have ka8 : w5.cell? ⟨w.heap.size, 8, none⟩ = some (Value.slice none 0 0) := (Lib.cell_of_heap Xa.out 8).trans rfl
    have fa8 : w5.frozen? ⟨w.heap.size, 8, none⟩ = false := Lib.frozen_of_heap Xa.out 8
    have za : w.heap.size < w5.heap.size := hlt Xa.out
    refine (bareI 7 n xs m ys nm 0 0 0 a c b d none 0 _ (S1.out.below HB.out) (S2.out.below HB.out) (by omega)).mono ?_
    rintro e w6 ⟨rfl, hb⟩
    have yw6 := hb.size
    clear ka0 fa0 ka1 fa1 ka2 fa2 ka3 fa3 ka4 fa4 ka5 fa5 ka6 fa6 ka7 fa7 ka8 fa8 za
    replace Xa := hide (hbel Xa.out hb (by first | assumption | omega))
    replace HB := hide (bl_trans HB.out hb)
    clear hb
    have ka0 : w6.cell? ⟨w.heap.size, 0, none⟩ = some (Value.int .i64 7) := (Lib.cell_of_heap Xa.out 0).trans rfl
    have fa0 : w6.frozen? ⟨w.heap.size, 0, none⟩ = false := Lib.frozen_of_heap Xa.out 0
    have ka1 : w6.cell? ⟨w.heap.size, 1, none⟩ = some (Value.bool n) := (Lib.cell_of_heap Xa.out 1).trans rfl
    have fa1 : w6.frozen? ⟨w.heap.size, 1, none⟩ = false := Lib.frozen_of_heap Xa.out 1
    have ka2 : w6.cell? ⟨w.heap.size, 2, none⟩ = some (Value.slice a xs.length c) := (Lib.cell_of_heap Xa.out 2).trans rfl
    have fa2 : w6.frozen? ⟨w.heap.size, 2, none⟩ = false := Lib.frozen_of_heap Xa.out 2
    have ka3 : w6.cell? ⟨w.heap.size, 3, none⟩ = some (Value.bool m) := (Lib.cell_of_heap Xa.out 3).trans rfl
    have fa3 : w6.frozen? ⟨w.heap.size, 3, none⟩ = false := Lib.frozen_of_heap Xa.out 3
    have ka4 : w6.cell? ⟨w.heap.size, 4, none⟩ = some (Value.slice b ys.length d) := (Lib.cell_of_heap Xa.out 4).trans rfl
    have fa4 : w6.frozen? ⟨w.heap.size, 4, none⟩ = false := Lib.frozen_of_heap Xa.out 4
    have ka5 : w6.cell? ⟨w.heap.size, 5, none⟩ = some (Value.string nm) := (Lib.cell_of_heap Xa.out 5).trans rfl
    have fa5 : w6.frozen? ⟨w.heap.size, 5, none⟩ = false := Lib.frozen_of_heap Xa.out 5
    have ka6 : w6.cell? ⟨w.heap.size, 6, none⟩ = some (Value.int .i64 0) := (Lib.cell_of_heap Xa.out 6).trans rfl
    have fa6 : w6.frozen? ⟨w.heap.size, 6, none⟩ = false := Lib.frozen_of_heap Xa.out 6
    have ka7 : w6.cell? ⟨w.heap.size, 7, none⟩ = some (Value.int .i64 0) := (Lib.cell_of_heap Xa.out 7).trans rfl
    have fa7 : w6.frozen? ⟨w.heap.size, 7, none⟩ = false := Lib.frozen_of_heap Xa.out 7
    have ka8 : w6.cell? ⟨w.heap.size, 8, none⟩ = some (Value.slice none 0 0) := (Lib.cell_of_heap Xa.out 8).trans rfl
    have fa8 : w6.frozen? ⟨w.heap.size, 8, none⟩ = false := Lib.frozen_of_heap Xa.out 8
    have za : w.heap.size < w6.heap.size := hlt Xa.out
    go_wp2
    go_ret
    exact ⟨ret_bool (by rw [HO.out, HL.out, H1.out]; first | rfl | simp), HB.out⟩

set_option maxHeartbeats 4000000 in
set_option maxRecDepth 20000 in
theorem ownIelse (kd : Int) (n : Bool) (xs : List Nat) (m : Bool) (ys : List Nat) (nm : ByteArray) (p q : Int) (k : Nat) (a : Option Addr) (c : Nat) (b : Option Addr) (d : Nat) (x : Option Addr) (ck : Nat) (w : World) (s1 : Seg w a xs.length c xs) (s2 : Seg w b ys.length d ys) (hk : k ≤ 9223372036854775807) (htab : Tabs w) (hkd : ¬ (0 ≤ kd ∧ kd ≤ 7)) (hnm : nm.size ≤ 140737488355328) :
    Calls Tryz.prog 25 #[Value.agg #[Value.int .i64 kd, Value.bool n, Value.slice a xs.length c, Value.bool m, Value.slice b ys.length d, Value.string nm, Value.int .i64 p, Value.int .i64 q, Value.slice x k ck]] w fun e w' => e = .returned (.bool (ownB kd n xs m ys nm p q k)) ∧ Below w.heap.size w w' := by
  have q1 := s1.le
  have q2 := s2.le
  have sm := hide s1.2.2.2.1
  have S1 := hide s1
  have S2 := hide s2
  clear s1 s2
  have HT := hide htab
  clear htab
  have hk0 : (kd == 0) = false := by rw [beq_eq_false_iff_ne]; omega
  have hk1 : (kd == 1) = false := by rw [beq_eq_false_iff_ne]; omega
  have hk2 : (kd == 2) = false := by rw [beq_eq_false_iff_ne]; omega
  have hk3 : (kd == 3) = false := by rw [beq_eq_false_iff_ne]; omega
  have hk4 : (kd == 4) = false := by rw [beq_eq_false_iff_ne]; omega
  have hk5 : (kd == 5) = false := by rw [beq_eq_false_iff_ne]; omega
  have hk6 : (kd == 6) = false := by rw [beq_eq_false_iff_ne]; omega
  have hk7 : (kd == 7) = false := by rw [beq_eq_false_iff_ne]; omega
  have HO : Hid (false = ownB kd n xs m ys nm p q k) := hide (own_x kd hkd ..).symm
  clear hkd
  have HB := hide (bl_alloc (bl_refl w) (Obj.cells #[Value.int .i64 kd, Value.bool n, Value.slice a xs.length c, Value.bool m, Value.slice b ys.length d, Value.string nm, Value.int .i64 p, Value.int .i64 q, Value.slice x k ck] 37))
  go_enter Tryz.func25, Tryz.ntmps25
  go_wp2
  go_ret
  exact ⟨ret_bool HO.out, HB.out⟩
end Go.Proofs.YtlknhheafmifnaaGreatDoor

/- ExprOk: how many stand in a formula that is right; both walks. -/
namespace Go.Proofs.YtlknhheafmifnaaGreatDoor
open Go.RowKit
set_option linter.unusedVariables false
set_option maxRecDepth 20000

mutual
/-- how many stand in it, where it is right, at most so deep and so many -/
def Ex.rt : Ex → Int → Int → Option Nat
  | .mk kd n xs m ys nm p q ks, deep, left => if deep < 0 ∨ left ≤ 0 ∨ ownB kd n xs m ys nm p q ks.length = false then none else krt ks (deep - 1) left 1
def krt : List Ex → Int → Int → Nat → Option Nat
  | [], _, _, n => some n
  | e :: r, deep, left, n => match e.rt deep (left - n) with
    | none => none
    | some j => krt r deep left (n + j)
end
mutual
theorem rt_le : ∀ (e : Ex) (deep left : Int) (j : Nat), e.rt deep left = some j → 1 ≤ j ∧ (j : Int) ≤ left
  | .mk kd n xs m ys nm p q ks, deep, left, j, h => by
    rw [Ex.rt] at h
    split at h
    · cases h
    · rename_i hn
      exact krt_le ks (deep - 1) left 1 j (by omega) h
theorem krt_le : ∀ (ks : List Ex) (deep left : Int) (n j : Nat), (n : Int) ≤ left → krt ks deep left n = some j → n ≤ j ∧ (j : Int) ≤ left
  | [], _, _, n, j, hn, h => by rw [krt] at h; cases h; exact ⟨Nat.le_refl _, hn⟩
  | e :: r, deep, left, n, j, hn, h => by
    rw [krt] at h
    split at h
    · cases h
    · rename_i i hi
      have h1 := rt_le e deep (left - n) i hi
      have h2 := krt_le r deep left (n + i) j (by omega) h
      omega
end
/-- after the first k kids -/
theorem krt_step {ks : List Ex} {k : Nat} (h : k < ks.length) (deep left : Int) (n : Nat) : krt (ks.drop k) deep left n = match ks[k].rt deep (left - n) with
    | none => none
    | some j => krt (ks.drop (k + 1)) deep left (n + j) := by
  rw [List.drop_eq_getElem_cons h, krt]
theorem krt_none {ks : List Ex} {k : Nat} {deep left : Int} {n : Nat} (h : k < ks.length) (hn : ks[k].rt deep (left - n) = none) : krt (ks.drop k) deep left n = none := by
  rw [krt_step h, hn]
theorem krt_some {ks : List Ex} {k : Nat} {deep left : Int} {n j : Nat} (h : k < ks.length) (hn : ks[k].rt deep (left - n) = some j) : krt (ks.drop k) deep left n = krt (ks.drop (k + 1)) deep left (n + j) := by
  rw [krt_step h, hn]
theorem krt_end {ks : List Ex} {k : Nat} {deep left : Int} {n : Nat} (h : ks.length ≤ k) : krt (ks.drop k) deep left n = some n := by
  rw [List.drop_eq_nil_of_le h, krt]
theorem rt_no {kd : Int} {n : Bool} {xs : List Nat} {m : Bool} {ys : List Nat} {nm : ByteArray} {p q : Int} {ks : List Ex} {deep left : Int} (h : deep < 0 ∨ left ≤ 0 ∨ ownB kd n xs m ys nm p q ks.length = false) : Ex.rt (.mk kd n xs m ys nm p q ks) deep left = none := by
  rw [Ex.rt, if_pos h]
theorem rt_yes {kd : Int} {n : Bool} {xs : List Nat} {m : Bool} {ys : List Nat} {nm : ByteArray} {p q : Int} {ks : List Ex} {deep left : Int} (h1 : ¬ deep < 0) (h2 : ¬ left ≤ 0) (h3 : ownB kd n xs m ys nm p q ks.length = true) : Ex.rt (.mk kd n xs m ys nm p q ks) deep left = krt (ks.drop 0) (deep - 1) left 1 := by
  rw [Ex.rt, if_neg (by rw [h3]; simp; omega)]; rfl

set_option maxHeartbeats 8000000 in
set_option maxRecDepth 20000 in
theorem ownS (kd : Int) (n : Bool) (xs : List Nat) (m : Bool) (ys : List Nat) (nm : ByteArray) (p q : Int) (k : Nat) (a : Option Addr) (c : Nat) (b : Option Addr) (d : Nat) (x : Option Addr) (ck : Nat) (w : World) (s1 : Seg w a xs.length c xs) (s2 : Seg w b ys.length d ys) (hk : k ≤ 9223372036854775807) (hnm : nm.size ≤ 140737488355328) :
    Calls Tryz.prog 23 #[Value.agg #[Value.int .i64 kd, Value.bool n, Value.slice a xs.length c, Value.bool m, Value.slice b ys.length d, Value.string nm, Value.int .i64 p, Value.int .i64 q, Value.slice x k ck]] w fun e w' => e = .returned (.bool (ownB kd n xs m ys nm p q k)) ∧ Below w.heap.size w w' := by
  by_cases h : 0 ≤ kd ∧ kd ≤ 7
  · have h8 : kd = 0 ∨ kd = 1 ∨ kd = 2 ∨ kd = 3 ∨ kd = 4 ∨ kd = 5 ∨ kd = 6 ∨ kd = 7 := by omega
    rcases h8 with rfl | rfl | rfl | rfl | rfl | rfl | rfl | rfl
    · exact ownS0 n xs m ys nm p q k a c b d x ck w s1 s2 hk hnm
    · exact ownS1 n xs m ys nm p q k a c b d x ck w s1 s2 hk hnm
    · exact ownS2 n xs m ys nm p q k a c b d x ck w s1 s2 hk hnm
    · exact ownS3 n xs m ys nm p q k a c b d x ck w s1 s2 hk hnm
    · exact ownS4 n xs m ys nm p q k a c b d x ck w s1 s2 hk hnm
    · exact ownS5 n xs m ys nm p q k a c b d x ck w s1 s2 hk hnm
    · exact ownS6 n xs m ys nm p q k a c b d x ck w s1 s2 hk hnm
    · exact ownS7 n xs m ys nm p q k a c b d x ck w s1 s2 hk hnm
  · exact ownSelse kd n xs m ys nm p q k a c b d x ck w s1 s2 hk h hnm


set_option maxHeartbeats 8000000 in
set_option maxRecDepth 20000 in
theorem ownI (kd : Int) (n : Bool) (xs : List Nat) (m : Bool) (ys : List Nat) (nm : ByteArray) (p q : Int) (k : Nat) (a : Option Addr) (c : Nat) (b : Option Addr) (d : Nat) (x : Option Addr) (ck : Nat) (w : World) (s1 : Seg w a xs.length c xs) (s2 : Seg w b ys.length d ys) (hk : k ≤ 9223372036854775807) (htab : Tabs w) (hnm : nm.size ≤ 140737488355328) :
    Calls Tryz.prog 25 #[Value.agg #[Value.int .i64 kd, Value.bool n, Value.slice a xs.length c, Value.bool m, Value.slice b ys.length d, Value.string nm, Value.int .i64 p, Value.int .i64 q, Value.slice x k ck]] w fun e w' => e = .returned (.bool (ownB kd n xs m ys nm p q k)) ∧ Below w.heap.size w w' := by
  by_cases h : 0 ≤ kd ∧ kd ≤ 7
  · have h8 : kd = 0 ∨ kd = 1 ∨ kd = 2 ∨ kd = 3 ∨ kd = 4 ∨ kd = 5 ∨ kd = 6 ∨ kd = 7 := by omega
    rcases h8 with rfl | rfl | rfl | rfl | rfl | rfl | rfl | rfl
    · exact ownI0 n xs m ys nm p q k a c b d x ck w s1 s2 hk htab hnm
    · exact ownI1 n xs m ys nm p q k a c b d x ck w s1 s2 hk htab hnm
    · exact ownI2 n xs m ys nm p q k a c b d x ck w s1 s2 hk htab hnm
    · exact ownI3 n xs m ys nm p q k a c b d x ck w s1 s2 hk htab hnm
    · exact ownI4 n xs m ys nm p q k a c b d x ck w s1 s2 hk htab hnm
    · exact ownI5 n xs m ys nm p q k a c b d x ck w s1 s2 hk htab hnm
    · exact ownI6 n xs m ys nm p q k a c b d x ck w s1 s2 hk htab hnm
    · exact ownI7 n xs m ys nm p q k a c b d x ck w s1 s2 hk htab hnm
  · exact ownIelse kd n xs m ys nm p q k a c b d x ck w s1 s2 hk htab h hnm


/-- what a reckoning tells -/
def RtAns (o : Option Nat) (e : Ending) : Prop := e = .returned (.tuple #[.bool o.isSome, .int .i64 ((o.getD 0 : Nat) : Int)])
/-- l06Right's contract at one formula -/
def RtC (e : Ex) : Prop := ∀ (kd : Int) (n : Bool) (xs : List Nat) (m : Bool) (ys : List Nat) (nm : ByteArray) (p q : Int) (ks : List Ex), e = .mk kd n xs m ys nm p q ks → ∀ (X : Nat → Prop) (a1 : Option Addr) (c1 : Nat) (a2 : Option Addr) (c2 : Nat) (a : Option Addr) (c : Nat) (deep left : Int) (w : World), Seg w a1 xs.length c1 xs → Seg w a2 ys.length c2 ys → KSeg w X a ks.length c ks → e.sz ≤ 1048576 → -100 ≤ deep → deep ≤ 100 → left ≤ 100 → -100 ≤ left →
    Calls Tryz.prog 14 #[Value.agg #[Value.int .i64 kd, Value.bool n, Value.slice a1 xs.length c1, Value.bool m, Value.slice a2 ys.length c2, Value.string nm, Value.int .i64 p, Value.int .i64 q, Value.slice a ks.length c], .int .i64 deep, .int .i64 left] w fun e' w' => RtAns (e.rt deep left) e' ∧ Below w.heap.size w w'


set_option maxHeartbeats 8000000 in
set_option maxRecDepth 20000 in
theorem rtS : ∀ (N : Nat) (e : Ex), e.cnt ≤ N → RtC e
  | 0, e, h => by rw [cnt_ks] at h; omega
  | N + 1, .mk kd n xs m ys nm p q ks, h => by
    rw [cnt_ks] at h
    have IH : ∀ r ∈ ks, RtC r := fun r hr => rtS N r (by have := kcnt_mem hr; have h2 : 1 + kcnt ks ≤ N + 1 := h; omega)
    clear h
    intro kd' n' xs' m' ys' nm' p' q' ks' heq X a1 c1 a2 c2 a c deep left w s1 s2 s3 ht hd1 hd2 hl1 hl2
    cases heq
    have q3 := s3.le
    have hsz : xs.length + ys.length + nm.size + ksz ks ≤ 1048576 := by rw [Ex.sz] at ht; exact ht
    have S1 := hide s1
    have S2 := hide s2
    have S3 := hide s3
    clear s1 s2 s3 ht
    by_cases hd : deep < 0
    · have HN : Hid (Ex.rt (Ex.mk kd n xs m ys nm p q ks) deep left = none) := hide (rt_no (.inl hd))
      have HB := hide (bl_alloc (bl_refl w) (Obj.cells #[Value.int .i64 kd, Value.bool n, Value.slice a1 xs.length c1, Value.bool m, Value.slice a2 ys.length c2, Value.string nm, Value.int .i64 p, Value.int .i64 q, Value.slice a ks.length c] 37))
      go_enter Tryz.func14, Tryz.ntmps14
      go_wp2
      refine bodyPost_ret (v := .tuple #[.bool false, .int .i64 0]) (by simp [results, Tryz.results14, go_sem]) rfl ?_
      exact ⟨by unfold RtAns; rw [HN.out]; rfl, HB.out⟩
    by_cases hl : left ≤ 0
    · have HN : Hid (Ex.rt (Ex.mk kd n xs m ys nm p q ks) deep left = none) := hide (rt_no (.inr (.inl hl)))
      have HB := hide (bl_alloc (bl_refl w) (Obj.cells #[Value.int .i64 kd, Value.bool n, Value.slice a1 xs.length c1, Value.bool m, Value.slice a2 ys.length c2, Value.string nm, Value.int .i64 p, Value.int .i64 q, Value.slice a ks.length c] 37))
      go_enter Tryz.func14, Tryz.ntmps14
      go_wp2
      refine bodyPost_ret (v := .tuple #[.bool false, .int .i64 0]) (by simp [results, Tryz.results14, go_sem]) rfl ?_
      exact ⟨by unfold RtAns; rw [HN.out]; rfl, HB.out⟩
    have Xa : Hid ((w.alloc (Obj.cells #[Value.int .i64 kd, Value.bool n, Value.slice a1 xs.length c1, Value.bool m, Value.slice a2 ys.length c2, Value.string nm, Value.int .i64 p, Value.int .i64 q, Value.slice a ks.length c] 37)).heap[w.heap.size]? = some (.cells #[Value.int .i64 kd, Value.bool n, Value.slice a1 xs.length c1, Value.bool m, Value.slice a2 ys.length c2, Value.string nm, Value.int .i64 p, Value.int .i64 q, Value.slice a ks.length c] 37 (0, 0))) := hide (by simpa only [World.size_alloc] using (hnew w (Obj.cells #[Value.int .i64 kd, Value.bool n, Value.slice a1 xs.length c1, Value.bool m, Value.slice a2 ys.length c2, Value.string nm, Value.int .i64 p, Value.int .i64 q, Value.slice a ks.length c] 37)))
    have HB : Hid (Below w.heap.size w (w.alloc (Obj.cells #[Value.int .i64 kd, Value.bool n, Value.slice a1 xs.length c1, Value.bool m, Value.slice a2 ys.length c2, Value.string nm, Value.int .i64 p, Value.int .i64 q, Value.slice a ks.length c] 37))) := hide (bl_alloc (bl_refl w) (Obj.cells #[Value.int .i64 kd, Value.bool n, Value.slice a1 xs.length c1, Value.bool m, Value.slice a2 ys.length c2, Value.string nm, Value.int .i64 p, Value.int .i64 q, Value.slice a ks.length c] 37))
    have yw1 : w.heap.size + 1 ≤ (w.alloc (Obj.cells #[Value.int .i64 kd, Value.bool n, Value.slice a1 xs.length c1, Value.bool m, Value.slice a2 ys.length c2, Value.string nm, Value.int .i64 p, Value.int .i64 q, Value.slice a ks.length c] 37)).heap.size := by simp only [World.size_alloc]; omega
    have ka0 : (w.alloc (Obj.cells #[Value.int .i64 kd, Value.bool n, Value.slice a1 xs.length c1, Value.bool m, Value.slice a2 ys.length c2, Value.string nm, Value.int .i64 p, Value.int .i64 q, Value.slice a ks.length c] 37)).cell? ⟨w.heap.size, 0, none⟩ = some (Value.int .i64 kd) := (Lib.cell_of_heap Xa.out 0).trans rfl
    have fa0 : (w.alloc (Obj.cells #[Value.int .i64 kd, Value.bool n, Value.slice a1 xs.length c1, Value.bool m, Value.slice a2 ys.length c2, Value.string nm, Value.int .i64 p, Value.int .i64 q, Value.slice a ks.length c] 37)).frozen? ⟨w.heap.size, 0, none⟩ = false := Lib.frozen_of_heap Xa.out 0
    have ka1 : (w.alloc (Obj.cells #[Value.int .i64 kd, Value.bool n, Value.slice a1 xs.length c1, Value.bool m, Value.slice a2 ys.length c2, Value.string nm, Value.int .i64 p, Value.int .i64 q, Value.slice a ks.length c] 37)).cell? ⟨w.heap.size, 1, none⟩ = some (Value.bool n) := (Lib.cell_of_heap Xa.out 1).trans rfl
    have fa1 : (w.alloc (Obj.cells #[Value.int .i64 kd, Value.bool n, Value.slice a1 xs.length c1, Value.bool m, Value.slice a2 ys.length c2, Value.string nm, Value.int .i64 p, Value.int .i64 q, Value.slice a ks.length c] 37)).frozen? ⟨w.heap.size, 1, none⟩ = false := Lib.frozen_of_heap Xa.out 1
    have ka2 : (w.alloc (Obj.cells #[Value.int .i64 kd, Value.bool n, Value.slice a1 xs.length c1, Value.bool m, Value.slice a2 ys.length c2, Value.string nm, Value.int .i64 p, Value.int .i64 q, Value.slice a ks.length c] 37)).cell? ⟨w.heap.size, 2, none⟩ = some (Value.slice a1 xs.length c1) := (Lib.cell_of_heap Xa.out 2).trans rfl
    have fa2 : (w.alloc (Obj.cells #[Value.int .i64 kd, Value.bool n, Value.slice a1 xs.length c1, Value.bool m, Value.slice a2 ys.length c2, Value.string nm, Value.int .i64 p, Value.int .i64 q, Value.slice a ks.length c] 37)).frozen? ⟨w.heap.size, 2, none⟩ = false := Lib.frozen_of_heap Xa.out 2
    have ka3 : (w.alloc (Obj.cells #[Value.int .i64 kd, Value.bool n, Value.slice a1 xs.length c1, Value.bool m, Value.slice a2 ys.length c2, Value.string nm, Value.int .i64 p, Value.int .i64 q, Value.slice a ks.length c] 37)).cell? ⟨w.heap.size, 3, none⟩ = some (Value.bool m) := (Lib.cell_of_heap Xa.out 3).trans rfl
    have fa3 : (w.alloc (Obj.cells #[Value.int .i64 kd, Value.bool n, Value.slice a1 xs.length c1, Value.bool m, Value.slice a2 ys.length c2, Value.string nm, Value.int .i64 p, Value.int .i64 q, Value.slice a ks.length c] 37)).frozen? ⟨w.heap.size, 3, none⟩ = false := Lib.frozen_of_heap Xa.out 3
    have ka4 : (w.alloc (Obj.cells #[Value.int .i64 kd, Value.bool n, Value.slice a1 xs.length c1, Value.bool m, Value.slice a2 ys.length c2, Value.string nm, Value.int .i64 p, Value.int .i64 q, Value.slice a ks.length c] 37)).cell? ⟨w.heap.size, 4, none⟩ = some (Value.slice a2 ys.length c2) := (Lib.cell_of_heap Xa.out 4).trans rfl
    have fa4 : (w.alloc (Obj.cells #[Value.int .i64 kd, Value.bool n, Value.slice a1 xs.length c1, Value.bool m, Value.slice a2 ys.length c2, Value.string nm, Value.int .i64 p, Value.int .i64 q, Value.slice a ks.length c] 37)).frozen? ⟨w.heap.size, 4, none⟩ = false := Lib.frozen_of_heap Xa.out 4
    have ka5 : (w.alloc (Obj.cells #[Value.int .i64 kd, Value.bool n, Value.slice a1 xs.length c1, Value.bool m, Value.slice a2 ys.length c2, Value.string nm, Value.int .i64 p, Value.int .i64 q, Value.slice a ks.length c] 37)).cell? ⟨w.heap.size, 5, none⟩ = some (Value.string nm) := (Lib.cell_of_heap Xa.out 5).trans rfl
    have fa5 : (w.alloc (Obj.cells #[Value.int .i64 kd, Value.bool n, Value.slice a1 xs.length c1, Value.bool m, Value.slice a2 ys.length c2, Value.string nm, Value.int .i64 p, Value.int .i64 q, Value.slice a ks.length c] 37)).frozen? ⟨w.heap.size, 5, none⟩ = false := Lib.frozen_of_heap Xa.out 5
    have ka6 : (w.alloc (Obj.cells #[Value.int .i64 kd, Value.bool n, Value.slice a1 xs.length c1, Value.bool m, Value.slice a2 ys.length c2, Value.string nm, Value.int .i64 p, Value.int .i64 q, Value.slice a ks.length c] 37)).cell? ⟨w.heap.size, 6, none⟩ = some (Value.int .i64 p) := (Lib.cell_of_heap Xa.out 6).trans rfl
    have fa6 : (w.alloc (Obj.cells #[Value.int .i64 kd, Value.bool n, Value.slice a1 xs.length c1, Value.bool m, Value.slice a2 ys.length c2, Value.string nm, Value.int .i64 p, Value.int .i64 q, Value.slice a ks.length c] 37)).frozen? ⟨w.heap.size, 6, none⟩ = false := Lib.frozen_of_heap Xa.out 6
    have ka7 : (w.alloc (Obj.cells #[Value.int .i64 kd, Value.bool n, Value.slice a1 xs.length c1, Value.bool m, Value.slice a2 ys.length c2, Value.string nm, Value.int .i64 p, Value.int .i64 q, Value.slice a ks.length c] 37)).cell? ⟨w.heap.size, 7, none⟩ = some (Value.int .i64 q) := (Lib.cell_of_heap Xa.out 7).trans rfl
    have fa7 : (w.alloc (Obj.cells #[Value.int .i64 kd, Value.bool n, Value.slice a1 xs.length c1, Value.bool m, Value.slice a2 ys.length c2, Value.string nm, Value.int .i64 p, Value.int .i64 q, Value.slice a ks.length c] 37)).frozen? ⟨w.heap.size, 7, none⟩ = false := Lib.frozen_of_heap Xa.out 7
    have ka8 : (w.alloc (Obj.cells #[Value.int .i64 kd, Value.bool n, Value.slice a1 xs.length c1, Value.bool m, Value.slice a2 ys.length c2, Value.string nm, Value.int .i64 p, Value.int .i64 q, Value.slice a ks.length c] 37)).cell? ⟨w.heap.size, 8, none⟩ = some (Value.slice a ks.length c) := (Lib.cell_of_heap Xa.out 8).trans rfl
    have fa8 : (w.alloc (Obj.cells #[Value.int .i64 kd, Value.bool n, Value.slice a1 xs.length c1, Value.bool m, Value.slice a2 ys.length c2, Value.string nm, Value.int .i64 p, Value.int .i64 q, Value.slice a ks.length c] 37)).frozen? ⟨w.heap.size, 8, none⟩ = false := Lib.frozen_of_heap Xa.out 8
    have za : w.heap.size < (w.alloc (Obj.cells #[Value.int .i64 kd, Value.bool n, Value.slice a1 xs.length c1, Value.bool m, Value.slice a2 ys.length c2, Value.string nm, Value.int .i64 p, Value.int .i64 q, Value.slice a ks.length c] 37)).heap.size := hlt Xa.out
    go_enter Tryz.func14, Tryz.ntmps14
    go_wp2_with fail
    generalize (w.alloc (Obj.cells #[Value.int .i64 kd, Value.bool n, Value.slice a1 xs.length c1, Value.bool m, Value.slice a2 ys.length c2, Value.string nm, Value.int .i64 p, Value.int .i64 q, Value.slice a ks.length c] 37)) = w1 at *
    refine (ownS kd n xs m ys nm p q ks.length a1 c1 a2 c2 a c _ (S1.out.below HB.out) (S2.out.below HB.out) q3 (by omega)).mono ?_
    rintro e w2 ⟨rfl, hb⟩
    have yw2 := hb.size
    clear ka0 fa0 ka1 fa1 ka2 fa2 ka3 fa3 ka4 fa4 ka5 fa5 ka6 fa6 ka7 fa7 ka8 fa8 za
    replace Xa := hide (hbel Xa.out hb (by first | assumption | omega))
    replace HB := hide (bl_trans HB.out hb)
    clear hb
    have ka0 : w2.cell? ⟨w.heap.size, 0, none⟩ = some (Value.int .i64 kd) := (Lib.cell_of_heap Xa.out 0).trans rfl
    have fa0 : w2.frozen? ⟨w.heap.size, 0, none⟩ = false := Lib.frozen_of_heap Xa.out 0
    have ka1 : w2.cell? ⟨w.heap.size, 1, none⟩ = some (Value.bool n) := (Lib.cell_of_heap Xa.out 1).trans rfl
    have fa1 : w2.frozen? ⟨w.heap.size, 1, none⟩ = false := Lib.frozen_of_heap Xa.out 1
    have ka2 : w2.cell? ⟨w.heap.size, 2, none⟩ = some (Value.slice a1 xs.length c1) := (Lib.cell_of_heap Xa.out 2).trans rfl
    have fa2 : w2.frozen? ⟨w.heap.size, 2, none⟩ = false := Lib.frozen_of_heap Xa.out 2
    have ka3 : w2.cell? ⟨w.heap.size, 3, none⟩ = some (Value.bool m) := (Lib.cell_of_heap Xa.out 3).trans rfl
    have fa3 : w2.frozen? ⟨w.heap.size, 3, none⟩ = false := Lib.frozen_of_heap Xa.out 3
    have ka4 : w2.cell? ⟨w.heap.size, 4, none⟩ = some (Value.slice a2 ys.length c2) := (Lib.cell_of_heap Xa.out 4).trans rfl
    have fa4 : w2.frozen? ⟨w.heap.size, 4, none⟩ = false := Lib.frozen_of_heap Xa.out 4
    have ka5 : w2.cell? ⟨w.heap.size, 5, none⟩ = some (Value.string nm) := (Lib.cell_of_heap Xa.out 5).trans rfl
    have fa5 : w2.frozen? ⟨w.heap.size, 5, none⟩ = false := Lib.frozen_of_heap Xa.out 5
    have ka6 : w2.cell? ⟨w.heap.size, 6, none⟩ = some (Value.int .i64 p) := (Lib.cell_of_heap Xa.out 6).trans rfl
    have fa6 : w2.frozen? ⟨w.heap.size, 6, none⟩ = false := Lib.frozen_of_heap Xa.out 6
    have ka7 : w2.cell? ⟨w.heap.size, 7, none⟩ = some (Value.int .i64 q) := (Lib.cell_of_heap Xa.out 7).trans rfl
    have fa7 : w2.frozen? ⟨w.heap.size, 7, none⟩ = false := Lib.frozen_of_heap Xa.out 7
    have ka8 : w2.cell? ⟨w.heap.size, 8, none⟩ = some (Value.slice a ks.length c) := (Lib.cell_of_heap Xa.out 8).trans rfl
    have fa8 : w2.frozen? ⟨w.heap.size, 8, none⟩ = false := Lib.frozen_of_heap Xa.out 8
    have za : w.heap.size < w2.heap.size := hlt Xa.out
    cases ho : ownB kd n xs m ys nm p q ks.length with
    | false =>
      have HN : Hid (Ex.rt (Ex.mk kd n xs m ys nm p q ks) deep left = none) := hide (rt_no (.inr (.inr ho)))
      clear ho
      go_wp2
      refine bodyPost_ret (v := .tuple #[.bool false, .int .i64 0]) (by simp [results, Tryz.results14, go_sem]) rfl ?_
      exact ⟨by unfold RtAns; rw [HN.out]; rfl, HB.out⟩
    | true =>
      have HY : Hid (Ex.rt (Ex.mk kd n xs m ys nm p q ks) deep left = krt (ks.drop 0) (deep - 1) left 1) := hide (rt_yes (by omega) (by omega) ho)
      clear ho
      go_wp2
      go_loopw [8, 9] (fun nn i wr => ∃ k j : Nat, k ≤ ks.length ∧ i = .int .i64 k ∧ nn = .int .i64 j ∧ (j : Int) ≤ left ∧ Hid (Ex.rt (Ex.mk kd n xs m ys nm p q ks) deep left = krt (ks.drop k) (deep - 1) left j) ∧ Hid (wr.heap[w.heap.size]? = some (Obj.cells #[Value.int .i64 kd, Value.bool n, Value.slice a1 xs.length c1, Value.bool m, Value.slice a2 ys.length c2, Value.string nm, Value.int .i64 p, Value.int .i64 q, Value.slice a ks.length c] 37)) ∧ Hid (Below w.heap.size w wr)) (fun _ i _ => ks.length - (intOf i).toNat)
      case atStart => exact ⟨0, 1, Nat.zero_le _, rfl, rfl, by omega, HY, Xa, HB⟩
      case round =>
        clear HY Xa HB ka0 fa0 ka1 fa1 ka2 fa2 ka3 fa3 ka4 fa4 ka5 fa5 ka6 fa6 ka7 fa7 ka8 fa8 za
        obtain ⟨k, j, hk, rfl, rfl, hj, hr, Xa, HB⟩ := hrel
        have k8 : wr.cell? ⟨w.heap.size, 8, none⟩ = some (Value.slice a ks.length c) := (Lib.cell_of_heap Xa.out 8).trans rfl
        have za := hlt Xa.out
        by_cases hlk : k < ks.length
        · have hlt' : (k : Int) < (ks.length : Int) := by omega
          obtain ⟨g, o, ea, hg, _, hrec⟩ := (S3.out.below HB.out).at hlk
          subst ea
          have HC := hide (IH ks[k] (List.getElem_mem _))
          have HT := hide (ksz_mem (List.getElem_mem hlk))
          obtain ⟨r, er⟩ : ∃ r, ks[k] = r := ⟨_, rfl⟩
          rw [er] at hrec HC HT
          have ER := hide er
          clear er
          obtain ⟨kd', n', xs', m', ys', nm', p', q', ks'⟩ := r
          obtain ⟨a1', c1', a2', c2', a', c', t0, t1, t2, t3, t4, t5, t6, t7, t8, sg1, sg2, sg3, sgn⟩ := openEx hrec
          have H1 := hide sg1
          have H2 := hide sg2
          have H3 := hide sg3
          clear sg1 sg2 sg3
          go_wp2_with fail
          refine (HC.out kd' n' xs' m' ys' nm' p' q' ks' rfl X a1' c1' a2' c2' a' c' (deep - 1) (left - (j : Int)) wr H1.out H2.out H3.out (by have := HT.out; omega) (by omega) (by omega) (by omega) (by omega)).mono ?_
          rintro e w2 ⟨hans, hb2⟩
          have hbb := hide (bl_trans HB.out hb2)
          have Xa2 := hide (hbel Xa.out hb2 za)
          clear hb2 Xa HB k8 za t0 t1 t2 t3 t4 t5 t6 t7 t8
          cases hrt : Ex.rt (.mk kd' n' xs' m' ys' nm' p' q' ks') (deep - 1) (left - (j : Int)) with
          | none =>
            have HN : Hid (Ex.rt (Ex.mk kd n xs m ys nm p q ks) deep left = none) := hide (by rw [hr.out]; exact krt_none hlk (by rw [ER.out]; exact hrt))
            rw [hrt] at hans
            unfold RtAns at hans
            subst hans
            clear hrt
            go_wp2
            refine bodyPost_ret (v := .tuple #[.bool false, .int .i64 0]) (by simp [results, Tryz.results14, go_sem]) rfl ?_
            exact ⟨by unfold RtAns; rw [HN.out]; rfl, hbb.out⟩
          | some i =>
            have hle := rt_le _ _ _ _ hrt
            have HS : Hid (Ex.rt (Ex.mk kd n xs m ys nm p q ks) deep left = krt (ks.drop (k + 1)) (deep - 1) left (j + i)) := hide (by rw [hr.out]; exact krt_some hlk (by rw [ER.out]; exact hrt))
            rw [hrt] at hans
            have hans2 : e = .returned (.tuple #[.bool true, .int .i64 (i : Int)]) := hans
            subst hans2
            clear hrt hans
            go_wp2
            exact ⟨⟨k + 1, j + i, by omega, by go_num, by go_num, by omega, HS, Xa2, hbb⟩, by simp [intOf]; omega⟩
        · have HN : Hid (Ex.rt (Ex.mk kd n xs m ys nm p q ks) deep left = some j) := hide (by rw [hr.out]; exact krt_end (by omega))
          go_wp2
          refine bodyPost_ret (v := .tuple #[.bool true, .int .i64 (j : Int)]) (by simp [results, Tryz.results14, go_sem]) rfl ?_
          exact ⟨by unfold RtAns; rw [HN.out]; rfl, HB.out⟩
end Go.Proofs.YtlknhheafmifnaaGreatDoor

/- ExprOk of the program: the walk of allRight. -/
namespace Go.Proofs.YtlknhheafmifnaaGreatDoor
open Go.RowKit
set_option linter.unusedVariables false
set_option maxRecDepth 20000

/-- what allRight tells, and leaves of the room -/
def AlAns (o : Option Nat) (R : Nat) (room : Int) (e : Ending) (w : World) : Prop := match o with
  | none => e = .returned (.bool false)
  | some j => e = .returned (.bool true) ∧ w.heap[R]? = some (.cells #[Value.int .i64 (room - (j : Int))] 3 (0, 0))
/-- allRight's contract at one formula -/
def AlC (e : Ex) : Prop := ∀ (kd : Int) (n : Bool) (xs : List Nat) (m : Bool) (ys : List Nat) (nm : ByteArray) (p q : Int) (ks : List Ex), e = .mk kd n xs m ys nm p q ks → ∀ (X : Nat → Prop) (a1 : Option Addr) (c1 : Nat) (a2 : Option Addr) (c2 : Nat) (a : Option Addr) (c : Nat) (deep room : Int) (R : Nat) (w0 w : World), Tabs w0 → Seg w0 a1 xs.length c1 xs → Seg w0 a2 ys.length c2 ys → KSeg w0 X a ks.length c ks → e.sz ≤ 1048576 → -100 ≤ deep → deep ≤ 100 → 0 ≤ room → room ≤ 100 → w0.heap.size ≤ R → Below w0.heap.size w0 w → w.heap[R]? = some (.cells #[Value.int .i64 room] 3 (0, 0)) →
    Calls Tryz.prog 17 #[Value.agg #[Value.int .i64 kd, Value.bool n, Value.slice a1 xs.length c1, Value.bool m, Value.slice a2 ys.length c2, Value.string nm, Value.int .i64 p, Value.int .i64 q, Value.slice a ks.length c], .int .i64 deep, .pointer (some ⟨R, 0, none⟩)] w fun e' w' => AlAns (e.rt (12 - deep) room) R room e' w' ∧ Below w0.heap.size w0 w'


set_option maxHeartbeats 8000000 in
set_option maxRecDepth 20000 in
theorem alI : ∀ (N : Nat) (e : Ex), e.cnt ≤ N → AlC e
  | 0, e, h => by rw [cnt_ks] at h; omega
  | N + 1, .mk kd n xs m ys nm p q ks, h => by
    rw [cnt_ks] at h
    have IH : ∀ r ∈ ks, AlC r := fun r hr => alI N r (by have := kcnt_mem hr; have h2 : 1 + kcnt ks ≤ N + 1 := h; omega)
    clear h
    intro kd' n' xs' m' ys' nm' p' q' ks' heq X a1 c1 a2 c2 a c deep room R w0 w htab s1 s2 s3 ht hd1 hd2 hl1 hl2 hRR hb0 hR
    cases heq
    have q3 := s3.le
    have hsz : xs.length + ys.length + nm.size + ksz ks ≤ 1048576 := by rw [Ex.sz] at ht; exact ht
    have S1 := hide s1
    have S2 := hide s2
    have S3 := hide s3
    have HT := hide htab
    have hRl := hlt hR
    clear s1 s2 s3 ht htab
    have XR : Hid ((w.alloc (Obj.cells #[Value.int .i64 kd, Value.bool n, Value.slice a1 xs.length c1, Value.bool m, Value.slice a2 ys.length c2, Value.string nm, Value.int .i64 p, Value.int .i64 q, Value.slice a ks.length c] 37)).heap[R]? = some (.cells #[Value.int .i64 room] 3 (0, 0))) := hide (hnewer hR _)
    have kr : (w.alloc (Obj.cells #[Value.int .i64 kd, Value.bool n, Value.slice a1 xs.length c1, Value.bool m, Value.slice a2 ys.length c2, Value.string nm, Value.int .i64 p, Value.int .i64 q, Value.slice a ks.length c] 37)).cell? ⟨R, 0, none⟩ = some (Value.int .i64 room) := (Lib.cell_of_heap XR.out 0).trans rfl
    have HB : Hid (Below w0.heap.size w0 (w.alloc (Obj.cells #[Value.int .i64 kd, Value.bool n, Value.slice a1 xs.length c1, Value.bool m, Value.slice a2 ys.length c2, Value.string nm, Value.int .i64 p, Value.int .i64 q, Value.slice a ks.length c] 37))) := hide (hb0.alloc hb0.size _)
    have Xa : Hid ((w.alloc (Obj.cells #[Value.int .i64 kd, Value.bool n, Value.slice a1 xs.length c1, Value.bool m, Value.slice a2 ys.length c2, Value.string nm, Value.int .i64 p, Value.int .i64 q, Value.slice a ks.length c] 37)).heap[w.heap.size]? = some (Obj.cells #[Value.int .i64 kd, Value.bool n, Value.slice a1 xs.length c1, Value.bool m, Value.slice a2 ys.length c2, Value.string nm, Value.int .i64 p, Value.int .i64 q, Value.slice a ks.length c] 37)) := hide (hnew _ _)
    have y1 : w.heap.size + 1 ≤ (w.alloc (Obj.cells #[Value.int .i64 kd, Value.bool n, Value.slice a1 xs.length c1, Value.bool m, Value.slice a2 ys.length c2, Value.string nm, Value.int .i64 p, Value.int .i64 q, Value.slice a ks.length c] 37)).heap.size := by simp only [World.size_alloc]; omega
    have ka0 : (w.alloc (Obj.cells #[Value.int .i64 kd, Value.bool n, Value.slice a1 xs.length c1, Value.bool m, Value.slice a2 ys.length c2, Value.string nm, Value.int .i64 p, Value.int .i64 q, Value.slice a ks.length c] 37)).cell? ⟨w.heap.size, 0, none⟩ = some (Value.int .i64 kd) := (Lib.cell_of_heap Xa.out 0).trans rfl
    have ka1 : (w.alloc (Obj.cells #[Value.int .i64 kd, Value.bool n, Value.slice a1 xs.length c1, Value.bool m, Value.slice a2 ys.length c2, Value.string nm, Value.int .i64 p, Value.int .i64 q, Value.slice a ks.length c] 37)).cell? ⟨w.heap.size, 1, none⟩ = some (Value.bool n) := (Lib.cell_of_heap Xa.out 1).trans rfl
    have ka2 : (w.alloc (Obj.cells #[Value.int .i64 kd, Value.bool n, Value.slice a1 xs.length c1, Value.bool m, Value.slice a2 ys.length c2, Value.string nm, Value.int .i64 p, Value.int .i64 q, Value.slice a ks.length c] 37)).cell? ⟨w.heap.size, 2, none⟩ = some (Value.slice a1 xs.length c1) := (Lib.cell_of_heap Xa.out 2).trans rfl
    have ka3 : (w.alloc (Obj.cells #[Value.int .i64 kd, Value.bool n, Value.slice a1 xs.length c1, Value.bool m, Value.slice a2 ys.length c2, Value.string nm, Value.int .i64 p, Value.int .i64 q, Value.slice a ks.length c] 37)).cell? ⟨w.heap.size, 3, none⟩ = some (Value.bool m) := (Lib.cell_of_heap Xa.out 3).trans rfl
    have ka4 : (w.alloc (Obj.cells #[Value.int .i64 kd, Value.bool n, Value.slice a1 xs.length c1, Value.bool m, Value.slice a2 ys.length c2, Value.string nm, Value.int .i64 p, Value.int .i64 q, Value.slice a ks.length c] 37)).cell? ⟨w.heap.size, 4, none⟩ = some (Value.slice a2 ys.length c2) := (Lib.cell_of_heap Xa.out 4).trans rfl
    have ka5 : (w.alloc (Obj.cells #[Value.int .i64 kd, Value.bool n, Value.slice a1 xs.length c1, Value.bool m, Value.slice a2 ys.length c2, Value.string nm, Value.int .i64 p, Value.int .i64 q, Value.slice a ks.length c] 37)).cell? ⟨w.heap.size, 5, none⟩ = some (Value.string nm) := (Lib.cell_of_heap Xa.out 5).trans rfl
    have ka6 : (w.alloc (Obj.cells #[Value.int .i64 kd, Value.bool n, Value.slice a1 xs.length c1, Value.bool m, Value.slice a2 ys.length c2, Value.string nm, Value.int .i64 p, Value.int .i64 q, Value.slice a ks.length c] 37)).cell? ⟨w.heap.size, 6, none⟩ = some (Value.int .i64 p) := (Lib.cell_of_heap Xa.out 6).trans rfl
    have ka7 : (w.alloc (Obj.cells #[Value.int .i64 kd, Value.bool n, Value.slice a1 xs.length c1, Value.bool m, Value.slice a2 ys.length c2, Value.string nm, Value.int .i64 p, Value.int .i64 q, Value.slice a ks.length c] 37)).cell? ⟨w.heap.size, 7, none⟩ = some (Value.int .i64 q) := (Lib.cell_of_heap Xa.out 7).trans rfl
    have ka8 : (w.alloc (Obj.cells #[Value.int .i64 kd, Value.bool n, Value.slice a1 xs.length c1, Value.bool m, Value.slice a2 ys.length c2, Value.string nm, Value.int .i64 p, Value.int .i64 q, Value.slice a ks.length c] 37)).cell? ⟨w.heap.size, 8, none⟩ = some (Value.slice a ks.length c) := (Lib.cell_of_heap Xa.out 8).trans rfl
    by_cases hd : 12 < deep
    · have HN : Hid (Ex.rt (Ex.mk kd n xs m ys nm p q ks) (12 - deep) room = none) := hide (rt_no (.inl (by omega)))
      go_enter Tryz.func17, Tryz.ntmps17
      go_wp2
      go_ret
      exact ⟨by rw [HN.out]; exact rfl, HB.out⟩
    by_cases hl : room = 0
    · have HN : Hid (Ex.rt (Ex.mk kd n xs m ys nm p q ks) (12 - deep) room = none) := hide (rt_no (.inr (.inl (by omega))))
      have hl2 : (room == 0) = true := by rw [beq_iff_eq]; exact hl
      clear hl
      go_enter Tryz.func17, Tryz.ntmps17
      go_wp2
      go_ret
      exact ⟨by rw [HN.out]; exact rfl, HB.out⟩
    have hl2 : (room == 0) = false := by rw [beq_eq_false_iff_ne]; exact hl
    go_enter Tryz.func17, Tryz.ntmps17
    go_wp2_with fail
    generalize (w.alloc (Obj.cells #[Value.int .i64 kd, Value.bool n, Value.slice a1 xs.length c1, Value.bool m, Value.slice a2 ys.length c2, Value.string nm, Value.int .i64 p, Value.int .i64 q, Value.slice a ks.length c] 37)) = w1 at *
    refine (ownI kd n xs m ys nm p q ks.length a1 c1 a2 c2 a c w1 (S1.out.below HB.out) (S2.out.below HB.out) q3 (HT.out.below HB.out) (by omega)).mono ?_
    rintro e2 w2 ⟨rfl, hb2⟩
    have y2 := hb2.size
    replace HB := hide (HB.out.trans (hb2.mono HB.out.size))
    replace XR := hide (hbel XR.out hb2 (by omega))
    replace Xa := hide (hbel Xa.out hb2 (by omega))
    clear hb2 kr ka0 ka1 ka2 ka3 ka4 ka5 ka6 ka7 ka8
    cases ho : ownB kd n xs m ys nm p q ks.length with
    | false =>
      have HN : Hid (Ex.rt (Ex.mk kd n xs m ys nm p q ks) (12 - deep) room = none) := hide (rt_no (.inr (.inr ho)))
      clear ho
      go_wp2
      go_ret
      exact ⟨by rw [HN.out]; exact rfl, HB.out⟩
    | true =>
      have HY : Hid (Ex.rt (Ex.mk kd n xs m ys nm p q ks) (12 - deep) room = krt (ks.drop 0) (12 - deep - 1) room 1) := hide (rt_yes (by omega) (by omega) ho)
      clear ho
      have kr : w2.cell? ⟨R, 0, none⟩ = some (Value.int .i64 room) := (Lib.cell_of_heap XR.out 0).trans rfl
      have fr : w2.frozen? ⟨R, 0, none⟩ = false := Lib.frozen_of_heap XR.out 0
      have k8 : w2.cell? ⟨w.heap.size, 8, none⟩ = some (Value.slice a ks.length c) := (Lib.cell_of_heap Xa.out 8).trans rfl
      have hRw : w.heap.size ≠ R := by omega
      have hst : St R w2 (w2.setCell ⟨R, 0, none⟩ (Value.int .i64 (room - 1))) := (St.refl R w2).set 0 _
      have XR3 : Hid ((w2.setCell ⟨R, 0, none⟩ (Value.int .i64 (room - 1))).heap[R]? = some (.cells #[Value.int .i64 (room - ((1 : Nat) : Int))] 3 (0, 0))) := hide (hset XR.out 0 _)
      have HB3 : Hid (Below w0.heap.size w0 (w2.setCell ⟨R, 0, none⟩ (Value.int .i64 (room - 1)))) := hide (St.below HB.out hst (by omega))
      have Xa3 := hide (hst.heap Xa.out hRw)
      have k83 : (w2.setCell ⟨R, 0, none⟩ (Value.int .i64 (room - 1))).cell? ⟨w.heap.size, 8, none⟩ = some (Value.slice a ks.length c) := (Lib.cell_of_heap Xa3.out 8).trans rfl
      clear hst Xa Xa3 XR HB
      go_wp2
      go_loopw [30] (fun i wr => ∃ k j : Nat, k ≤ ks.length ∧ i = .int .i64 k ∧ (j : Int) ≤ room ∧ Hid (Ex.rt (Ex.mk kd n xs m ys nm p q ks) (12 - deep) room = krt (ks.drop k) (12 - deep - 1) room j) ∧ Hid (wr.heap[R]? = some (.cells #[Value.int .i64 (room - (j : Int))] 3 (0, 0))) ∧ Hid (Below w0.heap.size w0 wr)) (fun i _ => ks.length - (intOf i).toNat)
      case atStart => exact ⟨0, 1, Nat.zero_le _, rfl, by omega, HY, XR3, HB3⟩
      case round =>
        clear HY XR3 HB3 kr fr k8 k83
        obtain ⟨k, j, hk, rfl, hj, hr, XR, HB⟩ := hrel
        have zr := hlt XR.out
        by_cases hlk : k < ks.length
        · have hlt' : (k : Int) < (ks.length : Int) := by omega
          obtain ⟨g, o, ea, hgw, _, hrec⟩ := S3.out.at hlk
          subst ea
          have HC := hide (IH ks[k] (List.getElem_mem _))
          have HT2 := hide (ksz_mem (List.getElem_mem hlk))
          obtain ⟨r, er⟩ : ∃ r, ks[k] = r := ⟨_, rfl⟩
          rw [er] at hrec HC HT2
          have ER := hide er
          clear er
          obtain ⟨kd', n', xs', m', ys', nm', p', q', ks'⟩ := r
          obtain ⟨a1', c1', a2', c2', a', c', t0, t1, t2, t3, t4, t5, t6, t7, t8, sg1, sg2, sg3, sgn⟩ := openEx hrec
          have H1 := hide sg1
          have H2 := hide sg2
          have H3 := hide sg3
          clear sg1 sg2 sg3
          replace t0 := (HB.out.cell (p := ⟨g, o + k * 9, none⟩) hgw).trans t0
          replace t1 := (HB.out.cell (p := ⟨g, o + k * 9 + 1, none⟩) hgw).trans t1
          replace t2 := (HB.out.cell (p := ⟨g, o + k * 9 + 2, none⟩) hgw).trans t2
          replace t3 := (HB.out.cell (p := ⟨g, o + k * 9 + 3, none⟩) hgw).trans t3
          replace t4 := (HB.out.cell (p := ⟨g, o + k * 9 + 4, none⟩) hgw).trans t4
          replace t5 := (HB.out.cell (p := ⟨g, o + k * 9 + 5, none⟩) hgw).trans t5
          replace t6 := (HB.out.cell (p := ⟨g, o + k * 9 + 6, none⟩) hgw).trans t6
          replace t7 := (HB.out.cell (p := ⟨g, o + k * 9 + 7, none⟩) hgw).trans t7
          replace t8 := (HB.out.cell (p := ⟨g, o + k * 9 + 8, none⟩) hgw).trans t8
          go_wp2_with fail
          have hbx : Below w0.heap.size w0 (wr.alloc (Obj.cells #[Value.int .i64 kd', Value.bool n', Value.slice a1' xs'.length c1', Value.bool m', Value.slice a2' ys'.length c2', Value.string nm', Value.int .i64 p', Value.int .i64 q', Value.slice a' ks'.length c'] 37)) := HB.out.alloc HB.out.size _
          have hx2 : (wr.alloc (Obj.cells #[Value.int .i64 kd', Value.bool n', Value.slice a1' xs'.length c1', Value.bool m', Value.slice a2' ys'.length c2', Value.string nm', Value.int .i64 p', Value.int .i64 q', Value.slice a' ks'.length c'] 37)).heap[R]? = some (.cells #[Value.int .i64 (room - (j : Int))] 3 (0, 0)) := hnewer XR.out _
          refine (HC.out kd' n' xs' m' ys' nm' p' q' ks' rfl X a1' c1' a2' c2' a' c' (deep + 1) (room - (j : Int)) R w0 _ HT.out H1.out H2.out H3.out (by have := HT2.out; omega) (by omega) (by omega) (by omega) (by omega) (by omega) hbx hx2).mono ?_
          rintro e3 w3 ⟨hans, hb3⟩
          have HB3 := hide hb3
          clear hbx hx2 hb3 XR HB t0 t1 t2 t3 t4 t5 t6 t7 t8
          have hdd : 12 - (deep + 1) = 12 - deep - 1 := by omega
          rw [hdd] at hans
          clear hdd
          cases hrt : Ex.rt (.mk kd' n' xs' m' ys' nm' p' q' ks') (12 - deep - 1) (room - (j : Int)) with
          | none =>
            have HN : Hid (Ex.rt (Ex.mk kd n xs m ys nm p q ks) (12 - deep) room = none) := hide (by rw [hr.out]; exact krt_none hlk (by rw [ER.out]; exact hrt))
            rw [hrt] at hans
            have hans2 : e3 = .returned (.bool false) := hans
            subst hans2
            clear hrt hans
            go_wp2
            go_ret
            exact ⟨by rw [HN.out]; exact rfl, HB3.out⟩
          | some i =>
            have hle := rt_le _ _ _ _ hrt
            have HS : Hid (Ex.rt (Ex.mk kd n xs m ys nm p q ks) (12 - deep) room = krt (ks.drop (k + 1)) (12 - deep - 1) room (j + i)) := hide (by rw [hr.out]; exact krt_some hlk (by rw [ER.out]; exact hrt))
            rw [hrt] at hans
            have hans2 : e3 = .returned (.bool true) ∧ w3.heap[R]? = some (.cells #[Value.int .i64 (room - (j : Int) - (i : Int))] 3 (0, 0)) := hans
            obtain ⟨rfl, hx3⟩ := hans2
            have HX3 : Hid (w3.heap[R]? = some (.cells #[Value.int .i64 (room - ((j + i : Nat) : Int))] 3 (0, 0))) := hide (by rw [hx3, show room - (j : Int) - (i : Int) = room - ((j + i : Nat) : Int) by omega])
            clear hrt hans hx3
            go_wp2
            exact ⟨⟨k + 1, j + i, by omega, by go_num, by omega, HS, HX3, HB3⟩, by simp [intOf]; omega⟩
        · have HN : Hid (Ex.rt (Ex.mk kd n xs m ys nm p q ks) (12 - deep) room = some j) := hide (by rw [hr.out]; exact krt_end (by omega))
          go_wp2
          go_ret
          exact ⟨by rw [HN.out]; exact ⟨rfl, XR.out⟩, HB.out⟩
end Go.Proofs.YtlknhheafmifnaaGreatDoor
