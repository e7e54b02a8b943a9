/- The walk of told. -/
import Derived.Test.YtkfiidldappdcaaShort
namespace Go.Proofs.Ytkfiidldappdcaa
open Go.RowKit
set_option linter.unusedVariables false

/-- the answer of told: whether there is one, its number, its list -/
def tlB (d : Int) (f : Nat → Int) : Bool := rgtB (fun j => (f j).tdiv (gsg d f)) (d.tdiv (gsg d f))
def tlD (d : Int) (f : Nat → Int) : Int := if tlB d f then d.tdiv (gsg d f) else 0
def tlL (n : Nat) (d : Int) (f : Nat → Int) : List Int := if tlB d f then lst8 n (fun j => (f j).tdiv (gsg d f)) else []

set_option maxHeartbeats 4000000 in
theorem told8 (n : Nat) (d : Int) (f : Nat → Int) (w : World) (hn : n ≤ 8) (h0 : d ≠ 0) (hd : -1000000000000000 ≤ d ∧ d ≤ 1000000000000000) (hf : ∀ j, j < 8 → -1000000000000000 ≤ f j ∧ f j ≤ 1000000000000000) :
    Calls Try.prog 60 #[Value.agg #[Value.int .i64 (n : Int), Value.int .i64 (f 0), Value.int .i64 (f 1), Value.int .i64 (f 2), Value.int .i64 (f 3), Value.int .i64 (f 4), Value.int .i64 (f 5), Value.int .i64 (f 6), Value.int .i64 (f 7), Value.int .i64 d]] w fun e w' => ∃ a c, e = .returned (.tuple #[.agg #[.int .i64 (tlD d f), .slice a (tlL n d f).length c], .bool (tlB d f)]) ∧ Own w' w.heap.size a (tlL n d f).length c (tlL n d f) ∧ Below w.heap.size w w' := by
  have kr0 : ((w.alloc (Obj.cells #[Value.int .i64 (n : Int), Value.int .i64 (f 0), Value.int .i64 (f 1), Value.int .i64 (f 2), Value.int .i64 (f 3), Value.int .i64 (f 4), Value.int .i64 (f 5), Value.int .i64 (f 6), Value.int .i64 (f 7), Value.int .i64 d] 67)).alloc (Obj.cells #[Value.int .i64 0, Value.slice none 0 0] 29)).cell? ⟨w.heap.size + 1, 0, none⟩ = some (Value.int .i64 0) := by go_simp
  have fr0 : ((w.alloc (Obj.cells #[Value.int .i64 (n : Int), Value.int .i64 (f 0), Value.int .i64 (f 1), Value.int .i64 (f 2), Value.int .i64 (f 3), Value.int .i64 (f 4), Value.int .i64 (f 5), Value.int .i64 (f 6), Value.int .i64 (f 7), Value.int .i64 d] 67)).alloc (Obj.cells #[Value.int .i64 0, Value.slice none 0 0] 29)).frozen? ⟨w.heap.size + 1, 0, none⟩ = false := by go_simp
  have kr1 : ((w.alloc (Obj.cells #[Value.int .i64 (n : Int), Value.int .i64 (f 0), Value.int .i64 (f 1), Value.int .i64 (f 2), Value.int .i64 (f 3), Value.int .i64 (f 4), Value.int .i64 (f 5), Value.int .i64 (f 6), Value.int .i64 (f 7), Value.int .i64 d] 67)).alloc (Obj.cells #[Value.int .i64 0, Value.slice none 0 0] 29)).cell? ⟨w.heap.size + 1, 1, none⟩ = some (Value.slice none 0 0) := by go_simp
  have fr1 : ((w.alloc (Obj.cells #[Value.int .i64 (n : Int), Value.int .i64 (f 0), Value.int .i64 (f 1), Value.int .i64 (f 2), Value.int .i64 (f 3), Value.int .i64 (f 4), Value.int .i64 (f 5), Value.int .i64 (f 6), Value.int .i64 (f 7), Value.int .i64 d] 67)).alloc (Obj.cells #[Value.int .i64 0, Value.slice none 0 0] 29)).frozen? ⟨w.heap.size + 1, 1, none⟩ = false := by go_simp
  have zr : w.heap.size + 1 < ((w.alloc (Obj.cells #[Value.int .i64 (n : Int), Value.int .i64 (f 0), Value.int .i64 (f 1), Value.int .i64 (f 2), Value.int .i64 (f 3), Value.int .i64 (f 4), Value.int .i64 (f 5), Value.int .i64 (f 6), Value.int .i64 (f 7), Value.int .i64 d] 67)).alloc (Obj.cells #[Value.int .i64 0, Value.slice none 0 0] 29)).heap.size := by simp only [World.size_alloc]; omega
  have HB := hide (bl_alloc (bl_alloc (bl_refl w) (Obj.cells #[Value.int .i64 (n : Int), Value.int .i64 (f 0), Value.int .i64 (f 1), Value.int .i64 (f 2), Value.int .i64 (f 3), Value.int .i64 (f 4), Value.int .i64 (f 5), Value.int .i64 (f 6), Value.int .i64 (f 7), Value.int .i64 d] 67)) (Obj.cells #[Value.int .i64 0, Value.slice none 0 0] 29))
  have HS := hide (fun w => shortened8 (n : Int) d f w h0 hd hf)
  have HD : Hid (tlD d f = if tlB d f then d.tdiv (gsg d f) else 0) := hide rfl
  have HL : Hid (tlL n d f = if tlB d f then lst8 n (fun j => (f j).tdiv (gsg d f)) else []) := hide rfl
  have HT : Hid (tlB d f = rgtB (fun j => (f j).tdiv (gsg d f)) (d.tdiv (gsg d f))) := hide rfl
  clear h0 hd hf
  generalize gsg d f = G at *
  go_enter Try.func60, Try.ntmps60
  go_wp2_with fail
  generalize ((w.alloc (Obj.cells #[Value.int .i64 (n : Int), Value.int .i64 (f 0), Value.int .i64 (f 1), Value.int .i64 (f 2), Value.int .i64 (f 3), Value.int .i64 (f 4), Value.int .i64 (f 5), Value.int .i64 (f 6), Value.int .i64 (f 7), Value.int .i64 d] 67)).alloc (Obj.cells #[Value.int .i64 0, Value.slice none 0 0] 29)) = w1 at *
  refine (HS.out _).mono ?_
  rintro e w2 ⟨rfl, hb⟩
  replace kr0 := (hb.cell (p := ⟨w.heap.size + 1, 0, none⟩) zr).trans kr0
  replace fr0 := (hb.frozen (p := ⟨w.heap.size + 1, 0, none⟩) zr).trans fr0
  replace kr1 := (hb.cell (p := ⟨w.heap.size + 1, 1, none⟩) zr).trans kr1
  replace fr1 := (hb.frozen (p := ⟨w.heap.size + 1, 1, none⟩) zr).trans fr1
  replace zr := Nat.lt_of_lt_of_le zr hb.size
  replace HB := hide (bl_trans HB.out hb)
  clear hb
  clear HS
  go_wp2_with fail
  have hb := bl_alloc (bl_refl w2) (Obj.cells #[Value.int .i64 (n : Int), Value.int .i64 ((f 0).tdiv G), Value.int .i64 ((f 1).tdiv G), Value.int .i64 ((f 2).tdiv G), Value.int .i64 ((f 3).tdiv G), Value.int .i64 ((f 4).tdiv G), Value.int .i64 ((f 5).tdiv G), Value.int .i64 ((f 6).tdiv G), Value.int .i64 ((f 7).tdiv G), Value.int .i64 (d.tdiv G)] 67)
  have kx0 : (w2.alloc (Obj.cells #[Value.int .i64 (n : Int), Value.int .i64 ((f 0).tdiv G), Value.int .i64 ((f 1).tdiv G), Value.int .i64 ((f 2).tdiv G), Value.int .i64 ((f 3).tdiv G), Value.int .i64 ((f 4).tdiv G), Value.int .i64 ((f 5).tdiv G), Value.int .i64 ((f 6).tdiv G), Value.int .i64 ((f 7).tdiv G), Value.int .i64 (d.tdiv G)] 67)).cell? ⟨w2.heap.size, 0, none⟩ = some (Value.int .i64 (n : Int)) := by go_simp
  have kx1 : (w2.alloc (Obj.cells #[Value.int .i64 (n : Int), Value.int .i64 ((f 0).tdiv G), Value.int .i64 ((f 1).tdiv G), Value.int .i64 ((f 2).tdiv G), Value.int .i64 ((f 3).tdiv G), Value.int .i64 ((f 4).tdiv G), Value.int .i64 ((f 5).tdiv G), Value.int .i64 ((f 6).tdiv G), Value.int .i64 ((f 7).tdiv G), Value.int .i64 (d.tdiv G)] 67)).cell? ⟨w2.heap.size, 1, none⟩ = some (Value.int .i64 ((f 0).tdiv G)) := by go_simp
  have kx2 : (w2.alloc (Obj.cells #[Value.int .i64 (n : Int), Value.int .i64 ((f 0).tdiv G), Value.int .i64 ((f 1).tdiv G), Value.int .i64 ((f 2).tdiv G), Value.int .i64 ((f 3).tdiv G), Value.int .i64 ((f 4).tdiv G), Value.int .i64 ((f 5).tdiv G), Value.int .i64 ((f 6).tdiv G), Value.int .i64 ((f 7).tdiv G), Value.int .i64 (d.tdiv G)] 67)).cell? ⟨w2.heap.size, 2, none⟩ = some (Value.int .i64 ((f 1).tdiv G)) := by go_simp
  have kx3 : (w2.alloc (Obj.cells #[Value.int .i64 (n : Int), Value.int .i64 ((f 0).tdiv G), Value.int .i64 ((f 1).tdiv G), Value.int .i64 ((f 2).tdiv G), Value.int .i64 ((f 3).tdiv G), Value.int .i64 ((f 4).tdiv G), Value.int .i64 ((f 5).tdiv G), Value.int .i64 ((f 6).tdiv G), Value.int .i64 ((f 7).tdiv G), Value.int .i64 (d.tdiv G)] 67)).cell? ⟨w2.heap.size, 3, none⟩ = some (Value.int .i64 ((f 2).tdiv G)) := by go_simp
  have kx4 : (w2.alloc (Obj.cells #[Value.int .i64 (n : Int), Value.int .i64 ((f 0).tdiv G), Value.int .i64 ((f 1).tdiv G), Value.int .i64 ((f 2).tdiv G), Value.int .i64 ((f 3).tdiv G), Value.int .i64 ((f 4).tdiv G), Value.int .i64 ((f 5).tdiv G), Value.int .i64 ((f 6).tdiv G), Value.int .i64 ((f 7).tdiv G), Value.int .i64 (d.tdiv G)] 67)).cell? ⟨w2.heap.size, 4, none⟩ = some (Value.int .i64 ((f 3).tdiv G)) := by go_simp
  have kx5 : (w2.alloc (Obj.cells #[Value.int .i64 (n : Int), Value.int .i64 ((f 0).tdiv G), Value.int .i64 ((f 1).tdiv G), Value.int .i64 ((f 2).tdiv G), Value.int .i64 ((f 3).tdiv G), Value.int .i64 ((f 4).tdiv G), Value.int .i64 ((f 5).tdiv G), Value.int .i64 ((f 6).tdiv G), Value.int .i64 ((f 7).tdiv G), Value.int .i64 (d.tdiv G)] 67)).cell? ⟨w2.heap.size, 5, none⟩ = some (Value.int .i64 ((f 4).tdiv G)) := by go_simp
  have kx6 : (w2.alloc (Obj.cells #[Value.int .i64 (n : Int), Value.int .i64 ((f 0).tdiv G), Value.int .i64 ((f 1).tdiv G), Value.int .i64 ((f 2).tdiv G), Value.int .i64 ((f 3).tdiv G), Value.int .i64 ((f 4).tdiv G), Value.int .i64 ((f 5).tdiv G), Value.int .i64 ((f 6).tdiv G), Value.int .i64 ((f 7).tdiv G), Value.int .i64 (d.tdiv G)] 67)).cell? ⟨w2.heap.size, 6, none⟩ = some (Value.int .i64 ((f 5).tdiv G)) := by go_simp
  have kx7 : (w2.alloc (Obj.cells #[Value.int .i64 (n : Int), Value.int .i64 ((f 0).tdiv G), Value.int .i64 ((f 1).tdiv G), Value.int .i64 ((f 2).tdiv G), Value.int .i64 ((f 3).tdiv G), Value.int .i64 ((f 4).tdiv G), Value.int .i64 ((f 5).tdiv G), Value.int .i64 ((f 6).tdiv G), Value.int .i64 ((f 7).tdiv G), Value.int .i64 (d.tdiv G)] 67)).cell? ⟨w2.heap.size, 7, none⟩ = some (Value.int .i64 ((f 6).tdiv G)) := by go_simp
  have kx8 : (w2.alloc (Obj.cells #[Value.int .i64 (n : Int), Value.int .i64 ((f 0).tdiv G), Value.int .i64 ((f 1).tdiv G), Value.int .i64 ((f 2).tdiv G), Value.int .i64 ((f 3).tdiv G), Value.int .i64 ((f 4).tdiv G), Value.int .i64 ((f 5).tdiv G), Value.int .i64 ((f 6).tdiv G), Value.int .i64 ((f 7).tdiv G), Value.int .i64 (d.tdiv G)] 67)).cell? ⟨w2.heap.size, 8, none⟩ = some (Value.int .i64 ((f 7).tdiv G)) := by go_simp
  have kx9 : (w2.alloc (Obj.cells #[Value.int .i64 (n : Int), Value.int .i64 ((f 0).tdiv G), Value.int .i64 ((f 1).tdiv G), Value.int .i64 ((f 2).tdiv G), Value.int .i64 ((f 3).tdiv G), Value.int .i64 ((f 4).tdiv G), Value.int .i64 ((f 5).tdiv G), Value.int .i64 ((f 6).tdiv G), Value.int .i64 ((f 7).tdiv G), Value.int .i64 (d.tdiv G)] 67)).cell? ⟨w2.heap.size, 9, none⟩ = some (Value.int .i64 (d.tdiv G)) := by go_simp
  have zx : w2.heap.size < (w2.alloc (Obj.cells #[Value.int .i64 (n : Int), Value.int .i64 ((f 0).tdiv G), Value.int .i64 ((f 1).tdiv G), Value.int .i64 ((f 2).tdiv G), Value.int .i64 ((f 3).tdiv G), Value.int .i64 ((f 4).tdiv G), Value.int .i64 ((f 5).tdiv G), Value.int .i64 ((f 6).tdiv G), Value.int .i64 ((f 7).tdiv G), Value.int .i64 (d.tdiv G)] 67)).heap.size := by simp only [World.size_alloc]; omega
  have y2 := zr
  generalize w2.alloc (Obj.cells #[Value.int .i64 (n : Int), Value.int .i64 ((f 0).tdiv G), Value.int .i64 ((f 1).tdiv G), Value.int .i64 ((f 2).tdiv G), Value.int .i64 ((f 3).tdiv G), Value.int .i64 ((f 4).tdiv G), Value.int .i64 ((f 5).tdiv G), Value.int .i64 ((f 6).tdiv G), Value.int .i64 ((f 7).tdiv G), Value.int .i64 (d.tdiv G)] 67) = w3 at *
  replace kr0 := (hb.cell (p := ⟨w.heap.size + 1, 0, none⟩) zr).trans kr0
  replace fr0 := (hb.frozen (p := ⟨w.heap.size + 1, 0, none⟩) zr).trans fr0
  replace kr1 := (hb.cell (p := ⟨w.heap.size + 1, 1, none⟩) zr).trans kr1
  replace fr1 := (hb.frozen (p := ⟨w.heap.size + 1, 1, none⟩) zr).trans fr1
  replace zr := Nat.lt_of_lt_of_le zr hb.size
  replace HB := hide (bl_trans HB.out hb)
  clear hb
  refine (right8 (n : Int) (d.tdiv G) (fun j => (f j).tdiv G) _).mono ?_
  rintro e w4 ⟨rfl, hb⟩
  replace kr0 := (hb.cell (p := ⟨w.heap.size + 1, 0, none⟩) zr).trans kr0
  replace fr0 := (hb.frozen (p := ⟨w.heap.size + 1, 0, none⟩) zr).trans fr0
  replace kr1 := (hb.cell (p := ⟨w.heap.size + 1, 1, none⟩) zr).trans kr1
  replace fr1 := (hb.frozen (p := ⟨w.heap.size + 1, 1, none⟩) zr).trans fr1
  replace zr := Nat.lt_of_lt_of_le zr hb.size
  replace kx0 := (hb.cell (p := ⟨w2.heap.size, 0, none⟩) zx).trans kx0
  replace kx1 := (hb.cell (p := ⟨w2.heap.size, 1, none⟩) zx).trans kx1
  replace kx2 := (hb.cell (p := ⟨w2.heap.size, 2, none⟩) zx).trans kx2
  replace kx3 := (hb.cell (p := ⟨w2.heap.size, 3, none⟩) zx).trans kx3
  replace kx4 := (hb.cell (p := ⟨w2.heap.size, 4, none⟩) zx).trans kx4
  replace kx5 := (hb.cell (p := ⟨w2.heap.size, 5, none⟩) zx).trans kx5
  replace kx6 := (hb.cell (p := ⟨w2.heap.size, 6, none⟩) zx).trans kx6
  replace kx7 := (hb.cell (p := ⟨w2.heap.size, 7, none⟩) zx).trans kx7
  replace kx8 := (hb.cell (p := ⟨w2.heap.size, 8, none⟩) zx).trans kx8
  replace kx9 := (hb.cell (p := ⟨w2.heap.size, 9, none⟩) zx).trans kx9
  replace zx := Nat.lt_of_lt_of_le zx hb.size
  replace HB := hide (bl_trans HB.out hb)
  clear hb
  rw [← HT.out]
  cases ht : tlB d f with
  | false =>
    rw [ht] at HD HL
    have HD' : Hid (tlD d f = 0) := hide (by rw [HD.out]; rfl)
    have HL' : Hid (tlL n d f = []) := hide (by rw [HL.out]; rfl)
    have HT' := hide ht
    clear ht HD HL HT
    go_wp2
    rw [HD'.out, HL'.out, HT'.out]
    exact bodyPost_ret (v := .tuple #[.agg #[.int .i64 0, .slice none 0 0], .bool false]) (by simp [results, Try.results60, go_sem, *]) rfl ⟨none, 0, rfl, Own.nil _ _, (HB.out.setCell (p := ⟨w.heap.size + 1, 0, none⟩) (Nat.le_succ _) _).setCell (p := ⟨w.heap.size + 1, 1, none⟩) (Nat.le_succ _) _⟩
  | true =>
    rw [ht] at HD HL
    have HD' : Hid (tlD d f = d.tdiv G) := hide (by rw [HD.out]; rfl)
    have HL' : Hid (tlL n d f = lst8 n (fun j => (f j).tdiv G)) := hide (by rw [HL.out]; rfl)
    have HT' := hide ht
    clear ht HD HL HT
    go_wp2_with fail
    have KP : Hid (∀ w', Below w4.heap.size w4 w' → (w'.cell? ⟨w.heap.size + 1, 0, none⟩ = some (Value.int .i64 0) ∧ w'.cell? ⟨w.heap.size + 1, 1, none⟩ = some (Value.slice none 0 0) ∧ w'.frozen? ⟨w.heap.size + 1, 0, none⟩ = false ∧ w'.frozen? ⟨w.heap.size + 1, 1, none⟩ = false ∧ w'.cell? ⟨w2.heap.size, 0, none⟩ = some (Value.int .i64 (n : Int)) ∧ w'.cell? ⟨w2.heap.size, 1, none⟩ = some (Value.int .i64 ((f 0).tdiv G)) ∧ w'.cell? ⟨w2.heap.size, 2, none⟩ = some (Value.int .i64 ((f 1).tdiv G)) ∧ w'.cell? ⟨w2.heap.size, 3, none⟩ = some (Value.int .i64 ((f 2).tdiv G)) ∧ w'.cell? ⟨w2.heap.size, 4, none⟩ = some (Value.int .i64 ((f 3).tdiv G)) ∧ w'.cell? ⟨w2.heap.size, 5, none⟩ = some (Value.int .i64 ((f 4).tdiv G)) ∧ w'.cell? ⟨w2.heap.size, 6, none⟩ = some (Value.int .i64 ((f 5).tdiv G)) ∧ w'.cell? ⟨w2.heap.size, 7, none⟩ = some (Value.int .i64 ((f 6).tdiv G)) ∧ w'.cell? ⟨w2.heap.size, 8, none⟩ = some (Value.int .i64 ((f 7).tdiv G)) ∧ w'.cell? ⟨w2.heap.size, 9, none⟩ = some (Value.int .i64 (d.tdiv G)) ∧ Hid (Below w.heap.size w w'))) := hide (fun w' hb => ⟨(hb.cell (p := ⟨w.heap.size + 1, 0, none⟩) zr).trans kr0, (hb.cell (p := ⟨w.heap.size + 1, 1, none⟩) zr).trans kr1, (hb.frozen (p := ⟨w.heap.size + 1, 0, none⟩) zr).trans fr0, (hb.frozen (p := ⟨w.heap.size + 1, 1, none⟩) zr).trans fr1, (hb.cell (p := ⟨w2.heap.size, 0, none⟩) zx).trans kx0, (hb.cell (p := ⟨w2.heap.size, 1, none⟩) zx).trans kx1, (hb.cell (p := ⟨w2.heap.size, 2, none⟩) zx).trans kx2, (hb.cell (p := ⟨w2.heap.size, 3, none⟩) zx).trans kx3, (hb.cell (p := ⟨w2.heap.size, 4, none⟩) zx).trans kx4, (hb.cell (p := ⟨w2.heap.size, 5, none⟩) zx).trans kx5, (hb.cell (p := ⟨w2.heap.size, 6, none⟩) zx).trans kx6, (hb.cell (p := ⟨w2.heap.size, 7, none⟩) zx).trans kx7, (hb.cell (p := ⟨w2.heap.size, 8, none⟩) zx).trans kx8, (hb.cell (p := ⟨w2.heap.size, 9, none⟩) zx).trans kx9, hide (bl_trans HB.out hb)⟩)
    have HLI := hide (fun w => list8 n (fun j => (f j).tdiv G) w hn)
    have y4 := zr
    go_region_with (go_at_call 74; refine (HLI.out _).mono ?_; rintro e w5 ⟨aa, cc, rfl, ho5, hb5⟩; obtain ⟨qr0, qr1, qf0, qf1, qx0, qx1, qx2, qx3, qx4, qx5, qx6, qx7, qx8, qx9, HQ⟩ := KP.out w5 (bl_trans (bl_refl w4).drew hb5); have HO5 := hide (show Own w5 w4.heap.size aa n cc (lst8 n (fun j => (f j).tdiv G)) from ho5); clear hb5 ho5)
    all_goals
      go_wp2
      rw [HD'.out, HL'.out, HT'.out, lst8_len]
      refine bodyPost_ret (v := .tuple #[.agg #[.int .i64 (d.tdiv G), .slice aa n cc], .bool true]) (by simp [results, Try.results60, go_sem, *]) rfl ⟨aa, cc, rfl, ?_, ?_⟩
      · exact ((HO5.out.setCell (p := ⟨w.heap.size + 1, 0, none⟩) y4 _).setCell (p := ⟨w.heap.size + 1, 1, none⟩) y4 _).mono (by omega)
      · exact (HQ.out.setCell (p := ⟨w.heap.size + 1, 0, none⟩) (Nat.le_succ _) _).setCell (p := ⟨w.heap.size + 1, 1, none⟩) (Nat.le_succ _) _
end Go.Proofs.Ytkfiidldappdcaa
