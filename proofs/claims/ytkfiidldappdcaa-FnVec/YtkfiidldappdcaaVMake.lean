/- The walk of the program's VecMake. -/
import Derived.Test.YtkfiidldappdcaaMakeS
namespace Go.Proofs.Ytkfiidldappdcaa
open Go.RowKit
set_option linter.unusedVariables false

/-- VecMake takes its arguments -/
def mkT (xs : List Int) (den : Int) : Bool := decide (xs.length ≤ 8) && winB 1000000000 (at8 xs) && decide (-1000000000 ≤ den ∧ den ≤ 1000000000) && decide (¬ den = 0)
/-- the answer of VecMake -/
def vmB (xs : List Int) (den : Int) : Bool := mkT xs den && tlB den (at8 xs)
def vmD (xs : List Int) (den : Int) : Int := if mkT xs den = true then tlD den (at8 xs) else 0
def vmL (xs : List Int) (den : Int) : List Int := if mkT xs den = true then tlL xs.length den (at8 xs) else []
theorem vm_no {xs : List Int} {den : Int} (h : mkT xs den = false) : Hid (vmD xs den = 0) ∧ Hid (vmL xs den = []) ∧ Hid (vmB xs den = false) :=
  ⟨by unfold vmD Hid; rw [h]; rfl, by unfold vmL Hid; rw [h]; rfl, by unfold vmB Hid; rw [h]; rfl⟩
theorem vm_yes {xs : List Int} {den : Int} (h : mkT xs den = true) : Hid (vmD xs den = tlD den (at8 xs)) ∧ Hid (vmL xs den = tlL xs.length den (at8 xs)) ∧ Hid (vmB xs den = tlB den (at8 xs)) :=
  ⟨by unfold vmD Hid; rw [h]; rfl, by unfold vmL Hid; rw [h]; rfl, by unfold vmB Hid; rw [h]; rfl⟩

set_option maxHeartbeats 2000000 in
theorem vecMakeI (a : Option Addr) (cap : Nat) (xs : List Int) (den : Int) (w : World) (hs : Seg w a xs.length cap xs) :
    Calls Try.prog 38 #[.slice a xs.length cap, .int .i64 den] w fun e w' => ∃ a' c', e = .returned (.tuple #[.agg #[.int .i64 (vmD xs den), .slice a' (vmL xs den).length c'], .bool (vmB xs den)]) ∧ Own w' w.heap.size a' (vmL xs den).length c' (vmL xs den) ∧ Below w.heap.size w w' := by
  have kr0 : (w.alloc (Obj.cells #[Value.int .i64 0, Value.slice none 0 0] 29)).cell? ⟨w.heap.size, 0, none⟩ = some (Value.int .i64 0) := by go_simp
  have kr1 : (w.alloc (Obj.cells #[Value.int .i64 0, Value.slice none 0 0] 29)).cell? ⟨w.heap.size, 1, none⟩ = some (Value.slice none 0 0) := by go_simp
  have fr0 : (w.alloc (Obj.cells #[Value.int .i64 0, Value.slice none 0 0] 29)).frozen? ⟨w.heap.size, 0, none⟩ = false := by go_simp
  have fr1 : (w.alloc (Obj.cells #[Value.int .i64 0, Value.slice none 0 0] 29)).frozen? ⟨w.heap.size, 1, none⟩ = false := by go_simp
  have zr : w.heap.size < (w.alloc (Obj.cells #[Value.int .i64 0, Value.slice none 0 0] 29)).heap.size := by simp only [World.size_alloc]; omega
  have HB := hide (bl_alloc (bl_refl w) (Obj.cells #[Value.int .i64 0, Value.slice none 0 0] 29))
  have HS := hide (hs.below HB.out)
  have hle := hs.le
  clear hs
  by_cases h8 : xs.length ≤ 8
  · have H8 := hide h8
    go_enter Try.func38, Try.ntmps38
    go_wp2_with fail
    generalize w.alloc (Obj.cells #[Value.int .i64 0, Value.slice none 0 0] 29) = w1 at *
    refine (placesOf_yes a cap xs _ H8.out HS.out).mono ?_
    rintro e w2 ⟨rfl, hb⟩
    replace kr0 := (hb.cell (p := ⟨w.heap.size, 0, none⟩) zr).trans kr0
    replace fr0 := (hb.frozen (p := ⟨w.heap.size, 0, none⟩) zr).trans fr0
    replace kr1 := (hb.cell (p := ⟨w.heap.size, 1, none⟩) zr).trans kr1
    replace fr1 := (hb.frozen (p := ⟨w.heap.size, 1, none⟩) zr).trans fr1
    replace zr := Nat.lt_of_lt_of_le zr hb.size
    replace HB := hide (bl_trans HB.out hb)
    clear hb
    clear HS
    go_wp2_with fail
    have hb := bl_alloc (bl_refl w2) (Obj.cells #[Value.int .i64 (xs.length : Int), Value.int .i64 (at8 xs 0), Value.int .i64 (at8 xs 1), Value.int .i64 (at8 xs 2), Value.int .i64 (at8 xs 3), Value.int .i64 (at8 xs 4), Value.int .i64 (at8 xs 5), Value.int .i64 (at8 xs 6), Value.int .i64 (at8 xs 7)] 65)
    have kx0 : (w2.alloc (Obj.cells #[Value.int .i64 (xs.length : Int), Value.int .i64 (at8 xs 0), Value.int .i64 (at8 xs 1), Value.int .i64 (at8 xs 2), Value.int .i64 (at8 xs 3), Value.int .i64 (at8 xs 4), Value.int .i64 (at8 xs 5), Value.int .i64 (at8 xs 6), Value.int .i64 (at8 xs 7)] 65)).cell? ⟨w2.heap.size, 0, none⟩ = some (Value.int .i64 (xs.length : Int)) := by go_simp
    have kx1 : (w2.alloc (Obj.cells #[Value.int .i64 (xs.length : Int), Value.int .i64 (at8 xs 0), Value.int .i64 (at8 xs 1), Value.int .i64 (at8 xs 2), Value.int .i64 (at8 xs 3), Value.int .i64 (at8 xs 4), Value.int .i64 (at8 xs 5), Value.int .i64 (at8 xs 6), Value.int .i64 (at8 xs 7)] 65)).cell? ⟨w2.heap.size, 1, none⟩ = some (Value.int .i64 (at8 xs 0)) := by go_simp
    have kx2 : (w2.alloc (Obj.cells #[Value.int .i64 (xs.length : Int), Value.int .i64 (at8 xs 0), Value.int .i64 (at8 xs 1), Value.int .i64 (at8 xs 2), Value.int .i64 (at8 xs 3), Value.int .i64 (at8 xs 4), Value.int .i64 (at8 xs 5), Value.int .i64 (at8 xs 6), Value.int .i64 (at8 xs 7)] 65)).cell? ⟨w2.heap.size, 2, none⟩ = some (Value.int .i64 (at8 xs 1)) := by go_simp
    have kx3 : (w2.alloc (Obj.cells #[Value.int .i64 (xs.length : Int), Value.int .i64 (at8 xs 0), Value.int .i64 (at8 xs 1), Value.int .i64 (at8 xs 2), Value.int .i64 (at8 xs 3), Value.int .i64 (at8 xs 4), Value.int .i64 (at8 xs 5), Value.int .i64 (at8 xs 6), Value.int .i64 (at8 xs 7)] 65)).cell? ⟨w2.heap.size, 3, none⟩ = some (Value.int .i64 (at8 xs 2)) := by go_simp
    have kx4 : (w2.alloc (Obj.cells #[Value.int .i64 (xs.length : Int), Value.int .i64 (at8 xs 0), Value.int .i64 (at8 xs 1), Value.int .i64 (at8 xs 2), Value.int .i64 (at8 xs 3), Value.int .i64 (at8 xs 4), Value.int .i64 (at8 xs 5), Value.int .i64 (at8 xs 6), Value.int .i64 (at8 xs 7)] 65)).cell? ⟨w2.heap.size, 4, none⟩ = some (Value.int .i64 (at8 xs 3)) := by go_simp
    have kx5 : (w2.alloc (Obj.cells #[Value.int .i64 (xs.length : Int), Value.int .i64 (at8 xs 0), Value.int .i64 (at8 xs 1), Value.int .i64 (at8 xs 2), Value.int .i64 (at8 xs 3), Value.int .i64 (at8 xs 4), Value.int .i64 (at8 xs 5), Value.int .i64 (at8 xs 6), Value.int .i64 (at8 xs 7)] 65)).cell? ⟨w2.heap.size, 5, none⟩ = some (Value.int .i64 (at8 xs 4)) := by go_simp
    have kx6 : (w2.alloc (Obj.cells #[Value.int .i64 (xs.length : Int), Value.int .i64 (at8 xs 0), Value.int .i64 (at8 xs 1), Value.int .i64 (at8 xs 2), Value.int .i64 (at8 xs 3), Value.int .i64 (at8 xs 4), Value.int .i64 (at8 xs 5), Value.int .i64 (at8 xs 6), Value.int .i64 (at8 xs 7)] 65)).cell? ⟨w2.heap.size, 6, none⟩ = some (Value.int .i64 (at8 xs 5)) := by go_simp
    have kx7 : (w2.alloc (Obj.cells #[Value.int .i64 (xs.length : Int), Value.int .i64 (at8 xs 0), Value.int .i64 (at8 xs 1), Value.int .i64 (at8 xs 2), Value.int .i64 (at8 xs 3), Value.int .i64 (at8 xs 4), Value.int .i64 (at8 xs 5), Value.int .i64 (at8 xs 6), Value.int .i64 (at8 xs 7)] 65)).cell? ⟨w2.heap.size, 7, none⟩ = some (Value.int .i64 (at8 xs 6)) := by go_simp
    have kx8 : (w2.alloc (Obj.cells #[Value.int .i64 (xs.length : Int), Value.int .i64 (at8 xs 0), Value.int .i64 (at8 xs 1), Value.int .i64 (at8 xs 2), Value.int .i64 (at8 xs 3), Value.int .i64 (at8 xs 4), Value.int .i64 (at8 xs 5), Value.int .i64 (at8 xs 6), Value.int .i64 (at8 xs 7)] 65)).cell? ⟨w2.heap.size, 8, none⟩ = some (Value.int .i64 (at8 xs 7)) := by go_simp
    have zx : w2.heap.size < (w2.alloc (Obj.cells #[Value.int .i64 (xs.length : Int), Value.int .i64 (at8 xs 0), Value.int .i64 (at8 xs 1), Value.int .i64 (at8 xs 2), Value.int .i64 (at8 xs 3), Value.int .i64 (at8 xs 4), Value.int .i64 (at8 xs 5), Value.int .i64 (at8 xs 6), Value.int .i64 (at8 xs 7)] 65)).heap.size := by simp only [World.size_alloc]; omega
    generalize w2.alloc (Obj.cells #[Value.int .i64 (xs.length : Int), Value.int .i64 (at8 xs 0), Value.int .i64 (at8 xs 1), Value.int .i64 (at8 xs 2), Value.int .i64 (at8 xs 3), Value.int .i64 (at8 xs 4), Value.int .i64 (at8 xs 5), Value.int .i64 (at8 xs 6), Value.int .i64 (at8 xs 7)] 65) = w3 at *
    replace kr0 := (hb.cell (p := ⟨w.heap.size, 0, none⟩) zr).trans kr0
    replace fr0 := (hb.frozen (p := ⟨w.heap.size, 0, none⟩) zr).trans fr0
    replace kr1 := (hb.cell (p := ⟨w.heap.size, 1, none⟩) zr).trans kr1
    replace fr1 := (hb.frozen (p := ⟨w.heap.size, 1, none⟩) zr).trans fr1
    replace zr := Nat.lt_of_lt_of_le zr hb.size
    replace HB := hide (bl_trans HB.out hb)
    clear hb
    refine (within8 (xs.length : Int) 1000000000 (at8 xs) _ (by omega) (by omega)).mono ?_
    rintro e w4 ⟨rfl, hb⟩
    replace kr0 := (hb.cell (p := ⟨w.heap.size, 0, none⟩) zr).trans kr0
    replace fr0 := (hb.frozen (p := ⟨w.heap.size, 0, none⟩) zr).trans fr0
    replace kr1 := (hb.cell (p := ⟨w.heap.size, 1, none⟩) zr).trans kr1
    replace fr1 := (hb.frozen (p := ⟨w.heap.size, 1, none⟩) zr).trans fr1
    replace kx0 := (hb.cell (p := ⟨w2.heap.size, 0, none⟩) zx).trans kx0
    replace kx1 := (hb.cell (p := ⟨w2.heap.size, 1, none⟩) zx).trans kx1
    replace kx2 := (hb.cell (p := ⟨w2.heap.size, 2, none⟩) zx).trans kx2
    replace kx3 := (hb.cell (p := ⟨w2.heap.size, 3, none⟩) zx).trans kx3
    replace kx4 := (hb.cell (p := ⟨w2.heap.size, 4, none⟩) zx).trans kx4
    replace kx5 := (hb.cell (p := ⟨w2.heap.size, 5, none⟩) zx).trans kx5
    replace kx6 := (hb.cell (p := ⟨w2.heap.size, 6, none⟩) zx).trans kx6
    replace kx7 := (hb.cell (p := ⟨w2.heap.size, 7, none⟩) zx).trans kx7
    replace kx8 := (hb.cell (p := ⟨w2.heap.size, 8, none⟩) zx).trans kx8
    replace zx := Nat.lt_of_lt_of_le zx hb.size
    replace zr := Nat.lt_of_lt_of_le zr hb.size
    replace HB := hide (bl_trans HB.out hb)
    clear hb
    cases hw : winB 1000000000 (at8 xs) with
    | false =>
      obtain ⟨N1, N2, N3⟩ := vm_no (xs := xs) (den := den) (by unfold mkT; rw [hw]; simp)
      clear hw
      go_wp2
      rw [N1.out, N2.out, N3.out]
      exact bodyPost_ret (v := .tuple #[.agg #[.int .i64 0, .slice none 0 0], .bool false]) (by simp [results, Try.results38, go_sem, *]) rfl ⟨none, 0, rfl, Own.nil _ _, (HB.out.setCell (p := ⟨w.heap.size, 0, none⟩) (Nat.le_refl _) _).setCell (p := ⟨w.heap.size, 1, none⟩) (Nat.le_refl _) _⟩
    | true =>
    have HW := hide hw
    clear hw
    rcases far_or den with hfar | ⟨hd1, hd2⟩
    · obtain ⟨N1, N2, N3⟩ := vm_no (xs := xs) (den := den) (by unfold mkT; rw [decide_eq_false (p := -1000000000 ≤ den ∧ den ≤ 1000000000) (by unfold Far at hfar; omega)]; simp)
      have HFA := hide hfar
      clear hfar
      go_wp2_with fail
      refine (smallI_out _ _ HFA.out).mono ?_
      rintro e w5 ⟨rfl, hw⟩
      subst w5
      go_wp2
      rw [N1.out, N2.out, N3.out]
      exact bodyPost_ret (v := .tuple #[.agg #[.int .i64 0, .slice none 0 0], .bool false]) (by simp [results, Try.results38, go_sem, *]) rfl ⟨none, 0, rfl, Own.nil _ _, (HB.out.setCell (p := ⟨w.heap.size, 0, none⟩) (Nat.le_refl _) _).setCell (p := ⟨w.heap.size, 1, none⟩) (Nat.le_refl _) _⟩
    by_cases hz : den = 0
    · obtain ⟨N1, N2, N3⟩ := vm_no (xs := xs) (den := den) (by unfold mkT; rw [decide_eq_false (p := ¬ den = 0) (by omega)]; simp)
      have hzb : (den == 0) = true := by simp [hz]
      clear hz
      go_wp2_with fail
      refine (smallI_in _ _ hd1 hd2).mono ?_
      rintro e w5 ⟨rfl, hw⟩
      subst w5
      go_wp2
      rw [N1.out, N2.out, N3.out]
      exact bodyPost_ret (v := .tuple #[.agg #[.int .i64 0, .slice none 0 0], .bool false]) (by simp [results, Try.results38, go_sem, *]) rfl ⟨none, 0, rfl, Own.nil _ _, (HB.out.setCell (p := ⟨w.heap.size, 0, none⟩) (Nat.le_refl _) _).setCell (p := ⟨w.heap.size, 1, none⟩) (Nat.le_refl _) _⟩
    · obtain ⟨N1, N2, N3⟩ := vm_yes (xs := xs) (den := den) (by unfold mkT; rw [HW.out, decide_eq_true H8.out, decide_eq_true (p := -1000000000 ≤ den ∧ den ≤ 1000000000) ⟨hd1, hd2⟩, decide_eq_true (p := ¬ den = 0) hz]; rfl)
      have hzb : (den == 0) = false := by simp [hz]
      have HTO := hide (fun w => told8 xs.length den (at8 xs) w H8.out hz (by omega) (fun j hj => by have := (winB_iff 1000000000 (at8 xs)).1 HW.out j hj; omega))
      clear hz
      go_wp2_with fail
      refine (smallI_in _ _ hd1 hd2).mono ?_
      rintro e w5 ⟨rfl, hw⟩
      subst w5
      go_wp2_with fail
      refine (HTO.out _).mono ?_
      rintro e w5 ⟨a', c', rfl, ho, hb⟩
      have HO := hide ho
      have y4 := zr
      clear ho HTO
      replace kr0 := (hb.cell (p := ⟨w.heap.size, 0, none⟩) zr).trans kr0
      replace fr0 := (hb.frozen (p := ⟨w.heap.size, 0, none⟩) zr).trans fr0
      replace kr1 := (hb.cell (p := ⟨w.heap.size, 1, none⟩) zr).trans kr1
      replace fr1 := (hb.frozen (p := ⟨w.heap.size, 1, none⟩) zr).trans fr1
      replace zr := Nat.lt_of_lt_of_le zr hb.size
      replace HB := hide (bl_trans HB.out hb)
      clear hb
      generalize tlD den (at8 xs) = D at *
      generalize tlL xs.length den (at8 xs) = M at *
      generalize tlB den (at8 xs) = bb at *
      go_wp2
      rw [N1.out, N2.out, N3.out]
      refine bodyPost_ret (v := .tuple #[.agg #[.int .i64 D, .slice a' M.length c'], .bool bb]) (by simp [results, Try.results38, go_sem, *]) rfl ⟨a', c', rfl, ?_, ?_⟩
      · exact ((HO.out.setCell (p := ⟨w.heap.size, 0, none⟩) y4 _).setCell (p := ⟨w.heap.size, 1, none⟩) y4 _).mono (by omega)
      · exact (HB.out.setCell (p := ⟨w.heap.size, 0, none⟩) (Nat.le_refl _) _).setCell (p := ⟨w.heap.size, 1, none⟩) (Nat.le_refl _) _
  · obtain ⟨N1, N2, N3⟩ := vm_no (xs := xs) (den := den) (by unfold mkT; rw [decide_eq_false h8]; simp)
    go_enter Try.func38, Try.ntmps38
    go_wp2_with fail
    generalize w.alloc (Obj.cells #[Value.int .i64 0, Value.slice none 0 0] 29) = w1 at *
    refine (placesOf_no a xs.length cap _ (by omega) hle).mono ?_
    rintro e w2 ⟨rfl, hb⟩
    replace kr0 := (hb.cell (p := ⟨w.heap.size, 0, none⟩) zr).trans kr0
    replace fr0 := (hb.frozen (p := ⟨w.heap.size, 0, none⟩) zr).trans fr0
    replace kr1 := (hb.cell (p := ⟨w.heap.size, 1, none⟩) zr).trans kr1
    replace fr1 := (hb.frozen (p := ⟨w.heap.size, 1, none⟩) zr).trans fr1
    replace zr := Nat.lt_of_lt_of_le zr hb.size
    replace HB := hide (bl_trans HB.out hb)
    clear hb
    clear HS
    go_wp2
    rw [N1.out, N2.out, N3.out]
    exact bodyPost_ret (v := .tuple #[.agg #[.int .i64 0, .slice none 0 0], .bool false]) (by simp [results, Try.results38, go_sem, *]) rfl ⟨none, 0, rfl, Own.nil _ _, bl_alloc ((HB.out.setCell (p := ⟨w.heap.size, 0, none⟩) (Nat.le_refl _) _).setCell (p := ⟨w.heap.size, 1, none⟩) (Nat.le_refl _) _) _⟩
end Go.Proofs.Ytkfiidldappdcaa
