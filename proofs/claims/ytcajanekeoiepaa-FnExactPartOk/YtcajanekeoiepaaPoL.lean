/- The walk of the exact law of PartOk. -/
import Derived.Test.YtcajanekeoiepaaPoX
namespace Go.Proofs.Ytcajanekeoiepaa
open Go.RowKit
set_option linter.unusedVariables false

theorem szP (s : ByteArray) (p q : Int) (left : Int) (w : World) (hs : s.size ≤ 9223372036854775807) (h0 : 0 ≤ left) (h1 : left ≤ 1048576) :
    Calls Try.prog 4 #[Value.agg #[Value.string s, Value.int .i64 p, Value.int .i64 q], .int .i64 left] w fun e w' => e = .returned (.int .i64 (if left < (s.size : Int) then -1 else left - (s.size : Int))) ∧ Below w.heap.size w w' := by
  by_cases hl : left < (s.size : Int)
  · rw [if_pos hl]
    have HB := hide (bl_alloc (bl_refl w) (Obj.cells #[Value.string s, Value.int .i64 p, Value.int .i64 q] 23))
    go_enter Try.func4, Try.ntmps4
    go_wp2
    go_ret
    exact ⟨rfl, HB.out⟩
  · rw [if_neg hl]
    have HB := hide (bl_alloc (bl_refl w) (Obj.cells #[Value.string s, Value.int .i64 p, Value.int .i64 q] 23))
    go_enter Try.func4, Try.ntmps4
    go_wp2
    go_ret
    exact ⟨rfl, HB.out⟩

set_option maxHeartbeats 1000000 in
theorem toP (s : ByteArray) (p q : Int) (w : World) :
    Calls Try.prog 6 #[Value.agg #[Value.string s, Value.int .i64 p, Value.int .i64 q]] w fun e w' => e = .returned (Value.agg #[Value.string s, Value.int .i64 p, Value.int .i64 q]) ∧ Below w.heap.size w w' := by
  have ka0 : ((w.alloc (Obj.cells #[Value.string s, Value.int .i64 p, Value.int .i64 q] 23)).alloc (Obj.cells #[Value.string ⟨#[]⟩, Value.int .i64 0, Value.int .i64 0] 26)).cell? ⟨w.heap.size, 0, none⟩ = some (Value.string s) := by go_simp
  have ka1 : ((w.alloc (Obj.cells #[Value.string s, Value.int .i64 p, Value.int .i64 q] 23)).alloc (Obj.cells #[Value.string ⟨#[]⟩, Value.int .i64 0, Value.int .i64 0] 26)).cell? ⟨w.heap.size, 1, none⟩ = some (Value.int .i64 p) := by go_simp
  have ka2 : ((w.alloc (Obj.cells #[Value.string s, Value.int .i64 p, Value.int .i64 q] 23)).alloc (Obj.cells #[Value.string ⟨#[]⟩, Value.int .i64 0, Value.int .i64 0] 26)).cell? ⟨w.heap.size, 2, none⟩ = some (Value.int .i64 q) := by go_simp
  have kr0 : ((w.alloc (Obj.cells #[Value.string s, Value.int .i64 p, Value.int .i64 q] 23)).alloc (Obj.cells #[Value.string ⟨#[]⟩, Value.int .i64 0, Value.int .i64 0] 26)).cell? ⟨w.heap.size + 1, 0, none⟩ = some (Value.string ⟨#[]⟩) := by go_simp
  have fr0 : ((w.alloc (Obj.cells #[Value.string s, Value.int .i64 p, Value.int .i64 q] 23)).alloc (Obj.cells #[Value.string ⟨#[]⟩, Value.int .i64 0, Value.int .i64 0] 26)).frozen? ⟨w.heap.size + 1, 0, none⟩ = false := by go_simp
  have kr1 : ((w.alloc (Obj.cells #[Value.string s, Value.int .i64 p, Value.int .i64 q] 23)).alloc (Obj.cells #[Value.string ⟨#[]⟩, Value.int .i64 0, Value.int .i64 0] 26)).cell? ⟨w.heap.size + 1, 1, none⟩ = some (Value.int .i64 0) := by go_simp
  have fr1 : ((w.alloc (Obj.cells #[Value.string s, Value.int .i64 p, Value.int .i64 q] 23)).alloc (Obj.cells #[Value.string ⟨#[]⟩, Value.int .i64 0, Value.int .i64 0] 26)).frozen? ⟨w.heap.size + 1, 1, none⟩ = false := by go_simp
  have kr2 : ((w.alloc (Obj.cells #[Value.string s, Value.int .i64 p, Value.int .i64 q] 23)).alloc (Obj.cells #[Value.string ⟨#[]⟩, Value.int .i64 0, Value.int .i64 0] 26)).cell? ⟨w.heap.size + 1, 2, none⟩ = some (Value.int .i64 0) := by go_simp
  have fr2 : ((w.alloc (Obj.cells #[Value.string s, Value.int .i64 p, Value.int .i64 q] 23)).alloc (Obj.cells #[Value.string ⟨#[]⟩, Value.int .i64 0, Value.int .i64 0] 26)).frozen? ⟨w.heap.size + 1, 2, none⟩ = false := by go_simp
  have zr : w.heap.size + 1 < ((w.alloc (Obj.cells #[Value.string s, Value.int .i64 p, Value.int .i64 q] 23)).alloc (Obj.cells #[Value.string ⟨#[]⟩, Value.int .i64 0, Value.int .i64 0] 26)).heap.size := by simp only [World.size_alloc]; omega
  have HB := hide (bl_alloc (bl_alloc (bl_refl w) (Obj.cells #[Value.string s, Value.int .i64 p, Value.int .i64 q] 23)) (Obj.cells #[Value.string ⟨#[]⟩, Value.int .i64 0, Value.int .i64 0] 26))
  go_enter Try.func6, Try.ntmps6
  clear ka0 ka1 ka2 kr0 kr1 kr2 fr0 fr1 fr2 zr HB
  go_wp2
  refine bodyPost_ret (v := Value.agg #[Value.string s, Value.int .i64 p, Value.int .i64 q]) (by simp [results, Try.results6, go_sem]) rfl ?_
  exact ⟨rfl, bl_alloc (bl_alloc (bl_alloc (bl_refl w) _) _) _⟩

set_option maxHeartbeats 1000000 in
theorem walkPo (s : ByteArray) (p q : Int) (w : World) (hs : s.size ≤ 9223372036854775807) :
    Calls Try.prog 3 #[Value.agg #[Value.string s, Value.int .i64 p, Value.int .i64 q]] w fun e w' => e = .returned (.bool true) ∧ Below w.heap.size w w' := by
  have ka0 : (w.alloc (Obj.cells #[Value.string s, Value.int .i64 p, Value.int .i64 q] 23)).cell? ⟨w.heap.size, 0, none⟩ = some (Value.string s) := by go_simp
  have ka1 : (w.alloc (Obj.cells #[Value.string s, Value.int .i64 p, Value.int .i64 q] 23)).cell? ⟨w.heap.size, 1, none⟩ = some (Value.int .i64 p) := by go_simp
  have ka2 : (w.alloc (Obj.cells #[Value.string s, Value.int .i64 p, Value.int .i64 q] 23)).cell? ⟨w.heap.size, 2, none⟩ = some (Value.int .i64 q) := by go_simp
  have zr : w.heap.size < (w.alloc (Obj.cells #[Value.string s, Value.int .i64 p, Value.int .i64 q] 23)).heap.size := by simp only [World.size_alloc]; omega
  have HB := hide (bl_alloc (bl_refl w) (Obj.cells #[Value.string s, Value.int .i64 p, Value.int .i64 q] 23))
  go_enter Try.func3, Try.ntmps3
  go_wp2_with fail
  generalize (w.alloc (Obj.cells #[Value.string s, Value.int .i64 p, Value.int .i64 q] 23)) = w1 at *
  have z0 := zr
  refine (szP s p q 1048576 _ hs (by omega) (by omega)).mono ?_
  rintro e w2 ⟨rfl, hb⟩
  have yw2 := hb.size
  replace ka0 := (hb.cell (p := ⟨w.heap.size, 0, none⟩) (by dsimp only; omega)).trans ka0
  replace ka1 := (hb.cell (p := ⟨w.heap.size, 1, none⟩) (by dsimp only; omega)).trans ka1
  replace ka2 := (hb.cell (p := ⟨w.heap.size, 2, none⟩) (by dsimp only; omega)).trans ka2
  replace zr := Nat.lt_of_lt_of_le zr hb.size
  replace HB := hide (bl_trans HB.out hb)
  clear hb
  by_cases hbig : (1048576 : Int) < (s.size : Int)
  · rw [if_pos hbig]
    go_wp2
    go_ret
    exact ⟨rfl, HB.out⟩
  rw [if_neg hbig]
  have hs2 : s.size ≤ 140737488355328 := by omega
  go_wp2_with fail
  refine (toP s p q _).mono ?_
  rintro e w3 ⟨rfl, hb⟩
  have yw3 := hb.size
  replace ka0 := (hb.cell (p := ⟨w.heap.size, 0, none⟩) (by dsimp only; omega)).trans ka0
  replace ka1 := (hb.cell (p := ⟨w.heap.size, 1, none⟩) (by dsimp only; omega)).trans ka1
  replace ka2 := (hb.cell (p := ⟨w.heap.size, 2, none⟩) (by dsimp only; omega)).trans ka2
  replace zr := Nat.lt_of_lt_of_le zr hb.size
  replace HB := hide (bl_trans HB.out hb)
  clear hb
  go_wp2_with fail
  refine (partS s p q _ hs2).mono ?_
  rintro e w4 ⟨rfl, hb⟩
  have yw4 := hb.size
  replace ka0 := (hb.cell (p := ⟨w.heap.size, 0, none⟩) (by dsimp only; omega)).trans ka0
  replace ka1 := (hb.cell (p := ⟨w.heap.size, 1, none⟩) (by dsimp only; omega)).trans ka1
  replace ka2 := (hb.cell (p := ⟨w.heap.size, 2, none⟩) (by dsimp only; omega)).trans ka2
  replace zr := Nat.lt_of_lt_of_le zr hb.size
  replace HB := hide (bl_trans HB.out hb)
  clear hb
  go_wp2_with fail
  refine (toP s p q _).mono ?_
  rintro e w5 ⟨rfl, hb⟩
  have yw5 := hb.size
  replace ka0 := (hb.cell (p := ⟨w.heap.size, 0, none⟩) (by dsimp only; omega)).trans ka0
  replace ka1 := (hb.cell (p := ⟨w.heap.size, 1, none⟩) (by dsimp only; omega)).trans ka1
  replace ka2 := (hb.cell (p := ⟨w.heap.size, 2, none⟩) (by dsimp only; omega)).trans ka2
  replace zr := Nat.lt_of_lt_of_le zr hb.size
  replace HB := hide (bl_trans HB.out hb)
  clear hb
  go_wp2_with fail
  refine (partI s p q _ hs2).mono ?_
  rintro e w6 ⟨rfl, hb⟩
  have yw6 := hb.size
  replace ka0 := (hb.cell (p := ⟨w.heap.size, 0, none⟩) (by dsimp only; omega)).trans ka0
  replace ka1 := (hb.cell (p := ⟨w.heap.size, 1, none⟩) (by dsimp only; omega)).trans ka1
  replace ka2 := (hb.cell (p := ⟨w.heap.size, 2, none⟩) (by dsimp only; omega)).trans ka2
  replace zr := Nat.lt_of_lt_of_le zr hb.size
  replace HB := hide (bl_trans HB.out hb)
  clear hb
  generalize partB s p q = b
  go_wp2
  all_goals go_ret
  all_goals exact ⟨rfl, HB.out⟩

end Go.Proofs.Ytcajanekeoiepaa
