/- What the law asks of fractions. -/
import Derived.Test.YtbopgbpnbonkeaaLawKit
import Derived.Test.YtbopgbpnbonkeaaDivide
import Derived.Test.YtbopgbpnbonkeaaRatH
import Derived.Test.YtbopgbpnbonkeaaLawKit
import Derived.Test.YtbopgbpnbonkeaaLawBase
namespace Go.Proofs.Ytbopgbpnbonkeaa
open Go.RowKit
set_option linter.unusedVariables false

set_option maxHeartbeats 4000000 in
set_option maxRecDepth 20000 in
theorem szR (n : Bool) (a : Option Addr) (l c : Nat) (m : Bool) (b : Option Addr) (k d : Nat) (left : Int) (w : World) (hl : l ≤ 9223372036854775807) (hk : k ≤ 9223372036854775807) (h0 : 0 ≤ left) (h1 : left ≤ 1048576) :
    Calls Try.prog 20 #[(.agg #[.bool n, .slice a l c, .bool m, .slice b k d]), .int .i64 left] w fun e w' => e = .returned (.int .i64 (if left < l then -1 else if left - l < k then -1 else left - l - k)) ∧ Below w.heap.size w w' := by
  have kA0 : (w.alloc (Obj.cells #[Value.bool n, Value.slice a l c, Value.bool m, Value.slice b k d] 36)).cell? ⟨w.heap.size, 0, none⟩ = some (Value.bool n) := by go_simp
  have kA1 : (w.alloc (Obj.cells #[Value.bool n, Value.slice a l c, Value.bool m, Value.slice b k d] 36)).cell? ⟨w.heap.size, 1, none⟩ = some (Value.slice a l c) := by go_simp
  have kA2 : (w.alloc (Obj.cells #[Value.bool n, Value.slice a l c, Value.bool m, Value.slice b k d] 36)).cell? ⟨w.heap.size, 2, none⟩ = some (Value.bool m) := by go_simp
  have kA3 : (w.alloc (Obj.cells #[Value.bool n, Value.slice a l c, Value.bool m, Value.slice b k d] 36)).cell? ⟨w.heap.size, 3, none⟩ = some (Value.slice b k d) := by go_simp
  have zA : w.heap.size < (w.alloc (Obj.cells #[Value.bool n, Value.slice a l c, Value.bool m, Value.slice b k d] 36)).heap.size := by simp only [World.size_alloc]; omega
  have HB := hide (bl_alloc (bl_refl w) (Obj.cells #[Value.bool n, Value.slice a l c, Value.bool m, Value.slice b k d] 36))
  have y0 : w.heap.size + 1 ≤ (w.alloc (Obj.cells #[Value.bool n, Value.slice a l c, Value.bool m, Value.slice b k d] 36)).heap.size := by simp only [World.size_alloc]; omega
  go_enter Try.func20, Try.ntmps20
  go_wp2_with fail
  generalize (w.alloc (Obj.cells #[Value.bool n, Value.slice a l c, Value.bool m, Value.slice b k d] 36)) = w1 at *
  refine (szB n a l c left _ hl h0 h1).mono ?_
  rintro e w2 ⟨rfl, hbw2⟩
  have yw2 := hbw2.size
  replace kA0 := (hbw2.cell (p := ⟨w.heap.size, 0, none⟩) zA).trans kA0
  replace kA1 := (hbw2.cell (p := ⟨w.heap.size, 1, none⟩) zA).trans kA1
  replace kA2 := (hbw2.cell (p := ⟨w.heap.size, 2, none⟩) zA).trans kA2
  replace kA3 := (hbw2.cell (p := ⟨w.heap.size, 3, none⟩) zA).trans kA3
  replace zA := Nat.lt_of_lt_of_le zA hbw2.size
  replace HB := hide (bl_trans HB.out hbw2)
  clear hbw2
  by_cases c1 : left < (l : Int)
  · rw [if_pos c1]
    go_wp2
    go_ret
    exact ⟨ret_int (by (repeat' split) <;> omega), HB.out⟩
  rw [if_neg c1]
  go_wp2_with fail
  refine (szB m b k d (left - (l : Int)) _ hk (by omega) (by omega)).mono ?_
  rintro e w3 ⟨rfl, hbw3⟩
  have yw3 := hbw3.size
  replace kA0 := (hbw3.cell (p := ⟨w.heap.size, 0, none⟩) zA).trans kA0
  replace kA1 := (hbw3.cell (p := ⟨w.heap.size, 1, none⟩) zA).trans kA1
  replace kA2 := (hbw3.cell (p := ⟨w.heap.size, 2, none⟩) zA).trans kA2
  replace kA3 := (hbw3.cell (p := ⟨w.heap.size, 3, none⟩) zA).trans kA3
  replace zA := Nat.lt_of_lt_of_le zA hbw3.size
  replace HB := hide (bl_trans HB.out hbw3)
  clear hbw3
  by_cases c2 : left - (l : Int) < (k : Int)
  · rw [if_pos c2]
    go_wp2
    go_ret
    exact ⟨ret_int (by (repeat' split) <;> omega), HB.out⟩
  rw [if_neg c2]
  go_wp2
  go_ret
  exact ⟨ret_int (by (repeat' split) <;> omega), HB.out⟩

set_option maxHeartbeats 4000000 in
set_option maxRecDepth 20000 in
theorem eqR (n : Bool) (xs : List Nat) (m : Bool) (ys : List Nat) (a1 : Option Addr) (c1 : Nat) (a2 : Option Addr) (c2 : Nat) (a3 : Option Addr) (c3 : Nat) (a4 : Option Addr) (c4 : Nat) (w : World) (s1 : Seg w a1 xs.length c1 xs) (s2 : Seg w a2 ys.length c2 ys) (s3 : Seg w a3 xs.length c3 xs) (s4 : Seg w a4 ys.length c4 ys) :
    Calls Try.prog 30 #[.agg #[.bool n, .slice a1 xs.length c1, .bool m, .slice a2 ys.length c2], .agg #[.bool n, .slice a3 xs.length c3, .bool m, .slice a4 ys.length c4]] w fun e w' => e = .returned (.bool true) ∧ Below w.heap.size w w' := by
  have H1 := hide s1
  have H2 := hide s2
  have H3 := hide s3
  have H4 := hide s4
  clear s1 s2 s3 s4
  have kA0 : ((w.alloc (Obj.cells #[Value.bool n, Value.slice a1 xs.length c1, Value.bool m, Value.slice a2 ys.length c2] 47)).alloc (Obj.cells #[Value.bool n, Value.slice a3 xs.length c3, Value.bool m, Value.slice a4 ys.length c4] 47)).cell? ⟨w.heap.size, 0, none⟩ = some (Value.bool n) := by go_simp
  have kA1 : ((w.alloc (Obj.cells #[Value.bool n, Value.slice a1 xs.length c1, Value.bool m, Value.slice a2 ys.length c2] 47)).alloc (Obj.cells #[Value.bool n, Value.slice a3 xs.length c3, Value.bool m, Value.slice a4 ys.length c4] 47)).cell? ⟨w.heap.size, 1, none⟩ = some (Value.slice a1 xs.length c1) := by go_simp
  have kA2 : ((w.alloc (Obj.cells #[Value.bool n, Value.slice a1 xs.length c1, Value.bool m, Value.slice a2 ys.length c2] 47)).alloc (Obj.cells #[Value.bool n, Value.slice a3 xs.length c3, Value.bool m, Value.slice a4 ys.length c4] 47)).cell? ⟨w.heap.size, 2, none⟩ = some (Value.bool m) := by go_simp
  have kA3 : ((w.alloc (Obj.cells #[Value.bool n, Value.slice a1 xs.length c1, Value.bool m, Value.slice a2 ys.length c2] 47)).alloc (Obj.cells #[Value.bool n, Value.slice a3 xs.length c3, Value.bool m, Value.slice a4 ys.length c4] 47)).cell? ⟨w.heap.size, 3, none⟩ = some (Value.slice a2 ys.length c2) := by go_simp
  have zA : w.heap.size < ((w.alloc (Obj.cells #[Value.bool n, Value.slice a1 xs.length c1, Value.bool m, Value.slice a2 ys.length c2] 47)).alloc (Obj.cells #[Value.bool n, Value.slice a3 xs.length c3, Value.bool m, Value.slice a4 ys.length c4] 47)).heap.size := by simp only [World.size_alloc]; omega
  have kB0 : ((w.alloc (Obj.cells #[Value.bool n, Value.slice a1 xs.length c1, Value.bool m, Value.slice a2 ys.length c2] 47)).alloc (Obj.cells #[Value.bool n, Value.slice a3 xs.length c3, Value.bool m, Value.slice a4 ys.length c4] 47)).cell? ⟨w.heap.size + 1, 0, none⟩ = some (Value.bool n) := by go_simp
  have kB1 : ((w.alloc (Obj.cells #[Value.bool n, Value.slice a1 xs.length c1, Value.bool m, Value.slice a2 ys.length c2] 47)).alloc (Obj.cells #[Value.bool n, Value.slice a3 xs.length c3, Value.bool m, Value.slice a4 ys.length c4] 47)).cell? ⟨w.heap.size + 1, 1, none⟩ = some (Value.slice a3 xs.length c3) := by go_simp
  have kB2 : ((w.alloc (Obj.cells #[Value.bool n, Value.slice a1 xs.length c1, Value.bool m, Value.slice a2 ys.length c2] 47)).alloc (Obj.cells #[Value.bool n, Value.slice a3 xs.length c3, Value.bool m, Value.slice a4 ys.length c4] 47)).cell? ⟨w.heap.size + 1, 2, none⟩ = some (Value.bool m) := by go_simp
  have kB3 : ((w.alloc (Obj.cells #[Value.bool n, Value.slice a1 xs.length c1, Value.bool m, Value.slice a2 ys.length c2] 47)).alloc (Obj.cells #[Value.bool n, Value.slice a3 xs.length c3, Value.bool m, Value.slice a4 ys.length c4] 47)).cell? ⟨w.heap.size + 1, 3, none⟩ = some (Value.slice a4 ys.length c4) := by go_simp
  have zB : w.heap.size + 1 < ((w.alloc (Obj.cells #[Value.bool n, Value.slice a1 xs.length c1, Value.bool m, Value.slice a2 ys.length c2] 47)).alloc (Obj.cells #[Value.bool n, Value.slice a3 xs.length c3, Value.bool m, Value.slice a4 ys.length c4] 47)).heap.size := by simp only [World.size_alloc]; omega
  have HB := hide (bl_alloc (bl_alloc (bl_refl w) (Obj.cells #[Value.bool n, Value.slice a1 xs.length c1, Value.bool m, Value.slice a2 ys.length c2] 47)) (Obj.cells #[Value.bool n, Value.slice a3 xs.length c3, Value.bool m, Value.slice a4 ys.length c4] 47))
  replace H1 := hide (H1.out.below HB.out)
  replace H2 := hide (H2.out.below HB.out)
  replace H3 := hide (H3.out.below HB.out)
  replace H4 := hide (H4.out.below HB.out)
  have y0 : w.heap.size + 2 ≤ ((w.alloc (Obj.cells #[Value.bool n, Value.slice a1 xs.length c1, Value.bool m, Value.slice a2 ys.length c2] 47)).alloc (Obj.cells #[Value.bool n, Value.slice a3 xs.length c3, Value.bool m, Value.slice a4 ys.length c4] 47)).heap.size := by simp only [World.size_alloc]; omega
  go_enter Try.func30, Try.ntmps30
  go_wp2_with fail
  generalize ((w.alloc (Obj.cells #[Value.bool n, Value.slice a1 xs.length c1, Value.bool m, Value.slice a2 ys.length c2] 47)).alloc (Obj.cells #[Value.bool n, Value.slice a3 xs.length c3, Value.bool m, Value.slice a4 ys.length c4] 47)) = w1 at *
  refine (eqB _ _ n xs _ ⟨a1, c1, rfl, H1.out⟩ ⟨a3, c3, rfl, H3.out⟩).mono ?_
  rintro e w2 ⟨rfl, hbw2⟩
  have yw2 := hbw2.size
  replace kA0 := (hbw2.cell (p := ⟨w.heap.size, 0, none⟩) zA).trans kA0
  replace kA1 := (hbw2.cell (p := ⟨w.heap.size, 1, none⟩) zA).trans kA1
  replace kA2 := (hbw2.cell (p := ⟨w.heap.size, 2, none⟩) zA).trans kA2
  replace kA3 := (hbw2.cell (p := ⟨w.heap.size, 3, none⟩) zA).trans kA3
  replace zA := Nat.lt_of_lt_of_le zA hbw2.size
  replace kB0 := (hbw2.cell (p := ⟨w.heap.size + 1, 0, none⟩) zB).trans kB0
  replace kB1 := (hbw2.cell (p := ⟨w.heap.size + 1, 1, none⟩) zB).trans kB1
  replace kB2 := (hbw2.cell (p := ⟨w.heap.size + 1, 2, none⟩) zB).trans kB2
  replace kB3 := (hbw2.cell (p := ⟨w.heap.size + 1, 3, none⟩) zB).trans kB3
  replace zB := Nat.lt_of_lt_of_le zB hbw2.size
  replace H1 := hide (H1.out.below hbw2)
  replace H2 := hide (H2.out.below hbw2)
  replace H3 := hide (H3.out.below hbw2)
  replace H4 := hide (H4.out.below hbw2)
  replace HB := hide (bl_trans HB.out hbw2)
  clear hbw2
  go_wp2_with fail
  refine (eqB _ _ m ys _ ⟨a2, c2, rfl, H2.out⟩ ⟨a4, c4, rfl, H4.out⟩).mono ?_
  rintro e w3 ⟨rfl, hbw3⟩
  have yw3 := hbw3.size
  replace kA0 := (hbw3.cell (p := ⟨w.heap.size, 0, none⟩) zA).trans kA0
  replace kA1 := (hbw3.cell (p := ⟨w.heap.size, 1, none⟩) zA).trans kA1
  replace kA2 := (hbw3.cell (p := ⟨w.heap.size, 2, none⟩) zA).trans kA2
  replace kA3 := (hbw3.cell (p := ⟨w.heap.size, 3, none⟩) zA).trans kA3
  replace zA := Nat.lt_of_lt_of_le zA hbw3.size
  replace kB0 := (hbw3.cell (p := ⟨w.heap.size + 1, 0, none⟩) zB).trans kB0
  replace kB1 := (hbw3.cell (p := ⟨w.heap.size + 1, 1, none⟩) zB).trans kB1
  replace kB2 := (hbw3.cell (p := ⟨w.heap.size + 1, 2, none⟩) zB).trans kB2
  replace kB3 := (hbw3.cell (p := ⟨w.heap.size + 1, 3, none⟩) zB).trans kB3
  replace zB := Nat.lt_of_lt_of_le zB hbw3.size
  replace H1 := hide (H1.out.below hbw3)
  replace H2 := hide (H2.out.below hbw3)
  replace H3 := hide (H3.out.below hbw3)
  replace H4 := hide (H4.out.below hbw3)
  replace HB := hide (bl_trans HB.out hbw3)
  clear hbw3
  go_wp2
  go_ret
  exact ⟨rfl, HB.out⟩

set_option maxHeartbeats 4000000 in
set_option maxRecDepth 20000 in
theorem toR (n : Bool) (a : Option Addr) (c : Nat) (xs : List Nat) (m : Bool) (b : Option Addr) (d : Nat) (ys : List Nat) (w : World) (s1 : Seg w a xs.length c xs) (s2 : Seg w b ys.length d ys) (h1 : xs.length ≤ 1048576) (h2 : ys.length ≤ 1048576) :
    Calls Try.prog 25 #[.agg #[.bool n, .slice a xs.length c, .bool m, .slice b ys.length d]] w fun e w' => ∃ a1 c1 a2 c2, e = .returned (.agg #[.bool n, .slice a1 xs.length c1, .bool m, .slice a2 ys.length c2]) ∧ Own w' w.heap.size a1 xs.length c1 xs ∧ Own w' w.heap.size a2 ys.length c2 ys ∧ Apart a1 a2 ∧ Below w.heap.size w w' := by
  have H1 := hide s1
  have H2 := hide s2
  clear s1 s2
  have kA0 : (((w.alloc (Obj.cells #[Value.bool n, Value.slice a xs.length c, Value.bool m, Value.slice b ys.length d] 36)).alloc (Obj.cells #[Value.bool false, Value.slice none 0 0, Value.bool false, Value.slice none 0 0] 47)).alloc (Obj.cells #[Value.bool false, Value.slice none 0 0, Value.bool false, Value.slice none 0 0] 47)).cell? ⟨w.heap.size, 0, none⟩ = some (Value.bool n) := by go_simp
  have kA1 : (((w.alloc (Obj.cells #[Value.bool n, Value.slice a xs.length c, Value.bool m, Value.slice b ys.length d] 36)).alloc (Obj.cells #[Value.bool false, Value.slice none 0 0, Value.bool false, Value.slice none 0 0] 47)).alloc (Obj.cells #[Value.bool false, Value.slice none 0 0, Value.bool false, Value.slice none 0 0] 47)).cell? ⟨w.heap.size, 1, none⟩ = some (Value.slice a xs.length c) := by go_simp
  have kA2 : (((w.alloc (Obj.cells #[Value.bool n, Value.slice a xs.length c, Value.bool m, Value.slice b ys.length d] 36)).alloc (Obj.cells #[Value.bool false, Value.slice none 0 0, Value.bool false, Value.slice none 0 0] 47)).alloc (Obj.cells #[Value.bool false, Value.slice none 0 0, Value.bool false, Value.slice none 0 0] 47)).cell? ⟨w.heap.size, 2, none⟩ = some (Value.bool m) := by go_simp
  have kA3 : (((w.alloc (Obj.cells #[Value.bool n, Value.slice a xs.length c, Value.bool m, Value.slice b ys.length d] 36)).alloc (Obj.cells #[Value.bool false, Value.slice none 0 0, Value.bool false, Value.slice none 0 0] 47)).alloc (Obj.cells #[Value.bool false, Value.slice none 0 0, Value.bool false, Value.slice none 0 0] 47)).cell? ⟨w.heap.size, 3, none⟩ = some (Value.slice b ys.length d) := by go_simp
  have zA : w.heap.size < (((w.alloc (Obj.cells #[Value.bool n, Value.slice a xs.length c, Value.bool m, Value.slice b ys.length d] 36)).alloc (Obj.cells #[Value.bool false, Value.slice none 0 0, Value.bool false, Value.slice none 0 0] 47)).alloc (Obj.cells #[Value.bool false, Value.slice none 0 0, Value.bool false, Value.slice none 0 0] 47)).heap.size := by simp only [World.size_alloc]; omega
  have kR0 : (((w.alloc (Obj.cells #[Value.bool n, Value.slice a xs.length c, Value.bool m, Value.slice b ys.length d] 36)).alloc (Obj.cells #[Value.bool false, Value.slice none 0 0, Value.bool false, Value.slice none 0 0] 47)).alloc (Obj.cells #[Value.bool false, Value.slice none 0 0, Value.bool false, Value.slice none 0 0] 47)).cell? ⟨w.heap.size + 1, 0, none⟩ = some (Value.bool false) := by go_simp
  have fR0 : (((w.alloc (Obj.cells #[Value.bool n, Value.slice a xs.length c, Value.bool m, Value.slice b ys.length d] 36)).alloc (Obj.cells #[Value.bool false, Value.slice none 0 0, Value.bool false, Value.slice none 0 0] 47)).alloc (Obj.cells #[Value.bool false, Value.slice none 0 0, Value.bool false, Value.slice none 0 0] 47)).frozen? ⟨w.heap.size + 1, 0, none⟩ = false := by go_simp
  have kR1 : (((w.alloc (Obj.cells #[Value.bool n, Value.slice a xs.length c, Value.bool m, Value.slice b ys.length d] 36)).alloc (Obj.cells #[Value.bool false, Value.slice none 0 0, Value.bool false, Value.slice none 0 0] 47)).alloc (Obj.cells #[Value.bool false, Value.slice none 0 0, Value.bool false, Value.slice none 0 0] 47)).cell? ⟨w.heap.size + 1, 1, none⟩ = some (Value.slice none 0 0) := by go_simp
  have fR1 : (((w.alloc (Obj.cells #[Value.bool n, Value.slice a xs.length c, Value.bool m, Value.slice b ys.length d] 36)).alloc (Obj.cells #[Value.bool false, Value.slice none 0 0, Value.bool false, Value.slice none 0 0] 47)).alloc (Obj.cells #[Value.bool false, Value.slice none 0 0, Value.bool false, Value.slice none 0 0] 47)).frozen? ⟨w.heap.size + 1, 1, none⟩ = false := by go_simp
  have kR2 : (((w.alloc (Obj.cells #[Value.bool n, Value.slice a xs.length c, Value.bool m, Value.slice b ys.length d] 36)).alloc (Obj.cells #[Value.bool false, Value.slice none 0 0, Value.bool false, Value.slice none 0 0] 47)).alloc (Obj.cells #[Value.bool false, Value.slice none 0 0, Value.bool false, Value.slice none 0 0] 47)).cell? ⟨w.heap.size + 1, 2, none⟩ = some (Value.bool false) := by go_simp
  have fR2 : (((w.alloc (Obj.cells #[Value.bool n, Value.slice a xs.length c, Value.bool m, Value.slice b ys.length d] 36)).alloc (Obj.cells #[Value.bool false, Value.slice none 0 0, Value.bool false, Value.slice none 0 0] 47)).alloc (Obj.cells #[Value.bool false, Value.slice none 0 0, Value.bool false, Value.slice none 0 0] 47)).frozen? ⟨w.heap.size + 1, 2, none⟩ = false := by go_simp
  have kR3 : (((w.alloc (Obj.cells #[Value.bool n, Value.slice a xs.length c, Value.bool m, Value.slice b ys.length d] 36)).alloc (Obj.cells #[Value.bool false, Value.slice none 0 0, Value.bool false, Value.slice none 0 0] 47)).alloc (Obj.cells #[Value.bool false, Value.slice none 0 0, Value.bool false, Value.slice none 0 0] 47)).cell? ⟨w.heap.size + 1, 3, none⟩ = some (Value.slice none 0 0) := by go_simp
  have fR3 : (((w.alloc (Obj.cells #[Value.bool n, Value.slice a xs.length c, Value.bool m, Value.slice b ys.length d] 36)).alloc (Obj.cells #[Value.bool false, Value.slice none 0 0, Value.bool false, Value.slice none 0 0] 47)).alloc (Obj.cells #[Value.bool false, Value.slice none 0 0, Value.bool false, Value.slice none 0 0] 47)).frozen? ⟨w.heap.size + 1, 3, none⟩ = false := by go_simp
  have zR : w.heap.size + 1 < (((w.alloc (Obj.cells #[Value.bool n, Value.slice a xs.length c, Value.bool m, Value.slice b ys.length d] 36)).alloc (Obj.cells #[Value.bool false, Value.slice none 0 0, Value.bool false, Value.slice none 0 0] 47)).alloc (Obj.cells #[Value.bool false, Value.slice none 0 0, Value.bool false, Value.slice none 0 0] 47)).heap.size := by simp only [World.size_alloc]; omega
  have kT0 : (((w.alloc (Obj.cells #[Value.bool n, Value.slice a xs.length c, Value.bool m, Value.slice b ys.length d] 36)).alloc (Obj.cells #[Value.bool false, Value.slice none 0 0, Value.bool false, Value.slice none 0 0] 47)).alloc (Obj.cells #[Value.bool false, Value.slice none 0 0, Value.bool false, Value.slice none 0 0] 47)).cell? ⟨w.heap.size + 1 + 1, 0, none⟩ = some (Value.bool false) := by go_simp
  have fT0 : (((w.alloc (Obj.cells #[Value.bool n, Value.slice a xs.length c, Value.bool m, Value.slice b ys.length d] 36)).alloc (Obj.cells #[Value.bool false, Value.slice none 0 0, Value.bool false, Value.slice none 0 0] 47)).alloc (Obj.cells #[Value.bool false, Value.slice none 0 0, Value.bool false, Value.slice none 0 0] 47)).frozen? ⟨w.heap.size + 1 + 1, 0, none⟩ = false := by go_simp
  have kT1 : (((w.alloc (Obj.cells #[Value.bool n, Value.slice a xs.length c, Value.bool m, Value.slice b ys.length d] 36)).alloc (Obj.cells #[Value.bool false, Value.slice none 0 0, Value.bool false, Value.slice none 0 0] 47)).alloc (Obj.cells #[Value.bool false, Value.slice none 0 0, Value.bool false, Value.slice none 0 0] 47)).cell? ⟨w.heap.size + 1 + 1, 1, none⟩ = some (Value.slice none 0 0) := by go_simp
  have fT1 : (((w.alloc (Obj.cells #[Value.bool n, Value.slice a xs.length c, Value.bool m, Value.slice b ys.length d] 36)).alloc (Obj.cells #[Value.bool false, Value.slice none 0 0, Value.bool false, Value.slice none 0 0] 47)).alloc (Obj.cells #[Value.bool false, Value.slice none 0 0, Value.bool false, Value.slice none 0 0] 47)).frozen? ⟨w.heap.size + 1 + 1, 1, none⟩ = false := by go_simp
  have kT2 : (((w.alloc (Obj.cells #[Value.bool n, Value.slice a xs.length c, Value.bool m, Value.slice b ys.length d] 36)).alloc (Obj.cells #[Value.bool false, Value.slice none 0 0, Value.bool false, Value.slice none 0 0] 47)).alloc (Obj.cells #[Value.bool false, Value.slice none 0 0, Value.bool false, Value.slice none 0 0] 47)).cell? ⟨w.heap.size + 1 + 1, 2, none⟩ = some (Value.bool false) := by go_simp
  have fT2 : (((w.alloc (Obj.cells #[Value.bool n, Value.slice a xs.length c, Value.bool m, Value.slice b ys.length d] 36)).alloc (Obj.cells #[Value.bool false, Value.slice none 0 0, Value.bool false, Value.slice none 0 0] 47)).alloc (Obj.cells #[Value.bool false, Value.slice none 0 0, Value.bool false, Value.slice none 0 0] 47)).frozen? ⟨w.heap.size + 1 + 1, 2, none⟩ = false := by go_simp
  have kT3 : (((w.alloc (Obj.cells #[Value.bool n, Value.slice a xs.length c, Value.bool m, Value.slice b ys.length d] 36)).alloc (Obj.cells #[Value.bool false, Value.slice none 0 0, Value.bool false, Value.slice none 0 0] 47)).alloc (Obj.cells #[Value.bool false, Value.slice none 0 0, Value.bool false, Value.slice none 0 0] 47)).cell? ⟨w.heap.size + 1 + 1, 3, none⟩ = some (Value.slice none 0 0) := by go_simp
  have fT3 : (((w.alloc (Obj.cells #[Value.bool n, Value.slice a xs.length c, Value.bool m, Value.slice b ys.length d] 36)).alloc (Obj.cells #[Value.bool false, Value.slice none 0 0, Value.bool false, Value.slice none 0 0] 47)).alloc (Obj.cells #[Value.bool false, Value.slice none 0 0, Value.bool false, Value.slice none 0 0] 47)).frozen? ⟨w.heap.size + 1 + 1, 3, none⟩ = false := by go_simp
  have zT : w.heap.size + 1 + 1 < (((w.alloc (Obj.cells #[Value.bool n, Value.slice a xs.length c, Value.bool m, Value.slice b ys.length d] 36)).alloc (Obj.cells #[Value.bool false, Value.slice none 0 0, Value.bool false, Value.slice none 0 0] 47)).alloc (Obj.cells #[Value.bool false, Value.slice none 0 0, Value.bool false, Value.slice none 0 0] 47)).heap.size := by simp only [World.size_alloc]; omega
  have HB := hide (bl_alloc (bl_alloc (bl_alloc (bl_refl w) (Obj.cells #[Value.bool n, Value.slice a xs.length c, Value.bool m, Value.slice b ys.length d] 36)) (Obj.cells #[Value.bool false, Value.slice none 0 0, Value.bool false, Value.slice none 0 0] 47)) (Obj.cells #[Value.bool false, Value.slice none 0 0, Value.bool false, Value.slice none 0 0] 47))
  have y0 : w.heap.size + 3 ≤ (((w.alloc (Obj.cells #[Value.bool n, Value.slice a xs.length c, Value.bool m, Value.slice b ys.length d] 36)).alloc (Obj.cells #[Value.bool false, Value.slice none 0 0, Value.bool false, Value.slice none 0 0] 47)).alloc (Obj.cells #[Value.bool false, Value.slice none 0 0, Value.bool false, Value.slice none 0 0] 47)).heap.size := by simp only [World.size_alloc]; omega
  go_enter Try.func25, Try.ntmps25
  go_wp2_with fail
  generalize (((w.alloc (Obj.cells #[Value.bool n, Value.slice a xs.length c, Value.bool m, Value.slice b ys.length d] 36)).alloc (Obj.cells #[Value.bool false, Value.slice none 0 0, Value.bool false, Value.slice none 0 0] 47)).alloc (Obj.cells #[Value.bool false, Value.slice none 0 0, Value.bool false, Value.slice none 0 0] 47)) = w1 at *
  refine (toB n a _ c xs _ (H1.out.below HB.out) h1).mono ?_
  rintro e w2 ⟨u1, rfl, ⟨a1, c1, rfl, ho1⟩, hbw2⟩
  have yw2 := hbw2.size
  replace kA0 := (hbw2.cell (p := ⟨w.heap.size, 0, none⟩) zA).trans kA0
  replace kA1 := (hbw2.cell (p := ⟨w.heap.size, 1, none⟩) zA).trans kA1
  replace kA2 := (hbw2.cell (p := ⟨w.heap.size, 2, none⟩) zA).trans kA2
  replace kA3 := (hbw2.cell (p := ⟨w.heap.size, 3, none⟩) zA).trans kA3
  replace zA := Nat.lt_of_lt_of_le zA hbw2.size
  replace kR0 := (hbw2.cell (p := ⟨w.heap.size + 1, 0, none⟩) zR).trans kR0
  replace fR0 := (hbw2.frozen (p := ⟨w.heap.size + 1, 0, none⟩) zR).trans fR0
  replace kR1 := (hbw2.cell (p := ⟨w.heap.size + 1, 1, none⟩) zR).trans kR1
  replace fR1 := (hbw2.frozen (p := ⟨w.heap.size + 1, 1, none⟩) zR).trans fR1
  replace kR2 := (hbw2.cell (p := ⟨w.heap.size + 1, 2, none⟩) zR).trans kR2
  replace fR2 := (hbw2.frozen (p := ⟨w.heap.size + 1, 2, none⟩) zR).trans fR2
  replace kR3 := (hbw2.cell (p := ⟨w.heap.size + 1, 3, none⟩) zR).trans kR3
  replace fR3 := (hbw2.frozen (p := ⟨w.heap.size + 1, 3, none⟩) zR).trans fR3
  replace zR := Nat.lt_of_lt_of_le zR hbw2.size
  replace kT0 := (hbw2.cell (p := ⟨w.heap.size + 1 + 1, 0, none⟩) zT).trans kT0
  replace fT0 := (hbw2.frozen (p := ⟨w.heap.size + 1 + 1, 0, none⟩) zT).trans fT0
  replace kT1 := (hbw2.cell (p := ⟨w.heap.size + 1 + 1, 1, none⟩) zT).trans kT1
  replace fT1 := (hbw2.frozen (p := ⟨w.heap.size + 1 + 1, 1, none⟩) zT).trans fT1
  replace kT2 := (hbw2.cell (p := ⟨w.heap.size + 1 + 1, 2, none⟩) zT).trans kT2
  replace fT2 := (hbw2.frozen (p := ⟨w.heap.size + 1 + 1, 2, none⟩) zT).trans fT2
  replace kT3 := (hbw2.cell (p := ⟨w.heap.size + 1 + 1, 3, none⟩) zT).trans kT3
  replace fT3 := (hbw2.frozen (p := ⟨w.heap.size + 1 + 1, 3, none⟩) zT).trans fT3
  replace zT := Nat.lt_of_lt_of_le zT hbw2.size
  replace HB := hide (bl_trans HB.out hbw2)
  clear hbw2
  have O1 := hide ((ho1.setCell (p := ⟨w.heap.size + 1 + 1, 0, none⟩) (by dsimp only; omega) (Value.bool n)).setCell (p := ⟨w.heap.size + 1 + 1, 1, none⟩) (by dsimp only; omega) (Value.slice a1 xs.length c1))
  have HB3 := hide ((HB.out.setCell (p := ⟨w.heap.size + 1 + 1, 0, none⟩) (by dsimp only; omega) (Value.bool n)).setCell (p := ⟨w.heap.size + 1 + 1, 1, none⟩) (by dsimp only; omega) (Value.slice a1 xs.length c1))
  clear ho1
  go_wp2_with fail
  replace kA0 := (cell_two (N := w.heap.size + 1 + 1) (x := Value.bool n) (y := Value.slice a1 xs.length c1) (p := ⟨w.heap.size, 0, none⟩) (by dsimp only; omega)).trans kA0
  replace kA1 := (cell_two (N := w.heap.size + 1 + 1) (x := Value.bool n) (y := Value.slice a1 xs.length c1) (p := ⟨w.heap.size, 1, none⟩) (by dsimp only; omega)).trans kA1
  replace kA2 := (cell_two (N := w.heap.size + 1 + 1) (x := Value.bool n) (y := Value.slice a1 xs.length c1) (p := ⟨w.heap.size, 2, none⟩) (by dsimp only; omega)).trans kA2
  replace kA3 := (cell_two (N := w.heap.size + 1 + 1) (x := Value.bool n) (y := Value.slice a1 xs.length c1) (p := ⟨w.heap.size, 3, none⟩) (by dsimp only; omega)).trans kA3
  replace kR0 := (cell_two (N := w.heap.size + 1 + 1) (x := Value.bool n) (y := Value.slice a1 xs.length c1) (p := ⟨w.heap.size + 1, 0, none⟩) (by dsimp only; omega)).trans kR0
  have gR0 : ((w2.setCell ⟨w.heap.size + 1 + 1, 0, none⟩ (Value.bool n)).setCell ⟨w.heap.size + 1 + 1, 1, none⟩ (Value.slice a1 xs.length c1)).frozen? ⟨w.heap.size + 1, 0, none⟩ = false := by go_simp
  replace kR1 := (cell_two (N := w.heap.size + 1 + 1) (x := Value.bool n) (y := Value.slice a1 xs.length c1) (p := ⟨w.heap.size + 1, 1, none⟩) (by dsimp only; omega)).trans kR1
  have gR1 : ((w2.setCell ⟨w.heap.size + 1 + 1, 0, none⟩ (Value.bool n)).setCell ⟨w.heap.size + 1 + 1, 1, none⟩ (Value.slice a1 xs.length c1)).frozen? ⟨w.heap.size + 1, 1, none⟩ = false := by go_simp
  replace kR2 := (cell_two (N := w.heap.size + 1 + 1) (x := Value.bool n) (y := Value.slice a1 xs.length c1) (p := ⟨w.heap.size + 1, 2, none⟩) (by dsimp only; omega)).trans kR2
  have gR2 : ((w2.setCell ⟨w.heap.size + 1 + 1, 0, none⟩ (Value.bool n)).setCell ⟨w.heap.size + 1 + 1, 1, none⟩ (Value.slice a1 xs.length c1)).frozen? ⟨w.heap.size + 1, 2, none⟩ = false := by go_simp
  replace kR3 := (cell_two (N := w.heap.size + 1 + 1) (x := Value.bool n) (y := Value.slice a1 xs.length c1) (p := ⟨w.heap.size + 1, 3, none⟩) (by dsimp only; omega)).trans kR3
  have gR3 : ((w2.setCell ⟨w.heap.size + 1 + 1, 0, none⟩ (Value.bool n)).setCell ⟨w.heap.size + 1 + 1, 1, none⟩ (Value.slice a1 xs.length c1)).frozen? ⟨w.heap.size + 1, 3, none⟩ = false := by go_simp
  have mT0 : ((w2.setCell ⟨w.heap.size + 1 + 1, 0, none⟩ (Value.bool n)).setCell ⟨w.heap.size + 1 + 1, 1, none⟩ (Value.slice a1 xs.length c1)).cell? ⟨w.heap.size + 1 + 1, 0, none⟩ = some (Value.bool n) := by go_simp
  have gT0 : ((w2.setCell ⟨w.heap.size + 1 + 1, 0, none⟩ (Value.bool n)).setCell ⟨w.heap.size + 1 + 1, 1, none⟩ (Value.slice a1 xs.length c1)).frozen? ⟨w.heap.size + 1 + 1, 0, none⟩ = false := by go_simp
  have mT1 : ((w2.setCell ⟨w.heap.size + 1 + 1, 0, none⟩ (Value.bool n)).setCell ⟨w.heap.size + 1 + 1, 1, none⟩ (Value.slice a1 xs.length c1)).cell? ⟨w.heap.size + 1 + 1, 1, none⟩ = some (Value.slice a1 xs.length c1) := by go_simp
  have gT1 : ((w2.setCell ⟨w.heap.size + 1 + 1, 0, none⟩ (Value.bool n)).setCell ⟨w.heap.size + 1 + 1, 1, none⟩ (Value.slice a1 xs.length c1)).frozen? ⟨w.heap.size + 1 + 1, 1, none⟩ = false := by go_simp
  have mT2 : ((w2.setCell ⟨w.heap.size + 1 + 1, 0, none⟩ (Value.bool n)).setCell ⟨w.heap.size + 1 + 1, 1, none⟩ (Value.slice a1 xs.length c1)).cell? ⟨w.heap.size + 1 + 1, 2, none⟩ = some (Value.bool false) := by go_simp
  have gT2 : ((w2.setCell ⟨w.heap.size + 1 + 1, 0, none⟩ (Value.bool n)).setCell ⟨w.heap.size + 1 + 1, 1, none⟩ (Value.slice a1 xs.length c1)).frozen? ⟨w.heap.size + 1 + 1, 2, none⟩ = false := by go_simp
  have mT3 : ((w2.setCell ⟨w.heap.size + 1 + 1, 0, none⟩ (Value.bool n)).setCell ⟨w.heap.size + 1 + 1, 1, none⟩ (Value.slice a1 xs.length c1)).cell? ⟨w.heap.size + 1 + 1, 3, none⟩ = some (Value.slice none 0 0) := by go_simp
  have gT3 : ((w2.setCell ⟨w.heap.size + 1 + 1, 0, none⟩ (Value.bool n)).setCell ⟨w.heap.size + 1 + 1, 1, none⟩ (Value.slice a1 xs.length c1)).frozen? ⟨w.heap.size + 1 + 1, 3, none⟩ = false := by go_simp
  have y3 : w2.heap.size ≤ ((w2.setCell ⟨w.heap.size + 1 + 1, 0, none⟩ (Value.bool n)).setCell ⟨w.heap.size + 1 + 1, 1, none⟩ (Value.slice a1 xs.length c1)).heap.size := by simp
  clear kT0 kT1 kT2 kT3 fT0 fT1 fT2 fT3 fR0 fR1 fR2 fR3 HB
  generalize ((w2.setCell ⟨w.heap.size + 1 + 1, 0, none⟩ (Value.bool n)).setCell ⟨w.heap.size + 1 + 1, 1, none⟩ (Value.slice a1 xs.length c1)) = w3 at *
  refine (toB m b _ d ys _ (H2.out.below HB3.out) h2).mono ?_
  rintro e w4 ⟨u2, rfl, ⟨a2, c2, rfl, ho2⟩, hb4⟩
  have y4 := hb4.size
  have HAP := hide (apart_own O1.out ho2)
  replace mT0 := (hb4.cell (p := ⟨w.heap.size + 1 + 1, 0, none⟩) (by dsimp only; omega)).trans mT0
  replace gT0 := (hb4.frozen (p := ⟨w.heap.size + 1 + 1, 0, none⟩) (by dsimp only; omega)).trans gT0
  replace kR0 := (hb4.cell (p := ⟨w.heap.size + 1, 0, none⟩) (by dsimp only; omega)).trans kR0
  replace gR0 := (hb4.frozen (p := ⟨w.heap.size + 1, 0, none⟩) (by dsimp only; omega)).trans gR0
  replace mT1 := (hb4.cell (p := ⟨w.heap.size + 1 + 1, 1, none⟩) (by dsimp only; omega)).trans mT1
  replace gT1 := (hb4.frozen (p := ⟨w.heap.size + 1 + 1, 1, none⟩) (by dsimp only; omega)).trans gT1
  replace kR1 := (hb4.cell (p := ⟨w.heap.size + 1, 1, none⟩) (by dsimp only; omega)).trans kR1
  replace gR1 := (hb4.frozen (p := ⟨w.heap.size + 1, 1, none⟩) (by dsimp only; omega)).trans gR1
  replace mT2 := (hb4.cell (p := ⟨w.heap.size + 1 + 1, 2, none⟩) (by dsimp only; omega)).trans mT2
  replace gT2 := (hb4.frozen (p := ⟨w.heap.size + 1 + 1, 2, none⟩) (by dsimp only; omega)).trans gT2
  replace kR2 := (hb4.cell (p := ⟨w.heap.size + 1, 2, none⟩) (by dsimp only; omega)).trans kR2
  replace gR2 := (hb4.frozen (p := ⟨w.heap.size + 1, 2, none⟩) (by dsimp only; omega)).trans gR2
  replace mT3 := (hb4.cell (p := ⟨w.heap.size + 1 + 1, 3, none⟩) (by dsimp only; omega)).trans mT3
  replace gT3 := (hb4.frozen (p := ⟨w.heap.size + 1 + 1, 3, none⟩) (by dsimp only; omega)).trans gT3
  replace kR3 := (hb4.cell (p := ⟨w.heap.size + 1, 3, none⟩) (by dsimp only; omega)).trans kR3
  replace gR3 := (hb4.frozen (p := ⟨w.heap.size + 1, 3, none⟩) (by dsimp only; omega)).trans gR3
  replace O1 := hide (O1.out.below hb4)
  have O2 := hide ho2
  have HB4 := hide (bl_trans HB3.out hb4)
  clear ho2 hb4 kA0 kA1 kA2 kA3
  go_wp2
  refine bodyPost_ret (v := .agg #[.bool n, .slice a1 xs.length c1, .bool m, .slice a2 ys.length c2]) (by simp [results, Try.results25, go_sem, kR0, kR1, kR2, kR3]) rfl ?_
  refine ⟨a1, c1, a2, c2, rfl, ?_, ?_, HAP.out, ?_⟩
  · exact ((((((O1.out.setCell (p := ⟨w.heap.size + 1 + 1, 2, none⟩) (by dsimp only; omega) _).setCell (p := ⟨w.heap.size + 1 + 1, 3, none⟩) (by dsimp only; omega) _).setCell (p := ⟨w.heap.size + 1, 0, none⟩) (by dsimp only; omega) _).setCell (p := ⟨w.heap.size + 1, 1, none⟩) (by dsimp only; omega) _).setCell (p := ⟨w.heap.size + 1, 2, none⟩) (by dsimp only; omega) _).setCell (p := ⟨w.heap.size + 1, 3, none⟩) (by dsimp only; omega) _).mono (by omega)
  · exact ((((((O2.out.setCell (p := ⟨w.heap.size + 1 + 1, 2, none⟩) (by dsimp only; omega) _).setCell (p := ⟨w.heap.size + 1 + 1, 3, none⟩) (by dsimp only; omega) _).setCell (p := ⟨w.heap.size + 1, 0, none⟩) (by dsimp only; omega) _).setCell (p := ⟨w.heap.size + 1, 1, none⟩) (by dsimp only; omega) _).setCell (p := ⟨w.heap.size + 1, 2, none⟩) (by dsimp only; omega) _).setCell (p := ⟨w.heap.size + 1, 3, none⟩) (by dsimp only; omega) _).mono (by omega)
  · exact ((((((HB4.out.setCell (p := ⟨w.heap.size + 1 + 1, 2, none⟩) (by dsimp only; omega) _).setCell (p := ⟨w.heap.size + 1 + 1, 3, none⟩) (by dsimp only; omega) _).setCell (p := ⟨w.heap.size + 1, 0, none⟩) (by dsimp only; omega) _).setCell (p := ⟨w.heap.size + 1, 1, none⟩) (by dsimp only; omega) _).setCell (p := ⟨w.heap.size + 1, 2, none⟩) (by dsimp only; omega) _).setCell (p := ⟨w.heap.size + 1, 3, none⟩) (by dsimp only; omega) _)


end Go.Proofs.Ytbopgbpnbonkeaa
