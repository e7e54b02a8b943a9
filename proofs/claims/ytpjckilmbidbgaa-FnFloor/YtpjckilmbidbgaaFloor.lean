/- The walks of both Floor. -/
import Derived.Test.YtpjckilmbidbgaaPk38
import Derived.Test.YtpjckilmbidbgaaPk23
namespace Go.Proofs.Ytpjckilmbidbgaa
open Go.RowKit
set_option linter.unusedVariables false

theorem div_abs_le (x y : Int) : (x / y).natAbs ≤ x.natAbs := Int.natAbs_ediv_le_natAbs x y
def flZ (n : Bool) (xs : List Nat) (m : Bool) (ys : List Nat) : Int := if ratB n xs m ys then mk n (Num.nat xs) / mk m (Num.nat ys) else 0
theorem flZ_len (n : Bool) (xs : List Nat) (m : Bool) (ys : List Nat) (h1 : Num.Small xs) (h2 : Num.Small ys) : (lms (flZ n xs m ys)).length ≤ 40 := by
  unfold flZ
  by_cases h : ratB n xs m ys = true
  · rw [if_pos h]
    obtain ⟨x, y, rfl, rfl, rfl, rfl, hx, hy, _⟩ := rat_num h1 h2 h
    rw [nat_lms, mk_self]
    exact Num.limbs_len.2 (Nat.lt_of_le_of_lt (div_abs_le _ _) hx)
  · rw [if_neg h, zero_lms]; exact Nat.zero_le _

set_option maxHeartbeats 4000000 in
set_option maxRecDepth 20000 in
theorem FloorP (n : Bool) (xs : List Nat) (m : Bool) (ys : List Nat) (a : Option Addr) (c : Nat) (b : Option Addr) (d : Nat) (w : World) (s1 : Seg w a xs.length c xs) (s2 : Seg w b ys.length d ys) :
    Calls Try.prog 16 #[(.agg #[.bool n, .slice a xs.length c, .bool m, .slice b ys.length d])] w fun e w' => ∃ v, e = .returned v ∧ New w' w.heap.size v (flZ n xs m ys) ∧ Below w.heap.size w w' := by
  have H1 := hide s1
  have H2 := hide s2
  clear s1 s2
  have kA0 : ((w.alloc (Obj.cells #[Value.bool n, Value.slice a xs.length c, Value.bool m, Value.slice b ys.length d] 28)).alloc (Obj.cells #[Value.bool false, Value.slice none 0 0] 26)).cell? ⟨w.heap.size, 0, none⟩ = some (Value.bool n) := by go_simp
  have kA1 : ((w.alloc (Obj.cells #[Value.bool n, Value.slice a xs.length c, Value.bool m, Value.slice b ys.length d] 28)).alloc (Obj.cells #[Value.bool false, Value.slice none 0 0] 26)).cell? ⟨w.heap.size, 1, none⟩ = some (Value.slice a xs.length c) := by go_simp
  have kA2 : ((w.alloc (Obj.cells #[Value.bool n, Value.slice a xs.length c, Value.bool m, Value.slice b ys.length d] 28)).alloc (Obj.cells #[Value.bool false, Value.slice none 0 0] 26)).cell? ⟨w.heap.size, 2, none⟩ = some (Value.bool m) := by go_simp
  have kA3 : ((w.alloc (Obj.cells #[Value.bool n, Value.slice a xs.length c, Value.bool m, Value.slice b ys.length d] 28)).alloc (Obj.cells #[Value.bool false, Value.slice none 0 0] 26)).cell? ⟨w.heap.size, 3, none⟩ = some (Value.slice b ys.length d) := by go_simp
  have zA : w.heap.size < ((w.alloc (Obj.cells #[Value.bool n, Value.slice a xs.length c, Value.bool m, Value.slice b ys.length d] 28)).alloc (Obj.cells #[Value.bool false, Value.slice none 0 0] 26)).heap.size := by simp only [World.size_alloc]; omega
  have kR0 : ((w.alloc (Obj.cells #[Value.bool n, Value.slice a xs.length c, Value.bool m, Value.slice b ys.length d] 28)).alloc (Obj.cells #[Value.bool false, Value.slice none 0 0] 26)).cell? ⟨w.heap.size + 1, 0, none⟩ = some (Value.bool false) := by go_simp
  have fR0 : ((w.alloc (Obj.cells #[Value.bool n, Value.slice a xs.length c, Value.bool m, Value.slice b ys.length d] 28)).alloc (Obj.cells #[Value.bool false, Value.slice none 0 0] 26)).frozen? ⟨w.heap.size + 1, 0, none⟩ = false := by go_simp
  have kR1 : ((w.alloc (Obj.cells #[Value.bool n, Value.slice a xs.length c, Value.bool m, Value.slice b ys.length d] 28)).alloc (Obj.cells #[Value.bool false, Value.slice none 0 0] 26)).cell? ⟨w.heap.size + 1, 1, none⟩ = some (Value.slice none 0 0) := by go_simp
  have fR1 : ((w.alloc (Obj.cells #[Value.bool n, Value.slice a xs.length c, Value.bool m, Value.slice b ys.length d] 28)).alloc (Obj.cells #[Value.bool false, Value.slice none 0 0] 26)).frozen? ⟨w.heap.size + 1, 1, none⟩ = false := by go_simp
  have zR : w.heap.size + 1 < ((w.alloc (Obj.cells #[Value.bool n, Value.slice a xs.length c, Value.bool m, Value.slice b ys.length d] 28)).alloc (Obj.cells #[Value.bool false, Value.slice none 0 0] 26)).heap.size := by simp only [World.size_alloc]; omega
  have HB := hide (bl_alloc (bl_alloc (bl_refl w) (Obj.cells #[Value.bool n, Value.slice a xs.length c, Value.bool m, Value.slice b ys.length d] 28)) (Obj.cells #[Value.bool false, Value.slice none 0 0] 26))
  replace H1 := hide (H1.out.below HB.out)
  replace H2 := hide (H2.out.below HB.out)
  have y0 : w.heap.size + 2 ≤ ((w.alloc (Obj.cells #[Value.bool n, Value.slice a xs.length c, Value.bool m, Value.slice b ys.length d] 28)).alloc (Obj.cells #[Value.bool false, Value.slice none 0 0] 26)).heap.size := by simp only [World.size_alloc]; omega
  go_enter Try.func16, Try.ntmps16
  go_wp2_with fail
  generalize ((w.alloc (Obj.cells #[Value.bool n, Value.slice a xs.length c, Value.bool m, Value.slice b ys.length d] 28)).alloc (Obj.cells #[Value.bool false, Value.slice none 0 0] 26)) = w1 at *
  refine (rightI n xs m ys a c b d _ H1.out H2.out).mono ?_
  rintro e w2 ⟨rfl, hbw2⟩
  have yw2 := hbw2.size
  replace kA0 := (hbw2.cell (p := ⟨w.heap.size, 0, none⟩) zA).trans kA0
  replace kA1 := (hbw2.cell (p := ⟨w.heap.size, 1, none⟩) zA).trans kA1
  replace kA2 := (hbw2.cell (p := ⟨w.heap.size, 2, none⟩) zA).trans kA2
  replace kA3 := (hbw2.cell (p := ⟨w.heap.size, 3, none⟩) zA).trans kA3
  replace zA := Nat.lt_of_lt_of_le zA hbw2.size
  replace kR0 := (hbw2.cell (p := ⟨w.heap.size + 1, 0, none⟩) zR).trans kR0
  replace fR0 := (hbw2.frozen (p := ⟨w.heap.size + 1, 0, none⟩) zR).trans fR0
  replace kR1 := (hbw2.cell (p := ⟨w.heap.size + 1, 1, none⟩) zR).trans kR1
  replace fR1 := (hbw2.frozen (p := ⟨w.heap.size + 1, 1, none⟩) zR).trans fR1
  replace zR := Nat.lt_of_lt_of_le zR hbw2.size
  replace H1 := hide (H1.out.below hbw2)
  replace H2 := hide (H2.out.below hbw2)
  replace HB := hide (bl_trans HB.out hbw2)
  clear hbw2
  cases e1 : ratB n xs m ys with
  | false =>
    have HE : Hid (flZ n xs m ys = 0) := hide (by unfold flZ; rw [e1]; rfl)
    clear e1
    go_wp2
    refine bodyPost_ret (v := .agg #[.bool false, .slice none 0 0]) (by simp [results, Try.results16, go_sem, kR0, kR1]) rfl ?_
    rw [HE.out]
    exact ⟨_, rfl, new_zero _ _, (HB.out.setCell (p := ⟨w.heap.size + 1, 0, none⟩) (by dsimp only; omega) _).setCell (p := ⟨w.heap.size + 1, 1, none⟩) (by dsimp only; omega) _⟩
  | true =>
  obtain ⟨x, y, rfl, rfl, rfl, rfl, hx, hy, hy0, hg⟩ := rat_num H1.out.2.2.2.1 H2.out.2.2.2.1 e1
  have HE : Hid (flZ (sgn x) (lms x) (sgn y) (lms y) = x / y) := hide (by unfold flZ; rw [e1, nat_lms, nat_lms, mk_self, mk_self]; rfl)
  clear e1 hg
  have lx : (lms x).length ≤ 40 := Num.limbs_len.2 hx
  have ly : (lms y).length ≤ 40 := Num.limbs_len.2 hy
  clear hx hy
  go_wp2_with fail
  refine (divI (.agg #[.bool (sgn x), .slice a (lms x).length c]) (.agg #[.bool (sgn y), .slice b (lms y).length d]) x y _ ⟨a, c, rfl, H1.out⟩ ⟨b, d, rfl, H2.out⟩ (by omega) (by omega) (by omega)).mono ?_
  rintro e w3 ⟨aq, cq, ar, cr, rfl, hoq, hor, hap, hbw3⟩
  have yw3 := hbw3.size
  replace kA0 := (hbw3.cell (p := ⟨w.heap.size, 0, none⟩) zA).trans kA0
  replace kA1 := (hbw3.cell (p := ⟨w.heap.size, 1, none⟩) zA).trans kA1
  replace kA2 := (hbw3.cell (p := ⟨w.heap.size, 2, none⟩) zA).trans kA2
  replace kA3 := (hbw3.cell (p := ⟨w.heap.size, 3, none⟩) zA).trans kA3
  replace zA := Nat.lt_of_lt_of_le zA hbw3.size
  replace kR0 := (hbw3.cell (p := ⟨w.heap.size + 1, 0, none⟩) zR).trans kR0
  replace fR0 := (hbw3.frozen (p := ⟨w.heap.size + 1, 0, none⟩) zR).trans fR0
  replace kR1 := (hbw3.cell (p := ⟨w.heap.size + 1, 1, none⟩) zR).trans kR1
  replace fR1 := (hbw3.frozen (p := ⟨w.heap.size + 1, 1, none⟩) zR).trans fR1
  replace zR := Nat.lt_of_lt_of_le zR hbw3.size
  replace H1 := hide (H1.out.below hbw3)
  replace H2 := hide (H2.out.below hbw3)
  replace HB := hide (bl_trans HB.out hbw3)
  clear hbw3
  have HQ := hide hoq
  clear hoq hor hap
  go_upto_region 4 with fail
  have kQ0 : ((w3.alloc (Obj.cells #[Value.bool (sgn (x / y)), Value.slice aq (lms (x / y)).length cq] 26)).alloc (Obj.cells #[Value.bool (sgn (x % y)), Value.slice ar (lms (x % y)).length cr] 26)).cell? ⟨w3.heap.size, 0, none⟩ = some (Value.bool (sgn (x / y))) := by go_simp
  have kQ1 : ((w3.alloc (Obj.cells #[Value.bool (sgn (x / y)), Value.slice aq (lms (x / y)).length cq] 26)).alloc (Obj.cells #[Value.bool (sgn (x % y)), Value.slice ar (lms (x % y)).length cr] 26)).cell? ⟨w3.heap.size, 1, none⟩ = some (Value.slice aq (lms (x / y)).length cq) := by go_simp
  have zQ : w3.heap.size < ((w3.alloc (Obj.cells #[Value.bool (sgn (x / y)), Value.slice aq (lms (x / y)).length cq] 26)).alloc (Obj.cells #[Value.bool (sgn (x % y)), Value.slice ar (lms (x % y)).length cr] 26)).heap.size := by simp only [World.size_alloc]; omega
  have kS0 : ((w3.alloc (Obj.cells #[Value.bool (sgn (x / y)), Value.slice aq (lms (x / y)).length cq] 26)).alloc (Obj.cells #[Value.bool (sgn (x % y)), Value.slice ar (lms (x % y)).length cr] 26)).cell? ⟨w3.heap.size + 1, 0, none⟩ = some (Value.bool (sgn (x % y))) := by go_simp
  have kS1 : ((w3.alloc (Obj.cells #[Value.bool (sgn (x / y)), Value.slice aq (lms (x / y)).length cq] 26)).alloc (Obj.cells #[Value.bool (sgn (x % y)), Value.slice ar (lms (x % y)).length cr] 26)).cell? ⟨w3.heap.size + 1, 1, none⟩ = some (Value.slice ar (lms (x % y)).length cr) := by go_simp
  have zS : w3.heap.size + 1 < ((w3.alloc (Obj.cells #[Value.bool (sgn (x / y)), Value.slice aq (lms (x / y)).length cq] 26)).alloc (Obj.cells #[Value.bool (sgn (x % y)), Value.slice ar (lms (x % y)).length cr] 26)).heap.size := by simp only [World.size_alloc]; omega
  have yw4 : w3.heap.size + 2 ≤ ((w3.alloc (Obj.cells #[Value.bool (sgn (x / y)), Value.slice aq (lms (x / y)).length cq] 26)).alloc (Obj.cells #[Value.bool (sgn (x % y)), Value.slice ar (lms (x % y)).length cr] 26)).heap.size := by simp only [World.size_alloc]; omega
  have hbw4 := (bl_alloc (bl_alloc (bl_refl w3) (Obj.cells #[Value.bool (sgn (x / y)), Value.slice aq (lms (x / y)).length cq] 26)) (Obj.cells #[Value.bool (sgn (x % y)), Value.slice ar (lms (x % y)).length cr] 26))
  generalize ((w3.alloc (Obj.cells #[Value.bool (sgn (x / y)), Value.slice aq (lms (x / y)).length cq] 26)).alloc (Obj.cells #[Value.bool (sgn (x % y)), Value.slice ar (lms (x % y)).length cr] 26)) = w4 at *
  replace kA0 := (hbw4.cell (p := ⟨w.heap.size, 0, none⟩) zA).trans kA0
  replace kA1 := (hbw4.cell (p := ⟨w.heap.size, 1, none⟩) zA).trans kA1
  replace kA2 := (hbw4.cell (p := ⟨w.heap.size, 2, none⟩) zA).trans kA2
  replace kA3 := (hbw4.cell (p := ⟨w.heap.size, 3, none⟩) zA).trans kA3
  replace zA := Nat.lt_of_lt_of_le zA hbw4.size
  replace kR0 := (hbw4.cell (p := ⟨w.heap.size + 1, 0, none⟩) zR).trans kR0
  replace fR0 := (hbw4.frozen (p := ⟨w.heap.size + 1, 0, none⟩) zR).trans fR0
  replace kR1 := (hbw4.cell (p := ⟨w.heap.size + 1, 1, none⟩) zR).trans kR1
  replace fR1 := (hbw4.frozen (p := ⟨w.heap.size + 1, 1, none⟩) zR).trans fR1
  replace zR := Nat.lt_of_lt_of_le zR hbw4.size
  replace H1 := hide (H1.out.below hbw4)
  replace H2 := hide (H2.out.below hbw4)
  replace HQ := hide (HQ.out.below hbw4)
  replace HB := hide (bl_trans HB.out hbw4)
  clear hbw4
  go_wp2
  refine bodyPost_ret (v := .agg #[.bool (sgn (x / y)), .slice aq (lms (x / y)).length cq]) (by simp [results, Try.results16, go_sem, kR0, kR1]) rfl ?_
  rw [HE.out]
  refine ⟨_, rfl, ⟨aq, cq, rfl, ((HQ.out.setCell (p := ⟨w.heap.size + 1, 0, none⟩) (by dsimp only; omega) _).setCell (p := ⟨w.heap.size + 1, 1, none⟩) (by dsimp only; omega) _).mono (by omega)⟩, (HB.out.setCell (p := ⟨w.heap.size + 1, 0, none⟩) (by dsimp only; omega) _).setCell (p := ⟨w.heap.size + 1, 1, none⟩) (by dsimp only; omega) _⟩

end Go.Proofs.Ytpjckilmbidbgaa
