/- The walks of isOne, the method right and RatOk of the program. -/
import Derived.Test.YtbnjgfaojaimlaaRatH
import Derived.Test.YtbnjgfaojaimlaaGcdI
import Derived.Test.YtbnjgfaojaimlaaPk02
namespace Go.Proofs.Ytbnjgfaojaimlaa
open Go.RowKit
set_option linter.unusedVariables false

theorem cmp_one (x : Int) : (cmpZ x 1 == 0) = decide (x = 1) := by
  unfold cmpZ
  by_cases h : x < 1
  · simp [h]; omega
  · by_cases h2 : 1 < x
    · simp [h, h2]; omega
    · have : x = 1 := by omega
      simp [this]

set_option maxHeartbeats 4000000 in
set_option maxRecDepth 20000 in
theorem isOneI (v1 : Value) (x : Int) (w : World) (h1 : Is w v1 x) :
    Calls Try.prog 54 #[v1] w fun e w' => e = .returned (.bool (decide (x = 1))) ∧ Below w.heap.size w w' := by
  obtain ⟨a, ca, rfl, ha⟩ := h1
  have HA := hide ha
  clear ha
  have HE := hide (cmp_one x)
  have kA0 : (w.alloc (Obj.cells #[Value.bool (sgn x), Value.slice a (lms x).length ca] 26)).cell? ⟨w.heap.size, 0, none⟩ = some (Value.bool (sgn x)) := by go_simp
  have kA1 : (w.alloc (Obj.cells #[Value.bool (sgn x), Value.slice a (lms x).length ca] 26)).cell? ⟨w.heap.size, 1, none⟩ = some (Value.slice a (lms x).length ca) := by go_simp
  have zA : w.heap.size < (w.alloc (Obj.cells #[Value.bool (sgn x), Value.slice a (lms x).length ca] 26)).heap.size := by simp only [World.size_alloc]; omega
  have HB := hide (bl_alloc (bl_refl w) (Obj.cells #[Value.bool (sgn x), Value.slice a (lms x).length ca] 26))
  replace HA := hide (HA.out.below HB.out)
  have y0 : w.heap.size + 1 ≤ (w.alloc (Obj.cells #[Value.bool (sgn x), Value.slice a (lms x).length ca] 26)).heap.size := by simp only [World.size_alloc]; omega
  go_enter Try.func54, Try.ntmps54
  go_wp2_with fail
  generalize (w.alloc (Obj.cells #[Value.bool (sgn x), Value.slice a (lms x).length ca] 26)) = w1 at *
  go_region_held3 (fun w' => w'.cell? ⟨w.heap.size, 0, none⟩ = some (Value.bool (sgn x)) ∧ w'.cell? ⟨w.heap.size, 1, none⟩ = some (Value.slice a (lms x).length ca))
    (first
      | exact ⟨(by (try rw [World.cell?_drew]); first | with_reducible assumption), (by (try rw [World.cell?_drew]); first | with_reducible assumption)⟩)
    (first
      | (go_at_call 44; refine (fromI 1 _ (by decide) (by decide)).mono ?_; rintro e w2 ⟨v1, rfl, hn1, hbw2r⟩; have hbw2 : Below w1.heap.size w1 w2 := (bl_refl w1).drew.trans hbw2r; have yw2 := hbw2.size; have kA0 := (hbw2r.cell (p := ⟨w.heap.size, 0, none⟩) (by dsimp only; rw [World.size_drew]; omega)).trans kA0; have kA1 := (hbw2r.cell (p := ⟨w.heap.size, 1, none⟩) (by dsimp only; rw [World.size_drew]; omega)).trans kA1)
      | (go_at_call 28; refine (cmpBI (.agg #[.bool (sgn x), .slice a (lms x).length ca]) v1 x 1 _ ⟨a, ca, rfl, HA.out.below (hbw2)⟩ hn1.is).mono ?_; rintro e w3 ⟨rfl, hbw3r⟩; have hbw3 : Below w1.heap.size w1 w3 := bl_trans hbw2 hbw3r; have yw3 := hbw3.size; have kA0 := (hbw3r.cell (p := ⟨w.heap.size, 0, none⟩) (by dsimp only; omega)).trans kA0; have kA1 := (hbw3r.cell (p := ⟨w.heap.size, 1, none⟩) (by dsimp only; omega)).trans kA1))
  have HB2 := hide (bl_trans HB.out hbw3)
  go_wp2
  go_ret
  exact ⟨ret_bool HE.out, HB2.out⟩

def ratB (n : Bool) (xs : List Nat) (m : Bool) (ys : List Nat) : Bool := okB n xs && okB m ys && (decide (0 < mk m (Num.nat ys)) && decide (Int.gcd (mk n (Num.nat xs)) (mk m (Num.nat ys)) = 1))

set_option maxHeartbeats 4000000 in
set_option maxRecDepth 20000 in
theorem rightI (n : Bool) (xs : List Nat) (m : Bool) (ys : List Nat) (a : Option Addr) (c : Nat) (b : Option Addr) (d : Nat) (w : World) (s1 : Seg w a xs.length c xs) (s2 : Seg w b ys.length d ys) :
    Calls Try.prog 34 #[(.agg #[.bool n, .slice a xs.length c, .bool m, .slice b ys.length d])] w fun e w' => e = .returned (.bool (ratB n xs m ys)) ∧ Below w.heap.size w w' := by
  have H1 := hide s1
  have H2 := hide s2
  clear s1 s2
  have kA0 : (w.alloc (Obj.cells #[Value.bool n, Value.slice a xs.length c, Value.bool m, Value.slice b ys.length d] 37)).cell? ⟨w.heap.size, 0, none⟩ = some (Value.bool n) := by go_simp
  have kA1 : (w.alloc (Obj.cells #[Value.bool n, Value.slice a xs.length c, Value.bool m, Value.slice b ys.length d] 37)).cell? ⟨w.heap.size, 1, none⟩ = some (Value.slice a xs.length c) := by go_simp
  have kA2 : (w.alloc (Obj.cells #[Value.bool n, Value.slice a xs.length c, Value.bool m, Value.slice b ys.length d] 37)).cell? ⟨w.heap.size, 2, none⟩ = some (Value.bool m) := by go_simp
  have kA3 : (w.alloc (Obj.cells #[Value.bool n, Value.slice a xs.length c, Value.bool m, Value.slice b ys.length d] 37)).cell? ⟨w.heap.size, 3, none⟩ = some (Value.slice b ys.length d) := by go_simp
  have zA : w.heap.size < (w.alloc (Obj.cells #[Value.bool n, Value.slice a xs.length c, Value.bool m, Value.slice b ys.length d] 37)).heap.size := by simp only [World.size_alloc]; omega
  have HB := hide (bl_alloc (bl_refl w) (Obj.cells #[Value.bool n, Value.slice a xs.length c, Value.bool m, Value.slice b ys.length d] 37))
  replace H1 := hide (H1.out.below HB.out)
  replace H2 := hide (H2.out.below HB.out)
  have y0 : w.heap.size + 1 ≤ (w.alloc (Obj.cells #[Value.bool n, Value.slice a xs.length c, Value.bool m, Value.slice b ys.length d] 37)).heap.size := by simp only [World.size_alloc]; omega
  go_enter Try.func34, Try.ntmps34
  go_wp2_with fail
  generalize (w.alloc (Obj.cells #[Value.bool n, Value.slice a xs.length c, Value.bool m, Value.slice b ys.length d] 37)) = w1 at *
  refine (okI _ n xs _ ⟨a, c, rfl, H1.out⟩).mono ?_
  rintro e w2 ⟨rfl, hbw2⟩
  have yw2 := hbw2.size
  replace kA0 := (hbw2.cell (p := ⟨w.heap.size, 0, none⟩) zA).trans kA0
  replace kA1 := (hbw2.cell (p := ⟨w.heap.size, 1, none⟩) zA).trans kA1
  replace kA2 := (hbw2.cell (p := ⟨w.heap.size, 2, none⟩) zA).trans kA2
  replace kA3 := (hbw2.cell (p := ⟨w.heap.size, 3, none⟩) zA).trans kA3
  replace zA := Nat.lt_of_lt_of_le zA hbw2.size
  replace H1 := hide (H1.out.below hbw2)
  replace H2 := hide (H2.out.below hbw2)
  replace HB := hide (bl_trans HB.out hbw2)
  clear hbw2
  cases e1 : okB n xs with
  | false =>
    have HE : Hid (ratB n xs m ys = false) := hide (by unfold ratB; rw [e1]; rfl)
    clear e1
    go_wp2
    go_ret
    exact ⟨ret_bool HE.out.symm, HB.out⟩
  | true =>
  have E1 := hide e1
  clear e1
  go_wp2_with fail
  refine (okI _ m ys _ ⟨b, d, rfl, H2.out⟩).mono ?_
  rintro e w3 ⟨rfl, hbw3⟩
  have yw3 := hbw3.size
  replace kA0 := (hbw3.cell (p := ⟨w.heap.size, 0, none⟩) zA).trans kA0
  replace kA1 := (hbw3.cell (p := ⟨w.heap.size, 1, none⟩) zA).trans kA1
  replace kA2 := (hbw3.cell (p := ⟨w.heap.size, 2, none⟩) zA).trans kA2
  replace kA3 := (hbw3.cell (p := ⟨w.heap.size, 3, none⟩) zA).trans kA3
  replace zA := Nat.lt_of_lt_of_le zA hbw3.size
  replace H1 := hide (H1.out.below hbw3)
  replace H2 := hide (H2.out.below hbw3)
  replace HB := hide (bl_trans HB.out hbw3)
  clear hbw3
  cases e2 : okB m ys with
  | false =>
    have HE : Hid (ratB n xs m ys = false) := hide (by unfold ratB; rw [e2, Bool.and_false]; rfl)
    clear e2
    go_wp2
    go_ret
    exact ⟨ret_bool HE.out.symm, HB.out⟩
  | true =>
  have E2 := hide e2
  clear e2
  obtain ⟨x, rfl, rfl, hx⟩ := ok_num H1.out.2.2.2.1 E1.out
  obtain ⟨y, rfl, rfl, hy⟩ := ok_num H2.out.2.2.2.1 E2.out
  have HR : Hid (ratB (sgn x) (lms x) (sgn y) (lms y) = (decide (0 < y) && decide (Int.gcd x y = 1))) := hide (by unfold ratB; rw [E1.out, E2.out, nat_lms, nat_lms, mk_self, mk_self]; rfl)
  have lx : (lms x).length ≤ 40 := Num.limbs_len.2 hx
  have ly : (lms y).length ≤ 40 := Num.limbs_len.2 hy
  clear hx hy
  go_wp2_with fail
  refine (signI _ y _ ⟨b, d, rfl, H2.out⟩).mono ?_
  rintro e w4 ⟨rfl, hbw4⟩
  have yw4 := hbw4.size
  replace kA0 := (hbw4.cell (p := ⟨w.heap.size, 0, none⟩) zA).trans kA0
  replace kA1 := (hbw4.cell (p := ⟨w.heap.size, 1, none⟩) zA).trans kA1
  replace kA2 := (hbw4.cell (p := ⟨w.heap.size, 2, none⟩) zA).trans kA2
  replace kA3 := (hbw4.cell (p := ⟨w.heap.size, 3, none⟩) zA).trans kA3
  replace zA := Nat.lt_of_lt_of_le zA hbw4.size
  replace H1 := hide (H1.out.below hbw4)
  replace H2 := hide (H2.out.below hbw4)
  replace HB := hide (bl_trans HB.out hbw4)
  clear hbw4
  by_cases hy0 : 0 < y
  · have hs : (0 : Int) < Int.sign y := by rw [Int.sign_eq_one_of_pos hy0]; decide
    generalize Int.sign y = sy at *
    go_wp2_with fail
    refine (gcdI _ _ x y _ ⟨a, c, rfl, H1.out⟩ ⟨b, d, rfl, H2.out⟩ (by omega) (by omega)).mono ?_
    rintro e w5 ⟨v5, rfl, hn5, hbw5⟩
    have yw5 := hbw5.size
    replace kA0 := (hbw5.cell (p := ⟨w.heap.size, 0, none⟩) zA).trans kA0
    replace kA1 := (hbw5.cell (p := ⟨w.heap.size, 1, none⟩) zA).trans kA1
    replace kA2 := (hbw5.cell (p := ⟨w.heap.size, 2, none⟩) zA).trans kA2
    replace kA3 := (hbw5.cell (p := ⟨w.heap.size, 3, none⟩) zA).trans kA3
    replace zA := Nat.lt_of_lt_of_le zA hbw5.size
    replace H1 := hide (H1.out.below hbw5)
    replace H2 := hide (H2.out.below hbw5)
    replace HB := hide (bl_trans HB.out hbw5)
    have HN := hide hn5.is
    obtain ⟨a5, c5, rfl, ho5⟩ := hn5
    clear ho5
    clear hbw5
    go_wp2_with fail
    refine (isOneI _ (Int.gcd x y : Int) _ HN.out).mono ?_
    rintro e w6 ⟨rfl, hbw6⟩
    have yw6 := hbw6.size
    replace kA0 := (hbw6.cell (p := ⟨w.heap.size, 0, none⟩) zA).trans kA0
    replace kA1 := (hbw6.cell (p := ⟨w.heap.size, 1, none⟩) zA).trans kA1
    replace kA2 := (hbw6.cell (p := ⟨w.heap.size, 2, none⟩) zA).trans kA2
    replace kA3 := (hbw6.cell (p := ⟨w.heap.size, 3, none⟩) zA).trans kA3
    replace zA := Nat.lt_of_lt_of_le zA hbw6.size
    replace H1 := hide (H1.out.below hbw6)
    replace H2 := hide (H2.out.below hbw6)
    replace HN := hide (HN.out.below hbw6)
    replace HB := hide (bl_trans HB.out hbw6)
    clear hbw6
    have HE : Hid (ratB (sgn x) (lms x) (sgn y) (lms y) = decide ((Int.gcd x y : Int) = 1)) := hide (by rw [HR.out, decide_eq_true hy0, Bool.true_and]; exact decide_eq_decide.2 (by omega))
    generalize decide ((Int.gcd x y : Int) = 1) = t at *
    go_wp2
    go_ret
    exact ⟨ret_bool HE.out.symm, HB.out⟩
  · have hs : ¬ (0 : Int) < Int.sign y := by have := Int.sign_nonpos_iff.2 (show y ≤ 0 by omega); omega
    generalize Int.sign y = sy at *
    have HE : Hid (ratB (sgn x) (lms x) (sgn y) (lms y) = false) := hide (by rw [HR.out, decide_eq_false hy0]; rfl)
    go_wp2
    go_ret
    exact ⟨ret_bool HE.out.symm, HB.out⟩

end Go.Proofs.Ytbnjgfaojaimlaa
