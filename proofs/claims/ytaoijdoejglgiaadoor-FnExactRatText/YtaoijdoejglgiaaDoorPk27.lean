/- My texts RatOkS, RatT, in this order. -/
import Derived.Test.YtaoijdoejglgiaaDoorPk22
import Derived.Test.YtaoijdoejglgiaaDoorPk26
import Derived.Test.YtaoijdoejglgiaaDoorPk10
/- The walk of the specification's RatOk. -/
namespace Go.Proofs.YtaoijdoejglgiaaDoor
open Go.RowKit
set_option linter.unusedVariables false

set_option maxHeartbeats 4000000 in
set_option maxRecDepth 20000 in
theorem RatOkQ (n : Bool) (xs : List Nat) (m : Bool) (ys : List Nat) (a : Option Addr) (c : Nat) (b : Option Addr) (d : Nat) (w : World) (s1 : Seg w a xs.length c xs) (s2 : Seg w b ys.length d ys) :
    Calls Tryd.prog 22 #[(.agg #[.bool n, .slice a xs.length c, .bool m, .slice b ys.length d])] w fun e w' => e = .returned (.bool (ratB n xs m ys)) ∧ Below w.heap.size w w' := by
  have H1 := hide s1
  have H2 := hide s2
  clear s1 s2
  have kA0 : (w.alloc (Obj.cells #[Value.bool n, Value.slice a xs.length c, Value.bool m, Value.slice b ys.length d] 36)).cell? ⟨w.heap.size, 0, none⟩ = some (Value.bool n) := by go_simp
  have kA1 : (w.alloc (Obj.cells #[Value.bool n, Value.slice a xs.length c, Value.bool m, Value.slice b ys.length d] 36)).cell? ⟨w.heap.size, 1, none⟩ = some (Value.slice a xs.length c) := by go_simp
  have kA2 : (w.alloc (Obj.cells #[Value.bool n, Value.slice a xs.length c, Value.bool m, Value.slice b ys.length d] 36)).cell? ⟨w.heap.size, 2, none⟩ = some (Value.bool m) := by go_simp
  have kA3 : (w.alloc (Obj.cells #[Value.bool n, Value.slice a xs.length c, Value.bool m, Value.slice b ys.length d] 36)).cell? ⟨w.heap.size, 3, none⟩ = some (Value.slice b ys.length d) := by go_simp
  have zA : w.heap.size < (w.alloc (Obj.cells #[Value.bool n, Value.slice a xs.length c, Value.bool m, Value.slice b ys.length d] 36)).heap.size := by simp only [World.size_alloc]; omega
  have HB := hide (bl_alloc (bl_refl w) (Obj.cells #[Value.bool n, Value.slice a xs.length c, Value.bool m, Value.slice b ys.length d] 36))
  replace H1 := hide (H1.out.below HB.out)
  replace H2 := hide (H2.out.below HB.out)
  have y0 : w.heap.size + 1 ≤ (w.alloc (Obj.cells #[Value.bool n, Value.slice a xs.length c, Value.bool m, Value.slice b ys.length d] 36)).heap.size := by simp only [World.size_alloc]; omega
  go_enter Tryd.func22, Tryd.ntmps22
  go_wp2_with fail
  generalize (w.alloc (Obj.cells #[Value.bool n, Value.slice a xs.length c, Value.bool m, Value.slice b ys.length d] 36)) = w1 at *
  refine (okS _ n xs _ ⟨a, c, rfl, H1.out⟩).mono ?_
  rintro e w2 ⟨rfl, hbw2⟩
  have yw2 := hbw2.size
  replace kA0 := (hbw2.cell (p := ⟨w.heap.size, 0, none⟩) zA).trans kA0
  replace kA1 := (hbw2.cell (p := ⟨w.heap.size, 1, none⟩) zA).trans kA1
  replace kA2 := (hbw2.cell (p := ⟨w.heap.size, 2, none⟩) zA).trans kA2
  replace kA3 := (hbw2.cell (p := ⟨w.heap.size, 3, none⟩) zA).trans kA3
  replace zA := Nat.lt_of_lt_of_le zA hbw2.size
  replace H1 := hide (H1.out.below hbw2)
  replace H2 := hide (H2.out.below hbw2)
  replace HB := hide (bl_trans HB.out hbw2)
  clear hbw2
  cases e1 : okB n xs with
  | false =>
    have HE : Hid (ratB n xs m ys = false) := hide (by unfold ratB; rw [e1]; rfl)
    clear e1
    go_wp2
    go_ret
    exact ⟨ret_bool HE.out.symm, HB.out⟩
  | true =>
  have E1 := hide e1
  clear e1
  go_wp2_with fail
  refine (okS _ m ys _ ⟨b, d, rfl, H2.out⟩).mono ?_
  rintro e w3 ⟨rfl, hbw3⟩
  have yw3 := hbw3.size
  replace kA0 := (hbw3.cell (p := ⟨w.heap.size, 0, none⟩) zA).trans kA0
  replace kA1 := (hbw3.cell (p := ⟨w.heap.size, 1, none⟩) zA).trans kA1
  replace kA2 := (hbw3.cell (p := ⟨w.heap.size, 2, none⟩) zA).trans kA2
  replace kA3 := (hbw3.cell (p := ⟨w.heap.size, 3, none⟩) zA).trans kA3
  replace zA := Nat.lt_of_lt_of_le zA hbw3.size
  replace H1 := hide (H1.out.below hbw3)
  replace H2 := hide (H2.out.below hbw3)
  replace HB := hide (bl_trans HB.out hbw3)
  clear hbw3
  cases e2 : okB m ys with
  | false =>
    have HE : Hid (ratB n xs m ys = false) := hide (by unfold ratB; rw [e2, Bool.and_false]; rfl)
    clear e2
    go_wp2
    go_ret
    exact ⟨ret_bool HE.out.symm, HB.out⟩
  | true =>
  have E2 := hide e2
  clear e2
  obtain ⟨x, rfl, rfl, hx⟩ := ok_num H1.out.2.2.2.1 E1.out
  obtain ⟨y, rfl, rfl, hy⟩ := ok_num H2.out.2.2.2.1 E2.out
  have HR : Hid (ratB (sgn x) (lms x) (sgn y) (lms y) = (decide (0 < y) && decide (Int.gcd x y = 1))) := hide (by unfold ratB; rw [E1.out, E2.out, nat_lms, nat_lms, mk_self, mk_self]; rfl)
  have lx : (lms x).length ≤ 40 := Num.limbs_len.2 hx
  have ly : (lms y).length ≤ 40 := Num.limbs_len.2 hy
  clear hx hy
  by_cases hy0 : 0 < y
  · have hs : sgn y = false := decide_eq_false (by omega)
    have hl : (((lms y).length : Int) == 0) = false := by rw [beq_eq_false_iff_ne]; intro e; have := sgn_lms_nil (z := y) (by omega); omega
    have HE : Hid (ratB (sgn x) (lms x) (sgn y) (lms y) = decide (Int.gcd x y = 1)) := hide (by rw [HR.out, decide_eq_true hy0, Bool.true_and])
    go_upto_region 3 with fail
    clear hs hl
    go_wp2_with fail
    refine (gcdS (.agg #[.bool (sgn x), .slice a (lms x).length c]) (.agg #[.bool (sgn y), .slice b (lms y).length d]) x y _ ⟨a, c, rfl, H1.out⟩ ⟨b, d, rfl, H2.out⟩ (by omega) (by omega)).mono ?_
    rintro e w4 ⟨v5, rfl, hn5, hbw4⟩
    have yw4 := hbw4.size
    replace kA0 := (hbw4.cell (p := ⟨w.heap.size, 0, none⟩) zA).trans kA0
    replace kA1 := (hbw4.cell (p := ⟨w.heap.size, 1, none⟩) zA).trans kA1
    replace kA2 := (hbw4.cell (p := ⟨w.heap.size, 2, none⟩) zA).trans kA2
    replace kA3 := (hbw4.cell (p := ⟨w.heap.size, 3, none⟩) zA).trans kA3
    replace zA := Nat.lt_of_lt_of_le zA hbw4.size
    replace H1 := hide (H1.out.below hbw4)
    replace H2 := hide (H2.out.below hbw4)
    replace HB := hide (bl_trans HB.out hbw4)
    obtain ⟨a5, c5, rfl, ho5⟩ := hn5
    have HG := hide ho5.1
    clear ho5
    clear hbw4
    go_upto_region 4 with fail
    have kQ0 : (w4.alloc (Obj.cells #[Value.bool (sgn (Int.gcd x y : Int)), Value.slice a5 (lms (Int.gcd x y : Int)).length c5] 27)).cell? ⟨w4.heap.size, 0, none⟩ = some (Value.bool (sgn (Int.gcd x y : Int))) := by go_simp
    have kQ1 : (w4.alloc (Obj.cells #[Value.bool (sgn (Int.gcd x y : Int)), Value.slice a5 (lms (Int.gcd x y : Int)).length c5] 27)).cell? ⟨w4.heap.size, 1, none⟩ = some (Value.slice a5 (lms (Int.gcd x y : Int)).length c5) := by go_simp
    have zQ : w4.heap.size < (w4.alloc (Obj.cells #[Value.bool (sgn (Int.gcd x y : Int)), Value.slice a5 (lms (Int.gcd x y : Int)).length c5] 27)).heap.size := by simp only [World.size_alloc]; omega
    have yw5 : w4.heap.size + 1 ≤ (w4.alloc (Obj.cells #[Value.bool (sgn (Int.gcd x y : Int)), Value.slice a5 (lms (Int.gcd x y : Int)).length c5] 27)).heap.size := by simp only [World.size_alloc]; omega
    have hbw5 := (bl_alloc (bl_refl w4) (Obj.cells #[Value.bool (sgn (Int.gcd x y : Int)), Value.slice a5 (lms (Int.gcd x y : Int)).length c5] 27))
    generalize (w4.alloc (Obj.cells #[Value.bool (sgn (Int.gcd x y : Int)), Value.slice a5 (lms (Int.gcd x y : Int)).length c5] 27)) = w5 at *
    replace kA0 := (hbw5.cell (p := ⟨w.heap.size, 0, none⟩) zA).trans kA0
    replace kA1 := (hbw5.cell (p := ⟨w.heap.size, 1, none⟩) zA).trans kA1
    replace kA2 := (hbw5.cell (p := ⟨w.heap.size, 2, none⟩) zA).trans kA2
    replace kA3 := (hbw5.cell (p := ⟨w.heap.size, 3, none⟩) zA).trans kA3
    replace zA := Nat.lt_of_lt_of_le zA hbw5.size
    replace H1 := hide (H1.out.below hbw5)
    replace H2 := hide (H2.out.below hbw5)
    replace HG := hide (HG.out.below hbw5)
    replace HB := hide (bl_trans HB.out hbw5)
    clear hbw5
    by_cases hg : Int.gcd x y = 1
    · rw [decide_eq_true hg] at HE
      have e1 : lms (Int.gcd x y : Int) = [1] := by rw [hg]; unfold lms; rw [show Int.natAbs ((1 : Nat) : Int) = 1 from rfl, Num.limbs_pos (by decide)]; simp [Num.limbs_zero]
      have hcap := HG.out.2.1
      have hcm := HG.out.2.2.1
      obtain ⟨g5, o5, rfl, hg5, hc5⟩ := seg_cell HG.out 0 (by rw [e1]; decide)
      have e2 : (lms (Int.gcd x y : Int))[0]'(by rw [e1]; decide) = 1 := by simp [e1]
      rw [e2, Nat.add_zero] at hc5
      have hl1 : (((lms (Int.gcd x y : Int)).length : Int) == 1) = true := by rw [e1]; rfl
      have hl2 : (0 : Int) < ((lms (Int.gcd x y : Int)).length : Int) := by rw [e1]; decide
      clear e1 e2 hg
      generalize (lms (Int.gcd x y : Int)).length = L at *
      generalize sgn (Int.gcd x y : Int) = G at *
      go_wp2
      go_ret
      exact ⟨ret_bool HE.out.symm, HB.out⟩
    · rw [decide_eq_false hg] at HE
      by_cases hlen : (lms (Int.gcd x y : Int)).length = 1
      · have hcap := HG.out.2.1
        have hcm := HG.out.2.2.1
        obtain ⟨g5, o5, rfl, hg5, hc5⟩ := seg_cell HG.out 0 (by omega)
        have hne : ((((lms (Int.gcd x y : Int))[0]'(by omega) : Nat) : Int) == 1) = false := by rw [beq_eq_false_iff_ne]; intro e; exact hg (by have := abs_one hlen (by omega); omega)
        rw [Nat.add_zero] at hc5
        generalize (lms (Int.gcd x y : Int))[0]'_ = l0 at *
        have hl1 : (((lms (Int.gcd x y : Int)).length : Int) == 1) = true := by rw [hlen]; rfl
        have hl2 : (0 : Int) < ((lms (Int.gcd x y : Int)).length : Int) := by omega
        clear hlen hg
        generalize (lms (Int.gcd x y : Int)).length = L at *
        generalize sgn (Int.gcd x y : Int) = G at *
        go_wp2
        go_ret
        exact ⟨ret_bool HE.out.symm, HB.out⟩
      · have hl1 : (((lms (Int.gcd x y : Int)).length : Int) == 1) = false := by rw [beq_eq_false_iff_ne]; omega
        clear hlen hg
        generalize (lms (Int.gcd x y : Int)).length = L at *
        generalize sgn (Int.gcd x y : Int) = G at *
        go_wp2
        go_ret
        exact ⟨ret_bool HE.out.symm, HB.out⟩
  · have HE : Hid (ratB (sgn x) (lms x) (sgn y) (lms y) = false) := hide (by rw [HR.out, decide_eq_false hy0]; rfl)
    by_cases hyn : y < 0
    · have hs : sgn y = true := decide_eq_true hyn
      go_wp2
      go_ret
      exact ⟨ret_bool HE.out.symm, HB.out⟩
    · have hs : sgn y = false := decide_eq_false hyn
      have hl : (((lms y).length : Int) == 0) = true := by rw [show y = 0 by omega, zero_lms]; rfl
      go_wp2
      go_ret
      exact ⟨ret_bool HE.out.symm, HB.out⟩

end Go.Proofs.YtaoijdoejglgiaaDoor

/- The walks of isWhole, l03Whole and the two RatText: a fraction's numeral, or two with a stroke between. -/
namespace Go.Proofs.YtaoijdoejglgiaaDoor
open Go.RowKit Go.Sort
set_option linter.unusedVariables false

/-- the text of a right fraction, else nothing -/
def ratT (n : Bool) (xs : List Nat) (m : Bool) (ys : List Nat) : ByteArray :=
  if ratB n xs m ys then (if mk m (Num.nat ys) = 1 then itB (mk n (Num.nat xs)) else itB (mk n (Num.nat xs)) ++ ⟨#[47]⟩ ++ itB (mk m (Num.nat ys))) else ⟨#[]⟩
theorem rat_nums {n : Bool} {xs : List Nat} {m : Bool} {ys : List Nat} (h1 : Num.Small xs) (h2 : Num.Small ys) (h : ratB n xs m ys = true) :
    ∃ x y : Int, n = sgn x ∧ xs = lms x ∧ m = sgn y ∧ ys = lms y ∧ 0 < y ∧ okB (sgn x) (lms x) = true ∧ okB (sgn y) (lms y) = true := by
  simp only [ratB, Bool.and_eq_true, decide_eq_true_eq] at h
  obtain ⟨⟨ha, hb⟩, hc, _⟩ := h
  obtain ⟨x, rfl, rfl, _⟩ := ok_num h1 ha
  obtain ⟨y, rfl, rfl, _⟩ := ok_num h2 hb
  rw [nat_lms, mk_self] at hc
  exact ⟨x, y, rfl, rfl, rfl, rfl, hc, ha, hb⟩
theorem ratT_one {x y : Int} (h : ratB (sgn x) (lms x) (sgn y) (lms y) = true) (hy : y = 1) : ratT (sgn x) (lms x) (sgn y) (lms y) = itB x := by
  unfold ratT; rw [if_pos h, nat_lms, nat_lms, mk_self, mk_self, if_pos hy]
theorem ratT_two {x y : Int} (h : ratB (sgn x) (lms x) (sgn y) (lms y) = true) (hy : y ≠ 1) : ratT (sgn x) (lms x) (sgn y) (lms y) = itB x ++ ⟨#[47]⟩ ++ itB y := by
  unfold ratT; rw [if_pos h, nat_lms, nat_lms, mk_self, mk_self, if_neg hy]
theorem it_size {z : Int} (h : (lms z).length ≤ 40) : (itB z).size ≤ 401 := by
  have := dec_short (lms_small z) h
  rw [nat_lms] at this
  rw [← bsize]
  cases hg : sgn z with
  | true => rw [it_neg hg, List.length_cons]; omega
  | false => rw [it_pos hg]; omega
theorem lms_is1 (y : Int) (hy : 0 < y) : decide (y = 1) = (decide ((lms y).length = 1) && decide ((lms y).getD 0 0 = 1)) := by
  have hn := nat_lms y
  by_cases h1 : (lms y).length = 1
  · obtain ⟨q, hq⟩ : ∃ q, lms y = [q] := List.length_eq_one_iff.1 h1
    rw [hq] at hn ⊢
    simp only [Num.nat] at hn
    rw [Bool.eq_iff_iff]; simp; omega
  · rw [decide_eq_false h1, Bool.false_and, decide_eq_false_iff_not]
    intro e
    subst e
    exact h1 (by rw [lms_one (by rfl)]; rfl)

set_option maxHeartbeats 1000000 in
set_option maxRecDepth 20000 in
theorem isWholeI (y : Int) (n : Bool) (xs : List Nat) (m : Bool) (ys : List Nat) (a : Option Addr) (c : Nat) (b : Option Addr) (d : Nat) (w : World) (s1 : Seg w a xs.length c xs) (s2 : Seg w b ys.length d ys) (e1 : m = sgn y) (e2 : ys = lms y) :
    Calls Tryd.prog 25 #[(.agg #[.bool n, .slice a xs.length c, .bool m, .slice b ys.length d])] w fun e w' => e = .returned (.bool (decide (y = 1))) ∧ Below w.heap.size w w' := by
  subst e1 e2
  have H1 := hide s1
  have H2 := hide s2
  clear s1 s2
  have k0 : (w.alloc (Obj.cells #[Value.bool n, Value.slice a xs.length c, Value.bool (sgn y), Value.slice b (lms y).length d] 36)).cell? ⟨w.heap.size, 0, none⟩ = some (Value.bool n) := by go_simp
  have k1 : (w.alloc (Obj.cells #[Value.bool n, Value.slice a xs.length c, Value.bool (sgn y), Value.slice b (lms y).length d] 36)).cell? ⟨w.heap.size, 1, none⟩ = some (Value.slice a xs.length c) := by go_simp
  have k2 : (w.alloc (Obj.cells #[Value.bool n, Value.slice a xs.length c, Value.bool (sgn y), Value.slice b (lms y).length d] 36)).cell? ⟨w.heap.size, 2, none⟩ = some (Value.bool (sgn y)) := by go_simp
  have k3 : (w.alloc (Obj.cells #[Value.bool n, Value.slice a xs.length c, Value.bool (sgn y), Value.slice b (lms y).length d] 36)).cell? ⟨w.heap.size, 3, none⟩ = some (Value.slice b (lms y).length d) := by go_simp
  have z1 : w.heap.size < (w.alloc (Obj.cells #[Value.bool n, Value.slice a xs.length c, Value.bool (sgn y), Value.slice b (lms y).length d] 36)).heap.size := by simp only [World.size_alloc]; omega
  have HB := hide (bl_alloc (bl_refl w) (Obj.cells #[Value.bool n, Value.slice a xs.length c, Value.bool (sgn y), Value.slice b (lms y).length d] 36))
  replace H1 := hide (H1.out.below HB.out)
  replace H2 := hide (H2.out.below HB.out)
  go_enter Tryd.func25, Tryd.ntmps25
  go_wp2_with fail
  generalize (w.alloc (Obj.cells #[Value.bool n, Value.slice a xs.length c, Value.bool (sgn y), Value.slice b (lms y).length d] 36)) = W0 at *
  refine (isOneI _ y _ ⟨b, d, rfl, H2.out⟩).mono ?_
  rintro e w1 ⟨rfl, hb1⟩
  replace HB := hide (bl_trans HB.out hb1)
  clear hb1
  go_wp2
  go_ret
  exact ⟨rfl, HB.out⟩

set_option maxHeartbeats 1000000 in
set_option maxRecDepth 20000 in
theorem wholeS (y : Int) (n : Bool) (xs : List Nat) (m : Bool) (ys : List Nat) (a : Option Addr) (c : Nat) (b : Option Addr) (d : Nat) (w : World) (s1 : Seg w a xs.length c xs) (s2 : Seg w b ys.length d ys) (hy : 0 < y) (e2 : ys = lms y) :
    Calls Tryd.prog 23 #[(.agg #[.bool n, .slice a xs.length c, .bool m, .slice b ys.length d])] w fun e w' => e = .returned (.bool (decide (y = 1))) ∧ Below w.heap.size w w' := by
  have hcap := s2.2.1
  have hcm := s2.2.2.1
  have HD := hide (lms_is1 y hy)
  rw [← e2] at HD
  clear e2
  by_cases h1 : ys.length = 1
  · obtain ⟨g, o, rfl, hg, hc⟩ : ∃ g o, b = some ⟨g, o, none⟩ ∧ g < w.heap.size ∧ w.cell? ⟨g, o, none⟩ = some (.int .u32 (ys.getD 0 0)) := by
      rcases s2.2.2.2.2 with h | ⟨g, o, ha, hg, hc⟩
      · omega
      · refine ⟨g, o, ha, hg, ?_⟩
        have := hc 0 (by omega)
        rw [Nat.add_zero] at this
        rw [this]; simp [List.getD, h1]
    have HD2 : Hid (decide (y = 1) = decide (ys.getD 0 0 = 1)) := hide (by rw [HD.out, decide_eq_true h1, Bool.true_and])
    generalize ys.getD 0 0 = q at *
    have h1' : (((ys.length : Nat) : Int) == 1) = true := by rw [beq_iff_eq]; omega
    have H1 := hide s1
    have H2 := hide s2
    clear s1 s2
    have k0 : (w.alloc (Obj.cells #[Value.bool n, Value.slice a xs.length c, Value.bool m, Value.slice (some ⟨g, o, none⟩) ys.length d] 36)).cell? ⟨w.heap.size, 0, none⟩ = some (Value.bool n) := by go_simp
    have k1 : (w.alloc (Obj.cells #[Value.bool n, Value.slice a xs.length c, Value.bool m, Value.slice (some ⟨g, o, none⟩) ys.length d] 36)).cell? ⟨w.heap.size, 1, none⟩ = some (Value.slice a xs.length c) := by go_simp
    have k2 : (w.alloc (Obj.cells #[Value.bool n, Value.slice a xs.length c, Value.bool m, Value.slice (some ⟨g, o, none⟩) ys.length d] 36)).cell? ⟨w.heap.size, 2, none⟩ = some (Value.bool m) := by go_simp
    have k3 : (w.alloc (Obj.cells #[Value.bool n, Value.slice a xs.length c, Value.bool m, Value.slice (some ⟨g, o, none⟩) ys.length d] 36)).cell? ⟨w.heap.size, 3, none⟩ = some (Value.slice (some ⟨g, o, none⟩) ys.length d) := by go_simp
    have z1 : w.heap.size < (w.alloc (Obj.cells #[Value.bool n, Value.slice a xs.length c, Value.bool m, Value.slice (some ⟨g, o, none⟩) ys.length d] 36)).heap.size := by simp only [World.size_alloc]; omega
    have HB := hide (bl_alloc (bl_refl w) (Obj.cells #[Value.bool n, Value.slice a xs.length c, Value.bool m, Value.slice (some ⟨g, o, none⟩) ys.length d] 36))
    replace H1 := hide (H1.out.below HB.out)
    replace H2 := hide (H2.out.below HB.out)
    go_enter Tryd.func23, Tryd.ntmps23
    have hcw := (HB.out.cell (p := ⟨g, o, none⟩) hg).trans hc
    rw [h1] at *
    go_wp2
    go_ret
    refine ⟨ret_bool ?_, bl_alloc (bl_refl w) _⟩
    rw [HD2.out, Bool.eq_iff_iff]; simp; omega
  · have HD2 : Hid (decide (y = 1) = false) := hide (by rw [HD.out, decide_eq_false h1, Bool.false_and])
    have h1' : (((ys.length : Nat) : Int) == 1) = false := by rw [beq_eq_false_iff_ne]; omega
    have H1 := hide s1
    have H2 := hide s2
    clear s1 s2
    have k0 : (w.alloc (Obj.cells #[Value.bool n, Value.slice a xs.length c, Value.bool m, Value.slice b ys.length d] 36)).cell? ⟨w.heap.size, 0, none⟩ = some (Value.bool n) := by go_simp
    have k1 : (w.alloc (Obj.cells #[Value.bool n, Value.slice a xs.length c, Value.bool m, Value.slice b ys.length d] 36)).cell? ⟨w.heap.size, 1, none⟩ = some (Value.slice a xs.length c) := by go_simp
    have k2 : (w.alloc (Obj.cells #[Value.bool n, Value.slice a xs.length c, Value.bool m, Value.slice b ys.length d] 36)).cell? ⟨w.heap.size, 2, none⟩ = some (Value.bool m) := by go_simp
    have k3 : (w.alloc (Obj.cells #[Value.bool n, Value.slice a xs.length c, Value.bool m, Value.slice b ys.length d] 36)).cell? ⟨w.heap.size, 3, none⟩ = some (Value.slice b ys.length d) := by go_simp
    have z1 : w.heap.size < (w.alloc (Obj.cells #[Value.bool n, Value.slice a xs.length c, Value.bool m, Value.slice b ys.length d] 36)).heap.size := by simp only [World.size_alloc]; omega
    have HB := hide (bl_alloc (bl_refl w) (Obj.cells #[Value.bool n, Value.slice a xs.length c, Value.bool m, Value.slice b ys.length d] 36))
    replace H1 := hide (H1.out.below HB.out)
    replace H2 := hide (H2.out.below HB.out)
    go_enter Tryd.func23, Tryd.ntmps23
    go_wp2
    go_ret
    exact ⟨ret_bool HD2.out.symm, bl_alloc (bl_refl w) _⟩

set_option maxHeartbeats 4000000 in
set_option maxRecDepth 20000 in
theorem ratTextI (n : Bool) (xs : List Nat) (m : Bool) (ys : List Nat) (a : Option Addr) (c : Nat) (b : Option Addr) (d : Nat) (w : World) (s1 : Seg w a xs.length c xs) (s2 : Seg w b ys.length d ys) (htab : Tabs w) :
    Calls Tryd.prog 13 #[(.agg #[.bool n, .slice a xs.length c, .bool m, .slice b ys.length d])] w fun e w' => e = .returned (.string (ratT n xs m ys)) ∧ Below w.heap.size w w' := by
  have hsx := s1.2.2.2.1
  have hsy := s2.2.2.2.1
  have H1 := hide s1
  have H2 := hide s2
  clear s1 s2
  have k0 : (w.alloc (Obj.cells #[Value.bool n, Value.slice a xs.length c, Value.bool m, Value.slice b ys.length d] 36)).cell? ⟨w.heap.size, 0, none⟩ = some (Value.bool n) := by go_simp
  have k1 : (w.alloc (Obj.cells #[Value.bool n, Value.slice a xs.length c, Value.bool m, Value.slice b ys.length d] 36)).cell? ⟨w.heap.size, 1, none⟩ = some (Value.slice a xs.length c) := by go_simp
  have k2 : (w.alloc (Obj.cells #[Value.bool n, Value.slice a xs.length c, Value.bool m, Value.slice b ys.length d] 36)).cell? ⟨w.heap.size, 2, none⟩ = some (Value.bool m) := by go_simp
  have k3 : (w.alloc (Obj.cells #[Value.bool n, Value.slice a xs.length c, Value.bool m, Value.slice b ys.length d] 36)).cell? ⟨w.heap.size, 3, none⟩ = some (Value.slice b ys.length d) := by go_simp
  have z1 : w.heap.size < (w.alloc (Obj.cells #[Value.bool n, Value.slice a xs.length c, Value.bool m, Value.slice b ys.length d] 36)).heap.size := by simp only [World.size_alloc]; omega
  have HB := hide (bl_alloc (bl_refl w) (Obj.cells #[Value.bool n, Value.slice a xs.length c, Value.bool m, Value.slice b ys.length d] 36))
  replace H1 := hide (H1.out.below HB.out)
  replace H2 := hide (H2.out.below HB.out)
  have HT := hide (htab.below HB.out)
  clear htab
  go_enter Tryd.func13, Tryd.ntmps13
  go_wp2_with fail
  generalize (w.alloc (Obj.cells #[Value.bool n, Value.slice a xs.length c, Value.bool m, Value.slice b ys.length d] 36)) = W0 at *
  refine (rightI n xs m ys a c b d _ H1.out H2.out).mono ?_
  rintro e w1 ⟨rfl, hb1⟩
  replace k0 := (hb1.cell (p := ⟨w.heap.size, 0, none⟩) z1).trans k0
  replace k1 := (hb1.cell (p := ⟨w.heap.size, 1, none⟩) z1).trans k1
  replace k2 := (hb1.cell (p := ⟨w.heap.size, 2, none⟩) z1).trans k2
  replace k3 := (hb1.cell (p := ⟨w.heap.size, 3, none⟩) z1).trans k3
  replace z1 := Nat.lt_of_lt_of_le z1 hb1.size
  replace H1 := hide (H1.out.below hb1)
  replace H2 := hide (H2.out.below hb1)
  replace HB := hide (bl_trans HB.out hb1)
  replace HT := hide (HT.out.below hb1)
  clear hb1
  cases ho : ratB n xs m ys with
  | false =>
    have HR : Hid (ratT n xs m ys = ⟨#[]⟩) := hide (by rw [ratT, ho]; rfl)
    go_wp2
    go_ret
    exact ⟨by rw [HR.out]; rfl, HB.out⟩
  | true =>
    obtain ⟨x, y, rfl, rfl, rfl, rfl, hy0, ox, oy⟩ := rat_nums hsx hsy ho
    have HX := hide (intT_num x ox)
    have HY := hide (intT_num y oy)
    have hlx := ok_len ox
    have hly := ok_len oy
    clear hsx hsy
    go_wp2_with fail
    refine (isWholeI y (sgn x) (lms x) (sgn y) (lms y) a c b d _ H1.out H2.out rfl rfl).mono ?_
    rintro e W4 ⟨rfl, hb4⟩
    replace k0 := (hb4.cell (p := ⟨w.heap.size, 0, none⟩) z1).trans k0
    replace k1 := (hb4.cell (p := ⟨w.heap.size, 1, none⟩) z1).trans k1
    replace k2 := (hb4.cell (p := ⟨w.heap.size, 2, none⟩) z1).trans k2
    replace k3 := (hb4.cell (p := ⟨w.heap.size, 3, none⟩) z1).trans k3
    replace z1 := Nat.lt_of_lt_of_le z1 hb4.size
    replace H1 := hide (H1.out.below hb4)
    replace H2 := hide (H2.out.below hb4)
    replace HB := hide (bl_trans HB.out hb4)
    replace HT := hide (HT.out.below hb4)
    clear hb4
    by_cases hy : y = 1
    · have HR := hide (ratT_one ho hy)
      rw [decide_eq_true hy]
      clear hy
      go_wp2_with fail
      refine (intTextI _ (sgn x) (lms x) _ ⟨a, c, rfl, H1.out⟩ HT.out).mono ?_
      rw [HX.out]
      rintro e w5 ⟨rfl, hb5⟩
      replace HB := hide (bl_trans HB.out hb5)
      clear hb5
      go_wp2
      go_ret
      exact ⟨by rw [HR.out]; rfl, HB.out⟩
    · have HR := hide (ratT_two ho hy)
      rw [decide_eq_false hy]
      have hxs := it_size hlx
      have hys := it_size hly
      have hs1 : ¬ 9223372036854775807 < (itB x).size + 1 := by omega
      have hs2 : ¬ 9223372036854775807 < (itB x).size + 1 + (itB y).size := by omega
      clear hy
      go_wp2_with fail
      go_region_held3 (fun w' => w'.cell? ⟨w.heap.size, 0, none⟩ = some (Value.bool (sgn x)) ∧ w'.cell? ⟨w.heap.size, 1, none⟩ = some (Value.slice a (lms x).length c) ∧ w'.cell? ⟨w.heap.size, 2, none⟩ = some (Value.bool (sgn y)) ∧ w'.cell? ⟨w.heap.size, 3, none⟩ = some (Value.slice b (lms y).length d))
        (first
          | exact ⟨(by (try rw [World.cell?_drew]); first | with_reducible assumption), (by (try rw [World.cell?_drew]); first | with_reducible assumption), (by (try rw [World.cell?_drew]); first | with_reducible assumption), (by (try rw [World.cell?_drew]); first | with_reducible assumption)⟩)
        (first
          | (go_at_call_of 8 (Value.agg #[Value.bool (sgn x), Value.slice a (lms x).length c]); refine (intTextI _ (sgn x) (lms x) _ ⟨a, c, rfl, H1.out.below (bl_refl W4).drew⟩ (HT.out.below (bl_refl W4).drew)).mono ?_; rw [HX.out]; rintro e w5 ⟨rfl, hb5r⟩; have hb5 : Below W4.heap.size W4 w5 := (bl_refl W4).drew.trans hb5r; have y5 := hb5.size; have k0 := (hb5r.cell (p := ⟨w.heap.size, 0, none⟩) (by dsimp only; rw [World.size_drew]; omega)).trans k0; have k1 := (hb5r.cell (p := ⟨w.heap.size, 1, none⟩) (by dsimp only; rw [World.size_drew]; omega)).trans k1; have k2 := (hb5r.cell (p := ⟨w.heap.size, 2, none⟩) (by dsimp only; rw [World.size_drew]; omega)).trans k2; have k3 := (hb5r.cell (p := ⟨w.heap.size, 3, none⟩) (by dsimp only; rw [World.size_drew]; omega)).trans k3)
          | (go_at_call_of 8 (Value.agg #[Value.bool (sgn y), Value.slice b (lms y).length d]); refine (intTextI _ (sgn y) (lms y) _ ⟨b, d, rfl, H2.out.below hb5⟩ (HT.out.below hb5)).mono ?_; rw [HY.out]; rintro e w6 ⟨rfl, hb6r⟩; have hb6 : Below W4.heap.size W4 w6 := bl_trans hb5 hb6r; have y6 := hb6.size; have k0 := (hb6r.cell (p := ⟨w.heap.size, 0, none⟩) (by dsimp only; omega)).trans k0; have k1 := (hb6r.cell (p := ⟨w.heap.size, 1, none⟩) (by dsimp only; omega)).trans k1; have k2 := (hb6r.cell (p := ⟨w.heap.size, 2, none⟩) (by dsimp only; omega)).trans k2; have k3 := (hb6r.cell (p := ⟨w.heap.size, 3, none⟩) (by dsimp only; omega)).trans k3))
      have HB2 := hide (bl_trans HB.out hb6)
      go_wp2
      go_ret
      exact ⟨by rw [HR.out]; rfl, HB2.out⟩

set_option maxHeartbeats 4000000 in
set_option maxRecDepth 20000 in
theorem ratTextS (n : Bool) (xs : List Nat) (m : Bool) (ys : List Nat) (a : Option Addr) (c : Nat) (b : Option Addr) (d : Nat) (w : World) (s1 : Seg w a xs.length c xs) (s2 : Seg w b ys.length d ys) :
    Calls Tryd.prog 11 #[(.agg #[.bool n, .slice a xs.length c, .bool m, .slice b ys.length d])] w fun e w' => e = .returned (.string (ratT n xs m ys)) ∧ Below w.heap.size w w' := by
  have hsx := s1.2.2.2.1
  have hsy := s2.2.2.2.1
  have H1 := hide s1
  have H2 := hide s2
  clear s1 s2
  have k0 : (w.alloc (Obj.cells #[Value.bool n, Value.slice a xs.length c, Value.bool m, Value.slice b ys.length d] 36)).cell? ⟨w.heap.size, 0, none⟩ = some (Value.bool n) := by go_simp
  have k1 : (w.alloc (Obj.cells #[Value.bool n, Value.slice a xs.length c, Value.bool m, Value.slice b ys.length d] 36)).cell? ⟨w.heap.size, 1, none⟩ = some (Value.slice a xs.length c) := by go_simp
  have k2 : (w.alloc (Obj.cells #[Value.bool n, Value.slice a xs.length c, Value.bool m, Value.slice b ys.length d] 36)).cell? ⟨w.heap.size, 2, none⟩ = some (Value.bool m) := by go_simp
  have k3 : (w.alloc (Obj.cells #[Value.bool n, Value.slice a xs.length c, Value.bool m, Value.slice b ys.length d] 36)).cell? ⟨w.heap.size, 3, none⟩ = some (Value.slice b ys.length d) := by go_simp
  have z1 : w.heap.size < (w.alloc (Obj.cells #[Value.bool n, Value.slice a xs.length c, Value.bool m, Value.slice b ys.length d] 36)).heap.size := by simp only [World.size_alloc]; omega
  have HB := hide (bl_alloc (bl_refl w) (Obj.cells #[Value.bool n, Value.slice a xs.length c, Value.bool m, Value.slice b ys.length d] 36))
  replace H1 := hide (H1.out.below HB.out)
  replace H2 := hide (H2.out.below HB.out)
  go_enter Tryd.func11, Tryd.ntmps11
  go_wp2_with fail
  generalize (w.alloc (Obj.cells #[Value.bool n, Value.slice a xs.length c, Value.bool m, Value.slice b ys.length d] 36)) = W0 at *
  refine (RatOkQ n xs m ys a c b d _ H1.out H2.out).mono ?_
  rintro e w1 ⟨rfl, hb1⟩
  replace k0 := (hb1.cell (p := ⟨w.heap.size, 0, none⟩) z1).trans k0
  replace k1 := (hb1.cell (p := ⟨w.heap.size, 1, none⟩) z1).trans k1
  replace k2 := (hb1.cell (p := ⟨w.heap.size, 2, none⟩) z1).trans k2
  replace k3 := (hb1.cell (p := ⟨w.heap.size, 3, none⟩) z1).trans k3
  replace z1 := Nat.lt_of_lt_of_le z1 hb1.size
  replace H1 := hide (H1.out.below hb1)
  replace H2 := hide (H2.out.below hb1)
  replace HB := hide (bl_trans HB.out hb1)
  clear hb1
  cases ho : ratB n xs m ys with
  | false =>
    have HR : Hid (ratT n xs m ys = ⟨#[]⟩) := hide (by rw [ratT, ho]; rfl)
    go_wp2
    go_ret
    exact ⟨by rw [HR.out]; rfl, HB.out⟩
  | true =>
    obtain ⟨x, y, rfl, rfl, rfl, rfl, hy0, ox, oy⟩ := rat_nums hsx hsy ho
    have HX := hide (intT_num x ox)
    have HY := hide (intT_num y oy)
    have hlx := ok_len ox
    have hly := ok_len oy
    clear hsx hsy
    go_wp2_with fail
    refine (wholeS y (sgn x) (lms x) (sgn y) (lms y) a c b d _ H1.out H2.out hy0 rfl).mono ?_
    rintro e W4 ⟨rfl, hb4⟩
    replace k0 := (hb4.cell (p := ⟨w.heap.size, 0, none⟩) z1).trans k0
    replace k1 := (hb4.cell (p := ⟨w.heap.size, 1, none⟩) z1).trans k1
    replace k2 := (hb4.cell (p := ⟨w.heap.size, 2, none⟩) z1).trans k2
    replace k3 := (hb4.cell (p := ⟨w.heap.size, 3, none⟩) z1).trans k3
    replace z1 := Nat.lt_of_lt_of_le z1 hb4.size
    replace H1 := hide (H1.out.below hb4)
    replace H2 := hide (H2.out.below hb4)
    replace HB := hide (bl_trans HB.out hb4)
    clear hb4
    by_cases hy : y = 1
    · have HR := hide (ratT_one ho hy)
      rw [decide_eq_true hy]
      clear hy
      go_wp2_with fail
      refine (txtS _ x _ ⟨a, c, rfl, H1.out⟩ hlx).mono ?_
      rintro e w5 ⟨rfl, hb5⟩
      replace HB := hide (bl_trans HB.out hb5)
      clear hb5
      go_wp2
      go_ret
      exact ⟨by rw [HR.out]; rfl, HB.out⟩
    · have HR := hide (ratT_two ho hy)
      rw [decide_eq_false hy]
      have hxs := it_size hlx
      have hys := it_size hly
      have hs1 : ¬ 9223372036854775807 < (itB x).size + 1 := by omega
      have hs2 : ¬ 9223372036854775807 < (itB x).size + 1 + (itB y).size := by omega
      clear hy
      go_wp2_with fail
      go_region_held3 (fun w' => w'.cell? ⟨w.heap.size, 0, none⟩ = some (Value.bool (sgn x)) ∧ w'.cell? ⟨w.heap.size, 1, none⟩ = some (Value.slice a (lms x).length c) ∧ w'.cell? ⟨w.heap.size, 2, none⟩ = some (Value.bool (sgn y)) ∧ w'.cell? ⟨w.heap.size, 3, none⟩ = some (Value.slice b (lms y).length d))
        (first
          | exact ⟨(by (try rw [World.cell?_drew]); first | with_reducible assumption), (by (try rw [World.cell?_drew]); first | with_reducible assumption), (by (try rw [World.cell?_drew]); first | with_reducible assumption), (by (try rw [World.cell?_drew]); first | with_reducible assumption)⟩)
        (first
          | (go_at_call_of 17 (Value.agg #[Value.bool (sgn x), Value.slice a (lms x).length c]); refine (txtS _ x _ ⟨a, c, rfl, H1.out.below (bl_refl W4).drew⟩ hlx).mono ?_; rintro e w5 ⟨rfl, hb5r⟩; have hb5 : Below W4.heap.size W4 w5 := (bl_refl W4).drew.trans hb5r; have y5 := hb5.size; have k0 := (hb5r.cell (p := ⟨w.heap.size, 0, none⟩) (by dsimp only; rw [World.size_drew]; omega)).trans k0; have k1 := (hb5r.cell (p := ⟨w.heap.size, 1, none⟩) (by dsimp only; rw [World.size_drew]; omega)).trans k1; have k2 := (hb5r.cell (p := ⟨w.heap.size, 2, none⟩) (by dsimp only; rw [World.size_drew]; omega)).trans k2; have k3 := (hb5r.cell (p := ⟨w.heap.size, 3, none⟩) (by dsimp only; rw [World.size_drew]; omega)).trans k3)
          | (go_at_call_of 17 (Value.agg #[Value.bool (sgn y), Value.slice b (lms y).length d]); refine (txtS _ y _ ⟨b, d, rfl, H2.out.below hb5⟩ hly).mono ?_; rintro e w6 ⟨rfl, hb6r⟩; have hb6 : Below W4.heap.size W4 w6 := bl_trans hb5 hb6r; have y6 := hb6.size; have k0 := (hb6r.cell (p := ⟨w.heap.size, 0, none⟩) (by dsimp only; omega)).trans k0; have k1 := (hb6r.cell (p := ⟨w.heap.size, 1, none⟩) (by dsimp only; omega)).trans k1; have k2 := (hb6r.cell (p := ⟨w.heap.size, 2, none⟩) (by dsimp only; omega)).trans k2; have k3 := (hb6r.cell (p := ⟨w.heap.size, 3, none⟩) (by dsimp only; omega)).trans k3))
      have HB2 := hide (bl_trans HB.out hb6)
      go_wp2
      go_ret
      exact ⟨by rw [HR.out]; rfl, HB2.out⟩
end Go.Proofs.YtaoijdoejglgiaaDoor
