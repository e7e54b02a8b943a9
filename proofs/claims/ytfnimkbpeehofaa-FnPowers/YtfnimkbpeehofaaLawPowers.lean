/- The walk of FnPowers: powers of one number multiplied have the sum of their exponents. -/
import Derived.Test.YtfnimkbpeehofaaDrP
import Derived.Test.YtfnimkbpeehofaaPowP
import Derived.Test.YtfnimkbpeehofaaMul
namespace Go.Proofs.Ytfnimkbpeehofaa
open Go.RowKit
set_option linter.unusedVariables false

theorem ok_fits (z : Int) : okB (sgn z) (lms z) = fits z := ok_of_num z
theorem pow_mul {n : Bool} {xs : List Nat} {q m : Int} (hq : powT n xs q = true) (hm : powT n xs m = true) (hs : q + m ≤ 1000) :
    opT mulZ (sgn (powZ n xs q)) (lms (powZ n xs q)) (sgn (powZ n xs m)) (lms (powZ n xs m)) = powT n xs (q + m) ∧ opZ mulZ (sgn (powZ n xs q)) (lms (powZ n xs q)) (sgn (powZ n xs m)) (lms (powZ n xs m)) = powZ n xs (q + m) := by
  have e1 : powZ n xs q = (mk n (Num.nat xs)) ^ q.toNat := by unfold powZ; rw [hq]; rfl
  have e2 : powZ n xs m = (mk n (Num.nat xs)) ^ m.toNat := by unfold powZ; rw [hm]; rfl
  have h1 := hq
  have h2 := hm
  unfold powT at h1 h2
  simp only [Bool.and_eq_true, decide_eq_true_eq] at h1 h2
  have e3 : (q + m).toNat = q.toNat + m.toNat := by omega
  have e4 : mulZ (powZ n xs q) (powZ n xs m) = (mk n (Num.nat xs)) ^ (q + m).toNat := by rw [e1, e2, e3]; unfold mulZ; rw [Int.pow_add]
  have t : opT mulZ (sgn (powZ n xs q)) (lms (powZ n xs q)) (sgn (powZ n xs m)) (lms (powZ n xs m)) = powT n xs (q + m) := by
    unfold opT powT
    rw [ok_fits, ok_fits, nat_lms, nat_lms, mk_self, mk_self, e4, e1, e2, h1.2, h2.2, h1.1.1, decide_eq_true (by omega)]
  refine ⟨t, ?_⟩
  unfold opZ
  rw [t, nat_lms, nat_lms, mk_self, mk_self, e4]
  rfl

set_option maxHeartbeats 4000000 in
theorem walkPowers (a0 : Option Addr) (len0 cap0 : Nat) (w : World) (hr : Row a0 len0 cap0 w) :
    Calls Try.prog 3 #[.slice a0 len0 cap0] w fun e w' => e = .returned (.bool true) ∧ Below w.heap.size w w' := by
  have HROW := hide hr
  have hcap : len0 ≤ 9223372036854775807 := Nat.le_trans hr.2.1 hr.2.2
  clear hr
  by_cases hbig : (1048576 : Int) < (len0 : Int)
  · go_enter Try.func3, Try.ntmps3
    go_wp2
    go_ret
    exact ⟨rfl, Below.refl _ _⟩
  go_enter Try.func3, Try.ntmps3
  go_wp2_with (first | (go_at_call 5; go_in) | fail)
  refine (drawPower _ _ _ _ HROW.out).mono ?_
  rintro e w1 ⟨n, a', c', xs, q, rfl, hq, hl, hseg, hb⟩
  replace HROW := hide (HROW.out.bel hb)
  have HB := hide hb
  have SA := hide hseg
  have hl2 : len0 ≤ 1048576 := by omega
  obtain ⟨hqa, hqb⟩ := hq
  clear hb hseg
  go_wp2_with fail
  have yw2 : w1.heap.size + 1 ≤ (w1.alloc (Obj.cells #[Value.bool n, Value.slice a' xs.length c'] 26)).heap.size := by simp only [World.size_alloc]; omega
  have kA0 : (w1.alloc (Obj.cells #[Value.bool n, Value.slice a' xs.length c'] 26)).cell? ⟨w1.heap.size, 0, none⟩ = some (Value.bool n) := by go_simp
  have kA1 : (w1.alloc (Obj.cells #[Value.bool n, Value.slice a' xs.length c'] 26)).cell? ⟨w1.heap.size, 1, none⟩ = some (Value.slice a' xs.length c') := by go_simp
  have zA : w1.heap.size < (w1.alloc (Obj.cells #[Value.bool n, Value.slice a' xs.length c'] 26)).heap.size := by simp only [World.size_alloc]; omega
  have hbn := (bl_alloc (bl_refl w1) (Obj.cells #[Value.bool n, Value.slice a' xs.length c'] 26))
  replace SA := hide (SA.out.below hbn)
  replace HB := hide (bl_trans HB.out hbn)
  clear hbn
  replace HROW := hide (HROW.out.bel (bl_alloc (bl_refl w1) (Obj.cells #[Value.bool n, Value.slice a' xs.length c'] 26)))
  generalize (w1.alloc (Obj.cells #[Value.bool n, Value.slice a' xs.length c'] 26)) = w2 at *
  skip
  refine (atD a0 len0 cap0 _ HROW.out hl2).mono ?_
  rintro e w3 ⟨x, hx, rfl, hw⟩
  subst w3
  obtain ⟨hxa, hxb⟩ := hx
  go_wp2_with fail
  have hma : 0 ≤ x % 9 := by omega
  have hmb : x % 9 ≤ 8 := by omega
  generalize x % 9 = m at *
  refine (PowP _ n xs q _ ⟨a', c', rfl, SA.out⟩ (by omega) (by omega)).mono ?_
  rintro e w3 ⟨v, rfl, ⟨aP, cP, rfl, hoP⟩, hb⟩
  have yw3 := hb.size
  replace kA0 := (hb.cell (p := ⟨w1.heap.size, 0, none⟩) zA).trans kA0
  replace kA1 := (hb.cell (p := ⟨w1.heap.size, 1, none⟩) zA).trans kA1
  replace zA := Nat.lt_of_lt_of_le zA hb.size
  replace SA := hide (SA.out.below hb)
  replace HB := hide (bl_trans HB.out hb)
  clear hb
  have SP := hide hoP.seg
  clear hoP
  go_wp2_with fail
  have yw4 : w3.heap.size + 1 ≤ (w3.alloc (Obj.cells #[Value.bool (sgn (powZ n xs q)), Value.slice aP (lms (powZ n xs q)).length cP] 26)).heap.size := by simp only [World.size_alloc]; omega
  have kP0 : (w3.alloc (Obj.cells #[Value.bool (sgn (powZ n xs q)), Value.slice aP (lms (powZ n xs q)).length cP] 26)).cell? ⟨w3.heap.size, 0, none⟩ = some (Value.bool (sgn (powZ n xs q))) := by go_simp
  have kP1 : (w3.alloc (Obj.cells #[Value.bool (sgn (powZ n xs q)), Value.slice aP (lms (powZ n xs q)).length cP] 26)).cell? ⟨w3.heap.size, 1, none⟩ = some (Value.slice aP (lms (powZ n xs q)).length cP) := by go_simp
  have zP : w3.heap.size < (w3.alloc (Obj.cells #[Value.bool (sgn (powZ n xs q)), Value.slice aP (lms (powZ n xs q)).length cP] 26)).heap.size := by simp only [World.size_alloc]; omega
  have hbn := (bl_alloc (bl_refl w3) (Obj.cells #[Value.bool (sgn (powZ n xs q)), Value.slice aP (lms (powZ n xs q)).length cP] 26))
  replace kA0 := (hbn.cell (p := ⟨w1.heap.size, 0, none⟩) zA).trans kA0
  replace kA1 := (hbn.cell (p := ⟨w1.heap.size, 1, none⟩) zA).trans kA1
  replace zA := Nat.lt_of_lt_of_le zA hbn.size
  replace SA := hide (SA.out.below hbn)
  replace SP := hide (SP.out.below hbn)
  replace HB := hide (bl_trans HB.out hbn)
  clear hbn
  generalize (w3.alloc (Obj.cells #[Value.bool (sgn (powZ n xs q)), Value.slice aP (lms (powZ n xs q)).length cP] 26)) = w4 at *
  refine (PowP _ n xs m _ ⟨a', c', rfl, SA.out⟩ (by omega) (by omega)).mono ?_
  rintro e w5 ⟨v, rfl, ⟨aQ, cQ, rfl, hoQ⟩, hb⟩
  have yw5 := hb.size
  replace kA0 := (hb.cell (p := ⟨w1.heap.size, 0, none⟩) zA).trans kA0
  replace kA1 := (hb.cell (p := ⟨w1.heap.size, 1, none⟩) zA).trans kA1
  replace zA := Nat.lt_of_lt_of_le zA hb.size
  replace kP0 := (hb.cell (p := ⟨w3.heap.size, 0, none⟩) zP).trans kP0
  replace kP1 := (hb.cell (p := ⟨w3.heap.size, 1, none⟩) zP).trans kP1
  replace zP := Nat.lt_of_lt_of_le zP hb.size
  replace SA := hide (SA.out.below hb)
  replace SP := hide (SP.out.below hb)
  replace HB := hide (bl_trans HB.out hb)
  clear hb
  have SQ := hide hoQ.seg
  clear hoQ
  go_wp2_with fail
  have yw6 : w5.heap.size + 1 ≤ (w5.alloc (Obj.cells #[Value.bool (sgn (powZ n xs m)), Value.slice aQ (lms (powZ n xs m)).length cQ] 26)).heap.size := by simp only [World.size_alloc]; omega
  have kQ0 : (w5.alloc (Obj.cells #[Value.bool (sgn (powZ n xs m)), Value.slice aQ (lms (powZ n xs m)).length cQ] 26)).cell? ⟨w5.heap.size, 0, none⟩ = some (Value.bool (sgn (powZ n xs m))) := by go_simp
  have kQ1 : (w5.alloc (Obj.cells #[Value.bool (sgn (powZ n xs m)), Value.slice aQ (lms (powZ n xs m)).length cQ] 26)).cell? ⟨w5.heap.size, 1, none⟩ = some (Value.slice aQ (lms (powZ n xs m)).length cQ) := by go_simp
  have zQ : w5.heap.size < (w5.alloc (Obj.cells #[Value.bool (sgn (powZ n xs m)), Value.slice aQ (lms (powZ n xs m)).length cQ] 26)).heap.size := by simp only [World.size_alloc]; omega
  have hbn := (bl_alloc (bl_refl w5) (Obj.cells #[Value.bool (sgn (powZ n xs m)), Value.slice aQ (lms (powZ n xs m)).length cQ] 26))
  replace kA0 := (hbn.cell (p := ⟨w1.heap.size, 0, none⟩) zA).trans kA0
  replace kA1 := (hbn.cell (p := ⟨w1.heap.size, 1, none⟩) zA).trans kA1
  replace zA := Nat.lt_of_lt_of_le zA hbn.size
  replace kP0 := (hbn.cell (p := ⟨w3.heap.size, 0, none⟩) zP).trans kP0
  replace kP1 := (hbn.cell (p := ⟨w3.heap.size, 1, none⟩) zP).trans kP1
  replace zP := Nat.lt_of_lt_of_le zP hbn.size
  replace SA := hide (SA.out.below hbn)
  replace SP := hide (SP.out.below hbn)
  replace SQ := hide (SQ.out.below hbn)
  replace HB := hide (bl_trans HB.out hbn)
  clear hbn
  generalize (w5.alloc (Obj.cells #[Value.bool (sgn (powZ n xs m)), Value.slice aQ (lms (powZ n xs m)).length cQ] 26)) = w6 at *
  refine (PowQ _ n xs q _ ⟨a', c', rfl, SA.out⟩ (by omega) (by omega)).mono ?_
  rintro e w7 ⟨v, rfl, ⟨aR, cR, rfl, hoR⟩, hb⟩
  have yw7 := hb.size
  replace kA0 := (hb.cell (p := ⟨w1.heap.size, 0, none⟩) zA).trans kA0
  replace kA1 := (hb.cell (p := ⟨w1.heap.size, 1, none⟩) zA).trans kA1
  replace zA := Nat.lt_of_lt_of_le zA hb.size
  replace kP0 := (hb.cell (p := ⟨w3.heap.size, 0, none⟩) zP).trans kP0
  replace kP1 := (hb.cell (p := ⟨w3.heap.size, 1, none⟩) zP).trans kP1
  replace zP := Nat.lt_of_lt_of_le zP hb.size
  replace kQ0 := (hb.cell (p := ⟨w5.heap.size, 0, none⟩) zQ).trans kQ0
  replace kQ1 := (hb.cell (p := ⟨w5.heap.size, 1, none⟩) zQ).trans kQ1
  replace zQ := Nat.lt_of_lt_of_le zQ hb.size
  replace SA := hide (SA.out.below hb)
  replace SP := hide (SP.out.below hb)
  replace SQ := hide (SQ.out.below hb)
  replace HB := hide (bl_trans HB.out hb)
  clear hb
  have SR := hide hoR.seg
  clear hoR
  have HPM := hide (fun h1 h2 h3 => pow_mul (n := n) (xs := xs) (q := q) (m := m) h1 h2 h3)
  go_upto_region 8 with fail
  have yw8 : w7.heap.size + 1 ≤ (w7.alloc (Obj.cells #[Value.bool (sgn (powZ n xs q)), Value.slice aR (lms (powZ n xs q)).length cR] 26)).heap.size := by simp only [World.size_alloc]; omega
  have kR0 : (w7.alloc (Obj.cells #[Value.bool (sgn (powZ n xs q)), Value.slice aR (lms (powZ n xs q)).length cR] 26)).cell? ⟨w7.heap.size, 0, none⟩ = some (Value.bool (sgn (powZ n xs q))) := by go_simp
  have kR1 : (w7.alloc (Obj.cells #[Value.bool (sgn (powZ n xs q)), Value.slice aR (lms (powZ n xs q)).length cR] 26)).cell? ⟨w7.heap.size, 1, none⟩ = some (Value.slice aR (lms (powZ n xs q)).length cR) := by go_simp
  have zR : w7.heap.size < (w7.alloc (Obj.cells #[Value.bool (sgn (powZ n xs q)), Value.slice aR (lms (powZ n xs q)).length cR] 26)).heap.size := by simp only [World.size_alloc]; omega
  have hbn := (bl_alloc (bl_refl w7) (Obj.cells #[Value.bool (sgn (powZ n xs q)), Value.slice aR (lms (powZ n xs q)).length cR] 26))
  replace kA0 := (hbn.cell (p := ⟨w1.heap.size, 0, none⟩) zA).trans kA0
  replace kA1 := (hbn.cell (p := ⟨w1.heap.size, 1, none⟩) zA).trans kA1
  replace zA := Nat.lt_of_lt_of_le zA hbn.size
  replace kP0 := (hbn.cell (p := ⟨w3.heap.size, 0, none⟩) zP).trans kP0
  replace kP1 := (hbn.cell (p := ⟨w3.heap.size, 1, none⟩) zP).trans kP1
  replace zP := Nat.lt_of_lt_of_le zP hbn.size
  replace kQ0 := (hbn.cell (p := ⟨w5.heap.size, 0, none⟩) zQ).trans kQ0
  replace kQ1 := (hbn.cell (p := ⟨w5.heap.size, 1, none⟩) zQ).trans kQ1
  replace zQ := Nat.lt_of_lt_of_le zQ hbn.size
  replace SA := hide (SA.out.below hbn)
  replace SP := hide (SP.out.below hbn)
  replace SQ := hide (SQ.out.below hbn)
  replace SR := hide (SR.out.below hbn)
  replace HB := hide (bl_trans HB.out hbn)
  clear hbn
  generalize (w7.alloc (Obj.cells #[Value.bool (sgn (powZ n xs q)), Value.slice aR (lms (powZ n xs q)).length cR] 26)) = w8 at *
  cases ht1 : powT n xs q with
  | false =>
    clear HPM
    go_wp2
    go_ret
    exact ⟨rfl, HB.out⟩
  | true =>
  cases ht2 : powT n xs m with
  | false =>
    clear HPM
    go_wp2
    go_ret
    exact ⟨rfl, HB.out⟩
  | true =>
  by_cases hs : (1000 : Int) < q + m
  · clear HPM
    go_wp2
    go_ret
    exact ⟨rfl, HB.out⟩
  obtain ⟨hT, hZ⟩ := HPM.out ht1 ht2 (by omega)
  have HTT := hide hT
  have HZZ := hide hZ
  have HT1 := hide ht1
  have HT2 := hide ht2
  clear hT hZ HPM
  generalize hP : powZ n xs q = P at *
  generalize hQ : powZ n xs m = Q at *
  clear hP hQ
  go_wp2_with fail
  refine (MulP _ _ (sgn P) (sgn Q) (lms P) (lms Q) _ ⟨aP, cP, rfl, SP.out⟩ ⟨aQ, cQ, rfl, SQ.out⟩).mono ?_
  rintro e w9 ⟨v, rfl, ⟨aM, cM, rfl, hoM⟩, hb⟩
  have yw9 := hb.size
  replace kA0 := (hb.cell (p := ⟨w1.heap.size, 0, none⟩) zA).trans kA0
  replace kA1 := (hb.cell (p := ⟨w1.heap.size, 1, none⟩) zA).trans kA1
  replace zA := Nat.lt_of_lt_of_le zA hb.size
  replace kP0 := (hb.cell (p := ⟨w3.heap.size, 0, none⟩) zP).trans kP0
  replace kP1 := (hb.cell (p := ⟨w3.heap.size, 1, none⟩) zP).trans kP1
  replace zP := Nat.lt_of_lt_of_le zP hb.size
  replace kQ0 := (hb.cell (p := ⟨w5.heap.size, 0, none⟩) zQ).trans kQ0
  replace kQ1 := (hb.cell (p := ⟨w5.heap.size, 1, none⟩) zQ).trans kQ1
  replace zQ := Nat.lt_of_lt_of_le zQ hb.size
  replace kR0 := (hb.cell (p := ⟨w7.heap.size, 0, none⟩) zR).trans kR0
  replace kR1 := (hb.cell (p := ⟨w7.heap.size, 1, none⟩) zR).trans kR1
  replace zR := Nat.lt_of_lt_of_le zR hb.size
  replace SA := hide (SA.out.below hb)
  replace SP := hide (SP.out.below hb)
  replace SQ := hide (SQ.out.below hb)
  replace SR := hide (SR.out.below hb)
  replace HB := hide (bl_trans HB.out hb)
  clear hb
  have SM := hide hoM.seg
  clear hoM
  rw [HTT.out]
  rw [HZZ.out] at SM ⊢
  go_wp2_with fail
  have yw10 : w9.heap.size + 1 ≤ (w9.alloc (Obj.cells #[Value.bool (sgn (powZ n xs (q + m))), Value.slice aM (lms (powZ n xs (q + m))).length cM] 26)).heap.size := by simp only [World.size_alloc]; omega
  have kM0 : (w9.alloc (Obj.cells #[Value.bool (sgn (powZ n xs (q + m))), Value.slice aM (lms (powZ n xs (q + m))).length cM] 26)).cell? ⟨w9.heap.size, 0, none⟩ = some (Value.bool (sgn (powZ n xs (q + m)))) := by go_simp
  have kM1 : (w9.alloc (Obj.cells #[Value.bool (sgn (powZ n xs (q + m))), Value.slice aM (lms (powZ n xs (q + m))).length cM] 26)).cell? ⟨w9.heap.size, 1, none⟩ = some (Value.slice aM (lms (powZ n xs (q + m))).length cM) := by go_simp
  have zM : w9.heap.size < (w9.alloc (Obj.cells #[Value.bool (sgn (powZ n xs (q + m))), Value.slice aM (lms (powZ n xs (q + m))).length cM] 26)).heap.size := by simp only [World.size_alloc]; omega
  have hbn := (bl_alloc (bl_refl w9) (Obj.cells #[Value.bool (sgn (powZ n xs (q + m))), Value.slice aM (lms (powZ n xs (q + m))).length cM] 26))
  replace kA0 := (hbn.cell (p := ⟨w1.heap.size, 0, none⟩) zA).trans kA0
  replace kA1 := (hbn.cell (p := ⟨w1.heap.size, 1, none⟩) zA).trans kA1
  replace zA := Nat.lt_of_lt_of_le zA hbn.size
  replace kP0 := (hbn.cell (p := ⟨w3.heap.size, 0, none⟩) zP).trans kP0
  replace kP1 := (hbn.cell (p := ⟨w3.heap.size, 1, none⟩) zP).trans kP1
  replace zP := Nat.lt_of_lt_of_le zP hbn.size
  replace kQ0 := (hbn.cell (p := ⟨w5.heap.size, 0, none⟩) zQ).trans kQ0
  replace kQ1 := (hbn.cell (p := ⟨w5.heap.size, 1, none⟩) zQ).trans kQ1
  replace zQ := Nat.lt_of_lt_of_le zQ hbn.size
  replace kR0 := (hbn.cell (p := ⟨w7.heap.size, 0, none⟩) zR).trans kR0
  replace kR1 := (hbn.cell (p := ⟨w7.heap.size, 1, none⟩) zR).trans kR1
  replace zR := Nat.lt_of_lt_of_le zR hbn.size
  replace SA := hide (SA.out.below hbn)
  replace SP := hide (SP.out.below hbn)
  replace SQ := hide (SQ.out.below hbn)
  replace SR := hide (SR.out.below hbn)
  replace SM := hide (SM.out.below hbn)
  replace HB := hide (bl_trans HB.out hbn)
  clear hbn
  generalize (w9.alloc (Obj.cells #[Value.bool (sgn (powZ n xs (q + m))), Value.slice aM (lms (powZ n xs (q + m))).length cM] 26)) = w10 at *
  refine (PowP _ n xs (q + m) _ ⟨a', c', rfl, SA.out⟩ (by omega) (by omega)).mono ?_
  rintro e w11 ⟨v, rfl, ⟨aS, cS, rfl, hoS⟩, hb⟩
  have yw11 := hb.size
  replace kA0 := (hb.cell (p := ⟨w1.heap.size, 0, none⟩) zA).trans kA0
  replace kA1 := (hb.cell (p := ⟨w1.heap.size, 1, none⟩) zA).trans kA1
  replace zA := Nat.lt_of_lt_of_le zA hb.size
  replace kP0 := (hb.cell (p := ⟨w3.heap.size, 0, none⟩) zP).trans kP0
  replace kP1 := (hb.cell (p := ⟨w3.heap.size, 1, none⟩) zP).trans kP1
  replace zP := Nat.lt_of_lt_of_le zP hb.size
  replace kQ0 := (hb.cell (p := ⟨w5.heap.size, 0, none⟩) zQ).trans kQ0
  replace kQ1 := (hb.cell (p := ⟨w5.heap.size, 1, none⟩) zQ).trans kQ1
  replace zQ := Nat.lt_of_lt_of_le zQ hb.size
  replace kR0 := (hb.cell (p := ⟨w7.heap.size, 0, none⟩) zR).trans kR0
  replace kR1 := (hb.cell (p := ⟨w7.heap.size, 1, none⟩) zR).trans kR1
  replace zR := Nat.lt_of_lt_of_le zR hb.size
  replace kM0 := (hb.cell (p := ⟨w9.heap.size, 0, none⟩) zM).trans kM0
  replace kM1 := (hb.cell (p := ⟨w9.heap.size, 1, none⟩) zM).trans kM1
  replace zM := Nat.lt_of_lt_of_le zM hb.size
  replace SA := hide (SA.out.below hb)
  replace SP := hide (SP.out.below hb)
  replace SQ := hide (SQ.out.below hb)
  replace SR := hide (SR.out.below hb)
  replace SM := hide (SM.out.below hb)
  replace HB := hide (bl_trans HB.out hb)
  clear hb
  have SS := hide hoS.seg
  clear hoS
  go_upto_region 14 with fail
  have yw12 : w11.heap.size + 1 ≤ (w11.alloc (Obj.cells #[Value.bool (sgn (powZ n xs (q + m))), Value.slice aS (lms (powZ n xs (q + m))).length cS] 26)).heap.size := by simp only [World.size_alloc]; omega
  have kS0 : (w11.alloc (Obj.cells #[Value.bool (sgn (powZ n xs (q + m))), Value.slice aS (lms (powZ n xs (q + m))).length cS] 26)).cell? ⟨w11.heap.size, 0, none⟩ = some (Value.bool (sgn (powZ n xs (q + m)))) := by go_simp
  have kS1 : (w11.alloc (Obj.cells #[Value.bool (sgn (powZ n xs (q + m))), Value.slice aS (lms (powZ n xs (q + m))).length cS] 26)).cell? ⟨w11.heap.size, 1, none⟩ = some (Value.slice aS (lms (powZ n xs (q + m))).length cS) := by go_simp
  have zS : w11.heap.size < (w11.alloc (Obj.cells #[Value.bool (sgn (powZ n xs (q + m))), Value.slice aS (lms (powZ n xs (q + m))).length cS] 26)).heap.size := by simp only [World.size_alloc]; omega
  have hbn := (bl_alloc (bl_refl w11) (Obj.cells #[Value.bool (sgn (powZ n xs (q + m))), Value.slice aS (lms (powZ n xs (q + m))).length cS] 26))
  replace kA0 := (hbn.cell (p := ⟨w1.heap.size, 0, none⟩) zA).trans kA0
  replace kA1 := (hbn.cell (p := ⟨w1.heap.size, 1, none⟩) zA).trans kA1
  replace zA := Nat.lt_of_lt_of_le zA hbn.size
  replace kP0 := (hbn.cell (p := ⟨w3.heap.size, 0, none⟩) zP).trans kP0
  replace kP1 := (hbn.cell (p := ⟨w3.heap.size, 1, none⟩) zP).trans kP1
  replace zP := Nat.lt_of_lt_of_le zP hbn.size
  replace kQ0 := (hbn.cell (p := ⟨w5.heap.size, 0, none⟩) zQ).trans kQ0
  replace kQ1 := (hbn.cell (p := ⟨w5.heap.size, 1, none⟩) zQ).trans kQ1
  replace zQ := Nat.lt_of_lt_of_le zQ hbn.size
  replace kR0 := (hbn.cell (p := ⟨w7.heap.size, 0, none⟩) zR).trans kR0
  replace kR1 := (hbn.cell (p := ⟨w7.heap.size, 1, none⟩) zR).trans kR1
  replace zR := Nat.lt_of_lt_of_le zR hbn.size
  replace kM0 := (hbn.cell (p := ⟨w9.heap.size, 0, none⟩) zM).trans kM0
  replace kM1 := (hbn.cell (p := ⟨w9.heap.size, 1, none⟩) zM).trans kM1
  replace zM := Nat.lt_of_lt_of_le zM hbn.size
  replace SA := hide (SA.out.below hbn)
  replace SP := hide (SP.out.below hbn)
  replace SQ := hide (SQ.out.below hbn)
  replace SR := hide (SR.out.below hbn)
  replace SM := hide (SM.out.below hbn)
  replace SS := hide (SS.out.below hbn)
  replace HB := hide (bl_trans HB.out hbn)
  clear hbn
  generalize (w11.alloc (Obj.cells #[Value.bool (sgn (powZ n xs (q + m))), Value.slice aS (lms (powZ n xs (q + m))).length cS] 26)) = w12 at *
  generalize powZ n xs (q + m) = Z at *
  have hbb : (powT n xs (q + m) == powT n xs (q + m)) = true := by simp
  go_wp2_with fail
  refine (sameB (sgn Z) (lms Z) aM cM aS cS _ SM.out SS.out).mono ?_
  rintro e w13 ⟨rfl, hb⟩
  have yw13 := hb.size
  replace kA0 := (hb.cell (p := ⟨w1.heap.size, 0, none⟩) zA).trans kA0
  replace kA1 := (hb.cell (p := ⟨w1.heap.size, 1, none⟩) zA).trans kA1
  replace zA := Nat.lt_of_lt_of_le zA hb.size
  replace kP0 := (hb.cell (p := ⟨w3.heap.size, 0, none⟩) zP).trans kP0
  replace kP1 := (hb.cell (p := ⟨w3.heap.size, 1, none⟩) zP).trans kP1
  replace zP := Nat.lt_of_lt_of_le zP hb.size
  replace kQ0 := (hb.cell (p := ⟨w5.heap.size, 0, none⟩) zQ).trans kQ0
  replace kQ1 := (hb.cell (p := ⟨w5.heap.size, 1, none⟩) zQ).trans kQ1
  replace zQ := Nat.lt_of_lt_of_le zQ hb.size
  replace kR0 := (hb.cell (p := ⟨w7.heap.size, 0, none⟩) zR).trans kR0
  replace kR1 := (hb.cell (p := ⟨w7.heap.size, 1, none⟩) zR).trans kR1
  replace zR := Nat.lt_of_lt_of_le zR hb.size
  replace kM0 := (hb.cell (p := ⟨w9.heap.size, 0, none⟩) zM).trans kM0
  replace kM1 := (hb.cell (p := ⟨w9.heap.size, 1, none⟩) zM).trans kM1
  replace zM := Nat.lt_of_lt_of_le zM hb.size
  replace kS0 := (hb.cell (p := ⟨w11.heap.size, 0, none⟩) zS).trans kS0
  replace kS1 := (hb.cell (p := ⟨w11.heap.size, 1, none⟩) zS).trans kS1
  replace zS := Nat.lt_of_lt_of_le zS hb.size
  replace SA := hide (SA.out.below hb)
  replace SP := hide (SP.out.below hb)
  replace SQ := hide (SQ.out.below hb)
  replace SR := hide (SR.out.below hb)
  replace SM := hide (SM.out.below hb)
  replace SS := hide (SS.out.below hb)
  replace HB := hide (bl_trans HB.out hb)
  clear hb
  go_wp2
  go_ret
  exact ⟨rfl, HB.out⟩

end Go.Proofs.Ytfnimkbpeehofaa
