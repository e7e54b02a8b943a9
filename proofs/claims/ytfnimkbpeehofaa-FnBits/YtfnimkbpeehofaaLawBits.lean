/- The walk of FnBits. -/
import Derived.Test.YtfnimkbpeehofaaDrP
import Derived.Test.YtfnimkbpeehofaaPowP
import Derived.Test.YtfnimkbpeehofaaCmpF
import Derived.Test.YtfnimkbpeehofaaBitLen
namespace Go.Proofs.Ytfnimkbpeehofaa
open Go.RowKit
set_option linter.unusedVariables false

theorem wp_app {w : World} {ops : Array Oper} {rest : List Oper} {o : Oper} {a : Act} {Q : Exit → Act → World → Prop} (hgd : o.guard = none) (s x : Operand)
    (ho : o.op = .call { callee := .builtin .append, args := #[s, x], argTypes := #[24, 24] }) (base : Nat) (a0 : Option Addr) (n cs : Nat) (xs : List Nat) (hs : a.eval s = .slice a0 n cs) (hown : Own w base a0 n cs xs)
    (ax : Option Addr) (m cx : Nat) (ys : List Nat) (hx : a.eval x = .slice ax m cx) (hseg : Seg w ax m cx ys) (hnil : ax = none → cx = 0) (h63 : n + m ≤ 1000000) (hbase : base ≤ w.heap.size)
    (h : ∀ a' c' w', Own w' base a' (n + m) c' (xs ++ ys) → w.grownBy w' (Value.slice a0 n cs).ownBlock → wpList Try.prog ops Q rest (a.put o.dst (.slice a' (n + m) c')) w') : wpList Try.prog ops Q (o :: rest) a w := by
  obtain ⟨i0, hi, hz0, hz1, hz2⟩ := info_parts Try.info50
  cases ax with
  | some ad =>
    refine wpList_append_own w hgd s x 24 ho base 50 i0 (.int .u32 0) 1 4 Try.underlying24 hi hz0 hz1 hz2 rfl (by decide) _ n (xs.map lim) hs hown.1 ad m cx (ys.map lim) hx (by simp [hseg.1]) ?_ (one_lims _) (by unfold maxLen; omega) (by omega) hbase ?_
    · intro j u hu
      obtain ⟨hj, rfl⟩ := lims_at hu
      rcases hseg.2.2.2.2 with h0 | ⟨g, o, e, hg, hc⟩
      · have := hseg.1; omega
      · cases e
        rw [Addr.add_lit]
        exact hc j hj
    · intro v' w' ho' hg' _
      obtain ⟨a', c', rfl⟩ := row_val ho'
      refine h a' c' w' ⟨by rw [List.map_append]; exact ho', Num.small_append hown.2 hseg.2.2.2.1⟩ hg'
  | none =>
    have hc := hnil rfl
    have h0 : m = 0 := by
      rcases hseg.2.2.2.2 with h0 | ⟨g, o, e, _⟩
      · exact h0
      · cases e
    subst hc
    subst h0
    have hy : ys = [] := List.eq_nil_of_length_eq_zero hseg.1
    subst hy
    refine wpList_plain hgd fun K hK' => ?_
    have hrun := run_append_owned_none (P := Try.prog) w base 24 o.type 50 i0 1 Try.underlying24 hi _ n (xs.map lim) hown.1
    unfold Oper.wp
    simp [execOp, ho, resolve, invoke, builtin, hs, hx, hrun, Result.andThen]
    exact hK' _ _ (by simpa using h a0 cs w (by simpa using hown) (World.grownBy.refl _ _))


theorem bitR_pos (n : Bool) (xs : List Nat) (hs : Num.Small xs) (hl : xs.length ≤ 41) : 0 ≤ bitR n xs ∧ bitR n xs ≤ 2000 := by
  unfold bitR
  split
  · unfold bitsN
    split
    · omega
    · have : Lib.bitLen (xs.getD (xs.length - 1) 0) ≤ 32 := Lib.bitLen_le _ 32 (by omega) (getD_small hs _)
      omega
  · omega
theorem pow_lt32 {k m : Nat} (h : k < 32 * m) : (2 : Nat) ^ k < (2 ^ 32) ^ m := by rw [← Nat.pow_mul]; exact Nat.pow_lt_pow_right (by omega) h
theorem two_fits {k : Nat} (hk : k ≤ 1000) : fits ((2 : Int) ^ k) = true := by
  unfold fits
  refine decide_eq_true ?_
  have e : ((2 : Int) ^ k).natAbs = 2 ^ k := by rw [Int.natAbs_pow]; rfl
  rw [e]
  exact pow_lt32 (m := 40) (by omega)
theorem two_pow {k : Nat} (hk : k ≤ 1000) {q : Int} (hq : q = (k : Int)) : powT (sgn 2) (lms 2) q = true ∧ powZ (sgn 2) (lms 2) q = 2 ^ k := by
  subst hq
  have e : mk (sgn 2) (Num.nat (lms 2)) = 2 := by rw [nat_lms, mk_self]
  have ho : okB (sgn 2) (lms 2) = true := by rw [ok_of_num]; exact two_fits (k := 1) (by omega)
  have hr : decide (0 ≤ (k : Int) ∧ (k : Int) ≤ 1000) = true := decide_eq_true (by omega)
  have t : powT (sgn 2) (lms 2) (k : Int) = true := by
    unfold powT
    rw [e, ho, Int.toNat_natCast, two_fits hk, hr]
    rfl
  refine ⟨t, ?_⟩
  unfold powZ
  rw [if_pos t, e, Int.toNat_natCast]
theorem cmp_two {xs : List Nat} {k : Nat} (h : okB false xs = true) (hk : k ≤ 1000) : cmpR false xs (sgn (2 ^ k)) (lms (2 ^ k)) = cmpZ (Num.nat xs : Int) (2 ^ k) := by
  unfold cmpR
  have e : okB (sgn ((2 : Int) ^ k)) (lms ((2 : Int) ^ k)) = true := by rw [ok_of_num]; exact two_fits hk
  rw [h, e, nat_lms, mk_self]
  rfl
theorem bits_facts {n : Bool} {xs : List Nat} (hs : Num.Small xs) {k : Int} (hk : bitR n xs = k) (h0 : k ≠ 0) (h1 : k ≤ 1000) :
    ∃ b : Nat, k = (b : Int) + 1 ∧ b ≤ 999 ∧ xs.length ≠ 0 ∧ cmpR false xs (sgn (2 ^ (b + 1))) (lms (2 ^ (b + 1))) = -1 ∧ (cmpR false xs (sgn (2 ^ b)) (lms (2 ^ b)) = 0 ∨ cmpR false xs (sgn (2 ^ b)) (lms (2 ^ b)) = 1) := by
  unfold bitR at hk
  by_cases ho : okB n xs = true
  · rw [if_pos ho] at hk
    have hl : xs.length ≠ 0 := fun e => h0 (by rw [← hk]; unfold bitsN; rw [if_pos e])
    have h40 : xs.length ≤ 40 := by
      by_cases h : xs.length ≤ 40
      · exact h
      · rw [ok_long h] at ho; cases ho
    have hlast : xs.getD (xs.length - 1) 0 ≠ 0 := by rw [ok_some h40 hl] at ho; exact of_decide_eq_true ho
    obtain ⟨b, e, lo, hi, _⟩ := bits_bounds xs hs hl hlast
    have hof : okB false xs = true := by rw [ok_some h40 hl]; exact decide_eq_true hlast
    have hb : b ≤ 999 := by omega
    refine ⟨b, by omega, hb, hl, ?_, ?_⟩
    · rw [cmp_two hof (by omega)]
      have : (Num.nat xs : Int) < 2 ^ (b + 1) := by have := Int.ofNat_lt.2 hi; rw [Int.natCast_pow] at this; exact this
      unfold cmpZ; rw [if_pos this]
    · rw [cmp_two hof (by omega)]
      have : ¬ (Num.nat xs : Int) < 2 ^ b := by have := Int.ofNat_le.2 lo; rw [Int.natCast_pow] at this; intro h; exact absurd h (Int.not_lt.2 this)
      unfold cmpZ; rw [if_neg this]
      split
      · exact .inr rfl
      · exact .inl rfl
  · rw [if_neg ho] at hk; exact absurd hk.symm h0

set_option maxHeartbeats 4000000 in
theorem walkBits (a0 : Option Addr) (len0 cap0 : Nat) (w : World) (hr : Row a0 len0 cap0 w) :
    Calls Try.prog 4 #[.slice a0 len0 cap0] w fun e w' => e = .returned (.bool true) ∧ Below w.heap.size w w' := by
  have HROW := hide hr
  have hcap : len0 ≤ 9223372036854775807 := Nat.le_trans hr.2.1 hr.2.2
  clear hr
  by_cases hbig : (1048576 : Int) < (len0 : Int)
  · go_enter Try.func4, Try.ntmps4
    go_wp2
    go_ret
    exact ⟨rfl, Below.refl _ _⟩
  go_enter Try.func4, Try.ntmps4
  go_wp2_with (first | (go_at_call 5; go_in) | fail)
  refine (drawBitLen _ _ _ _ HROW.out).mono ?_
  rintro e w1 ⟨n, a', c', xs, rfl, hl, hown, hb⟩
  have yw1 := hb.size
  have HB := hide hb
  have SA := hide hown.seg
  have HSM := hide hown.2
  clear hb HROW hown
  go_wp2_with fail
  have yw2 : w1.heap.size + 1 ≤ (w1.alloc (Obj.cells #[Value.bool n, Value.slice a' xs.length c'] 26)).heap.size := by simp only [World.size_alloc]; omega
  have kA0 : (w1.alloc (Obj.cells #[Value.bool n, Value.slice a' xs.length c'] 26)).cell? ⟨w1.heap.size, 0, none⟩ = some (Value.bool n) := by go_simp
  have fA0 : (w1.alloc (Obj.cells #[Value.bool n, Value.slice a' xs.length c'] 26)).frozen? ⟨w1.heap.size, 0, none⟩ = false := by go_simp
  have kA1 : (w1.alloc (Obj.cells #[Value.bool n, Value.slice a' xs.length c'] 26)).cell? ⟨w1.heap.size, 1, none⟩ = some (Value.slice a' xs.length c') := by go_simp
  have fA1 : (w1.alloc (Obj.cells #[Value.bool n, Value.slice a' xs.length c'] 26)).frozen? ⟨w1.heap.size, 1, none⟩ = false := by go_simp
  have zA : w1.heap.size < (w1.alloc (Obj.cells #[Value.bool n, Value.slice a' xs.length c'] 26)).heap.size := by simp only [World.size_alloc]; omega
  have hbn := (bl_alloc (bl_refl w1) (Obj.cells #[Value.bool n, Value.slice a' xs.length c'] 26))
  replace SA := hide (SA.out.below hbn)
  replace HB := hide (bl_trans HB.out hbn)
  clear hbn
  generalize (w1.alloc (Obj.cells #[Value.bool n, Value.slice a' xs.length c'] 26)) = w2 at *
  refine (bitLenI _ n xs _ ⟨a', c', rfl, SA.out⟩).mono ?_
  rintro e w3 ⟨rfl, hb⟩
  have yw3 := hb.size
  replace kA0 := (hb.cell (p := ⟨w1.heap.size, 0, none⟩) zA).trans kA0
  replace fA0 := (hb.frozen (p := ⟨w1.heap.size, 0, none⟩) zA).trans fA0
  replace kA1 := (hb.cell (p := ⟨w1.heap.size, 1, none⟩) zA).trans kA1
  replace fA1 := (hb.frozen (p := ⟨w1.heap.size, 1, none⟩) zA).trans fA1
  replace zA := Nat.lt_of_lt_of_le zA hb.size
  replace SA := hide (SA.out.below hb)
  replace HB := hide (bl_trans HB.out hb)
  clear hb
  have hkp := bitR_pos n xs HSM.out hl
  generalize hk : bitR n xs = k at *
  have HK := hide hk
  clear hk
  obtain ⟨hk0, hk1⟩ := hkp
  go_wp2_with fail
  refine (bitLenS _ n xs _ ⟨a', c', rfl, SA.out⟩).mono ?_
  rintro e w4 ⟨rfl, hb⟩
  have yw4 := hb.size
  replace kA0 := (hb.cell (p := ⟨w1.heap.size, 0, none⟩) zA).trans kA0
  replace fA0 := (hb.frozen (p := ⟨w1.heap.size, 0, none⟩) zA).trans fA0
  replace kA1 := (hb.cell (p := ⟨w1.heap.size, 1, none⟩) zA).trans kA1
  replace fA1 := (hb.frozen (p := ⟨w1.heap.size, 1, none⟩) zA).trans fA1
  replace zA := Nat.lt_of_lt_of_le zA hb.size
  replace SA := hide (SA.out.below hb)
  replace HB := hide (bl_trans HB.out hb)
  clear hb
  rw [HK.out]
  have e0 : (k != k) = false := by simp
  have e1 : ¬ k < 0 := by omega
  by_cases hz : k = 0
  · have e2 : (k == 0) = true := by rw [hz]; rfl
    go_wp2
    go_ret
    exact ⟨rfl, HB.out⟩
  have e2 : (k == 0) = false := by rw [beq_eq_false_iff_ne]; exact hz
  by_cases hg : (1000 : Int) < k
  · go_wp2
    go_ret
    exact ⟨rfl, HB.out⟩
  obtain ⟨b, hkb, hb9, hl0, hc1, hc2⟩ := bits_facts HSM.out HK.out hz (by omega)
  have HC1 := hide hc1
  have HC2 := hide hc2
  have HKB := hide hkb
  clear hc1 hc2 HK hkb
  go_upto_region 9 with fail
  obtain ⟨ad, rfl⟩ : ∃ ad, a' = some ad := by
    rcases SA.out.2.2.2.2 with h | ⟨g, o, h, _⟩
    · exact absurd h hl0
    · exact ⟨_, h⟩
  have HO0 : Hid (Own (w4.alloc (Obj.cells #[] 50)) w4.heap.size (some ⟨w4.heap.size, 0, none⟩) 0 0 []) := hide ⟨World.ownsRow_lit (base := w4.heap.size) (e := 50) (size := 1) w4 #[] 0 (Nat.le_refl _) (by unfold maxLen; omega) rfl, fun _ h => by cases h⟩
  have hbz := bl_alloc (bl_refl w4) (Obj.cells #[] 50)
  have SA2 := hide (SA.out.below hbz)
  go_upto_region 10 with (at_builtin; refine wp_app rfl _ _ rfl w4.heap.size (some ⟨w4.heap.size, 0, none⟩) 0 0 [] rfl HO0.out (some ad) xs.length c' xs rfl SA2.out (fun h => by cases h) (by omega) (by have := hbz.size; omega) ?_; intro aa cc wq ho4 hg4; have hbq : Below w4.heap.size w4 wq := hbz.grown hg4 hbz.size (fun j e => by simp only [Value.ownBlock, Option.some.injEq] at e; omega); have HO4 := hide ho4; have HBQ := hide hbq; have kA0 := (hbq.cell (p := ⟨w1.heap.size, 0, none⟩) zA).trans kA0; have kA1 := (hbq.cell (p := ⟨w1.heap.size, 1, none⟩) zA).trans kA1; have fA0 := (hbq.frozen (p := ⟨w1.heap.size, 0, none⟩) zA).trans fA0; have fA1 := (hbq.frozen (p := ⟨w1.heap.size, 1, none⟩) zA).trans fA1; have zA := Nat.lt_of_lt_of_le zA hbq.size; have hlowq := hbq.size; clear hg4 ho4 hbq)
  have m0 : ((wq.setCell ⟨w1.heap.size, 0, none⟩ (Value.bool false)).setCell ⟨w1.heap.size, 1, none⟩ (Value.slice aa xs.length cc)).cell? ⟨w1.heap.size, 0, none⟩ = some (Value.bool false) := by go_simp
  have m1 : ((wq.setCell ⟨w1.heap.size, 0, none⟩ (Value.bool false)).setCell ⟨w1.heap.size, 1, none⟩ (Value.slice aa xs.length cc)).cell? ⟨w1.heap.size, 1, none⟩ = some (Value.slice aa xs.length cc) := by go_simp
  have ho := HO4.out
  rw [Nat.zero_add, List.nil_append] at ho
  have hzz : w1.heap.size < w4.heap.size := by omega
  have SX := hide ((ho.setCell (p := ⟨w1.heap.size, 0, none⟩) hzz (Value.bool false)).setCell (p := ⟨w1.heap.size, 1, none⟩) hzz (Value.slice aa xs.length cc)).seg
  replace HB : Hid (Below w.heap.size w ((wq.setCell ⟨w1.heap.size, 0, none⟩ (Value.bool false)).setCell ⟨w1.heap.size, 1, none⟩ (Value.slice aa xs.length cc))) := hide (((bl_trans HB.out HBQ.out).setCell (p := ⟨w1.heap.size, 0, none⟩) yw1 _).setCell (p := ⟨w1.heap.size, 1, none⟩) yw1 _)
  have zW : w1.heap.size < ((wq.setCell ⟨w1.heap.size, 0, none⟩ (Value.bool false)).setCell ⟨w1.heap.size, 1, none⟩ (Value.slice aa xs.length cc)).heap.size := by simp; omega
  clear kA0 kA1 fA0 fA1 zA ho HO4 HBQ HO0 hbz SA2 SA
  clear kA0 kA1 fA0 fA1 zA
  generalize ((wq.setCell ⟨w1.heap.size, 0, none⟩ (Value.bool false)).setCell ⟨w1.heap.size, 1, none⟩ (Value.slice aa xs.length cc)) = wv at *
  have kA0 := m0
  have kA1 := m1
  have zA := zW
  clear m0 m1 zW e0 e1 e2
  have hkb := HKB.out
  clear HKB
  subst hkb
  go_wp2_with fail
  refine (fromS 2 _ (by omega) (by omega)).mono ?_
  rintro e w21 ⟨v, rfl, ⟨a2, c2, rfl, ho⟩, hb⟩
  have yw21 := hb.size
  replace kA0 := (hb.cell (p := ⟨w1.heap.size, 0, none⟩) zA).trans kA0
  replace kA1 := (hb.cell (p := ⟨w1.heap.size, 1, none⟩) zA).trans kA1
  replace zA := Nat.lt_of_lt_of_le zA hb.size
  replace SX := hide (SX.out.below hb)
  replace HB := hide (bl_trans HB.out hb)
  clear hb
  have S2 := hide ho.seg
  clear ho
  go_wp2_with fail
  obtain ⟨tP, zPz⟩ := two_pow (k := b + 1) (by omega) (q := (b : Int) + 1) (by omega)
  refine (PowP _ (sgn 2) (lms 2) ((b : Int) + 1) _ ⟨a2, c2, rfl, S2.out⟩ (by omega) (by omega)).mono ?_
  rintro e w22 ⟨v, rfl, ⟨aP, cP, rfl, hoP⟩, hb⟩
  have yw22 := hb.size
  replace kA0 := (hb.cell (p := ⟨w1.heap.size, 0, none⟩) zA).trans kA0
  replace kA1 := (hb.cell (p := ⟨w1.heap.size, 1, none⟩) zA).trans kA1
  replace zA := Nat.lt_of_lt_of_le zA hb.size
  replace SX := hide (SX.out.below hb)
  replace S2 := hide (S2.out.below hb)
  replace HB := hide (bl_trans HB.out hb)
  clear hb
  rw [zPz] at hoP
  rw [tP, zPz]
  clear tP zPz S2
  have SP := hide hoP.seg
  clear hoP
  go_wp2_with fail
  have yw23 : w22.heap.size + 1 ≤ (w22.alloc (Obj.cells #[Value.bool (sgn (2 ^ (b + 1))), Value.slice aP (lms (2 ^ (b + 1))).length cP] 26)).heap.size := by simp only [World.size_alloc]; omega
  have kP0 : (w22.alloc (Obj.cells #[Value.bool (sgn (2 ^ (b + 1))), Value.slice aP (lms (2 ^ (b + 1))).length cP] 26)).cell? ⟨w22.heap.size, 0, none⟩ = some (Value.bool (sgn (2 ^ (b + 1)))) := by go_simp
  have kP1 : (w22.alloc (Obj.cells #[Value.bool (sgn (2 ^ (b + 1))), Value.slice aP (lms (2 ^ (b + 1))).length cP] 26)).cell? ⟨w22.heap.size, 1, none⟩ = some (Value.slice aP (lms (2 ^ (b + 1))).length cP) := by go_simp
  have zP : w22.heap.size < (w22.alloc (Obj.cells #[Value.bool (sgn (2 ^ (b + 1))), Value.slice aP (lms (2 ^ (b + 1))).length cP] 26)).heap.size := by simp only [World.size_alloc]; omega
  have hbn := (bl_alloc (bl_refl w22) (Obj.cells #[Value.bool (sgn (2 ^ (b + 1))), Value.slice aP (lms (2 ^ (b + 1))).length cP] 26))
  replace kA0 := (hbn.cell (p := ⟨w1.heap.size, 0, none⟩) zA).trans kA0
  replace kA1 := (hbn.cell (p := ⟨w1.heap.size, 1, none⟩) zA).trans kA1
  replace zA := Nat.lt_of_lt_of_le zA hbn.size
  replace SX := hide (SX.out.below hbn)
  replace SP := hide (SP.out.below hbn)
  replace HB := hide (bl_trans HB.out hbn)
  clear hbn
  generalize (w22.alloc (Obj.cells #[Value.bool (sgn (2 ^ (b + 1))), Value.slice aP (lms (2 ^ (b + 1))).length cP] 26)) = w23 at *
  refine (fromS 2 _ (by omega) (by omega)).mono ?_
  rintro e w24 ⟨v, rfl, ⟨a2, c2, rfl, ho⟩, hb⟩
  have yw24 := hb.size
  replace kA0 := (hb.cell (p := ⟨w1.heap.size, 0, none⟩) zA).trans kA0
  replace kA1 := (hb.cell (p := ⟨w1.heap.size, 1, none⟩) zA).trans kA1
  replace zA := Nat.lt_of_lt_of_le zA hb.size
  replace kP0 := (hb.cell (p := ⟨w22.heap.size, 0, none⟩) zP).trans kP0
  replace kP1 := (hb.cell (p := ⟨w22.heap.size, 1, none⟩) zP).trans kP1
  replace zP := Nat.lt_of_lt_of_le zP hb.size
  replace SX := hide (SX.out.below hb)
  replace SP := hide (SP.out.below hb)
  replace HB := hide (bl_trans HB.out hb)
  clear hb
  have S2 := hide ho.seg
  clear ho
  go_wp2_with fail
  obtain ⟨tQ, zQz⟩ := two_pow (k := b) (by omega) (q := (b : Int)) (by omega)
  refine (PowP _ (sgn 2) (lms 2) ((b : Int)) _ ⟨a2, c2, rfl, S2.out⟩ (by omega) (by omega)).mono ?_
  rintro e w25 ⟨v, rfl, ⟨aQ, cQ, rfl, hoQ⟩, hb⟩
  have yw25 := hb.size
  replace kA0 := (hb.cell (p := ⟨w1.heap.size, 0, none⟩) zA).trans kA0
  replace kA1 := (hb.cell (p := ⟨w1.heap.size, 1, none⟩) zA).trans kA1
  replace zA := Nat.lt_of_lt_of_le zA hb.size
  replace kP0 := (hb.cell (p := ⟨w22.heap.size, 0, none⟩) zP).trans kP0
  replace kP1 := (hb.cell (p := ⟨w22.heap.size, 1, none⟩) zP).trans kP1
  replace zP := Nat.lt_of_lt_of_le zP hb.size
  replace SX := hide (SX.out.below hb)
  replace SP := hide (SP.out.below hb)
  replace S2 := hide (S2.out.below hb)
  replace HB := hide (bl_trans HB.out hb)
  clear hb
  rw [zQz] at hoQ
  rw [tQ, zQz]
  clear tQ zQz S2
  have SQ := hide hoQ.seg
  clear hoQ
  go_upto_region 12 with fail
  have yw26 : w25.heap.size + 1 ≤ (w25.alloc (Obj.cells #[Value.bool (sgn (2 ^ b)), Value.slice aQ (lms (2 ^ b)).length cQ] 26)).heap.size := by simp only [World.size_alloc]; omega
  have kQ0 : (w25.alloc (Obj.cells #[Value.bool (sgn (2 ^ b)), Value.slice aQ (lms (2 ^ b)).length cQ] 26)).cell? ⟨w25.heap.size, 0, none⟩ = some (Value.bool (sgn (2 ^ b))) := by go_simp
  have kQ1 : (w25.alloc (Obj.cells #[Value.bool (sgn (2 ^ b)), Value.slice aQ (lms (2 ^ b)).length cQ] 26)).cell? ⟨w25.heap.size, 1, none⟩ = some (Value.slice aQ (lms (2 ^ b)).length cQ) := by go_simp
  have zQ : w25.heap.size < (w25.alloc (Obj.cells #[Value.bool (sgn (2 ^ b)), Value.slice aQ (lms (2 ^ b)).length cQ] 26)).heap.size := by simp only [World.size_alloc]; omega
  have hbn := (bl_alloc (bl_refl w25) (Obj.cells #[Value.bool (sgn (2 ^ b)), Value.slice aQ (lms (2 ^ b)).length cQ] 26))
  replace kA0 := (hbn.cell (p := ⟨w1.heap.size, 0, none⟩) zA).trans kA0
  replace kA1 := (hbn.cell (p := ⟨w1.heap.size, 1, none⟩) zA).trans kA1
  replace zA := Nat.lt_of_lt_of_le zA hbn.size
  replace kP0 := (hbn.cell (p := ⟨w22.heap.size, 0, none⟩) zP).trans kP0
  replace kP1 := (hbn.cell (p := ⟨w22.heap.size, 1, none⟩) zP).trans kP1
  replace zP := Nat.lt_of_lt_of_le zP hbn.size
  replace SX := hide (SX.out.below hbn)
  replace SP := hide (SP.out.below hbn)
  replace SQ := hide (SQ.out.below hbn)
  replace HB := hide (bl_trans HB.out hbn)
  clear hbn
  generalize (w25.alloc (Obj.cells #[Value.bool (sgn (2 ^ b)), Value.slice aQ (lms (2 ^ b)).length cQ] 26)) = w26 at *
  generalize (2 : Int) ^ (b + 1) = P at *
  generalize (2 : Int) ^ b = Q at *
  go_wp2_with fail
  refine (CmpI _ _ false (sgn P) xs (lms P) _ ⟨aa, cc, rfl, SX.out⟩ ⟨aP, cP, rfl, SP.out⟩).mono ?_
  rintro e w27 ⟨rfl, hb⟩
  have yw27 := hb.size
  replace kA0 := (hb.cell (p := ⟨w1.heap.size, 0, none⟩) zA).trans kA0
  replace kA1 := (hb.cell (p := ⟨w1.heap.size, 1, none⟩) zA).trans kA1
  replace zA := Nat.lt_of_lt_of_le zA hb.size
  replace kP0 := (hb.cell (p := ⟨w22.heap.size, 0, none⟩) zP).trans kP0
  replace kP1 := (hb.cell (p := ⟨w22.heap.size, 1, none⟩) zP).trans kP1
  replace zP := Nat.lt_of_lt_of_le zP hb.size
  replace kQ0 := (hb.cell (p := ⟨w25.heap.size, 0, none⟩) zQ).trans kQ0
  replace kQ1 := (hb.cell (p := ⟨w25.heap.size, 1, none⟩) zQ).trans kQ1
  replace zQ := Nat.lt_of_lt_of_le zQ hb.size
  replace SX := hide (SX.out.below hb)
  replace SP := hide (SP.out.below hb)
  replace SQ := hide (SQ.out.below hb)
  replace HB := hide (bl_trans HB.out hb)
  clear hb
  rw [HC1.out]
  go_wp2_with fail
  refine (CmpI _ _ false (sgn Q) xs (lms Q) _ ⟨aa, cc, rfl, SX.out⟩ ⟨aQ, cQ, rfl, SQ.out⟩).mono ?_
  rintro e w28 ⟨rfl, hb⟩
  have yw28 := hb.size
  replace kA0 := (hb.cell (p := ⟨w1.heap.size, 0, none⟩) zA).trans kA0
  replace kA1 := (hb.cell (p := ⟨w1.heap.size, 1, none⟩) zA).trans kA1
  replace zA := Nat.lt_of_lt_of_le zA hb.size
  replace kP0 := (hb.cell (p := ⟨w22.heap.size, 0, none⟩) zP).trans kP0
  replace kP1 := (hb.cell (p := ⟨w22.heap.size, 1, none⟩) zP).trans kP1
  replace zP := Nat.lt_of_lt_of_le zP hb.size
  replace kQ0 := (hb.cell (p := ⟨w25.heap.size, 0, none⟩) zQ).trans kQ0
  replace kQ1 := (hb.cell (p := ⟨w25.heap.size, 1, none⟩) zQ).trans kQ1
  replace zQ := Nat.lt_of_lt_of_le zQ hb.size
  replace SX := hide (SX.out.below hb)
  replace SP := hide (SP.out.below hb)
  replace SQ := hide (SQ.out.below hb)
  replace HB := hide (bl_trans HB.out hb)
  clear hb
  generalize hcc : cmpR false xs (sgn Q) (lms Q) = c at *
  have HCC := hide hcc
  clear hcc
  have hc := HC2.out
  clear HC2
  have g1 : 0 ≤ c := by omega
  have g2 : c < 2 := by omega
  go_wp2_with fail
  refine (CmpI _ _ false (sgn Q) xs (lms Q) _ ⟨aa, cc, rfl, SX.out⟩ ⟨aQ, cQ, rfl, SQ.out⟩).mono ?_
  rintro e w29 ⟨rfl, hb⟩
  have yw29 := hb.size
  replace kA0 := (hb.cell (p := ⟨w1.heap.size, 0, none⟩) zA).trans kA0
  replace kA1 := (hb.cell (p := ⟨w1.heap.size, 1, none⟩) zA).trans kA1
  replace zA := Nat.lt_of_lt_of_le zA hb.size
  replace kP0 := (hb.cell (p := ⟨w22.heap.size, 0, none⟩) zP).trans kP0
  replace kP1 := (hb.cell (p := ⟨w22.heap.size, 1, none⟩) zP).trans kP1
  replace zP := Nat.lt_of_lt_of_le zP hb.size
  replace kQ0 := (hb.cell (p := ⟨w25.heap.size, 0, none⟩) zQ).trans kQ0
  replace kQ1 := (hb.cell (p := ⟨w25.heap.size, 1, none⟩) zQ).trans kQ1
  replace zQ := Nat.lt_of_lt_of_le zQ hb.size
  replace SX := hide (SX.out.below hb)
  replace SP := hide (SP.out.below hb)
  replace SQ := hide (SQ.out.below hb)
  replace HB := hide (bl_trans HB.out hb)
  clear hb
  rw [HCC.out]
  clear hc
  go_wp2
  go_ret
  exact ⟨rfl, HB.out⟩

end Go.Proofs.Ytfnimkbpeehofaa
