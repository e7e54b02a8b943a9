/- My texts PowP, CmpF, in this order. -/
import Derived.Test.YthjapjbiclkhcaaPk25
import Derived.Test.YthjapjbiclkhcaaPk14
/- The walks of both Power. -/
namespace Go.Proofs.Ythjapjbiclkhcaa
open Go.RowKit
set_option linter.unusedVariables false

/-- what Power tells -/
def pwT (n1 : Bool) (xs : List Nat) (n : Int) : Bool := okB n1 xs && decide (0 ≤ n ∧ n ≤ 1000) && fits ((mk n1 (Num.nat xs)) ^ n.toNat)
def pwZ (n1 : Bool) (xs : List Nat) (n : Int) : Int := if pwT n1 xs n then (mk n1 (Num.nat xs)) ^ n.toNat else 0
theorem len40y {x : Int} (h : x.natAbs < 4294967296 ^ 40) : (lms x).length ≤ 1048576 := Nat.le_trans (Num.limbs_len.2 h) (by decide)
theorem bits_off (x : Int) (hx : x.natAbs < 4294967296 ^ 40) (m : Nat) (hm : m ≤ 1000) : ∃ B : Int, bitsN (lms x) = B ∧ (0 ≤ B ∧ B ≤ 1280) ∧ (1280 ≤ (B - 1) * (m : Int) → fits (x ^ m) = false) ∧ (-1000 ≤ (B - 1) * (m : Int) ∧ (B - 1) * (m : Int) ≤ 1279000) ∧ (¬ 1280 ≤ (B - 1) * (m : Int) → ∀ j, j ≤ m → (lms (x ^ j)).length ≤ 250000) := by
  have h40 := Num.limbs_len.2 hx
  by_cases h0 : (lms x).length = 0
  · obtain rfl := sgn_lms_nil h0
    refine ⟨0, by unfold bitsN; rw [if_pos h0], by omega, fun h => by omega, by omega, fun _ j hj => ?_⟩
    exact pow_len (b := 0) (by decide) (by omega)
  · obtain ⟨b, hb, hlo, hhi, hbl⟩ := bits_bounds (lms x) (lms_small x) h0 (lms_last x h0)
    rw [nat_lms] at hlo hhi
    have hb40 : b + 1 ≤ 1280 := by unfold lms at hbl; omega
    have hmul : b * m ≤ 1279 * 1000 := Nat.mul_le_mul (by omega) hm
    have e : ((b : Int) + 1 - 1) * (m : Int) = ((b * m : Nat) : Int) := by rw [Int.natCast_mul]; congr 1; omega
    refine ⟨(b : Int) + 1, hb, by omega, fun h => ?_, by rw [e]; omega, fun h j hj => ?_⟩
    · rw [e] at h; exact pow_big hlo (by omega)
    · rw [e] at h
      refine pow_len (b := b + 1) (by omega) ?_
      have h1 : (b + 1) * j ≤ (b + 1) * m := Nat.mul_le_mul_left _ hj
      rw [Nat.add_mul, Nat.one_mul] at h1 ⊢
      rw [Nat.add_mul, Nat.one_mul] at h1
      omega

set_option maxHeartbeats 4000000 in
set_option maxRecDepth 20000 in
theorem PowP (v1 : Value) (n1 : Bool) (xs : List Nat) (n : Int) (w : World) (h1 : Raw w v1 n1 xs) (hi1 : -9223372036854775808 ≤ n) (hi2 : n ≤ 9223372036854775807) :
    Calls Try.prog 9 #[v1, .int .i64 n] w fun e w' => ∃ v, e = .returned (.tuple #[v, .bool (pwT n1 xs n)]) ∧ New w' w.heap.size v (pwZ n1 xs n) ∧ Below w.heap.size w w' := by
  obtain ⟨a, ca, rfl, ha⟩ := h1
  have HZ := hide (bl_alloc (bl_alloc (bl_refl w) (Obj.cells #[Value.bool n1, Value.slice a xs.length ca] 26)) (Obj.cells #[Value.bool false, Value.slice none 0 0] 26))
  have HA := hide (ha.below HZ.out)
  clear ha
  have kA0 : ((w.alloc (Obj.cells #[Value.bool n1, Value.slice a xs.length ca] 26)).alloc (Obj.cells #[Value.bool false, Value.slice none 0 0] 26)).cell? ⟨w.heap.size, 0, none⟩ = some (Value.bool n1) := by go_simp
  have kA1 : ((w.alloc (Obj.cells #[Value.bool n1, Value.slice a xs.length ca] 26)).alloc (Obj.cells #[Value.bool false, Value.slice none 0 0] 26)).cell? ⟨w.heap.size, 1, none⟩ = some (Value.slice a xs.length ca) := by go_simp
  have kR0 : ((w.alloc (Obj.cells #[Value.bool n1, Value.slice a xs.length ca] 26)).alloc (Obj.cells #[Value.bool false, Value.slice none 0 0] 26)).cell? ⟨w.heap.size + 1, 0, none⟩ = some (Value.bool false) := by go_simp
  have kR1 : ((w.alloc (Obj.cells #[Value.bool n1, Value.slice a xs.length ca] 26)).alloc (Obj.cells #[Value.bool false, Value.slice none 0 0] 26)).cell? ⟨w.heap.size + 1, 1, none⟩ = some (Value.slice none 0 0) := by go_simp
  have fR0 : ((w.alloc (Obj.cells #[Value.bool n1, Value.slice a xs.length ca] 26)).alloc (Obj.cells #[Value.bool false, Value.slice none 0 0] 26)).frozen? ⟨w.heap.size + 1, 0, none⟩ = false := by go_simp
  have fR1 : ((w.alloc (Obj.cells #[Value.bool n1, Value.slice a xs.length ca] 26)).alloc (Obj.cells #[Value.bool false, Value.slice none 0 0] 26)).frozen? ⟨w.heap.size + 1, 1, none⟩ = false := by go_simp
  have zR : w.heap.size + 1 < ((w.alloc (Obj.cells #[Value.bool n1, Value.slice a xs.length ca] 26)).alloc (Obj.cells #[Value.bool false, Value.slice none 0 0] 26)).heap.size := by simp only [World.size_alloc]; omega
  go_enter Try.func9, Try.ntmps9
  go_wp2_with fail
  generalize ((w.alloc (Obj.cells #[Value.bool n1, Value.slice a xs.length ca] 26)).alloc (Obj.cells #[Value.bool false, Value.slice none 0 0] 26)) = w1 at *
  refine (okI _ n1 xs _ ⟨a, ca, rfl, HA.out⟩).mono ?_
  rintro e w2 ⟨rfl, hb2⟩
  replace kA0 := (hb2.cell (p := ⟨w.heap.size, 0, none⟩) (by dsimp only; omega)).trans kA0
  replace kA1 := (hb2.cell (p := ⟨w.heap.size, 1, none⟩) (by dsimp only; omega)).trans kA1
  replace kR0 := (hb2.cell (p := ⟨w.heap.size + 1, 0, none⟩) (by dsimp only; omega)).trans kR0
  replace kR1 := (hb2.cell (p := ⟨w.heap.size + 1, 1, none⟩) (by dsimp only; omega)).trans kR1
  replace fR0 := (hb2.frozen (p := ⟨w.heap.size + 1, 0, none⟩) (by dsimp only; omega)).trans fR0
  replace fR1 := (hb2.frozen (p := ⟨w.heap.size + 1, 1, none⟩) (by dsimp only; omega)).trans fR1
  replace HA := hide (HA.out.below hb2)
  replace HZ := hide (bl_trans HZ.out hb2)
  have q := hb2.size
  replace zR := Nat.lt_of_lt_of_le zR q
  clear q hb2
  cases e1 : okB n1 xs with
  | false =>
    have HT : Hid (pwT n1 xs n = false) := hide (by unfold pwT; rw [e1]; rfl)
    have HV : Hid (pwZ n1 xs n = 0) := hide (by unfold pwZ; rw [HT.out]; rfl)
    clear e1
    go_wp2
    refine bodyPost_ret (v := .tuple #[.agg #[.bool false, .slice none 0 0], .bool false]) (by simp [results, Try.results9, go_sem, *]) rfl ?_
    rw [HT.out, HV.out]
    exact ⟨_, rfl, new_zero _ _, (HZ.out.setCell (p := ⟨w.heap.size + 1, 0, none⟩) (by dsimp only; omega) _).setCell (p := ⟨w.heap.size + 1, 1, none⟩) (by dsimp only; omega) _⟩
  | true =>
  have E1 := hide e1
  clear e1
  by_cases hn0 : n < 0
  · have HT : Hid (pwT n1 xs n = false) := hide (by unfold pwT; rw [E1.out, decide_eq_false (by omega)]; rfl)
    have HV : Hid (pwZ n1 xs n = 0) := hide (by unfold pwZ; rw [HT.out]; rfl)
    go_wp2
    refine bodyPost_ret (v := .tuple #[.agg #[.bool false, .slice none 0 0], .bool false]) (by simp [results, Try.results9, go_sem, *]) rfl ?_
    rw [HT.out, HV.out]
    exact ⟨_, rfl, new_zero _ _, (HZ.out.setCell (p := ⟨w.heap.size + 1, 0, none⟩) (by dsimp only; omega) _).setCell (p := ⟨w.heap.size + 1, 1, none⟩) (by dsimp only; omega) _⟩
  by_cases hn1 : 1000 < n
  · have HT : Hid (pwT n1 xs n = false) := hide (by unfold pwT; rw [E1.out, decide_eq_false (by omega)]; rfl)
    have HV : Hid (pwZ n1 xs n = 0) := hide (by unfold pwZ; rw [HT.out]; rfl)
    go_wp2
    refine bodyPost_ret (v := .tuple #[.agg #[.bool false, .slice none 0 0], .bool false]) (by simp [results, Try.results9, go_sem, *]) rfl ?_
    rw [HT.out, HV.out]
    exact ⟨_, rfl, new_zero _ _, (HZ.out.setCell (p := ⟨w.heap.size + 1, 0, none⟩) (by dsimp only; omega) _).setCell (p := ⟨w.heap.size + 1, 1, none⟩) (by dsimp only; omega) _⟩
  have e2 : decide (0 ≤ n ∧ n ≤ 1000) = true := decide_eq_true (by omega)
  have hnn := of_decide_eq_true e2
  obtain ⟨m, rfl⟩ := Int.eq_ofNat_of_zero_le hnn.1
  have hm : m ≤ 1000 := by omega
  obtain ⟨x, rfl, rfl, hx⟩ := ok_num HA.out.2.2.2.1 E1.out
  have HT : Hid (pwT (sgn x) (lms x) m = fits (x ^ m)) := hide (by unfold pwT; rw [E1.out, e2, nat_lms, mk_self]; rfl)
  have HV : Hid (pwZ (sgn x) (lms x) m = fitZ (x ^ m)) := hide (by unfold pwZ fitZ; rw [HT.out, nat_lms, mk_self]; rfl)
  have hB40 := Num.limbs_len.2 hx
  clear e2 E1 hnn
  go_wp2_with fail
  refine (bitsI _ (sgn x) (lms x) _ ⟨a, ca, rfl, HA.out⟩ (len40y hx)).mono ?_
  rintro e w3 ⟨rfl, hb3⟩
  replace kA0 := (hb3.cell (p := ⟨w.heap.size, 0, none⟩) (by dsimp only; omega)).trans kA0
  replace kA1 := (hb3.cell (p := ⟨w.heap.size, 1, none⟩) (by dsimp only; omega)).trans kA1
  replace kR0 := (hb3.cell (p := ⟨w.heap.size + 1, 0, none⟩) (by dsimp only; omega)).trans kR0
  replace kR1 := (hb3.cell (p := ⟨w.heap.size + 1, 1, none⟩) (by dsimp only; omega)).trans kR1
  replace fR0 := (hb3.frozen (p := ⟨w.heap.size + 1, 0, none⟩) (by dsimp only; omega)).trans fR0
  replace fR1 := (hb3.frozen (p := ⟨w.heap.size + 1, 1, none⟩) (by dsimp only; omega)).trans fR1
  replace HA := hide (HA.out.below hb3)
  replace HZ := hide (bl_trans HZ.out hb3)
  have q := hb3.size
  replace zR := Nat.lt_of_lt_of_le zR q
  clear q hb3
  obtain ⟨B, hBe, hBnd⟩ := bits_off x hx m hm
  rw [hBe]
  clear hBe
  by_cases hbig : 1280 ≤ (B - 1) * (m : Int)
  · have HF : Hid (fits (x ^ m) = false) := hide (hBnd.2.1 hbig)
    have HV0 : Hid (pwZ (sgn x) (lms x) m = 0) := hide (by rw [HV.out]; unfold fitZ; rw [HF.out]; rfl)
    have HT0 : Hid (pwT (sgn x) (lms x) m = false) := hide (HT.out.trans HF.out)
    have hb0 := hBnd.1
    have hprod := hBnd.2.2.1
    clear hBnd HV HT
    obtain ⟨pr, hpr⟩ : ∃ pr, (B - 1) * (m : Int) = pr := ⟨_, rfl⟩
    rw [hpr] at hbig hprod
    go_wp2
    refine bodyPost_ret (v := .tuple #[.agg #[.bool false, .slice none 0 0], .bool false]) (by simp [results, Try.results9, go_sem, *]) rfl ?_
    rw [HT0.out, HV0.out]
    exact ⟨_, rfl, new_zero _ _, (HZ.out.setCell (p := ⟨w.heap.size + 1, 0, none⟩) (by dsimp only; omega) _).setCell (p := ⟨w.heap.size + 1, 1, none⟩) (by dsimp only; omega) _⟩
  have HL := hide (hBnd.2.2.2 hbig)
  have hb0 := hBnd.1
  have hprod := hBnd.2.2.1
  clear hBnd
  obtain ⟨pr, hpr⟩ : ∃ pr, (B - 1) * (m : Int) = pr := ⟨_, rfl⟩
  rw [hpr] at hbig hprod
  go_wp2_with fail
  have zR0 := zR
  refine (powI _ x m _ ⟨a, ca, rfl, HA.out⟩ (by omega) HL.out).mono ?_
  rintro e w4 ⟨v4, rfl, hn4, hb4⟩
  have q4 := hn4
  replace kA0 := (hb4.cell (p := ⟨w.heap.size, 0, none⟩) (by dsimp only; omega)).trans kA0
  replace kA1 := (hb4.cell (p := ⟨w.heap.size, 1, none⟩) (by dsimp only; omega)).trans kA1
  replace kR0 := (hb4.cell (p := ⟨w.heap.size + 1, 0, none⟩) (by dsimp only; omega)).trans kR0
  replace kR1 := (hb4.cell (p := ⟨w.heap.size + 1, 1, none⟩) (by dsimp only; omega)).trans kR1
  replace fR0 := (hb4.frozen (p := ⟨w.heap.size + 1, 0, none⟩) (by dsimp only; omega)).trans fR0
  replace fR1 := (hb4.frozen (p := ⟨w.heap.size + 1, 1, none⟩) (by dsimp only; omega)).trans fR1
  replace HA := hide (HA.out.below hb4)
  replace HZ := hide (bl_trans HZ.out hb4)
  have q := hb4.size
  replace zR := Nat.lt_of_lt_of_le zR q
  go_wp2_with fail
  refine (fitI v4 _ _ _ q4 hb4.size).mono ?_
  rintro e w5 ⟨v5, rfl, hn5, hb5⟩
  obtain ⟨k0, k1, f0, f1⟩ := box_keep (N := w.heap.size + 1) hb5 zR kR0 kR1 fR0 fR1
  rw [← HV.out] at hn5
  rw [← HT.out]
  have HF := hide (fun p r => fin_box (N := w.heap.size + 1) (x := p) (y := r) hn5 zR0 (by omega) (bl_trans HZ.out hb5))
  obtain ⟨a5, c5, rfl, ho5⟩ := hn5
  clear hb4 hb5 ho5 q4 hn4 kA0 kA1 kR0 kR1 fR0 fR1 HA HZ HT HV hx HL
  go_wp2
  refine bodyPost_ret (v := .tuple #[.agg #[.bool (sgn (pwZ (sgn x) (lms x) m)), .slice a5 (lms (pwZ (sgn x) (lms x) m)).length c5], .bool (pwT (sgn x) (lms x) m)]) (by simp [results, Try.results9, go_sem, *]) rfl ?_
  exact ⟨_, rfl, HF.out _ _⟩

end Go.Proofs.Ythjapjbiclkhcaa

/- The walks of the two Cmp: -1, 0 or 1; 2 where one isn't right; nothing that was there turns. -/
namespace Go.Proofs.Ythjapjbiclkhcaa
open Go.RowKit
set_option linter.unusedVariables false

def cmpR (n1 : Bool) (xs : List Nat) (n2 : Bool) (ys : List Nat) : Int := if okB n1 xs && okB n2 ys then cmpZ (mk n1 (Num.nat xs)) (mk n2 (Num.nat ys)) else 2

set_option maxHeartbeats 1000000 in
set_option maxRecDepth 20000 in
theorem CmpI (v1 v2 : Value) (n1 n2 : Bool) (xs ys : List Nat) (w : World) (h1 : Raw w v1 n1 xs) (h2 : Raw w v2 n2 ys) :
    Calls Try.prog 12 #[v1, v2] w fun e w' => e = .returned (.int .i64 (cmpR n1 xs n2 ys)) ∧ Below w.heap.size w w' := by
  obtain ⟨a, ca, rfl, ha⟩ := h1
  obtain ⟨b, cb, rfl, hb⟩ := h2
  have HA := hide (ha.below (below2 w (Obj.cells #[Value.bool n1, Value.slice a xs.length ca] 26) (Obj.cells #[Value.bool n2, Value.slice b ys.length cb] 26)))
  have HB := hide (hb.below (below2 w (Obj.cells #[Value.bool n1, Value.slice a xs.length ca] 26) (Obj.cells #[Value.bool n2, Value.slice b ys.length cb] 26)))
  have HZ := hide (below2 w (Obj.cells #[Value.bool n1, Value.slice a xs.length ca] 26) (Obj.cells #[Value.bool n2, Value.slice b ys.length cb] 26))
  have k0 : ((w.alloc (Obj.cells #[Value.bool n1, Value.slice a xs.length ca] 26)).alloc (Obj.cells #[Value.bool n2, Value.slice b ys.length cb] 26)).cell? ⟨w.heap.size, 0, none⟩ = some (.bool n1) := by go_simp
  have k1 : ((w.alloc (Obj.cells #[Value.bool n1, Value.slice a xs.length ca] 26)).alloc (Obj.cells #[Value.bool n2, Value.slice b ys.length cb] 26)).cell? ⟨w.heap.size, 1, none⟩ = some (.slice a xs.length ca) := by go_simp
  have k2 : ((w.alloc (Obj.cells #[Value.bool n1, Value.slice a xs.length ca] 26)).alloc (Obj.cells #[Value.bool n2, Value.slice b ys.length cb] 26)).cell? ⟨w.heap.size + 1, 0, none⟩ = some (.bool n2) := by go_simp
  have k3 : ((w.alloc (Obj.cells #[Value.bool n1, Value.slice a xs.length ca] 26)).alloc (Obj.cells #[Value.bool n2, Value.slice b ys.length cb] 26)).cell? ⟨w.heap.size + 1, 1, none⟩ = some (.slice b ys.length cb) := by go_simp
  have z1 : w.heap.size + 1 < ((w.alloc (Obj.cells #[Value.bool n1, Value.slice a xs.length ca] 26)).alloc (Obj.cells #[Value.bool n2, Value.slice b ys.length cb] 26)).heap.size := by simp only [World.size_alloc]; omega
  clear ha hb
  go_enter Try.func12, Try.ntmps12
  go_wp2_with fail
  generalize ((w.alloc (Obj.cells #[Value.bool n1, Value.slice a xs.length ca] 26)).alloc (Obj.cells #[Value.bool n2, Value.slice b ys.length cb] 26)) = w1 at *
  have z0 : w.heap.size < w1.heap.size := by omega
  refine (okI _ n1 xs _ ⟨a, ca, rfl, HA.out⟩).mono ?_
  rintro e w2 ⟨rfl, hb2⟩
  replace k0 := (hb2.cell (p := ⟨w.heap.size, 0, none⟩) z0).trans k0
  replace k1 := (hb2.cell (p := ⟨w.heap.size, 1, none⟩) z0).trans k1
  replace k2 := (hb2.cell (p := ⟨w.heap.size + 1, 0, none⟩) z1).trans k2
  replace k3 := (hb2.cell (p := ⟨w.heap.size + 1, 1, none⟩) z1).trans k3
  replace z0 := Nat.lt_of_lt_of_le z0 hb2.size
  replace z1 := Nat.lt_of_lt_of_le z1 hb2.size
  replace HA := hide (HA.out.below hb2)
  replace HB := hide (HB.out.below hb2)
  replace HZ := hide (bl_trans HZ.out hb2)
  clear hb2
  cases e1 : okB n1 xs with
  | false =>
    have HR : Hid (cmpR n1 xs n2 ys = 2) := hide (by unfold cmpR; rw [e1]; rfl)
    clear e1
    go_wp2
    go_ret
    exact ⟨ret_int HR.out.symm, HZ.out⟩
  | true =>
  have E1 := hide e1
  clear e1
  go_wp2_with fail
  refine (okI _ n2 ys _ ⟨b, cb, rfl, HB.out⟩).mono ?_
  rintro e w3 ⟨rfl, hb3⟩
  replace k0 := (hb3.cell (p := ⟨w.heap.size, 0, none⟩) z0).trans k0
  replace k1 := (hb3.cell (p := ⟨w.heap.size, 1, none⟩) z0).trans k1
  replace k2 := (hb3.cell (p := ⟨w.heap.size + 1, 0, none⟩) z1).trans k2
  replace k3 := (hb3.cell (p := ⟨w.heap.size + 1, 1, none⟩) z1).trans k3
  replace HA := hide (HA.out.below hb3)
  replace HB := hide (HB.out.below hb3)
  replace HZ := hide (bl_trans HZ.out hb3)
  clear hb3 z0 z1
  cases e2 : okB n2 ys with
  | false =>
    have HR : Hid (cmpR n1 xs n2 ys = 2) := hide (by unfold cmpR; rw [E1.out, e2]; rfl)
    clear e2
    go_wp2
    go_ret
    exact ⟨ret_int HR.out.symm, HZ.out⟩
  | true =>
  obtain ⟨x, rfl, rfl, hx⟩ := ok_num HA.out.2.2.2.1 E1.out
  obtain ⟨y, rfl, rfl, hy⟩ := ok_num HB.out.2.2.2.1 e2
  have HR : Hid (cmpR (sgn x) (lms x) (sgn y) (lms y) = cmpZ x y) := hide (by unfold cmpR; rw [E1.out, e2, nat_lms, nat_lms, mk_self, mk_self]; rfl)
  clear e2 hx hy
  go_wp2_with fail
  refine (cmpBI _ _ x y _ ⟨a, ca, rfl, HA.out⟩ ⟨b, cb, rfl, HB.out⟩).mono ?_
  rintro e w4 ⟨rfl, hb4⟩
  replace HZ := hide (bl_trans HZ.out hb4)
  clear hb4
  go_wp2
  go_ret
  exact ⟨ret_int HR.out.symm, HZ.out⟩

end Go.Proofs.Ythjapjbiclkhcaa
