/- My texts PowP, in this order. -/
import Derived.Test.YtknbfnhljblfkaaPk46
/- The walks of both Power. -/
namespace Go.Proofs.Ytknbfnhljblfkaa
open Go.RowKit
set_option linter.unusedVariables false

/-- what Power tells -/
def powT (n1 : Bool) (xs : List Nat) (n : Int) : Bool := okB n1 xs && decide (0 ≤ n ∧ n ≤ 1000) && fits ((mk n1 (Num.nat xs)) ^ n.toNat)
def powZ (n1 : Bool) (xs : List Nat) (n : Int) : Int := if powT n1 xs n then (mk n1 (Num.nat xs)) ^ n.toNat else 0
theorem len40x {x : Int} (h : x.natAbs < 4294967296 ^ 40) : (lms x).length ≤ 1048576 := Nat.le_trans (Num.limbs_len.2 h) (by decide)
theorem bits_of (x : Int) (hx : x.natAbs < 4294967296 ^ 40) (m : Nat) (hm : m ≤ 1000) : ∃ B : Int, bitsN (lms x) = B ∧ (0 ≤ B ∧ B ≤ 1280) ∧ (1280 ≤ (B - 1) * (m : Int) → fits (x ^ m) = false) ∧ (-1000 ≤ (B - 1) * (m : Int) ∧ (B - 1) * (m : Int) ≤ 1279000) ∧ (¬ 1280 ≤ (B - 1) * (m : Int) → ∀ j, j ≤ m → (lms (x ^ j)).length ≤ 250000) := by
  have h40 := Num.limbs_len.2 hx
  by_cases h0 : (lms x).length = 0
  · obtain rfl := sgn_lms_nil h0
    refine ⟨0, by unfold bitsN; rw [if_pos h0], by omega, fun h => by omega, by omega, fun _ j hj => ?_⟩
    exact pow_len (b := 0) (by decide) (by omega)
  · obtain ⟨b, hb, hlo, hhi, hbl⟩ := bits_bounds (lms x) (lms_small x) h0 (lms_last x h0)
    rw [nat_lms] at hlo hhi
    have hb40 : b + 1 ≤ 1280 := by unfold lms at hbl; omega
    have hmul : b * m ≤ 1279 * 1000 := Nat.mul_le_mul (by omega) hm
    have e : ((b : Int) + 1 - 1) * (m : Int) = ((b * m : Nat) : Int) := by rw [Int.natCast_mul]; congr 1; omega
    refine ⟨(b : Int) + 1, hb, by omega, fun h => ?_, by rw [e]; omega, fun h j hj => ?_⟩
    · rw [e] at h; exact pow_big hlo (by omega)
    · rw [e] at h
      refine pow_len (b := b + 1) (by omega) ?_
      have h1 : (b + 1) * j ≤ (b + 1) * m := Nat.mul_le_mul_left _ hj
      rw [Nat.add_mul, Nat.one_mul] at h1 ⊢
      rw [Nat.add_mul, Nat.one_mul] at h1
      omega

set_option maxHeartbeats 4000000 in
set_option maxRecDepth 20000 in
theorem PowP (v1 : Value) (n1 : Bool) (xs : List Nat) (n : Int) (w : World) (h1 : Raw w v1 n1 xs) (hi1 : -9223372036854775808 ≤ n) (hi2 : n ≤ 9223372036854775807) :
    Calls Try.prog 47 #[v1, .int .i64 n] w fun e w' => ∃ v, e = .returned (.tuple #[v, .bool (powT n1 xs n)]) ∧ New w' w.heap.size v (powZ n1 xs n) ∧ Below w.heap.size w w' := by
  obtain ⟨a, ca, rfl, ha⟩ := h1
  have HZ := hide (bl_alloc (bl_alloc (bl_refl w) (Obj.cells #[Value.bool n1, Value.slice a xs.length ca] 26)) (Obj.cells #[Value.bool false, Value.slice none 0 0] 26))
  have HA := hide (ha.below HZ.out)
  clear ha
  have kA0 : ((w.alloc (Obj.cells #[Value.bool n1, Value.slice a xs.length ca] 26)).alloc (Obj.cells #[Value.bool false, Value.slice none 0 0] 26)).cell? ⟨w.heap.size, 0, none⟩ = some (Value.bool n1) := by go_simp
  have kA1 : ((w.alloc (Obj.cells #[Value.bool n1, Value.slice a xs.length ca] 26)).alloc (Obj.cells #[Value.bool false, Value.slice none 0 0] 26)).cell? ⟨w.heap.size, 1, none⟩ = some (Value.slice a xs.length ca) := by go_simp
  have kR0 : ((w.alloc (Obj.cells #[Value.bool n1, Value.slice a xs.length ca] 26)).alloc (Obj.cells #[Value.bool false, Value.slice none 0 0] 26)).cell? ⟨w.heap.size + 1, 0, none⟩ = some (Value.bool false) := by go_simp
  have kR1 : ((w.alloc (Obj.cells #[Value.bool n1, Value.slice a xs.length ca] 26)).alloc (Obj.cells #[Value.bool false, Value.slice none 0 0] 26)).cell? ⟨w.heap.size + 1, 1, none⟩ = some (Value.slice none 0 0) := by go_simp
  have fR0 : ((w.alloc (Obj.cells #[Value.bool n1, Value.slice a xs.length ca] 26)).alloc (Obj.cells #[Value.bool false, Value.slice none 0 0] 26)).frozen? ⟨w.heap.size + 1, 0, none⟩ = false := by go_simp
  have fR1 : ((w.alloc (Obj.cells #[Value.bool n1, Value.slice a xs.length ca] 26)).alloc (Obj.cells #[Value.bool false, Value.slice none 0 0] 26)).frozen? ⟨w.heap.size + 1, 1, none⟩ = false := by go_simp
  have zR : w.heap.size + 1 < ((w.alloc (Obj.cells #[Value.bool n1, Value.slice a xs.length ca] 26)).alloc (Obj.cells #[Value.bool false, Value.slice none 0 0] 26)).heap.size := by simp only [World.size_alloc]; omega
  go_enter Try.func47, Try.ntmps47
  go_wp2_with fail
  generalize ((w.alloc (Obj.cells #[Value.bool n1, Value.slice a xs.length ca] 26)).alloc (Obj.cells #[Value.bool false, Value.slice none 0 0] 26)) = w1 at *
  refine (okI _ n1 xs _ ⟨a, ca, rfl, HA.out⟩).mono ?_
  rintro e w2 ⟨rfl, hb2⟩
  replace kA0 := (hb2.cell (p := ⟨w.heap.size, 0, none⟩) (by dsimp only; omega)).trans kA0
  replace kA1 := (hb2.cell (p := ⟨w.heap.size, 1, none⟩) (by dsimp only; omega)).trans kA1
  replace kR0 := (hb2.cell (p := ⟨w.heap.size + 1, 0, none⟩) (by dsimp only; omega)).trans kR0
  replace kR1 := (hb2.cell (p := ⟨w.heap.size + 1, 1, none⟩) (by dsimp only; omega)).trans kR1
  replace fR0 := (hb2.frozen (p := ⟨w.heap.size + 1, 0, none⟩) (by dsimp only; omega)).trans fR0
  replace fR1 := (hb2.frozen (p := ⟨w.heap.size + 1, 1, none⟩) (by dsimp only; omega)).trans fR1
  replace HA := hide (HA.out.below hb2)
  replace HZ := hide (bl_trans HZ.out hb2)
  have q := hb2.size
  replace zR := Nat.lt_of_lt_of_le zR q
  clear q hb2
  cases e1 : okB n1 xs with
  | false =>
    have HT : Hid (powT n1 xs n = false) := hide (by unfold powT; rw [e1]; rfl)
    have HV : Hid (powZ n1 xs n = 0) := hide (by unfold powZ; rw [HT.out]; rfl)
    clear e1
    go_wp2
    refine bodyPost_ret (v := .tuple #[.agg #[.bool false, .slice none 0 0], .bool false]) (by simp [results, Try.results47, go_sem, *]) rfl ?_
    rw [HT.out, HV.out]
    exact ⟨_, rfl, new_zero _ _, (HZ.out.setCell (p := ⟨w.heap.size + 1, 0, none⟩) (by dsimp only; omega) _).setCell (p := ⟨w.heap.size + 1, 1, none⟩) (by dsimp only; omega) _⟩
  | true =>
  have E1 := hide e1
  clear e1
  by_cases hn0 : n < 0
  · have HT : Hid (powT n1 xs n = false) := hide (by unfold powT; rw [E1.out, decide_eq_false (by omega)]; rfl)
    have HV : Hid (powZ n1 xs n = 0) := hide (by unfold powZ; rw [HT.out]; rfl)
    go_wp2
    refine bodyPost_ret (v := .tuple #[.agg #[.bool false, .slice none 0 0], .bool false]) (by simp [results, Try.results47, go_sem, *]) rfl ?_
    rw [HT.out, HV.out]
    exact ⟨_, rfl, new_zero _ _, (HZ.out.setCell (p := ⟨w.heap.size + 1, 0, none⟩) (by dsimp only; omega) _).setCell (p := ⟨w.heap.size + 1, 1, none⟩) (by dsimp only; omega) _⟩
  by_cases hn1 : 1000 < n
  · have HT : Hid (powT n1 xs n = false) := hide (by unfold powT; rw [E1.out, decide_eq_false (by omega)]; rfl)
    have HV : Hid (powZ n1 xs n = 0) := hide (by unfold powZ; rw [HT.out]; rfl)
    go_wp2
    refine bodyPost_ret (v := .tuple #[.agg #[.bool false, .slice none 0 0], .bool false]) (by simp [results, Try.results47, go_sem, *]) rfl ?_
    rw [HT.out, HV.out]
    exact ⟨_, rfl, new_zero _ _, (HZ.out.setCell (p := ⟨w.heap.size + 1, 0, none⟩) (by dsimp only; omega) _).setCell (p := ⟨w.heap.size + 1, 1, none⟩) (by dsimp only; omega) _⟩
  have e2 : decide (0 ≤ n ∧ n ≤ 1000) = true := decide_eq_true (by omega)
  have hnn := of_decide_eq_true e2
  obtain ⟨m, rfl⟩ := Int.eq_ofNat_of_zero_le hnn.1
  have hm : m ≤ 1000 := by omega
  obtain ⟨x, rfl, rfl, hx⟩ := ok_num HA.out.2.2.2.1 E1.out
  have HT : Hid (powT (sgn x) (lms x) m = fits (x ^ m)) := hide (by unfold powT; rw [E1.out, e2, nat_lms, mk_self]; rfl)
  have HV : Hid (powZ (sgn x) (lms x) m = fitZ (x ^ m)) := hide (by unfold powZ fitZ; rw [HT.out, nat_lms, mk_self]; rfl)
  have hB40 := Num.limbs_len.2 hx
  clear e2 E1 hnn
  go_wp2_with fail
  refine (bitsI _ (sgn x) (lms x) _ ⟨a, ca, rfl, HA.out⟩ (len40x hx)).mono ?_
  rintro e w3 ⟨rfl, hb3⟩
  replace kA0 := (hb3.cell (p := ⟨w.heap.size, 0, none⟩) (by dsimp only; omega)).trans kA0
  replace kA1 := (hb3.cell (p := ⟨w.heap.size, 1, none⟩) (by dsimp only; omega)).trans kA1
  replace kR0 := (hb3.cell (p := ⟨w.heap.size + 1, 0, none⟩) (by dsimp only; omega)).trans kR0
  replace kR1 := (hb3.cell (p := ⟨w.heap.size + 1, 1, none⟩) (by dsimp only; omega)).trans kR1
  replace fR0 := (hb3.frozen (p := ⟨w.heap.size + 1, 0, none⟩) (by dsimp only; omega)).trans fR0
  replace fR1 := (hb3.frozen (p := ⟨w.heap.size + 1, 1, none⟩) (by dsimp only; omega)).trans fR1
  replace HA := hide (HA.out.below hb3)
  replace HZ := hide (bl_trans HZ.out hb3)
  have q := hb3.size
  replace zR := Nat.lt_of_lt_of_le zR q
  clear q hb3
  obtain ⟨B, hBe, hBnd⟩ := bits_of x hx m hm
  rw [hBe]
  clear hBe
  by_cases hbig : 1280 ≤ (B - 1) * (m : Int)
  · have HF : Hid (fits (x ^ m) = false) := hide (hBnd.2.1 hbig)
    have HV0 : Hid (powZ (sgn x) (lms x) m = 0) := hide (by rw [HV.out]; unfold fitZ; rw [HF.out]; rfl)
    have HT0 : Hid (powT (sgn x) (lms x) m = false) := hide (HT.out.trans HF.out)
    have hb0 := hBnd.1
    have hprod := hBnd.2.2.1
    clear hBnd HV HT
    obtain ⟨pr, hpr⟩ : ∃ pr, (B - 1) * (m : Int) = pr := ⟨_, rfl⟩
    rw [hpr] at hbig hprod
    go_wp2
    refine bodyPost_ret (v := .tuple #[.agg #[.bool false, .slice none 0 0], .bool false]) (by simp [results, Try.results47, go_sem, *]) rfl ?_
    rw [HT0.out, HV0.out]
    exact ⟨_, rfl, new_zero _ _, (HZ.out.setCell (p := ⟨w.heap.size + 1, 0, none⟩) (by dsimp only; omega) _).setCell (p := ⟨w.heap.size + 1, 1, none⟩) (by dsimp only; omega) _⟩
  have HL := hide (hBnd.2.2.2 hbig)
  have hb0 := hBnd.1
  have hprod := hBnd.2.2.1
  clear hBnd
  obtain ⟨pr, hpr⟩ : ∃ pr, (B - 1) * (m : Int) = pr := ⟨_, rfl⟩
  rw [hpr] at hbig hprod
  go_wp2_with fail
  have zR0 := zR
  refine (powI _ x m _ ⟨a, ca, rfl, HA.out⟩ hm HL.out).mono ?_
  rintro e w4 ⟨v4, rfl, hn4, hb4⟩
  have q4 := hn4
  replace kA0 := (hb4.cell (p := ⟨w.heap.size, 0, none⟩) (by dsimp only; omega)).trans kA0
  replace kA1 := (hb4.cell (p := ⟨w.heap.size, 1, none⟩) (by dsimp only; omega)).trans kA1
  replace kR0 := (hb4.cell (p := ⟨w.heap.size + 1, 0, none⟩) (by dsimp only; omega)).trans kR0
  replace kR1 := (hb4.cell (p := ⟨w.heap.size + 1, 1, none⟩) (by dsimp only; omega)).trans kR1
  replace fR0 := (hb4.frozen (p := ⟨w.heap.size + 1, 0, none⟩) (by dsimp only; omega)).trans fR0
  replace fR1 := (hb4.frozen (p := ⟨w.heap.size + 1, 1, none⟩) (by dsimp only; omega)).trans fR1
  replace HA := hide (HA.out.below hb4)
  replace HZ := hide (bl_trans HZ.out hb4)
  have q := hb4.size
  replace zR := Nat.lt_of_lt_of_le zR q
  go_wp2_with fail
  refine (fitI v4 _ _ _ q4 hb4.size).mono ?_
  rintro e w5 ⟨v5, rfl, hn5, hb5⟩
  obtain ⟨k0, k1, f0, f1⟩ := box_keep (N := w.heap.size + 1) hb5 zR kR0 kR1 fR0 fR1
  rw [← HV.out] at hn5
  rw [← HT.out]
  have HF := hide (fun p r => fin_box (N := w.heap.size + 1) (x := p) (y := r) hn5 zR0 (by omega) (bl_trans HZ.out hb5))
  obtain ⟨a5, c5, rfl, ho5⟩ := hn5
  clear hb4 hb5 ho5 q4 hn4 kA0 kA1 kR0 kR1 fR0 fR1 HA HZ HT HV hx HL
  go_wp2
  refine bodyPost_ret (v := .tuple #[.agg #[.bool (sgn (powZ (sgn x) (lms x) m)), .slice a5 (lms (powZ (sgn x) (lms x) m)).length c5], .bool (powT (sgn x) (lms x) m)]) (by simp [results, Try.results47, go_sem, *]) rfl ?_
  exact ⟨_, rfl, HF.out _ _⟩

end Go.Proofs.Ytknbfnhljblfkaa
