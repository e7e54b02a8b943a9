/- My texts Field, Digit, in this order. -/
import Derived.Test.YthjapjbiclkhcaaPk02
import Derived.Test.YthjapjbiclkhcaaPk10
import Derived.Test.YthjapjbiclkhcaaPk19
/- A number's limbs, taken off its structure. -/
namespace Go.Proofs.Ythjapjbiclkhcaa
open Go.RowKit
theorem field_limbs (x y : Value) (w : World) (hy : ∃ a n c, y = .slice a n c) : Sem.run Try.prog (Instr.field 26 (.agg #[x, y]) 1) w = .ok y w := by
  obtain ⟨a, n, c, rfl⟩ := hy
  simp [Instr.field, go_sem, asAgg]


end Go.Proofs.Ythjapjbiclkhcaa

/- The walk of l02Digit: the greatest limb by which a list may be multiplied and not be above another. -/
namespace Go.Proofs.Ythjapjbiclkhcaa
open Go.RowKit
set_option linter.unusedVariables false

theorem cmp_le {a b : Int} : (cmpZ a b ≤ 0) ↔ a ≤ b := by
  unfold cmpZ
  by_cases h : a < b
  · simp [h]; omega
  · by_cases h2 : b < a
    · simp [h, h2]
    · simp [h, h2]; omega
theorem mk_false (m : Nat) : mk false m = (m : Int) := rfl
theorem lms_nat (m : Nat) : lms (m : Int) = Num.limbs m := by unfold lms; rw [Int.natAbs_natCast]

set_option maxHeartbeats 8000000 in
set_option maxRecDepth 20000 in
theorem digitS (a b : Option Addr) (n m ca cb A D : Nat) (w : World) (ha : Seg w a n ca (Num.limbs A)) (hb : Seg w b m cb (Num.limbs D)) (hn : n ≤ 400000) (hm : m ≤ 400000) (hD : 0 < D) (hA : A < 4294967296 * D) :
    Calls Try.prog 97 #[.slice a n ca, .slice b m cb] w fun e w' => e = .returned (.int .u32 ((A / D : Nat) : Int)) ∧ Below w.heap.size w w' := by
  obtain rfl := ha.1
  obtain rfl := hb.1
  have HA := hide ha
  have HB := hide hb
  have HAA := hide hA
  clear ha hb hA
  go_enter Try.func97, Try.ntmps97
  go_wp2
  go_loopw [5, 6, 7] (fun lo hi _ wr => ∃ (p q : Nat), lo = .int .u64 p ∧ hi = .int .u64 q ∧ p ≤ q ∧ q ≤ 4294967295 ∧ Hid (D * p ≤ A) ∧ Hid (A < D * (q + 1)) ∧ Hid (Below w.heap.size w wr)) (fun lo hi _ _ => (intOf hi - intOf lo).toNat)
  case atStart => exact ⟨0, 4294967295, rfl, rfl, by omega, by omega, hide (by rw [Nat.mul_zero]; exact Nat.zero_le _), hide (by rw [Nat.mul_comm]; exact HAA.out), hide (bl_refl w)⟩
  case round =>
    obtain ⟨p, q, rfl, rfl, hpq, hq, hlo, hhi, hZ⟩ := hrel
    by_cases hlt : p < q
    · have hlt' : (p : Int) < (q : Int) := by omega
      obtain ⟨mid, hmid⟩ : ∃ mid, (p + q + 1) / 2 = mid := ⟨_, rfl⟩
      have hm1 : p < mid := by omega
      have hm2 : mid ≤ q := by omega
      have hmi : ((p : Int) + (q : Int) + 1) / 2 = (mid : Int) := by omega
      clear hmid
      go_wp2_with fail
      have hsz := hZ.out.size
      have HZa := hide (bl_alloc hZ.out (Obj.cells #[Value.int .u32 (mid : Int)] 56))
      have hone := own_one wr mid (by omega)
      generalize wr.alloc (Obj.cells #[Value.int .u32 (mid : Int)] 56) = wa at *
      refine (timesS b (some ⟨wr.heap.size, 0, none⟩) _ 1 cb 1 (Num.limbs D) [mid] _ (HB.out.below HZa.out) hone.seg (by omega) (by omega)).mono ?_
      rintro e w4 ⟨zs, rfl, ho4, hv4, hb4⟩
      have hv4' : Num.nat zs = D * mid := by rw [hv4, Num.nat_limbs]; simp [Num.nat]
      have HO4 := hide ho4.seg
      have HZ4 := hide (bl_trans HZa.out hb4)
      clear hone hv4 ho4 hb4
      go_wp2_with fail
      refine (makeS false _ _ _ zs _ HO4.out (by omega)).mono ?_
      rintro e w5 ⟨v5, rfl, hn5, hb5⟩
      rw [hv4', mk_false] at hn5
      obtain ⟨a5, c5, rfl, ho5⟩ := hn5
      rw [lms_nat] at ho5 ⊢
      have HO5 := hide ho5.seg
      have HZ5 := hide (bl_trans HZ4.out hb5)
      have hfl := field_limbs (.bool (sgn ((D * mid : Nat) : Int))) (.slice a5 (Num.limbs (D * mid)).length c5) w5 ⟨_, _, _, rfl⟩
      rw [Int.natCast_mul] at hfl
      clear ho5 hb5 HO4 HZ4 HZa
      go_wp2_with fail
      refine (leastS (D * mid) A a5 a _ _ c5 ca _ HO5.out (HA.out.below HZ5.out)).mono ?_
      rintro e w6 ⟨rfl, d6, hw6⟩
      have HZ6 : Hid (Below w.heap.size w w6) := hide (by rw [hw6]; exact below_drewN HZ5.out d6)
      clear hw6 HO5
      by_cases hc : D * mid ≤ A
      · have hcm : cmpZ ((D * mid : Nat) : Int) (A : Int) ≤ 0 := cmp_le.2 (by omega)
        have HLO := hide hc
        clear hc hlo
        generalize cmpZ ((D * mid : Nat) : Int) (A : Int) = r at *
        go_wp2
        exact ⟨⟨mid, q, rfl, rfl, hm2, hq, HLO, hhi, HZ6⟩, by simp [intOf]; omega⟩
      · have hcm : ¬ cmpZ ((D * mid : Nat) : Int) (A : Int) ≤ 0 := fun h => hc (by have := cmp_le.1 h; omega)
        have HHI : Hid (A < D * (mid - 1 + 1)) := hide (by rw [show mid - 1 + 1 = mid by omega]; omega)
        clear hc hhi
        generalize cmpZ ((D * mid : Nat) : Int) (A : Int) = r at *
        go_wp2
        exact ⟨⟨p, mid - 1, rfl, by go_num, by omega, by omega, hlo, HHI, HZ6⟩, by simp [intOf]; omega⟩
    · obtain rfl : p = q := by omega
      have HV : Hid (A / D = p) := hide (by
        have h1 := hlo.out
        have h2 := hhi.out
        exact Nat.div_eq_of_lt_le (by rw [Nat.mul_comm]; exact h1) (by rw [Nat.mul_comm]; exact h2))
      go_wp2
      go_ret
      rw [HV.out]
      exact ⟨rfl, hZ.out⟩
end Go.Proofs.Ythjapjbiclkhcaa
