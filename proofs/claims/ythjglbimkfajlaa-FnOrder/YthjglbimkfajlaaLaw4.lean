/- Of two drawn texts just one holds: the first is less, they are one, the second is less: the plain fact, DrawBefore, and the walk of the law. -/
import Derived.Test.YthjglbimkfajlaaBent
namespace Go.Proofs.Ythjglbimkfajlaa
open Go.RowKit
set_option linter.unusedVariables false

theorem one_of (x y : List UInt8) : (Op.bytesLess x y = true ∧ Op.bytesLess y x = false ∧ (x == y) = false) ∨ (Op.bytesLess x y = false ∧ Op.bytesLess y x = true ∧ (x == y) = false) ∨ (Op.bytesLess x y = false ∧ Op.bytesLess y x = false ∧ (x == y) = true) := by
  induction x generalizing y with
  | nil => cases y with
    | nil => right; right; exact ⟨rfl, rfl, rfl⟩
    | cons b y => left; exact ⟨rfl, rfl, rfl⟩
  | cons a x ih => cases y with
    | nil => right; left; exact ⟨rfl, rfl, rfl⟩
    | cons b y =>
      simp only [Op.bytesLess, List.cons_beq_cons]
      by_cases h1 : a < b
      · have h2 : ¬ b < a := fun h => by rw [UInt8.lt_iff_toNat_lt] at h h1; omega
        have h3 : ¬ a = b := fun h => by rw [h] at h1; exact absurd h1 (by rw [UInt8.lt_iff_toNat_lt]; omega)
        have h4 : ¬ b = a := fun h => h3 h.symm
        left; simp [h1, h2, h3, h4]
      · by_cases h2 : b < a
        · have h3 : ¬ a = b := fun h => by rw [h] at h2; exact absurd h2 (by rw [UInt8.lt_iff_toNat_lt]; omega)
          right; left; simp [h1, h2, h3]
        · have h3 : a = b := UInt8.toNat_inj.1 (by rw [UInt8.lt_iff_toNat_lt] at h1 h2; omega)
          subst h3
          rcases ih y with h | h | h
          · left; simpa [h1] using h
          · right; left; simpa [h1] using h
          · right; right; simpa [h1] using h

set_option maxHeartbeats 1000000 in
theorem drawBefore (a : Option Addr) (len cap : Nat) (w : World) (hr : Row a len cap w) :
    Calls Try.prog 19 #[.slice a len cap] w fun e w' => ∃ x y : ByteArray, x.size ≤ 1001 ∧ y.size ≤ 1001 ∧ e = .returned (.tuple #[.string x, .string y]) ∧ Below w.heap.size w w' := by
  have HR := hide hr
  clear hr
  go_enter Try.func19, Try.ntmps19
  go_wp2_with fail
  refine (newD a len cap _ HR.out).mono ?_
  rintro e w1 ⟨rfl, hc1, hb1⟩
  have HC1 := hide hc1
  have HB1 := hide hb1
  clear hc1 hb1
  go_wp2_with fail
  refine (belowD _ a len cap _ HC1.out _ (by omega)).mono ?_
  rintro e w2 ⟨x, hx, rfl, hc2, ho2⟩
  have hx' : 0 ≤ x ∧ x < 5 := by rcases hx with h | h <;> omega
  obtain ⟨n, rfl⟩ := Int.eq_ofNat_of_zero_le hx'.1
  have hn : n ≤ 200 := by omega
  have HC2 := hide hc2
  have HO2 := hide ho2
  clear hc2 ho2 hx hx'
  go_wp2_with fail
  refine (textD _ a len cap _ HC2.out n hn).mono ?_
  rintro e w3 ⟨s, hs, rfl, hc3, ho3⟩
  have hs' : s.size ≤ 1000 := by omega
  have HC3 := hide hc3
  have HO3 := hide (HO2.out.trans ho3)
  clear hc3 ho3 hs
  go_wp2_with fail
  refine (bentD _ a len cap _ HC3.out s hs').mono ?_
  rintro e w4 ⟨s', hs2, rfl, hc4, ho4⟩
  have HC4 := hide hc4
  have HO4 := hide (HO3.out.trans ho4)
  clear hc4 ho4
  go_wp2_with fail
  refine (onceD _ a len cap _ HC4.out 2 (by omega)).mono ?_
  rintro e w5 ⟨bb, rfl, hc5, ho5⟩
  have HB5 : Hid (Below w.heap.size w w5) := hide (HB1.out.trans ((HO4.out.trans ho5).below (Nat.le_refl _) (Nat.le_of_lt HC1.out.hB)))
  clear hc5 ho5
  cases bb
  · go_wp2
    go_ret2
    exact ⟨s, s', by omega, hs2, rfl, HB5.out⟩
  · go_wp2
    go_ret2
    exact ⟨s', s, hs2, by omega, rfl, HB5.out⟩

set_option maxHeartbeats 2000000 in
theorem walk4 (a : Option Addr) (len cap : Nat) (w : World) (hr : Row a len cap w) :
    Calls Try.prog 4 #[.slice a len cap] w fun e w' => e = .returned (.bool true) ∧ Below w.heap.size w w' := by
  have HR := hide hr
  have hlen : len ≤ 9223372036854775807 := Nat.le_trans hr.2.1 hr.2.2
  clear hr
  by_cases hbig : (1048576 : Int) < (len : Int)
  · go_enter Try.func4, Try.ntmps4
    go_wp2
    go_ret
    exact ⟨rfl, Below.refl _ _⟩
  go_enter Try.func4, Try.ntmps4
  go_wp2_with (first | (go_at_call 13; go_in) | fail)
  refine (drawBefore _ _ _ _ HR.out).mono ?_
  rintro e w1 ⟨x, y, hx, hy, rfl, hb1⟩
  have HB1 := hide hb1
  clear hb1
  have h3 := one_of x.toList y.toList
  have hxy : Op.bytesLess x.toList y.toList = lessB x y := rfl
  have hyx : Op.bytesLess y.toList x.toList = lessB y x := rfl
  rw [hxy, hyx] at h3
  clear hxy hyx
  rcases h3 with ⟨h1, h2, h3⟩ | ⟨h1, h2, h3⟩ | ⟨h1, h2, h3⟩
  all_goals
    have H1 := hide h1
    have H2 := hide h2
    clear h1 h2
    go_wp2_with fail
    refine (beforeI x y _).mono ?_
    rw [H1.out]
    rintro e w' ⟨rfl, hw⟩
    subst w'
    go_wp2_with fail
    refine (beforeI y x _).mono ?_
    rw [H2.out]
    rintro e w' ⟨rfl, hw⟩
    subst w'
    go_wp2_with fail
    refine (beforeI x y _).mono ?_
    rw [H1.out]
    rintro e w' ⟨rfl, hw⟩
    subst w'
    go_wp2_with fail
    refine (beforeS x y _ (by omega) (by omega)).mono ?_
    rw [H1.out]
    rintro e w' ⟨rfl, k, rfl⟩
    go_wp2
    go_ret
    exact ⟨rfl, below_drewN HB1.out _⟩
end Go.Proofs.Ythjglbimkfajlaa
