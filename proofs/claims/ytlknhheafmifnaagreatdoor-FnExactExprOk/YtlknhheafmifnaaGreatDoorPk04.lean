/- My texts LawBase, Prod, Mul, Digit, in this order. -/
import Derived.Test.YtlknhheafmifnaaGreatDoorPk03
import Derived.Deep.RegionHeld3
import Derived.Deep.DeepCutAuto
import Derived.Test.YtlknhheafmifnaaGreatDoorPk02
import Derived.Test.YtlknhheafmifnaaGreatDoorPk01
/- What the walks of laws on two numbers share: what a call in a region that draws its order leaves behind. -/
namespace Go.Proofs.YtlknhheafmifnaaGreatDoor
open Go.RowKit
set_option linter.unusedVariables false

theorem Seg.le {W : World} {a : Option Addr} {n cap : Nat} {xs : List Nat} (h : Seg W a n cap xs) : n ≤ 9223372036854775807 := Nat.le_trans h.2.1 h.2.2.1
theorem keep4 {W0 w' : World} {N1 N2 : Nat} {c0 c1 c2 c3 : Value} (k0 : W0.cell? ⟨N1, 0, none⟩ = some c0) (k1 : W0.cell? ⟨N1, 1, none⟩ = some c1) (k2 : W0.cell? ⟨N2, 0, none⟩ = some c2) (k3 : W0.cell? ⟨N2, 1, none⟩ = some c3) (z1 : N1 < W0.heap.size) (z2 : N2 < W0.heap.size) (hb : Below W0.heap.size W0 w') :
    w'.cell? ⟨N1, 0, none⟩ = some c0 ∧ w'.cell? ⟨N1, 1, none⟩ = some c1 ∧ w'.cell? ⟨N2, 0, none⟩ = some c2 ∧ w'.cell? ⟨N2, 1, none⟩ = some c3 ∧ Hid (Below W0.heap.size W0 w') :=
  ⟨(hb.cell (p := ⟨N1, 0, none⟩) z1).trans k0, (hb.cell (p := ⟨N1, 1, none⟩) z1).trans k1, (hb.cell (p := ⟨N2, 0, none⟩) z2).trans k2, (hb.cell (p := ⟨N2, 1, none⟩) z2).trans k3, hb⟩
/-- a number in a box of its own, made behind the world W0 -/
def Res (W0 : World) (N : Nat) (a : Option Addr) (c : Nat) (z : Int) (wc : World) : Prop :=
  W0.heap.size ≤ N ∧ N < wc.heap.size ∧ wc.cell? ⟨N, 0, none⟩ = some (.bool (sgn z)) ∧ wc.cell? ⟨N, 1, none⟩ = some (.slice a (lms z).length c) ∧ Own wc W0.heap.size a (lms z).length c (lms z) ∧ Below W0.heap.size W0 wc
/-- the box was made ahead of the call -/
theorem res_ahead {W0 W1 wX : World} {N : Nat} {v : Value} {z : Int} {a : Option Addr} {c : Nat} (hv : v = .agg #[.bool (sgn z), .slice a (lms z).length c]) (ho : Own wX W1.heap.size a (lms z).length c (lms z)) (hN : W0.heap.size ≤ N) (hN1 : N < W1.heap.size) (h01 : Below W0.heap.size W0 wX) (h1 : W1.heap.size ≤ wX.heap.size)
    (k0 : ∃ u, wX.cell? ⟨N, 0, none⟩ = some u) (k1 : ∃ u, wX.cell? ⟨N, 1, none⟩ = some u) (w01 : W0.heap.size ≤ W1.heap.size) :
    Res W0 N a c z ((wX.setCell ⟨N, 0, none⟩ (.bool (sgn z))).setCell ⟨N, 1, none⟩ (.slice a (lms z).length c)) := by
  obtain ⟨u0, k0⟩ := k0
  obtain ⟨u1, k1⟩ := k1
  refine ⟨hN, by simp; omega, by go_simp, by go_simp, ?_, (h01.setCell (p := ⟨N, 0, none⟩) hN _).setCell (p := ⟨N, 1, none⟩) hN _⟩
  exact ((ho.setCell (p := ⟨N, 0, none⟩) hN1 _).setCell (p := ⟨N, 1, none⟩) hN1 _).mono w01
/-- the box was made behind it -/
theorem res_behind {W0 W1 wX : World} {z : Int} {a : Option Addr} {c : Nat} (ho : Own wX W1.heap.size a (lms z).length c (lms z)) (h01 : Below W0.heap.size W0 wX) (w01 : W0.heap.size ≤ W1.heap.size) :
    Res W0 wX.heap.size a c z (wX.alloc (.cells #[.bool (sgn z), .slice a (lms z).length c] 32)) :=
  ⟨h01.size, by simp only [World.size_alloc]; omega, by go_simp, by go_simp, (ho.below (bl_alloc (bl_refl wX) _)).mono w01, bl_alloc h01 _⟩
theorem opZ_len (f : Int → Int → Int) (n1 : Bool) (xs : List Nat) (n2 : Bool) (ys : List Nat) : (lms (opZ f n1 xs n2 ys)).length ≤ 40 := by
  unfold opZ
  by_cases h : opT f n1 xs n2 ys = true
  · rw [if_pos h]
    unfold opT at h
    simp only [Bool.and_eq_true] at h
    exact Num.limbs_len.2 (of_decide_eq_true h.2)
  · rw [if_neg h, zero_lms]; exact Nat.zero_le _
theorem Seg.grownLow {W0 W W' : World} {a : Option Addr} {n cap : Nat} {xs : List Nat} {r : Option Nat} (h : Seg W a n cap xs) (h0 : Seg W0 a n cap xs) (hg : W.grownBy W' r) (hr : ∀ k, r = some k → W0.heap.size ≤ k) : Seg W' a n cap xs := by
  obtain ⟨h1, h2, h3, h4, h5⟩ := h
  refine ⟨h1, h2, h3, h4, ?_⟩
  rcases h5 with h5 | ⟨g, o, ha, hgl, hc⟩
  · exact .inl h5
  · rcases h0.2.2.2.2 with h6 | ⟨g', o', ha', hg', _⟩
    · exact .inl h6
    · rw [ha] at ha'
      cases ha'
      exact .inr ⟨g, o, ha, Nat.lt_of_lt_of_le hgl hg.size, fun j hj => hg.cell (hc j hj) (fun e => by have := hr g e.symm; omega)⟩
end Go.Proofs.YtlknhheafmifnaaGreatDoor

/- The walk of bigProduct: the product of two numbers of any size, in new memory. -/
namespace Go.Proofs.YtlknhheafmifnaaGreatDoor
open Go.RowKit
set_option linter.unusedVariables false

theorem mk_mul (n1 n2 : Bool) (x y : Nat) : mk (!n1 == n2) (x * y) = mk n1 x * mk n2 y := by
  cases n1 <;> cases n2 <;> simp [mk, Int.mul_neg, Int.neg_mul]

end Go.Proofs.YtlknhheafmifnaaGreatDoor

/- The walks of l02Mul, and of both Mul. -/
namespace Go.Proofs.YtlknhheafmifnaaGreatDoor
open Go.RowKit
set_option linter.unusedVariables false

def mulZ (x y : Int) : Int := x * y
end Go.Proofs.YtlknhheafmifnaaGreatDoor

/- The walk of l02Digit: the greatest limb by which a list may be multiplied and not be above another. -/
namespace Go.Proofs.YtlknhheafmifnaaGreatDoor
open Go.RowKit
set_option linter.unusedVariables false

theorem cmp_le {a b : Int} : (cmpZ a b ≤ 0) ↔ a ≤ b := by
  unfold cmpZ
  by_cases h : a < b
  · simp [h]; omega
  · by_cases h2 : b < a
    · simp [h, h2]
    · simp [h, h2]; omega
theorem mk_false (m : Nat) : mk false m = (m : Int) := rfl
theorem lms_nat (m : Nat) : lms (m : Int) = Num.limbs m := by unfold lms; rw [Int.natAbs_natCast]

set_option maxHeartbeats 8000000 in
set_option maxRecDepth 20000 in
theorem digitS (a b : Option Addr) (n m ca cb A D : Nat) (w : World) (ha : Seg w a n ca (Num.limbs A)) (hb : Seg w b m cb (Num.limbs D)) (hn : n ≤ 400000) (hm : m ≤ 400000) (hD : 0 < D) (hA : A < 4294967296 * D) :
    Calls Tryz.prog 89 #[.slice a n ca, .slice b m cb] w fun e w' => e = .returned (.int .u32 ((A / D : Nat) : Int)) ∧ Below w.heap.size w w' := by
  obtain rfl := ha.1
  obtain rfl := hb.1
  have HA := hide ha
  have HB := hide hb
  have HAA := hide hA
  clear ha hb hA
  go_enter Tryz.func89, Tryz.ntmps89
  go_wp2
  go_loopw [5, 6, 7] (fun lo hi _ wr => ∃ (p q : Nat), lo = .int .u64 p ∧ hi = .int .u64 q ∧ p ≤ q ∧ q ≤ 4294967295 ∧ Hid (D * p ≤ A) ∧ Hid (A < D * (q + 1)) ∧ Hid (Below w.heap.size w wr)) (fun lo hi _ _ => (intOf hi - intOf lo).toNat)
  case atStart => exact ⟨0, 4294967295, rfl, rfl, by omega, by omega, hide (by rw [Nat.mul_zero]; exact Nat.zero_le _), hide (by rw [Nat.mul_comm]; exact HAA.out), hide (bl_refl w)⟩
  case round =>
    obtain ⟨p, q, rfl, rfl, hpq, hq, hlo, hhi, hZ⟩ := hrel
    by_cases hlt : p < q
    · have hlt' : (p : Int) < (q : Int) := by omega
      obtain ⟨mid, hmid⟩ : ∃ mid, (p + q + 1) / 2 = mid := ⟨_, rfl⟩
      have hm1 : p < mid := by omega
      have hm2 : mid ≤ q := by omega
      have hmi : ((p : Int) + (q : Int) + 1) / 2 = (mid : Int) := by omega
      clear hmid
      go_wp2_with fail
      have hsz := hZ.out.size
      have HZa := hide (bl_alloc hZ.out (Obj.cells #[Value.int .u32 (mid : Int)] 83))
      have hone := own_one wr mid (by omega)
      generalize wr.alloc (Obj.cells #[Value.int .u32 (mid : Int)] 83) = wa at *
      refine (timesS b (some ⟨wr.heap.size, 0, none⟩) _ 1 cb 1 (Num.limbs D) [mid] _ (HB.out.below HZa.out) hone.seg (by omega) (by omega)).mono ?_
      rintro e w4 ⟨zs, rfl, ho4, hv4, hb4⟩
      have hv4' : Num.nat zs = D * mid := by rw [hv4, Num.nat_limbs]; simp [Num.nat]
      have HO4 := hide ho4.seg
      have HZ4 := hide (bl_trans HZa.out hb4)
      clear hone hv4 ho4 hb4
      go_wp2_with fail
      refine (makeS false _ _ _ zs _ HO4.out (by omega)).mono ?_
      rintro e w5 ⟨v5, rfl, hn5, hb5⟩
      rw [hv4', mk_false] at hn5
      obtain ⟨a5, c5, rfl, ho5⟩ := hn5
      rw [lms_nat] at ho5 ⊢
      have HO5 := hide ho5.seg
      have HZ5 := hide (bl_trans HZ4.out hb5)
      have hfl := field_limbs (.bool (sgn ((D * mid : Nat) : Int))) (.slice a5 (Num.limbs (D * mid)).length c5) w5 ⟨_, _, _, rfl⟩
      rw [Int.natCast_mul] at hfl
      clear ho5 hb5 HO4 HZ4 HZa
      go_wp2_with fail
      refine (leastS (D * mid) A a5 a _ _ c5 ca _ HO5.out (HA.out.below HZ5.out)).mono ?_
      rintro e w6 ⟨rfl, d6, hw6⟩
      have HZ6 : Hid (Below w.heap.size w w6) := hide (by rw [hw6]; exact below_drewN HZ5.out d6)
      clear hw6 HO5
      by_cases hc : D * mid ≤ A
      · have hcm : cmpZ ((D * mid : Nat) : Int) (A : Int) ≤ 0 := cmp_le.2 (by omega)
        have HLO := hide hc
        clear hc hlo
        generalize cmpZ ((D * mid : Nat) : Int) (A : Int) = r at *
        go_wp2
        exact ⟨⟨mid, q, rfl, rfl, hm2, hq, HLO, hhi, HZ6⟩, by simp [intOf]; omega⟩
      · have hcm : ¬ cmpZ ((D * mid : Nat) : Int) (A : Int) ≤ 0 := fun h => hc (by have := cmp_le.1 h; omega)
        have HHI : Hid (A < D * (mid - 1 + 1)) := hide (by rw [show mid - 1 + 1 = mid by omega]; omega)
        clear hc hhi
        generalize cmpZ ((D * mid : Nat) : Int) (A : Int) = r at *
        go_wp2
        exact ⟨⟨p, mid - 1, rfl, by go_num, by omega, by omega, hlo, HHI, HZ6⟩, by simp [intOf]; omega⟩
    · obtain rfl : p = q := by omega
      have HV : Hid (A / D = p) := hide (by
        have h1 := hlo.out
        have h2 := hhi.out
        exact Nat.div_eq_of_lt_le (by rw [Nat.mul_comm]; exact h1) (by rw [Nat.mul_comm]; exact h2))
      go_wp2
      go_ret
      rw [HV.out]
      exact ⟨rfl, hZ.out⟩
end Go.Proofs.YtlknhheafmifnaaGreatDoor
