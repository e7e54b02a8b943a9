/- What the walks of laws on two numbers share: what a call in a region that draws its order leaves behind. -/
import Derived.Test.YtbopgbpnbonkeaaAddP
import Derived.Deep.RegionHeld3
import Derived.Deep.DeepCutAuto
namespace Go.Proofs.Ytbopgbpnbonkeaa
open Go.RowKit
set_option linter.unusedVariables false

theorem Seg.le {W : World} {a : Option Addr} {n cap : Nat} {xs : List Nat} (h : Seg W a n cap xs) : n ≤ 9223372036854775807 := Nat.le_trans h.2.1 h.2.2.1
theorem keep4 {W0 w' : World} {N1 N2 : Nat} {c0 c1 c2 c3 : Value} (k0 : W0.cell? ⟨N1, 0, none⟩ = some c0) (k1 : W0.cell? ⟨N1, 1, none⟩ = some c1) (k2 : W0.cell? ⟨N2, 0, none⟩ = some c2) (k3 : W0.cell? ⟨N2, 1, none⟩ = some c3) (z1 : N1 < W0.heap.size) (z2 : N2 < W0.heap.size) (hb : Below W0.heap.size W0 w') :
    w'.cell? ⟨N1, 0, none⟩ = some c0 ∧ w'.cell? ⟨N1, 1, none⟩ = some c1 ∧ w'.cell? ⟨N2, 0, none⟩ = some c2 ∧ w'.cell? ⟨N2, 1, none⟩ = some c3 ∧ Hid (Below W0.heap.size W0 w') :=
  ⟨(hb.cell (p := ⟨N1, 0, none⟩) z1).trans k0, (hb.cell (p := ⟨N1, 1, none⟩) z1).trans k1, (hb.cell (p := ⟨N2, 0, none⟩) z2).trans k2, (hb.cell (p := ⟨N2, 1, none⟩) z2).trans k3, hb⟩
/-- a number in a box of its own, made behind the world W0 -/
def Res (W0 : World) (N : Nat) (a : Option Addr) (c : Nat) (z : Int) (wc : World) : Prop :=
  W0.heap.size ≤ N ∧ N < wc.heap.size ∧ wc.cell? ⟨N, 0, none⟩ = some (.bool (sgn z)) ∧ wc.cell? ⟨N, 1, none⟩ = some (.slice a (lms z).length c) ∧ Own wc W0.heap.size a (lms z).length c (lms z) ∧ Below W0.heap.size W0 wc
/-- the box was made ahead of the call -/
theorem res_ahead {W0 W1 wX : World} {N : Nat} {v : Value} {z : Int} {a : Option Addr} {c : Nat} (hv : v = .agg #[.bool (sgn z), .slice a (lms z).length c]) (ho : Own wX W1.heap.size a (lms z).length c (lms z)) (hN : W0.heap.size ≤ N) (hN1 : N < W1.heap.size) (h01 : Below W0.heap.size W0 wX) (h1 : W1.heap.size ≤ wX.heap.size)
    (k0 : ∃ u, wX.cell? ⟨N, 0, none⟩ = some u) (k1 : ∃ u, wX.cell? ⟨N, 1, none⟩ = some u) (w01 : W0.heap.size ≤ W1.heap.size) :
    Res W0 N a c z ((wX.setCell ⟨N, 0, none⟩ (.bool (sgn z))).setCell ⟨N, 1, none⟩ (.slice a (lms z).length c)) := by
  obtain ⟨u0, k0⟩ := k0
  obtain ⟨u1, k1⟩ := k1
  refine ⟨hN, by simp; omega, by go_simp, by go_simp, ?_, (h01.setCell (p := ⟨N, 0, none⟩) hN _).setCell (p := ⟨N, 1, none⟩) hN _⟩
  exact ((ho.setCell (p := ⟨N, 0, none⟩) hN1 _).setCell (p := ⟨N, 1, none⟩) hN1 _).mono w01
/-- the box was made behind it -/
theorem res_behind {W0 W1 wX : World} {z : Int} {a : Option Addr} {c : Nat} (ho : Own wX W1.heap.size a (lms z).length c (lms z)) (h01 : Below W0.heap.size W0 wX) (w01 : W0.heap.size ≤ W1.heap.size) :
    Res W0 wX.heap.size a c z (wX.alloc (.cells #[.bool (sgn z), .slice a (lms z).length c] 45)) :=
  ⟨h01.size, by simp only [World.size_alloc]; omega, by go_simp, by go_simp, (ho.below (bl_alloc (bl_refl wX) _)).mono w01, bl_alloc h01 _⟩
theorem opZ_len (f : Int → Int → Int) (n1 : Bool) (xs : List Nat) (n2 : Bool) (ys : List Nat) : (lms (opZ f n1 xs n2 ys)).length ≤ 40 := by
  unfold opZ
  by_cases h : opT f n1 xs n2 ys = true
  · rw [if_pos h]
    unfold opT at h
    simp only [Bool.and_eq_true] at h
    exact Num.limbs_len.2 (of_decide_eq_true h.2)
  · rw [if_neg h, zero_lms]; exact Nat.zero_le _
theorem Seg.grownLow {W0 W W' : World} {a : Option Addr} {n cap : Nat} {xs : List Nat} {r : Option Nat} (h : Seg W a n cap xs) (h0 : Seg W0 a n cap xs) (hg : W.grownBy W' r) (hr : ∀ k, r = some k → W0.heap.size ≤ k) : Seg W' a n cap xs := by
  obtain ⟨h1, h2, h3, h4, h5⟩ := h
  refine ⟨h1, h2, h3, h4, ?_⟩
  rcases h5 with h5 | ⟨g, o, ha, hgl, hc⟩
  · exact .inl h5
  · rcases h0.2.2.2.2 with h6 | ⟨g', o', ha', hg', _⟩
    · exact .inl h6
    · rw [ha] at ha'
      cases ha'
      exact .inr ⟨g, o, ha, Nat.lt_of_lt_of_le hgl hg.size, fun j hj => hg.cell (hc j hj) (fun e => by have := hr g e.symm; omega)⟩
end Go.Proofs.Ytbopgbpnbonkeaa
