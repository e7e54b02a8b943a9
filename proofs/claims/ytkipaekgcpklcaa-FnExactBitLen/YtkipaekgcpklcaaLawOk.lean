/- The walk of the exact law of BigOk. -/
import Derived.Test.YtkipaekgcpklcaaOk
import Derived.Deep.RegionHeld3
namespace Go.Proofs.Ytkipaekgcpklcaa
open Go.RowKit
set_option linter.unusedVariables false

/-- what stands of the law's arguments: the box of one, and its limbs -/
theorem Seg.le {W : World} {a : Option Addr} {n cap : Nat} {xs : List Nat} (h : Seg W a n cap xs) : n ≤ 9223372036854775807 := Nat.le_trans h.2.1 h.2.2.1

set_option maxHeartbeats 2000000 in
theorem walk5 (neg : Bool) (a : Option Addr) (cap : Nat) (xs : List Nat) (w : World) (hs : Seg w a xs.length cap xs) :
    Calls Try.prog 5 #[.agg #[.bool neg, .slice a xs.length cap]] w fun e w' => e = .returned (.bool true) ∧ Below w.heap.size w w' := by
  have hn := hs.le
  have HS := hide hs
  clear hs
  go_enter Try.func5, Try.ntmps5
  go_wp2_with fail
  refine (szB neg a xs.length cap 1048576 _ hn (by omega) (by omega)).mono ?_
  rintro e w1 ⟨rfl, hb1⟩
  have h1 := hide (bl_trans (bl_alloc (bl_refl w) _) hb1)
  have k0 : w1.cell? ⟨w.heap.size, 0, none⟩ = some (.bool neg) := (hb1.cell (p := ⟨w.heap.size, 0, none⟩) (by simp only [World.size_alloc]; omega)).trans (by go_simp)
  have k1 : w1.cell? ⟨w.heap.size, 1, none⟩ = some (.slice a xs.length cap) := (hb1.cell (p := ⟨w.heap.size, 1, none⟩) (by simp only [World.size_alloc]; omega)).trans (by go_simp)
  have z1 : w.heap.size < w1.heap.size := by have := hb1.size; simp only [World.size_alloc] at this; omega
  clear hb1
  by_cases hbig : (1048576 : Int) < (xs.length : Int)
  · rw [if_pos hbig]
    go_wp2
    go_ret
    exact ⟨rfl, h1.out⟩
  rw [if_neg hbig]
  go_wp2_with fail
  refine (toB neg a xs.length cap xs _ (HS.out.below h1.out) (by omega)).mono ?_
  rintro e w2 ⟨v2, rfl, hg2, hb2⟩
  have k0 := (hb2.cell (p := ⟨w.heap.size, 0, none⟩) z1).trans k0
  have k1 := (hb2.cell (p := ⟨w.heap.size, 1, none⟩) z1).trans k1
  have z2 := Nat.lt_of_lt_of_le z1 hb2.size
  have h2 := hide (bl_trans h1.out hb2)
  have HR2 := hide hg2.raw
  clear hg2 hb2
  go_wp2_with fail
  refine (okS v2 neg xs _ HR2.out).mono ?_
  rintro e w3 ⟨rfl, hb3⟩
  have k0 := (hb3.cell (p := ⟨w.heap.size, 0, none⟩) z2).trans k0
  have k1 := (hb3.cell (p := ⟨w.heap.size, 1, none⟩) z2).trans k1
  have z3 := Nat.lt_of_lt_of_le z2 hb3.size
  have h3 := hide (bl_trans h2.out hb3)
  clear hb3 HR2
  go_wp2_with fail
  refine (toB neg a xs.length cap xs _ (HS.out.below h3.out) (by omega)).mono ?_
  rintro e w4 ⟨v4, rfl, ⟨a4, c4, rfl, hg4⟩, hb4⟩
  have k0 := (hb4.cell (p := ⟨w.heap.size, 0, none⟩) z3).trans k0
  have k1 := (hb4.cell (p := ⟨w.heap.size, 1, none⟩) z3).trans k1
  have z4 := Nat.lt_of_lt_of_le z3 hb4.size
  have h4 := hide (bl_trans h3.out hb4)
  have HR4 := hide hg4.seg
  clear hg4 hb4
  go_wp2_with fail
  have h5 := hide (bl_alloc h4.out (.cells #[.bool neg, .slice a4 xs.length c4] 26))
  refine (okI (.agg #[.bool neg, .slice a4 xs.length c4]) neg xs _ ⟨a4, c4, rfl, HR4.out.below (bl_alloc (bl_refl w4) _)⟩).mono ?_
  rintro e w6 ⟨rfl, hb6⟩
  have k0 := (hb6.cell (p := ⟨w.heap.size, 0, none⟩) (by simp only [World.size_alloc]; omega)).trans (((bl_alloc (bl_refl w4) _).cell (p := ⟨w.heap.size, 0, none⟩) z4).trans k0)
  have k1 := (hb6.cell (p := ⟨w.heap.size, 1, none⟩) (by simp only [World.size_alloc]; omega)).trans (((bl_alloc (bl_refl w4) _).cell (p := ⟨w.heap.size, 1, none⟩) z4).trans k1)
  have k2 : w6.cell? ⟨w4.heap.size, 0, none⟩ = some (.bool neg) := (hb6.cell (p := ⟨w4.heap.size, 0, none⟩) (by simp only [World.size_alloc]; omega)).trans (by go_simp)
  have k3 : w6.cell? ⟨w4.heap.size, 1, none⟩ = some (.slice a4 xs.length c4) := (hb6.cell (p := ⟨w4.heap.size, 1, none⟩) (by simp only [World.size_alloc]; omega)).trans (by go_simp)
  have HR6 := hide ((HR4.out.below (bl_alloc (bl_refl w4) (.cells #[.bool neg, .slice a4 xs.length c4] 26))).below hb6)
  have h6 := hide (bl_trans h5.out hb6)
  have z6 : w4.heap.size < w6.heap.size := by have := hb6.size; simp only [World.size_alloc] at this; omega
  clear hb6 HR4 h5
  generalize okB neg xs = b at *
  go_wp2_with fail
  have z0 : w.heap.size < w6.heap.size := by omega
  go_region_held3 (fun w' => w'.cell? ⟨w.heap.size, 0, none⟩ = some (.bool neg) ∧ w'.cell? ⟨w.heap.size, 1, none⟩ = some (.slice a xs.length cap) ∧ w'.cell? ⟨w4.heap.size, 0, none⟩ = some (.bool neg) ∧ w'.cell? ⟨w4.heap.size, 1, none⟩ = some (.slice a4 xs.length c4) ∧ Hid (Below w6.heap.size w6 w'))
    (first
      | exact ⟨k0, k1, k2, k3, hide (Below.refl _ _).drew⟩
      | exact ⟨(hb7.cell (p := ⟨w.heap.size, 0, none⟩) z0).trans k0, (hb7.cell (p := ⟨w.heap.size, 1, none⟩) z0).trans k1, (hb7.cell (p := ⟨w4.heap.size, 0, none⟩) z6).trans k2, (hb7.cell (p := ⟨w4.heap.size, 1, none⟩) z6).trans k3, hide hb7⟩
      | exact ⟨(hb8.cell (p := ⟨w.heap.size, 0, none⟩) z0).trans k0, (hb8.cell (p := ⟨w.heap.size, 1, none⟩) z0).trans k1, (hb8.cell (p := ⟨w4.heap.size, 0, none⟩) z6).trans k2, (hb8.cell (p := ⟨w4.heap.size, 1, none⟩) z6).trans k3, hide hb8⟩)
    (first
      | (go_at_call 33; refine (toB neg a xs.length cap xs _ (HS.out.below h6.out.drew) (by omega)).mono ?_; rintro e w7 ⟨v7, rfl, hg7, hb7'⟩; have hb7 : Below w6.heap.size w6 w7 := (bl_refl w6).drew.trans hb7')
      | (go_at_call 35; refine (eqB _ v7 neg xs _ ⟨a4, c4, rfl, HR6.out.below hb7⟩ hg7.raw).mono ?_; rintro e w8 ⟨rfl, hb8'⟩; have hb8 := hb7.trans (hb8'.mono hb7.size)))
  have HB8 := hide (bl_trans h6.out hb8)
  clear hb7 hb8 hb7' hb8' hg7
  go_wp2
  go_ret
  exact ⟨rfl, HB8.out⟩
end Go.Proofs.Ytkipaekgcpklcaa
