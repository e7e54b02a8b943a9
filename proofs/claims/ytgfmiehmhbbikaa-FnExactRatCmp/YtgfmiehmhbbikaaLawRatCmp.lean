/- The walk of the exact law of RatCmp. -/
import Derived.Test.YtgfmiehmhbbikaaRCmp
import Derived.Test.YtgfmiehmhbbikaaLawKit
namespace Go.Proofs.Ytgfmiehmhbbikaa
open Go.RowKit
set_option linter.unusedVariables false


set_option maxHeartbeats 40000000 in
set_option maxRecDepth 20000 in
theorem walk5 (n1n : Bool) (a1n : Option Addr) (c1n : Nat) (xs1n : List Nat) (n1d : Bool) (a1d : Option Addr) (c1d : Nat) (xs1d : List Nat) (n2n : Bool) (a2n : Option Addr) (c2n : Nat) (xs2n : List Nat) (n2d : Bool) (a2d : Option Addr) (c2d : Nat) (xs2d : List Nat) (w : World) (s1n : Seg w a1n xs1n.length c1n xs1n) (s1d : Seg w a1d xs1d.length c1d xs1d) (s2n : Seg w a2n xs2n.length c2n xs2n) (s2d : Seg w a2d xs2d.length c2d xs2d) :
    Calls Try.prog 5 #[Value.agg #[Value.bool n1n, Value.slice a1n xs1n.length c1n, Value.bool n1d, Value.slice a1d xs1d.length c1d], Value.agg #[Value.bool n2n, Value.slice a2n xs2n.length c2n, Value.bool n2d, Value.slice a2d xs2d.length c2d]] w fun e w' => e = .returned (.bool true) ∧ Below w.heap.size w w' := by
  have A1n := hide s1n
  have hn1n := s1n.le
  have A1d := hide s1d
  have hn1d := s1d.le
  have A2n := hide s2n
  have hn2n := s2n.le
  have A2d := hide s2d
  have hn2d := s2d.le
  have k1_0 : ((w.alloc (Obj.cells #[Value.bool n1n, Value.slice a1n xs1n.length c1n, Value.bool n1d, Value.slice a1d xs1d.length c1d] 40)).alloc (Obj.cells #[Value.bool n2n, Value.slice a2n xs2n.length c2n, Value.bool n2d, Value.slice a2d xs2d.length c2d] 40)).cell? ⟨w.heap.size, 0, none⟩ = some (Value.bool n1n) := by go_simp
  have k1_1 : ((w.alloc (Obj.cells #[Value.bool n1n, Value.slice a1n xs1n.length c1n, Value.bool n1d, Value.slice a1d xs1d.length c1d] 40)).alloc (Obj.cells #[Value.bool n2n, Value.slice a2n xs2n.length c2n, Value.bool n2d, Value.slice a2d xs2d.length c2d] 40)).cell? ⟨w.heap.size, 1, none⟩ = some (Value.slice a1n xs1n.length c1n) := by go_simp
  have k1_2 : ((w.alloc (Obj.cells #[Value.bool n1n, Value.slice a1n xs1n.length c1n, Value.bool n1d, Value.slice a1d xs1d.length c1d] 40)).alloc (Obj.cells #[Value.bool n2n, Value.slice a2n xs2n.length c2n, Value.bool n2d, Value.slice a2d xs2d.length c2d] 40)).cell? ⟨w.heap.size, 2, none⟩ = some (Value.bool n1d) := by go_simp
  have k1_3 : ((w.alloc (Obj.cells #[Value.bool n1n, Value.slice a1n xs1n.length c1n, Value.bool n1d, Value.slice a1d xs1d.length c1d] 40)).alloc (Obj.cells #[Value.bool n2n, Value.slice a2n xs2n.length c2n, Value.bool n2d, Value.slice a2d xs2d.length c2d] 40)).cell? ⟨w.heap.size, 3, none⟩ = some (Value.slice a1d xs1d.length c1d) := by go_simp
  have z1 : w.heap.size < ((w.alloc (Obj.cells #[Value.bool n1n, Value.slice a1n xs1n.length c1n, Value.bool n1d, Value.slice a1d xs1d.length c1d] 40)).alloc (Obj.cells #[Value.bool n2n, Value.slice a2n xs2n.length c2n, Value.bool n2d, Value.slice a2d xs2d.length c2d] 40)).heap.size := by simp only [World.size_alloc]; omega
  have k2_0 : ((w.alloc (Obj.cells #[Value.bool n1n, Value.slice a1n xs1n.length c1n, Value.bool n1d, Value.slice a1d xs1d.length c1d] 40)).alloc (Obj.cells #[Value.bool n2n, Value.slice a2n xs2n.length c2n, Value.bool n2d, Value.slice a2d xs2d.length c2d] 40)).cell? ⟨w.heap.size + 1, 0, none⟩ = some (Value.bool n2n) := by go_simp
  have k2_1 : ((w.alloc (Obj.cells #[Value.bool n1n, Value.slice a1n xs1n.length c1n, Value.bool n1d, Value.slice a1d xs1d.length c1d] 40)).alloc (Obj.cells #[Value.bool n2n, Value.slice a2n xs2n.length c2n, Value.bool n2d, Value.slice a2d xs2d.length c2d] 40)).cell? ⟨w.heap.size + 1, 1, none⟩ = some (Value.slice a2n xs2n.length c2n) := by go_simp
  have k2_2 : ((w.alloc (Obj.cells #[Value.bool n1n, Value.slice a1n xs1n.length c1n, Value.bool n1d, Value.slice a1d xs1d.length c1d] 40)).alloc (Obj.cells #[Value.bool n2n, Value.slice a2n xs2n.length c2n, Value.bool n2d, Value.slice a2d xs2d.length c2d] 40)).cell? ⟨w.heap.size + 1, 2, none⟩ = some (Value.bool n2d) := by go_simp
  have k2_3 : ((w.alloc (Obj.cells #[Value.bool n1n, Value.slice a1n xs1n.length c1n, Value.bool n1d, Value.slice a1d xs1d.length c1d] 40)).alloc (Obj.cells #[Value.bool n2n, Value.slice a2n xs2n.length c2n, Value.bool n2d, Value.slice a2d xs2d.length c2d] 40)).cell? ⟨w.heap.size + 1, 3, none⟩ = some (Value.slice a2d xs2d.length c2d) := by go_simp
  have z2 : w.heap.size + 1 < ((w.alloc (Obj.cells #[Value.bool n1n, Value.slice a1n xs1n.length c1n, Value.bool n1d, Value.slice a1d xs1d.length c1d] 40)).alloc (Obj.cells #[Value.bool n2n, Value.slice a2n xs2n.length c2n, Value.bool n2d, Value.slice a2d xs2d.length c2d] 40)).heap.size := by simp only [World.size_alloc]; omega
  have S1n := hide (s1n.below (bl_alloc (bl_alloc (bl_refl w) (Obj.cells #[Value.bool n1n, Value.slice a1n xs1n.length c1n, Value.bool n1d, Value.slice a1d xs1d.length c1d] 40)) (Obj.cells #[Value.bool n2n, Value.slice a2n xs2n.length c2n, Value.bool n2d, Value.slice a2d xs2d.length c2d] 40)))
  clear s1n
  have S1d := hide (s1d.below (bl_alloc (bl_alloc (bl_refl w) (Obj.cells #[Value.bool n1n, Value.slice a1n xs1n.length c1n, Value.bool n1d, Value.slice a1d xs1d.length c1d] 40)) (Obj.cells #[Value.bool n2n, Value.slice a2n xs2n.length c2n, Value.bool n2d, Value.slice a2d xs2d.length c2d] 40)))
  clear s1d
  have S2n := hide (s2n.below (bl_alloc (bl_alloc (bl_refl w) (Obj.cells #[Value.bool n1n, Value.slice a1n xs1n.length c1n, Value.bool n1d, Value.slice a1d xs1d.length c1d] 40)) (Obj.cells #[Value.bool n2n, Value.slice a2n xs2n.length c2n, Value.bool n2d, Value.slice a2d xs2d.length c2d] 40)))
  clear s2n
  have S2d := hide (s2d.below (bl_alloc (bl_alloc (bl_refl w) (Obj.cells #[Value.bool n1n, Value.slice a1n xs1n.length c1n, Value.bool n1d, Value.slice a1d xs1d.length c1d] 40)) (Obj.cells #[Value.bool n2n, Value.slice a2n xs2n.length c2n, Value.bool n2d, Value.slice a2d xs2d.length c2d] 40)))
  clear s2d
  have HB := hide (bl_alloc (bl_alloc (bl_refl w) (Obj.cells #[Value.bool n1n, Value.slice a1n xs1n.length c1n, Value.bool n1d, Value.slice a1d xs1d.length c1d] 40)) (Obj.cells #[Value.bool n2n, Value.slice a2n xs2n.length c2n, Value.bool n2d, Value.slice a2d xs2d.length c2d] 40))
  have y0 : w.heap.size + 2 ≤ ((w.alloc (Obj.cells #[Value.bool n1n, Value.slice a1n xs1n.length c1n, Value.bool n1d, Value.slice a1d xs1d.length c1d] 40)).alloc (Obj.cells #[Value.bool n2n, Value.slice a2n xs2n.length c2n, Value.bool n2d, Value.slice a2d xs2d.length c2d] 40)).heap.size := by simp only [World.size_alloc]; omega
  go_enter Try.func5, Try.ntmps5
  go_wp2_with fail
  generalize ((w.alloc (Obj.cells #[Value.bool n1n, Value.slice a1n xs1n.length c1n, Value.bool n1d, Value.slice a1d xs1d.length c1d] 40)).alloc (Obj.cells #[Value.bool n2n, Value.slice a2n xs2n.length c2n, Value.bool n2d, Value.slice a2d xs2d.length c2d] 40)) = w1 at *
  refine (szR n1n a1n xs1n.length c1n n1d a1d xs1d.length c1d (1048576) _ hn1n hn1d (by omega) (by omega)).mono ?_
  rintro e w2 ⟨rfl, hbw2⟩
  have yw2 := hbw2.size
  replace k1_0 := (hbw2.cell (p := ⟨w.heap.size, 0, none⟩) z1).trans k1_0
  replace k1_1 := (hbw2.cell (p := ⟨w.heap.size, 1, none⟩) z1).trans k1_1
  replace k1_2 := (hbw2.cell (p := ⟨w.heap.size, 2, none⟩) z1).trans k1_2
  replace k1_3 := (hbw2.cell (p := ⟨w.heap.size, 3, none⟩) z1).trans k1_3
  replace z1 := Nat.lt_of_lt_of_le z1 hbw2.size
  replace k2_0 := (hbw2.cell (p := ⟨w.heap.size + 1, 0, none⟩) z2).trans k2_0
  replace k2_1 := (hbw2.cell (p := ⟨w.heap.size + 1, 1, none⟩) z2).trans k2_1
  replace k2_2 := (hbw2.cell (p := ⟨w.heap.size + 1, 2, none⟩) z2).trans k2_2
  replace k2_3 := (hbw2.cell (p := ⟨w.heap.size + 1, 3, none⟩) z2).trans k2_3
  replace z2 := Nat.lt_of_lt_of_le z2 hbw2.size
  replace S1n := hide (S1n.out.below hbw2)
  replace S1d := hide (S1d.out.below hbw2)
  replace S2n := hide (S2n.out.below hbw2)
  replace S2d := hide (S2d.out.below hbw2)
  replace HB := hide (bl_trans HB.out hbw2)
  clear hbw2
  by_cases hbig1n : (1048576 : Int) < (xs1n.length : Int)
  · rw [if_pos hbig1n]
    go_wp2
    go_ret
    exact ⟨rfl, HB.out⟩
  rw [if_neg hbig1n]
  by_cases hbig1d : (1048576 - (xs1n.length : Int) : Int) < (xs1d.length : Int)
  · rw [if_pos hbig1d]
    go_wp2
    go_ret
    exact ⟨rfl, HB.out⟩
  rw [if_neg hbig1d]
  go_wp2_with fail
  refine (szR n2n a2n xs2n.length c2n n2d a2d xs2d.length c2d (1048576 - (xs1n.length : Int) - (xs1d.length : Int)) _ hn2n hn2d (by omega) (by omega)).mono ?_
  rintro e w3 ⟨rfl, hbw3⟩
  have yw3 := hbw3.size
  replace k1_0 := (hbw3.cell (p := ⟨w.heap.size, 0, none⟩) z1).trans k1_0
  replace k1_1 := (hbw3.cell (p := ⟨w.heap.size, 1, none⟩) z1).trans k1_1
  replace k1_2 := (hbw3.cell (p := ⟨w.heap.size, 2, none⟩) z1).trans k1_2
  replace k1_3 := (hbw3.cell (p := ⟨w.heap.size, 3, none⟩) z1).trans k1_3
  replace z1 := Nat.lt_of_lt_of_le z1 hbw3.size
  replace k2_0 := (hbw3.cell (p := ⟨w.heap.size + 1, 0, none⟩) z2).trans k2_0
  replace k2_1 := (hbw3.cell (p := ⟨w.heap.size + 1, 1, none⟩) z2).trans k2_1
  replace k2_2 := (hbw3.cell (p := ⟨w.heap.size + 1, 2, none⟩) z2).trans k2_2
  replace k2_3 := (hbw3.cell (p := ⟨w.heap.size + 1, 3, none⟩) z2).trans k2_3
  replace z2 := Nat.lt_of_lt_of_le z2 hbw3.size
  replace S1n := hide (S1n.out.below hbw3)
  replace S1d := hide (S1d.out.below hbw3)
  replace S2n := hide (S2n.out.below hbw3)
  replace S2d := hide (S2d.out.below hbw3)
  replace HB := hide (bl_trans HB.out hbw3)
  clear hbw3
  by_cases hbig2n : (1048576 - (xs1n.length : Int) - (xs1d.length : Int) : Int) < (xs2n.length : Int)
  · rw [if_pos hbig2n]
    go_wp2
    go_ret
    exact ⟨rfl, HB.out⟩
  rw [if_neg hbig2n]
  by_cases hbig2d : (1048576 - (xs1n.length : Int) - (xs1d.length : Int) - (xs2n.length : Int) : Int) < (xs2d.length : Int)
  · rw [if_pos hbig2d]
    go_wp2
    go_ret
    exact ⟨rfl, HB.out⟩
  rw [if_neg hbig2d]
  go_wp2_with fail
  have KP : Hid (∀ w', Below w3.heap.size w3 w' → (w'.cell? ⟨w.heap.size, 0, none⟩ = some (Value.bool n1n) ∧ w'.cell? ⟨w.heap.size, 1, none⟩ = some (Value.slice a1n xs1n.length c1n) ∧ w'.cell? ⟨w.heap.size, 2, none⟩ = some (Value.bool n1d) ∧ w'.cell? ⟨w.heap.size, 3, none⟩ = some (Value.slice a1d xs1d.length c1d) ∧ w'.cell? ⟨w.heap.size + 1, 0, none⟩ = some (Value.bool n2n) ∧ w'.cell? ⟨w.heap.size + 1, 1, none⟩ = some (Value.slice a2n xs2n.length c2n) ∧ w'.cell? ⟨w.heap.size + 1, 2, none⟩ = some (Value.bool n2d) ∧ w'.cell? ⟨w.heap.size + 1, 3, none⟩ = some (Value.slice a2d xs2d.length c2d))) := hide (fun w' hb => ⟨(hb.cell (p := ⟨w.heap.size, 0, none⟩) z1).trans k1_0, (hb.cell (p := ⟨w.heap.size, 1, none⟩) z1).trans k1_1, (hb.cell (p := ⟨w.heap.size, 2, none⟩) z1).trans k1_2, (hb.cell (p := ⟨w.heap.size, 3, none⟩) z1).trans k1_3, (hb.cell (p := ⟨w.heap.size + 1, 0, none⟩) z2).trans k2_0, (hb.cell (p := ⟨w.heap.size + 1, 1, none⟩) z2).trans k2_1, (hb.cell (p := ⟨w.heap.size + 1, 2, none⟩) z2).trans k2_2, (hb.cell (p := ⟨w.heap.size + 1, 3, none⟩) z2).trans k2_3⟩)
  go_region_held3 (fun w' => w'.cell? ⟨w.heap.size, 0, none⟩ = some (Value.bool n1n) ∧ w'.cell? ⟨w.heap.size, 1, none⟩ = some (Value.slice a1n xs1n.length c1n) ∧ w'.cell? ⟨w.heap.size, 2, none⟩ = some (Value.bool n1d) ∧ w'.cell? ⟨w.heap.size, 3, none⟩ = some (Value.slice a1d xs1d.length c1d) ∧ w'.cell? ⟨w.heap.size + 1, 0, none⟩ = some (Value.bool n2n) ∧ w'.cell? ⟨w.heap.size + 1, 1, none⟩ = some (Value.slice a2n xs2n.length c2n) ∧ w'.cell? ⟨w.heap.size + 1, 2, none⟩ = some (Value.bool n2d) ∧ w'.cell? ⟨w.heap.size + 1, 3, none⟩ = some (Value.slice a2d xs2d.length c2d))
    (first | with_reducible exact KP.out _ (bl_refl w3).drew | with_reducible exact KP.out _ hbw6 | with_reducible exact KP.out _ hbw5 | with_reducible exact KP.out _ hbw4)
    (first
      | (go_at_call 19; refine (RatCmpS n1n xs1n n1d xs1d n2n xs2n n2d xs2d aXn cXn aXd cXd aYn cYn aYd cYd _ (hoXn.seg.below hbw5r) (hoXd.seg.below hbw5r) (hoYn.seg) (hoYd.seg)).mono ?_; rintro e w6 ⟨rfl, hbw6r⟩; have hbw6 : Below w3.heap.size w3 w6 := bl_trans hbw5 hbw6r)
      | (have hq := hbw4; go_at_call 20; refine (toR n2n a2n c2n xs2n n2d a2d c2d xs2d _ (S2n.out.below hbw4) (S2d.out.below hbw4) (by omega) (by omega)).mono ?_; rintro e w5 ⟨aYn, cYn, aYd, cYd, rfl, hoYn, hoYd, hapY, hbw5r⟩; have hbw5 : Below w3.heap.size w3 w5 := bl_trans hbw4 hbw5r; clear hq)
      | (go_at_call 20; refine (toR n1n a1n c1n xs1n n1d a1d c1d xs1d _ (S1n.out.below ((bl_refl w3).drew)) (S1d.out.below ((bl_refl w3).drew)) (by omega) (by omega)).mono ?_; rintro e w4 ⟨aXn, cXn, aXd, cXd, rfl, hoXn, hoXd, hapX, hbw4r⟩; have hbw4 : Below w3.heap.size w3 w4 := (bl_refl w3).drew.trans hbw4r))
  clear KP
  have yw6 := hbw6.size
  replace k1_0 := (hbw6.cell (p := ⟨w.heap.size, 0, none⟩) z1).trans k1_0
  replace k1_1 := (hbw6.cell (p := ⟨w.heap.size, 1, none⟩) z1).trans k1_1
  replace k1_2 := (hbw6.cell (p := ⟨w.heap.size, 2, none⟩) z1).trans k1_2
  replace k1_3 := (hbw6.cell (p := ⟨w.heap.size, 3, none⟩) z1).trans k1_3
  replace z1 := Nat.lt_of_lt_of_le z1 hbw6.size
  replace k2_0 := (hbw6.cell (p := ⟨w.heap.size + 1, 0, none⟩) z2).trans k2_0
  replace k2_1 := (hbw6.cell (p := ⟨w.heap.size + 1, 1, none⟩) z2).trans k2_1
  replace k2_2 := (hbw6.cell (p := ⟨w.heap.size + 1, 2, none⟩) z2).trans k2_2
  replace k2_3 := (hbw6.cell (p := ⟨w.heap.size + 1, 3, none⟩) z2).trans k2_3
  replace z2 := Nat.lt_of_lt_of_le z2 hbw6.size
  replace S1n := hide (S1n.out.below hbw6)
  replace S1d := hide (S1d.out.below hbw6)
  replace S2n := hide (S2n.out.below hbw6)
  replace S2d := hide (S2d.out.below hbw6)
  replace HB := hide (bl_trans HB.out hbw6)
  clear hbw4 hbw4r hbw5 hbw5r hbw6 hbw6r hoXn hoXd hoYn hoYd hapX hapY
  go_wp2_with fail
  refine (toR n1n a1n c1n xs1n n1d a1d c1d xs1d _ S1n.out S1d.out (by omega) (by omega)).mono ?_
  rintro e w7 ⟨aPn, cPn, aPd, cPd, rfl, hoPn, hoPd, hapP, hbw7⟩
  have yw7 := hbw7.size
  replace k1_0 := (hbw7.cell (p := ⟨w.heap.size, 0, none⟩) z1).trans k1_0
  replace k1_1 := (hbw7.cell (p := ⟨w.heap.size, 1, none⟩) z1).trans k1_1
  replace k1_2 := (hbw7.cell (p := ⟨w.heap.size, 2, none⟩) z1).trans k1_2
  replace k1_3 := (hbw7.cell (p := ⟨w.heap.size, 3, none⟩) z1).trans k1_3
  replace z1 := Nat.lt_of_lt_of_le z1 hbw7.size
  replace k2_0 := (hbw7.cell (p := ⟨w.heap.size + 1, 0, none⟩) z2).trans k2_0
  replace k2_1 := (hbw7.cell (p := ⟨w.heap.size + 1, 1, none⟩) z2).trans k2_1
  replace k2_2 := (hbw7.cell (p := ⟨w.heap.size + 1, 2, none⟩) z2).trans k2_2
  replace k2_3 := (hbw7.cell (p := ⟨w.heap.size + 1, 3, none⟩) z2).trans k2_3
  replace z2 := Nat.lt_of_lt_of_le z2 hbw7.size
  replace S1n := hide (S1n.out.below hbw7)
  replace S1d := hide (S1d.out.below hbw7)
  replace S2n := hide (S2n.out.below hbw7)
  replace S2d := hide (S2d.out.below hbw7)
  replace HB := hide (bl_trans HB.out hbw7)
  clear hbw7
  have oPn : ∀ k, (Value.slice aPn xs1n.length cPn).ownBlock = some k → w6.heap.size ≤ k ∧ k < w7.heap.size := fun k e => hoPn.1.lt k e
  have HPn := hide hoPn
  clear hoPn
  have oPd : ∀ k, (Value.slice aPd xs1d.length cPd).ownBlock = some k → w6.heap.size ≤ k ∧ k < w7.heap.size := fun k e => hoPd.1.lt k e
  have HPd := hide hoPd
  clear hoPd
  have HAPP := hide hapP
  clear hapP
  go_wp2_with fail
  have kP_0 : (w7.alloc (Obj.cells #[Value.bool n1n, Value.slice aPn xs1n.length cPn, Value.bool n1d, Value.slice aPd xs1d.length cPd] 34)).cell? ⟨w7.heap.size, 0, none⟩ = some (Value.bool n1n) := by go_simp
  have kP_1 : (w7.alloc (Obj.cells #[Value.bool n1n, Value.slice aPn xs1n.length cPn, Value.bool n1d, Value.slice aPd xs1d.length cPd] 34)).cell? ⟨w7.heap.size, 1, none⟩ = some (Value.slice aPn xs1n.length cPn) := by go_simp
  have kP_2 : (w7.alloc (Obj.cells #[Value.bool n1n, Value.slice aPn xs1n.length cPn, Value.bool n1d, Value.slice aPd xs1d.length cPd] 34)).cell? ⟨w7.heap.size, 2, none⟩ = some (Value.bool n1d) := by go_simp
  have kP_3 : (w7.alloc (Obj.cells #[Value.bool n1n, Value.slice aPn xs1n.length cPn, Value.bool n1d, Value.slice aPd xs1d.length cPd] 34)).cell? ⟨w7.heap.size, 3, none⟩ = some (Value.slice aPd xs1d.length cPd) := by go_simp
  have zP : w7.heap.size < (w7.alloc (Obj.cells #[Value.bool n1n, Value.slice aPn xs1n.length cPn, Value.bool n1d, Value.slice aPd xs1d.length cPd] 34)).heap.size := by simp only [World.size_alloc]; omega
  have yw8 : w7.heap.size + 1 ≤ (w7.alloc (Obj.cells #[Value.bool n1n, Value.slice aPn xs1n.length cPn, Value.bool n1d, Value.slice aPd xs1d.length cPd] 34)).heap.size := by simp only [World.size_alloc]; omega
  have hbw8 := (bl_alloc (bl_refl w7) (Obj.cells #[Value.bool n1n, Value.slice aPn xs1n.length cPn, Value.bool n1d, Value.slice aPd xs1d.length cPd] 34))
  generalize (w7.alloc (Obj.cells #[Value.bool n1n, Value.slice aPn xs1n.length cPn, Value.bool n1d, Value.slice aPd xs1d.length cPd] 34)) = w8 at *
  replace k1_0 := (hbw8.cell (p := ⟨w.heap.size, 0, none⟩) z1).trans k1_0
  replace k1_1 := (hbw8.cell (p := ⟨w.heap.size, 1, none⟩) z1).trans k1_1
  replace k1_2 := (hbw8.cell (p := ⟨w.heap.size, 2, none⟩) z1).trans k1_2
  replace k1_3 := (hbw8.cell (p := ⟨w.heap.size, 3, none⟩) z1).trans k1_3
  replace z1 := Nat.lt_of_lt_of_le z1 hbw8.size
  replace k2_0 := (hbw8.cell (p := ⟨w.heap.size + 1, 0, none⟩) z2).trans k2_0
  replace k2_1 := (hbw8.cell (p := ⟨w.heap.size + 1, 1, none⟩) z2).trans k2_1
  replace k2_2 := (hbw8.cell (p := ⟨w.heap.size + 1, 2, none⟩) z2).trans k2_2
  replace k2_3 := (hbw8.cell (p := ⟨w.heap.size + 1, 3, none⟩) z2).trans k2_3
  replace z2 := Nat.lt_of_lt_of_le z2 hbw8.size
  replace S1n := hide (S1n.out.below hbw8)
  replace S1d := hide (S1d.out.below hbw8)
  replace S2n := hide (S2n.out.below hbw8)
  replace S2d := hide (S2d.out.below hbw8)
  replace HPn := hide (HPn.out.below hbw8)
  replace HPd := hide (HPd.out.below hbw8)
  replace HB := hide (bl_trans HB.out hbw8)
  clear hbw8
  refine (toR n2n a2n c2n xs2n n2d a2d c2d xs2d _ S2n.out S2d.out (by omega) (by omega)).mono ?_
  rintro e w9 ⟨aQn, cQn, aQd, cQd, rfl, hoQn, hoQd, hapQ, hbw9⟩
  have yw9 := hbw9.size
  replace k1_0 := (hbw9.cell (p := ⟨w.heap.size, 0, none⟩) z1).trans k1_0
  replace k1_1 := (hbw9.cell (p := ⟨w.heap.size, 1, none⟩) z1).trans k1_1
  replace k1_2 := (hbw9.cell (p := ⟨w.heap.size, 2, none⟩) z1).trans k1_2
  replace k1_3 := (hbw9.cell (p := ⟨w.heap.size, 3, none⟩) z1).trans k1_3
  replace z1 := Nat.lt_of_lt_of_le z1 hbw9.size
  replace k2_0 := (hbw9.cell (p := ⟨w.heap.size + 1, 0, none⟩) z2).trans k2_0
  replace k2_1 := (hbw9.cell (p := ⟨w.heap.size + 1, 1, none⟩) z2).trans k2_1
  replace k2_2 := (hbw9.cell (p := ⟨w.heap.size + 1, 2, none⟩) z2).trans k2_2
  replace k2_3 := (hbw9.cell (p := ⟨w.heap.size + 1, 3, none⟩) z2).trans k2_3
  replace z2 := Nat.lt_of_lt_of_le z2 hbw9.size
  replace kP_0 := (hbw9.cell (p := ⟨w7.heap.size, 0, none⟩) zP).trans kP_0
  replace kP_1 := (hbw9.cell (p := ⟨w7.heap.size, 1, none⟩) zP).trans kP_1
  replace kP_2 := (hbw9.cell (p := ⟨w7.heap.size, 2, none⟩) zP).trans kP_2
  replace kP_3 := (hbw9.cell (p := ⟨w7.heap.size, 3, none⟩) zP).trans kP_3
  replace zP := Nat.lt_of_lt_of_le zP hbw9.size
  replace S1n := hide (S1n.out.below hbw9)
  replace S1d := hide (S1d.out.below hbw9)
  replace S2n := hide (S2n.out.below hbw9)
  replace S2d := hide (S2d.out.below hbw9)
  replace HPn := hide (HPn.out.below hbw9)
  replace HPd := hide (HPd.out.below hbw9)
  replace HB := hide (bl_trans HB.out hbw9)
  clear hbw9
  have oQn : ∀ k, (Value.slice aQn xs2n.length cQn).ownBlock = some k → w8.heap.size ≤ k ∧ k < w9.heap.size := fun k e => hoQn.1.lt k e
  have HQn := hide hoQn
  clear hoQn
  have oQd : ∀ k, (Value.slice aQd xs2d.length cQd).ownBlock = some k → w8.heap.size ≤ k ∧ k < w9.heap.size := fun k e => hoQd.1.lt k e
  have HQd := hide hoQd
  clear hoQd
  have HAPQ := hide hapQ
  clear hapQ
  go_wp2_with fail
  have kQ_0 : (w9.alloc (Obj.cells #[Value.bool n2n, Value.slice aQn xs2n.length cQn, Value.bool n2d, Value.slice aQd xs2d.length cQd] 34)).cell? ⟨w9.heap.size, 0, none⟩ = some (Value.bool n2n) := by go_simp
  have kQ_1 : (w9.alloc (Obj.cells #[Value.bool n2n, Value.slice aQn xs2n.length cQn, Value.bool n2d, Value.slice aQd xs2d.length cQd] 34)).cell? ⟨w9.heap.size, 1, none⟩ = some (Value.slice aQn xs2n.length cQn) := by go_simp
  have kQ_2 : (w9.alloc (Obj.cells #[Value.bool n2n, Value.slice aQn xs2n.length cQn, Value.bool n2d, Value.slice aQd xs2d.length cQd] 34)).cell? ⟨w9.heap.size, 2, none⟩ = some (Value.bool n2d) := by go_simp
  have kQ_3 : (w9.alloc (Obj.cells #[Value.bool n2n, Value.slice aQn xs2n.length cQn, Value.bool n2d, Value.slice aQd xs2d.length cQd] 34)).cell? ⟨w9.heap.size, 3, none⟩ = some (Value.slice aQd xs2d.length cQd) := by go_simp
  have zQ : w9.heap.size < (w9.alloc (Obj.cells #[Value.bool n2n, Value.slice aQn xs2n.length cQn, Value.bool n2d, Value.slice aQd xs2d.length cQd] 34)).heap.size := by simp only [World.size_alloc]; omega
  have yw10 : w9.heap.size + 1 ≤ (w9.alloc (Obj.cells #[Value.bool n2n, Value.slice aQn xs2n.length cQn, Value.bool n2d, Value.slice aQd xs2d.length cQd] 34)).heap.size := by simp only [World.size_alloc]; omega
  have hbw10 := (bl_alloc (bl_refl w9) (Obj.cells #[Value.bool n2n, Value.slice aQn xs2n.length cQn, Value.bool n2d, Value.slice aQd xs2d.length cQd] 34))
  generalize (w9.alloc (Obj.cells #[Value.bool n2n, Value.slice aQn xs2n.length cQn, Value.bool n2d, Value.slice aQd xs2d.length cQd] 34)) = w10 at *
  replace k1_0 := (hbw10.cell (p := ⟨w.heap.size, 0, none⟩) z1).trans k1_0
  replace k1_1 := (hbw10.cell (p := ⟨w.heap.size, 1, none⟩) z1).trans k1_1
  replace k1_2 := (hbw10.cell (p := ⟨w.heap.size, 2, none⟩) z1).trans k1_2
  replace k1_3 := (hbw10.cell (p := ⟨w.heap.size, 3, none⟩) z1).trans k1_3
  replace z1 := Nat.lt_of_lt_of_le z1 hbw10.size
  replace k2_0 := (hbw10.cell (p := ⟨w.heap.size + 1, 0, none⟩) z2).trans k2_0
  replace k2_1 := (hbw10.cell (p := ⟨w.heap.size + 1, 1, none⟩) z2).trans k2_1
  replace k2_2 := (hbw10.cell (p := ⟨w.heap.size + 1, 2, none⟩) z2).trans k2_2
  replace k2_3 := (hbw10.cell (p := ⟨w.heap.size + 1, 3, none⟩) z2).trans k2_3
  replace z2 := Nat.lt_of_lt_of_le z2 hbw10.size
  replace kP_0 := (hbw10.cell (p := ⟨w7.heap.size, 0, none⟩) zP).trans kP_0
  replace kP_1 := (hbw10.cell (p := ⟨w7.heap.size, 1, none⟩) zP).trans kP_1
  replace kP_2 := (hbw10.cell (p := ⟨w7.heap.size, 2, none⟩) zP).trans kP_2
  replace kP_3 := (hbw10.cell (p := ⟨w7.heap.size, 3, none⟩) zP).trans kP_3
  replace zP := Nat.lt_of_lt_of_le zP hbw10.size
  replace S1n := hide (S1n.out.below hbw10)
  replace S1d := hide (S1d.out.below hbw10)
  replace S2n := hide (S2n.out.below hbw10)
  replace S2d := hide (S2d.out.below hbw10)
  replace HPn := hide (HPn.out.below hbw10)
  replace HPd := hide (HPd.out.below hbw10)
  replace HQn := hide (HQn.out.below hbw10)
  replace HQd := hide (HQd.out.below hbw10)
  replace HB := hide (bl_trans HB.out hbw10)
  clear hbw10
  refine (RatCmpI n1n xs1n n1d xs1d n2n xs2n n2d xs2d aPn cPn aPd cPd aQn cQn aQd cQd _ (HPn.out.seg) (HPd.out.seg) (HQn.out.seg) (HQd.out.seg)).mono ?_
  rintro e w11 ⟨rfl, hbw11⟩
  have yw11 := hbw11.size
  replace k1_0 := (hbw11.cell (p := ⟨w.heap.size, 0, none⟩) z1).trans k1_0
  replace k1_1 := (hbw11.cell (p := ⟨w.heap.size, 1, none⟩) z1).trans k1_1
  replace k1_2 := (hbw11.cell (p := ⟨w.heap.size, 2, none⟩) z1).trans k1_2
  replace k1_3 := (hbw11.cell (p := ⟨w.heap.size, 3, none⟩) z1).trans k1_3
  replace z1 := Nat.lt_of_lt_of_le z1 hbw11.size
  replace k2_0 := (hbw11.cell (p := ⟨w.heap.size + 1, 0, none⟩) z2).trans k2_0
  replace k2_1 := (hbw11.cell (p := ⟨w.heap.size + 1, 1, none⟩) z2).trans k2_1
  replace k2_2 := (hbw11.cell (p := ⟨w.heap.size + 1, 2, none⟩) z2).trans k2_2
  replace k2_3 := (hbw11.cell (p := ⟨w.heap.size + 1, 3, none⟩) z2).trans k2_3
  replace z2 := Nat.lt_of_lt_of_le z2 hbw11.size
  replace kP_0 := (hbw11.cell (p := ⟨w7.heap.size, 0, none⟩) zP).trans kP_0
  replace kP_1 := (hbw11.cell (p := ⟨w7.heap.size, 1, none⟩) zP).trans kP_1
  replace kP_2 := (hbw11.cell (p := ⟨w7.heap.size, 2, none⟩) zP).trans kP_2
  replace kP_3 := (hbw11.cell (p := ⟨w7.heap.size, 3, none⟩) zP).trans kP_3
  replace zP := Nat.lt_of_lt_of_le zP hbw11.size
  replace kQ_0 := (hbw11.cell (p := ⟨w9.heap.size, 0, none⟩) zQ).trans kQ_0
  replace kQ_1 := (hbw11.cell (p := ⟨w9.heap.size, 1, none⟩) zQ).trans kQ_1
  replace kQ_2 := (hbw11.cell (p := ⟨w9.heap.size, 2, none⟩) zQ).trans kQ_2
  replace kQ_3 := (hbw11.cell (p := ⟨w9.heap.size, 3, none⟩) zQ).trans kQ_3
  replace zQ := Nat.lt_of_lt_of_le zQ hbw11.size
  replace S1n := hide (S1n.out.below hbw11)
  replace S1d := hide (S1d.out.below hbw11)
  replace S2n := hide (S2n.out.below hbw11)
  replace S2d := hide (S2d.out.below hbw11)
  replace HPn := hide (HPn.out.below hbw11)
  replace HPd := hide (HPd.out.below hbw11)
  replace HQn := hide (HQn.out.below hbw11)
  replace HQd := hide (HQd.out.below hbw11)
  replace HB := hide (bl_trans HB.out hbw11)
  clear hbw11
  go_wp2_with fail
  have KP : Hid (∀ w', Below w11.heap.size w11 w' → (w'.cell? ⟨w.heap.size, 0, none⟩ = some (Value.bool n1n) ∧ w'.cell? ⟨w.heap.size, 1, none⟩ = some (Value.slice a1n xs1n.length c1n) ∧ w'.cell? ⟨w.heap.size, 2, none⟩ = some (Value.bool n1d) ∧ w'.cell? ⟨w.heap.size, 3, none⟩ = some (Value.slice a1d xs1d.length c1d) ∧ w'.cell? ⟨w7.heap.size, 0, none⟩ = some (Value.bool n1n) ∧ w'.cell? ⟨w7.heap.size, 1, none⟩ = some (Value.slice aPn xs1n.length cPn) ∧ w'.cell? ⟨w7.heap.size, 2, none⟩ = some (Value.bool n1d) ∧ w'.cell? ⟨w7.heap.size, 3, none⟩ = some (Value.slice aPd xs1d.length cPd))) := hide (fun w' hb => ⟨(hb.cell (p := ⟨w.heap.size, 0, none⟩) z1).trans k1_0, (hb.cell (p := ⟨w.heap.size, 1, none⟩) z1).trans k1_1, (hb.cell (p := ⟨w.heap.size, 2, none⟩) z1).trans k1_2, (hb.cell (p := ⟨w.heap.size, 3, none⟩) z1).trans k1_3, (hb.cell (p := ⟨w7.heap.size, 0, none⟩) zP).trans kP_0, (hb.cell (p := ⟨w7.heap.size, 1, none⟩) zP).trans kP_1, (hb.cell (p := ⟨w7.heap.size, 2, none⟩) zP).trans kP_2, (hb.cell (p := ⟨w7.heap.size, 3, none⟩) zP).trans kP_3⟩)
  go_region_held3 (fun w' => w'.cell? ⟨w.heap.size, 0, none⟩ = some (Value.bool n1n) ∧ w'.cell? ⟨w.heap.size, 1, none⟩ = some (Value.slice a1n xs1n.length c1n) ∧ w'.cell? ⟨w.heap.size, 2, none⟩ = some (Value.bool n1d) ∧ w'.cell? ⟨w.heap.size, 3, none⟩ = some (Value.slice a1d xs1d.length c1d) ∧ w'.cell? ⟨w7.heap.size, 0, none⟩ = some (Value.bool n1n) ∧ w'.cell? ⟨w7.heap.size, 1, none⟩ = some (Value.slice aPn xs1n.length cPn) ∧ w'.cell? ⟨w7.heap.size, 2, none⟩ = some (Value.bool n1d) ∧ w'.cell? ⟨w7.heap.size, 3, none⟩ = some (Value.slice aPd xs1d.length cPd))
    (first | exact KP.out _ (bl_refl w11).drew | exact KP.out _ hbw13 | exact KP.out _ hbw12)
    (first
      | (go_at_call_of 20 (Value.agg #[Value.bool n1n, Value.slice a1n xs1n.length c1n, Value.bool n1d, Value.slice a1d xs1d.length c1d]); refine (toR n1n a1n c1n xs1n n1d a1d c1d xs1d _ (S1n.out.below ((bl_refl w11).drew)) (S1d.out.below ((bl_refl w11).drew)) (by omega) (by omega)).mono ?_; rintro e w12 ⟨ux, cx, uy, cy, rfl, hox, hoy, hapu, hbw12r⟩; have hbw12 : Below w11.heap.size w11 w12 := (bl_refl w11).drew.trans hbw12r)
      | (go_at_call 15; refine (eqR n1n xs1n n1d xs1d aPn cPn aPd cPd ux cx uy cy _ (HPn.out.seg.below hbw12) (HPd.out.seg.below hbw12) hox.seg hoy.seg).mono ?_; rintro e w13 ⟨rfl, hbw13r⟩; have hbw13 : Below w11.heap.size w11 w13 := bl_trans hbw12 hbw13r))
  clear KP
  have yw13 := hbw13.size
  replace k1_0 := (hbw13.cell (p := ⟨w.heap.size, 0, none⟩) z1).trans k1_0
  replace k1_1 := (hbw13.cell (p := ⟨w.heap.size, 1, none⟩) z1).trans k1_1
  replace k1_2 := (hbw13.cell (p := ⟨w.heap.size, 2, none⟩) z1).trans k1_2
  replace k1_3 := (hbw13.cell (p := ⟨w.heap.size, 3, none⟩) z1).trans k1_3
  replace z1 := Nat.lt_of_lt_of_le z1 hbw13.size
  replace k2_0 := (hbw13.cell (p := ⟨w.heap.size + 1, 0, none⟩) z2).trans k2_0
  replace k2_1 := (hbw13.cell (p := ⟨w.heap.size + 1, 1, none⟩) z2).trans k2_1
  replace k2_2 := (hbw13.cell (p := ⟨w.heap.size + 1, 2, none⟩) z2).trans k2_2
  replace k2_3 := (hbw13.cell (p := ⟨w.heap.size + 1, 3, none⟩) z2).trans k2_3
  replace z2 := Nat.lt_of_lt_of_le z2 hbw13.size
  replace kP_0 := (hbw13.cell (p := ⟨w7.heap.size, 0, none⟩) zP).trans kP_0
  replace kP_1 := (hbw13.cell (p := ⟨w7.heap.size, 1, none⟩) zP).trans kP_1
  replace kP_2 := (hbw13.cell (p := ⟨w7.heap.size, 2, none⟩) zP).trans kP_2
  replace kP_3 := (hbw13.cell (p := ⟨w7.heap.size, 3, none⟩) zP).trans kP_3
  replace zP := Nat.lt_of_lt_of_le zP hbw13.size
  replace kQ_0 := (hbw13.cell (p := ⟨w9.heap.size, 0, none⟩) zQ).trans kQ_0
  replace kQ_1 := (hbw13.cell (p := ⟨w9.heap.size, 1, none⟩) zQ).trans kQ_1
  replace kQ_2 := (hbw13.cell (p := ⟨w9.heap.size, 2, none⟩) zQ).trans kQ_2
  replace kQ_3 := (hbw13.cell (p := ⟨w9.heap.size, 3, none⟩) zQ).trans kQ_3
  replace zQ := Nat.lt_of_lt_of_le zQ hbw13.size
  replace S1n := hide (S1n.out.below hbw13)
  replace S1d := hide (S1d.out.below hbw13)
  replace S2n := hide (S2n.out.below hbw13)
  replace S2d := hide (S2d.out.below hbw13)
  replace HPn := hide (HPn.out.below hbw13)
  replace HPd := hide (HPd.out.below hbw13)
  replace HQn := hide (HQn.out.below hbw13)
  replace HQd := hide (HQd.out.below hbw13)
  replace HB := hide (bl_trans HB.out hbw13)
  clear hbw12 hbw12r hbw13 hbw13r hox hoy hapu
  go_wp2_with fail
  have KP : Hid (∀ w', Below w13.heap.size w13 w' → (w'.cell? ⟨w.heap.size + 1, 0, none⟩ = some (Value.bool n2n) ∧ w'.cell? ⟨w.heap.size + 1, 1, none⟩ = some (Value.slice a2n xs2n.length c2n) ∧ w'.cell? ⟨w.heap.size + 1, 2, none⟩ = some (Value.bool n2d) ∧ w'.cell? ⟨w.heap.size + 1, 3, none⟩ = some (Value.slice a2d xs2d.length c2d) ∧ w'.cell? ⟨w9.heap.size, 0, none⟩ = some (Value.bool n2n) ∧ w'.cell? ⟨w9.heap.size, 1, none⟩ = some (Value.slice aQn xs2n.length cQn) ∧ w'.cell? ⟨w9.heap.size, 2, none⟩ = some (Value.bool n2d) ∧ w'.cell? ⟨w9.heap.size, 3, none⟩ = some (Value.slice aQd xs2d.length cQd))) := hide (fun w' hb => ⟨(hb.cell (p := ⟨w.heap.size + 1, 0, none⟩) z2).trans k2_0, (hb.cell (p := ⟨w.heap.size + 1, 1, none⟩) z2).trans k2_1, (hb.cell (p := ⟨w.heap.size + 1, 2, none⟩) z2).trans k2_2, (hb.cell (p := ⟨w.heap.size + 1, 3, none⟩) z2).trans k2_3, (hb.cell (p := ⟨w9.heap.size, 0, none⟩) zQ).trans kQ_0, (hb.cell (p := ⟨w9.heap.size, 1, none⟩) zQ).trans kQ_1, (hb.cell (p := ⟨w9.heap.size, 2, none⟩) zQ).trans kQ_2, (hb.cell (p := ⟨w9.heap.size, 3, none⟩) zQ).trans kQ_3⟩)
  go_region_held3 (fun w' => w'.cell? ⟨w.heap.size + 1, 0, none⟩ = some (Value.bool n2n) ∧ w'.cell? ⟨w.heap.size + 1, 1, none⟩ = some (Value.slice a2n xs2n.length c2n) ∧ w'.cell? ⟨w.heap.size + 1, 2, none⟩ = some (Value.bool n2d) ∧ w'.cell? ⟨w.heap.size + 1, 3, none⟩ = some (Value.slice a2d xs2d.length c2d) ∧ w'.cell? ⟨w9.heap.size, 0, none⟩ = some (Value.bool n2n) ∧ w'.cell? ⟨w9.heap.size, 1, none⟩ = some (Value.slice aQn xs2n.length cQn) ∧ w'.cell? ⟨w9.heap.size, 2, none⟩ = some (Value.bool n2d) ∧ w'.cell? ⟨w9.heap.size, 3, none⟩ = some (Value.slice aQd xs2d.length cQd))
    (first | exact KP.out _ (bl_refl w13).drew | exact KP.out _ hbw15 | exact KP.out _ hbw14)
    (first
      | (go_at_call_of 20 (Value.agg #[Value.bool n2n, Value.slice a2n xs2n.length c2n, Value.bool n2d, Value.slice a2d xs2d.length c2d]); refine (toR n2n a2n c2n xs2n n2d a2d c2d xs2d _ (S2n.out.below ((bl_refl w13).drew)) (S2d.out.below ((bl_refl w13).drew)) (by omega) (by omega)).mono ?_; rintro e w14 ⟨ux, cx, uy, cy, rfl, hox, hoy, hapu, hbw14r⟩; have hbw14 : Below w13.heap.size w13 w14 := (bl_refl w13).drew.trans hbw14r)
      | (go_at_call 15; refine (eqR n2n xs2n n2d xs2d aQn cQn aQd cQd ux cx uy cy _ (HQn.out.seg.below hbw14) (HQd.out.seg.below hbw14) hox.seg hoy.seg).mono ?_; rintro e w15 ⟨rfl, hbw15r⟩; have hbw15 : Below w13.heap.size w13 w15 := bl_trans hbw14 hbw15r))
  clear KP
  have yw15 := hbw15.size
  replace k1_0 := (hbw15.cell (p := ⟨w.heap.size, 0, none⟩) z1).trans k1_0
  replace k1_1 := (hbw15.cell (p := ⟨w.heap.size, 1, none⟩) z1).trans k1_1
  replace k1_2 := (hbw15.cell (p := ⟨w.heap.size, 2, none⟩) z1).trans k1_2
  replace k1_3 := (hbw15.cell (p := ⟨w.heap.size, 3, none⟩) z1).trans k1_3
  replace z1 := Nat.lt_of_lt_of_le z1 hbw15.size
  replace k2_0 := (hbw15.cell (p := ⟨w.heap.size + 1, 0, none⟩) z2).trans k2_0
  replace k2_1 := (hbw15.cell (p := ⟨w.heap.size + 1, 1, none⟩) z2).trans k2_1
  replace k2_2 := (hbw15.cell (p := ⟨w.heap.size + 1, 2, none⟩) z2).trans k2_2
  replace k2_3 := (hbw15.cell (p := ⟨w.heap.size + 1, 3, none⟩) z2).trans k2_3
  replace z2 := Nat.lt_of_lt_of_le z2 hbw15.size
  replace kP_0 := (hbw15.cell (p := ⟨w7.heap.size, 0, none⟩) zP).trans kP_0
  replace kP_1 := (hbw15.cell (p := ⟨w7.heap.size, 1, none⟩) zP).trans kP_1
  replace kP_2 := (hbw15.cell (p := ⟨w7.heap.size, 2, none⟩) zP).trans kP_2
  replace kP_3 := (hbw15.cell (p := ⟨w7.heap.size, 3, none⟩) zP).trans kP_3
  replace zP := Nat.lt_of_lt_of_le zP hbw15.size
  replace kQ_0 := (hbw15.cell (p := ⟨w9.heap.size, 0, none⟩) zQ).trans kQ_0
  replace kQ_1 := (hbw15.cell (p := ⟨w9.heap.size, 1, none⟩) zQ).trans kQ_1
  replace kQ_2 := (hbw15.cell (p := ⟨w9.heap.size, 2, none⟩) zQ).trans kQ_2
  replace kQ_3 := (hbw15.cell (p := ⟨w9.heap.size, 3, none⟩) zQ).trans kQ_3
  replace zQ := Nat.lt_of_lt_of_le zQ hbw15.size
  replace S1n := hide (S1n.out.below hbw15)
  replace S1d := hide (S1d.out.below hbw15)
  replace S2n := hide (S2n.out.below hbw15)
  replace S2d := hide (S2d.out.below hbw15)
  replace HPn := hide (HPn.out.below hbw15)
  replace HPd := hide (HPd.out.below hbw15)
  replace HQn := hide (HQn.out.below hbw15)
  replace HQd := hide (HQd.out.below hbw15)
  replace HB := hide (bl_trans HB.out hbw15)
  clear hbw14 hbw14r hbw15 hbw15r hox hoy hapu
  go_wp2_with fail
  go_wp2
  go_ret
  exact ⟨rfl, HB.out⟩
end Go.Proofs.Ytgfmiehmhbbikaa
