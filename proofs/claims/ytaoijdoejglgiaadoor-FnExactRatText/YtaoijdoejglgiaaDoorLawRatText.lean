/- The walk of the exact law of RatText. -/
import Derived.Test.YtaoijdoejglgiaaDoorPk27
import Derived.Test.YtaoijdoejglgiaaDoorPk17
namespace Go.Proofs.YtaoijdoejglgiaaDoor
open Go.RowKit
set_option linter.unusedVariables false


set_option maxHeartbeats 40000000 in
set_option maxRecDepth 20000 in
theorem walk4 (n1n : Bool) (a1n : Option Addr) (c1n : Nat) (xs1n : List Nat) (n1d : Bool) (a1d : Option Addr) (c1d : Nat) (xs1d : List Nat) (w : World) (s1n : Seg w a1n xs1n.length c1n xs1n) (s1d : Seg w a1d xs1d.length c1d xs1d) (htab : Tabs w) :
    Calls Tryd.prog 4 #[Value.agg #[Value.bool n1n, Value.slice a1n xs1n.length c1n, Value.bool n1d, Value.slice a1d xs1d.length c1d]] w fun e w' => e = .returned (.bool true) ∧ Below w.heap.size w w' := by
  have HT := hide htab
  clear htab
  have A1n := hide s1n
  have hn1n := s1n.le
  have A1d := hide s1d
  have hn1d := s1d.le
  have k1_0 : (w.alloc (Obj.cells #[Value.bool n1n, Value.slice a1n xs1n.length c1n, Value.bool n1d, Value.slice a1d xs1d.length c1d] 32)).cell? ⟨w.heap.size, 0, none⟩ = some (Value.bool n1n) := by go_simp
  have k1_1 : (w.alloc (Obj.cells #[Value.bool n1n, Value.slice a1n xs1n.length c1n, Value.bool n1d, Value.slice a1d xs1d.length c1d] 32)).cell? ⟨w.heap.size, 1, none⟩ = some (Value.slice a1n xs1n.length c1n) := by go_simp
  have k1_2 : (w.alloc (Obj.cells #[Value.bool n1n, Value.slice a1n xs1n.length c1n, Value.bool n1d, Value.slice a1d xs1d.length c1d] 32)).cell? ⟨w.heap.size, 2, none⟩ = some (Value.bool n1d) := by go_simp
  have k1_3 : (w.alloc (Obj.cells #[Value.bool n1n, Value.slice a1n xs1n.length c1n, Value.bool n1d, Value.slice a1d xs1d.length c1d] 32)).cell? ⟨w.heap.size, 3, none⟩ = some (Value.slice a1d xs1d.length c1d) := by go_simp
  have z1 : w.heap.size < (w.alloc (Obj.cells #[Value.bool n1n, Value.slice a1n xs1n.length c1n, Value.bool n1d, Value.slice a1d xs1d.length c1d] 32)).heap.size := by simp only [World.size_alloc]; omega
  have S1n := hide (s1n.below (bl_alloc (bl_refl w) (Obj.cells #[Value.bool n1n, Value.slice a1n xs1n.length c1n, Value.bool n1d, Value.slice a1d xs1d.length c1d] 32)))
  clear s1n
  have S1d := hide (s1d.below (bl_alloc (bl_refl w) (Obj.cells #[Value.bool n1n, Value.slice a1n xs1n.length c1n, Value.bool n1d, Value.slice a1d xs1d.length c1d] 32)))
  clear s1d
  have HB := hide (bl_alloc (bl_refl w) (Obj.cells #[Value.bool n1n, Value.slice a1n xs1n.length c1n, Value.bool n1d, Value.slice a1d xs1d.length c1d] 32))
  have y0 : w.heap.size + 1 ≤ (w.alloc (Obj.cells #[Value.bool n1n, Value.slice a1n xs1n.length c1n, Value.bool n1d, Value.slice a1d xs1d.length c1d] 32)).heap.size := by simp only [World.size_alloc]; omega
  go_enter Tryd.func4, Tryd.ntmps4
  go_wp2_with fail
  generalize (w.alloc (Obj.cells #[Value.bool n1n, Value.slice a1n xs1n.length c1n, Value.bool n1d, Value.slice a1d xs1d.length c1d] 32)) = w1 at *
  refine (szR n1n a1n xs1n.length c1n n1d a1d xs1d.length c1d (1048576) _ hn1n hn1d (by omega) (by omega)).mono ?_
  rintro e w2 ⟨rfl, hbw2⟩
  have yw2 := hbw2.size
  replace k1_0 := (hbw2.cell (p := ⟨w.heap.size, 0, none⟩) z1).trans k1_0
  replace k1_1 := (hbw2.cell (p := ⟨w.heap.size, 1, none⟩) z1).trans k1_1
  replace k1_2 := (hbw2.cell (p := ⟨w.heap.size, 2, none⟩) z1).trans k1_2
  replace k1_3 := (hbw2.cell (p := ⟨w.heap.size, 3, none⟩) z1).trans k1_3
  replace z1 := Nat.lt_of_lt_of_le z1 hbw2.size
  replace S1n := hide (S1n.out.below hbw2)
  replace S1d := hide (S1d.out.below hbw2)
  replace HB := hide (bl_trans HB.out hbw2)
  clear hbw2
  by_cases hbig1n : (1048576 : Int) < (xs1n.length : Int)
  · rw [if_pos hbig1n]
    go_wp2
    go_ret
    exact ⟨rfl, HB.out⟩
  rw [if_neg hbig1n]
  by_cases hbig1d : (1048576 - (xs1n.length : Int) : Int) < (xs1d.length : Int)
  · rw [if_pos hbig1d]
    go_wp2
    go_ret
    exact ⟨rfl, HB.out⟩
  rw [if_neg hbig1d]
  go_wp2_with fail
  refine (toR n1n a1n c1n xs1n n1d a1d c1d xs1d _ S1n.out S1d.out (by omega) (by omega)).mono ?_
  rintro e w3 ⟨auWn, cuWn, auWd, cuWd, rfl, houWn, houWd, hapuW, hbw3⟩
  have yw3 := hbw3.size
  replace k1_0 := (hbw3.cell (p := ⟨w.heap.size, 0, none⟩) z1).trans k1_0
  replace k1_1 := (hbw3.cell (p := ⟨w.heap.size, 1, none⟩) z1).trans k1_1
  replace k1_2 := (hbw3.cell (p := ⟨w.heap.size, 2, none⟩) z1).trans k1_2
  replace k1_3 := (hbw3.cell (p := ⟨w.heap.size, 3, none⟩) z1).trans k1_3
  replace z1 := Nat.lt_of_lt_of_le z1 hbw3.size
  replace S1n := hide (S1n.out.below hbw3)
  replace S1d := hide (S1d.out.below hbw3)
  replace HB := hide (bl_trans HB.out hbw3)
  clear hbw3
  have HuWn := hide houWn.seg
  clear houWn
  have HuWd := hide houWd.seg
  clear houWd
  clear hapuW
  go_wp2_with fail
  refine (ratTextS n1n xs1n n1d xs1d auWn cuWn auWd cuWd _ (HuWn.out) (HuWd.out)).mono ?_
  rintro e w4 ⟨rfl, hbw4⟩
  have yw4 := hbw4.size
  replace k1_0 := (hbw4.cell (p := ⟨w.heap.size, 0, none⟩) z1).trans k1_0
  replace k1_1 := (hbw4.cell (p := ⟨w.heap.size, 1, none⟩) z1).trans k1_1
  replace k1_2 := (hbw4.cell (p := ⟨w.heap.size, 2, none⟩) z1).trans k1_2
  replace k1_3 := (hbw4.cell (p := ⟨w.heap.size, 3, none⟩) z1).trans k1_3
  replace z1 := Nat.lt_of_lt_of_le z1 hbw4.size
  replace S1n := hide (S1n.out.below hbw4)
  replace S1d := hide (S1d.out.below hbw4)
  replace HuWn := hide (HuWn.out.below hbw4)
  replace HuWd := hide (HuWd.out.below hbw4)
  replace HB := hide (bl_trans HB.out hbw4)
  clear hbw4
  clear HuWn
  clear HuWd
  go_wp2_with fail
  refine (toR n1n a1n c1n xs1n n1d a1d c1d xs1d _ S1n.out S1d.out (by omega) (by omega)).mono ?_
  rintro e w5 ⟨aPn, cPn, aPd, cPd, rfl, hoPn, hoPd, hapP, hbw5⟩
  have yw5 := hbw5.size
  replace k1_0 := (hbw5.cell (p := ⟨w.heap.size, 0, none⟩) z1).trans k1_0
  replace k1_1 := (hbw5.cell (p := ⟨w.heap.size, 1, none⟩) z1).trans k1_1
  replace k1_2 := (hbw5.cell (p := ⟨w.heap.size, 2, none⟩) z1).trans k1_2
  replace k1_3 := (hbw5.cell (p := ⟨w.heap.size, 3, none⟩) z1).trans k1_3
  replace z1 := Nat.lt_of_lt_of_le z1 hbw5.size
  replace S1n := hide (S1n.out.below hbw5)
  replace S1d := hide (S1d.out.below hbw5)
  replace HB := hide (bl_trans HB.out hbw5)
  clear hbw5
  have oPn : ∀ k, (Value.slice aPn xs1n.length cPn).ownBlock = some k → w4.heap.size ≤ k ∧ k < w5.heap.size := fun k e => hoPn.1.lt k e
  have HPn := hide hoPn
  clear hoPn
  have oPd : ∀ k, (Value.slice aPd xs1d.length cPd).ownBlock = some k → w4.heap.size ≤ k ∧ k < w5.heap.size := fun k e => hoPd.1.lt k e
  have HPd := hide hoPd
  clear hoPd
  have HAPP := hide hapP
  clear hapP
  go_wp2_with fail
  have kP_0 : (w5.alloc (Obj.cells #[Value.bool n1n, Value.slice aPn xs1n.length cPn, Value.bool n1d, Value.slice aPd xs1d.length cPd] 36)).cell? ⟨w5.heap.size, 0, none⟩ = some (Value.bool n1n) := by go_simp
  have kP_1 : (w5.alloc (Obj.cells #[Value.bool n1n, Value.slice aPn xs1n.length cPn, Value.bool n1d, Value.slice aPd xs1d.length cPd] 36)).cell? ⟨w5.heap.size, 1, none⟩ = some (Value.slice aPn xs1n.length cPn) := by go_simp
  have kP_2 : (w5.alloc (Obj.cells #[Value.bool n1n, Value.slice aPn xs1n.length cPn, Value.bool n1d, Value.slice aPd xs1d.length cPd] 36)).cell? ⟨w5.heap.size, 2, none⟩ = some (Value.bool n1d) := by go_simp
  have kP_3 : (w5.alloc (Obj.cells #[Value.bool n1n, Value.slice aPn xs1n.length cPn, Value.bool n1d, Value.slice aPd xs1d.length cPd] 36)).cell? ⟨w5.heap.size, 3, none⟩ = some (Value.slice aPd xs1d.length cPd) := by go_simp
  have zP : w5.heap.size < (w5.alloc (Obj.cells #[Value.bool n1n, Value.slice aPn xs1n.length cPn, Value.bool n1d, Value.slice aPd xs1d.length cPd] 36)).heap.size := by simp only [World.size_alloc]; omega
  have yw6 : w5.heap.size + 1 ≤ (w5.alloc (Obj.cells #[Value.bool n1n, Value.slice aPn xs1n.length cPn, Value.bool n1d, Value.slice aPd xs1d.length cPd] 36)).heap.size := by simp only [World.size_alloc]; omega
  have hbw6 := (bl_alloc (bl_refl w5) (Obj.cells #[Value.bool n1n, Value.slice aPn xs1n.length cPn, Value.bool n1d, Value.slice aPd xs1d.length cPd] 36))
  generalize (w5.alloc (Obj.cells #[Value.bool n1n, Value.slice aPn xs1n.length cPn, Value.bool n1d, Value.slice aPd xs1d.length cPd] 36)) = w6 at *
  replace k1_0 := (hbw6.cell (p := ⟨w.heap.size, 0, none⟩) z1).trans k1_0
  replace k1_1 := (hbw6.cell (p := ⟨w.heap.size, 1, none⟩) z1).trans k1_1
  replace k1_2 := (hbw6.cell (p := ⟨w.heap.size, 2, none⟩) z1).trans k1_2
  replace k1_3 := (hbw6.cell (p := ⟨w.heap.size, 3, none⟩) z1).trans k1_3
  replace z1 := Nat.lt_of_lt_of_le z1 hbw6.size
  replace S1n := hide (S1n.out.below hbw6)
  replace S1d := hide (S1d.out.below hbw6)
  replace HPn := hide (HPn.out.below hbw6)
  replace HPd := hide (HPd.out.below hbw6)
  replace HB := hide (bl_trans HB.out hbw6)
  clear hbw6
  refine (ratTextI n1n xs1n n1d xs1d aPn cPn aPd cPd _ (HPn.out.seg) (HPd.out.seg) (HT.out.below HB.out)).mono ?_
  rintro e w7 ⟨rfl, hbw7⟩
  have yw7 := hbw7.size
  replace k1_0 := (hbw7.cell (p := ⟨w.heap.size, 0, none⟩) z1).trans k1_0
  replace k1_1 := (hbw7.cell (p := ⟨w.heap.size, 1, none⟩) z1).trans k1_1
  replace k1_2 := (hbw7.cell (p := ⟨w.heap.size, 2, none⟩) z1).trans k1_2
  replace k1_3 := (hbw7.cell (p := ⟨w.heap.size, 3, none⟩) z1).trans k1_3
  replace z1 := Nat.lt_of_lt_of_le z1 hbw7.size
  replace kP_0 := (hbw7.cell (p := ⟨w5.heap.size, 0, none⟩) zP).trans kP_0
  replace kP_1 := (hbw7.cell (p := ⟨w5.heap.size, 1, none⟩) zP).trans kP_1
  replace kP_2 := (hbw7.cell (p := ⟨w5.heap.size, 2, none⟩) zP).trans kP_2
  replace kP_3 := (hbw7.cell (p := ⟨w5.heap.size, 3, none⟩) zP).trans kP_3
  replace zP := Nat.lt_of_lt_of_le zP hbw7.size
  replace S1n := hide (S1n.out.below hbw7)
  replace S1d := hide (S1d.out.below hbw7)
  replace HPn := hide (HPn.out.below hbw7)
  replace HPd := hide (HPd.out.below hbw7)
  replace HB := hide (bl_trans HB.out hbw7)
  clear hbw7
  go_wp2_with fail
  have KP : Hid (∀ w', Below w7.heap.size w7 w' → (w'.cell? ⟨w.heap.size, 0, none⟩ = some (Value.bool n1n) ∧ w'.cell? ⟨w.heap.size, 1, none⟩ = some (Value.slice a1n xs1n.length c1n) ∧ w'.cell? ⟨w.heap.size, 2, none⟩ = some (Value.bool n1d) ∧ w'.cell? ⟨w.heap.size, 3, none⟩ = some (Value.slice a1d xs1d.length c1d) ∧ w'.cell? ⟨w5.heap.size, 0, none⟩ = some (Value.bool n1n) ∧ w'.cell? ⟨w5.heap.size, 1, none⟩ = some (Value.slice aPn xs1n.length cPn) ∧ w'.cell? ⟨w5.heap.size, 2, none⟩ = some (Value.bool n1d) ∧ w'.cell? ⟨w5.heap.size, 3, none⟩ = some (Value.slice aPd xs1d.length cPd))) := hide (fun w' hb => ⟨(hb.cell (p := ⟨w.heap.size, 0, none⟩) z1).trans k1_0, (hb.cell (p := ⟨w.heap.size, 1, none⟩) z1).trans k1_1, (hb.cell (p := ⟨w.heap.size, 2, none⟩) z1).trans k1_2, (hb.cell (p := ⟨w.heap.size, 3, none⟩) z1).trans k1_3, (hb.cell (p := ⟨w5.heap.size, 0, none⟩) zP).trans kP_0, (hb.cell (p := ⟨w5.heap.size, 1, none⟩) zP).trans kP_1, (hb.cell (p := ⟨w5.heap.size, 2, none⟩) zP).trans kP_2, (hb.cell (p := ⟨w5.heap.size, 3, none⟩) zP).trans kP_3⟩)
  go_region_held3 (fun w' => w'.cell? ⟨w.heap.size, 0, none⟩ = some (Value.bool n1n) ∧ w'.cell? ⟨w.heap.size, 1, none⟩ = some (Value.slice a1n xs1n.length c1n) ∧ w'.cell? ⟨w.heap.size, 2, none⟩ = some (Value.bool n1d) ∧ w'.cell? ⟨w.heap.size, 3, none⟩ = some (Value.slice a1d xs1d.length c1d) ∧ w'.cell? ⟨w5.heap.size, 0, none⟩ = some (Value.bool n1n) ∧ w'.cell? ⟨w5.heap.size, 1, none⟩ = some (Value.slice aPn xs1n.length cPn) ∧ w'.cell? ⟨w5.heap.size, 2, none⟩ = some (Value.bool n1d) ∧ w'.cell? ⟨w5.heap.size, 3, none⟩ = some (Value.slice aPd xs1d.length cPd))
    (first | exact KP.out _ (bl_refl w7).drew | exact KP.out _ hbw9 | exact KP.out _ hbw8)
    (first
      | (go_at_call_of 12 (Value.agg #[Value.bool n1n, Value.slice a1n xs1n.length c1n, Value.bool n1d, Value.slice a1d xs1d.length c1d]); refine (toR n1n a1n c1n xs1n n1d a1d c1d xs1d _ (S1n.out.below ((bl_refl w7).drew)) (S1d.out.below ((bl_refl w7).drew)) (by omega) (by omega)).mono ?_; rintro e w8 ⟨ux, cx, uy, cy, rfl, hox, hoy, hapu, hbw8r⟩; have hbw8 : Below w7.heap.size w7 w8 := (bl_refl w7).drew.trans hbw8r)
      | (go_at_call 14; refine (eqR n1n xs1n n1d xs1d aPn cPn aPd cPd ux cx uy cy _ (HPn.out.seg.below hbw8) (HPd.out.seg.below hbw8) hox.seg hoy.seg).mono ?_; rintro e w9 ⟨rfl, hbw9r⟩; have hbw9 : Below w7.heap.size w7 w9 := bl_trans hbw8 hbw9r))
  clear KP
  have yw9 := hbw9.size
  replace k1_0 := (hbw9.cell (p := ⟨w.heap.size, 0, none⟩) z1).trans k1_0
  replace k1_1 := (hbw9.cell (p := ⟨w.heap.size, 1, none⟩) z1).trans k1_1
  replace k1_2 := (hbw9.cell (p := ⟨w.heap.size, 2, none⟩) z1).trans k1_2
  replace k1_3 := (hbw9.cell (p := ⟨w.heap.size, 3, none⟩) z1).trans k1_3
  replace z1 := Nat.lt_of_lt_of_le z1 hbw9.size
  replace kP_0 := (hbw9.cell (p := ⟨w5.heap.size, 0, none⟩) zP).trans kP_0
  replace kP_1 := (hbw9.cell (p := ⟨w5.heap.size, 1, none⟩) zP).trans kP_1
  replace kP_2 := (hbw9.cell (p := ⟨w5.heap.size, 2, none⟩) zP).trans kP_2
  replace kP_3 := (hbw9.cell (p := ⟨w5.heap.size, 3, none⟩) zP).trans kP_3
  replace zP := Nat.lt_of_lt_of_le zP hbw9.size
  replace S1n := hide (S1n.out.below hbw9)
  replace S1d := hide (S1d.out.below hbw9)
  replace HPn := hide (HPn.out.below hbw9)
  replace HPd := hide (HPd.out.below hbw9)
  replace HB := hide (bl_trans HB.out hbw9)
  clear hbw8 hbw8r hbw9 hbw9r hox hoy hapu
  go_wp2_with fail
  go_wp2
  go_ret
  exact ⟨rfl, HB.out⟩
end Go.Proofs.YtaoijdoejglgiaaDoor
