/- The walk of the exact law of MakeRat. -/
import Derived.Test.YtemjkgegbpkeoaaPk37
import Derived.Test.YtemjkgegbpkeoaaPk39
import Derived.Test.YtemjkgegbpkeoaaPk18
namespace Go.Proofs.Ytemjkgegbpkeoaa
open Go.RowKit
set_option linter.unusedVariables false


set_option maxHeartbeats 40000000 in
set_option maxRecDepth 20000 in
theorem walk3 (n1 : Bool) (a1 : Option Addr) (c1 : Nat) (xs1 : List Nat) (n2 : Bool) (a2 : Option Addr) (c2 : Nat) (xs2 : List Nat) (w : World) (s1 : Seg w a1 xs1.length c1 xs1) (s2 : Seg w a2 xs2.length c2 xs2) :
    Calls Try.prog 3 #[Value.agg #[Value.bool n1, Value.slice a1 xs1.length c1], Value.agg #[Value.bool n2, Value.slice a2 xs2.length c2]] w fun e w' => e = .returned (.bool true) ∧ Below w.heap.size w w' := by
  have hL0 : (lms (rtN (okB n1 xs1 && okB n2 xs2) (mk n1 (Num.nat xs1)) (mk n2 (Num.nat xs2)))).length ≤ 40 := rtN_len _ _ _
  have hL1 : (lms (rtD (okB n1 xs1 && okB n2 xs2) (mk n1 (Num.nat xs1)) (mk n2 (Num.nat xs2)))).length ≤ 40 := rtD_len _ _ _
  have A1 := hide s1
  have hn1 := s1.le
  have A2 := hide s2
  have hn2 := s2.le
  have k1_0 : ((w.alloc (Obj.cells #[Value.bool n1, Value.slice a1 xs1.length c1] 24)).alloc (Obj.cells #[Value.bool n2, Value.slice a2 xs2.length c2] 24)).cell? ⟨w.heap.size, 0, none⟩ = some (Value.bool n1) := by go_simp
  have k1_1 : ((w.alloc (Obj.cells #[Value.bool n1, Value.slice a1 xs1.length c1] 24)).alloc (Obj.cells #[Value.bool n2, Value.slice a2 xs2.length c2] 24)).cell? ⟨w.heap.size, 1, none⟩ = some (Value.slice a1 xs1.length c1) := by go_simp
  have z1 : w.heap.size < ((w.alloc (Obj.cells #[Value.bool n1, Value.slice a1 xs1.length c1] 24)).alloc (Obj.cells #[Value.bool n2, Value.slice a2 xs2.length c2] 24)).heap.size := by simp only [World.size_alloc]; omega
  have k2_0 : ((w.alloc (Obj.cells #[Value.bool n1, Value.slice a1 xs1.length c1] 24)).alloc (Obj.cells #[Value.bool n2, Value.slice a2 xs2.length c2] 24)).cell? ⟨w.heap.size + 1, 0, none⟩ = some (Value.bool n2) := by go_simp
  have k2_1 : ((w.alloc (Obj.cells #[Value.bool n1, Value.slice a1 xs1.length c1] 24)).alloc (Obj.cells #[Value.bool n2, Value.slice a2 xs2.length c2] 24)).cell? ⟨w.heap.size + 1, 1, none⟩ = some (Value.slice a2 xs2.length c2) := by go_simp
  have z2 : w.heap.size + 1 < ((w.alloc (Obj.cells #[Value.bool n1, Value.slice a1 xs1.length c1] 24)).alloc (Obj.cells #[Value.bool n2, Value.slice a2 xs2.length c2] 24)).heap.size := by simp only [World.size_alloc]; omega
  have S1 := hide (s1.below (bl_alloc (bl_alloc (bl_refl w) (Obj.cells #[Value.bool n1, Value.slice a1 xs1.length c1] 24)) (Obj.cells #[Value.bool n2, Value.slice a2 xs2.length c2] 24)))
  clear s1
  have S2 := hide (s2.below (bl_alloc (bl_alloc (bl_refl w) (Obj.cells #[Value.bool n1, Value.slice a1 xs1.length c1] 24)) (Obj.cells #[Value.bool n2, Value.slice a2 xs2.length c2] 24)))
  clear s2
  have HB := hide (bl_alloc (bl_alloc (bl_refl w) (Obj.cells #[Value.bool n1, Value.slice a1 xs1.length c1] 24)) (Obj.cells #[Value.bool n2, Value.slice a2 xs2.length c2] 24))
  have y0 : w.heap.size + 2 ≤ ((w.alloc (Obj.cells #[Value.bool n1, Value.slice a1 xs1.length c1] 24)).alloc (Obj.cells #[Value.bool n2, Value.slice a2 xs2.length c2] 24)).heap.size := by simp only [World.size_alloc]; omega
  go_enter Try.func3, Try.ntmps3
  go_wp2_with fail
  generalize ((w.alloc (Obj.cells #[Value.bool n1, Value.slice a1 xs1.length c1] 24)).alloc (Obj.cells #[Value.bool n2, Value.slice a2 xs2.length c2] 24)) = w1 at *
  refine (szB n1 a1 xs1.length c1 (1048576) _ hn1 (by omega) (by omega)).mono ?_
  rintro e w2 ⟨rfl, hbw2⟩
  have yw2 := hbw2.size
  replace k1_0 := (hbw2.cell (p := ⟨w.heap.size, 0, none⟩) z1).trans k1_0
  replace k1_1 := (hbw2.cell (p := ⟨w.heap.size, 1, none⟩) z1).trans k1_1
  replace z1 := Nat.lt_of_lt_of_le z1 hbw2.size
  replace k2_0 := (hbw2.cell (p := ⟨w.heap.size + 1, 0, none⟩) z2).trans k2_0
  replace k2_1 := (hbw2.cell (p := ⟨w.heap.size + 1, 1, none⟩) z2).trans k2_1
  replace z2 := Nat.lt_of_lt_of_le z2 hbw2.size
  replace S1 := hide (S1.out.below hbw2)
  replace S2 := hide (S2.out.below hbw2)
  replace HB := hide (bl_trans HB.out hbw2)
  clear hbw2
  by_cases hbig1 : (1048576 : Int) < (xs1.length : Int)
  · rw [if_pos hbig1]
    go_wp2
    go_ret
    exact ⟨rfl, HB.out⟩
  rw [if_neg hbig1]
  go_wp2_with fail
  refine (szB n2 a2 xs2.length c2 (1048576 - (xs1.length : Int)) _ hn2 (by omega) (by omega)).mono ?_
  rintro e w3 ⟨rfl, hbw3⟩
  have yw3 := hbw3.size
  replace k1_0 := (hbw3.cell (p := ⟨w.heap.size, 0, none⟩) z1).trans k1_0
  replace k1_1 := (hbw3.cell (p := ⟨w.heap.size, 1, none⟩) z1).trans k1_1
  replace z1 := Nat.lt_of_lt_of_le z1 hbw3.size
  replace k2_0 := (hbw3.cell (p := ⟨w.heap.size + 1, 0, none⟩) z2).trans k2_0
  replace k2_1 := (hbw3.cell (p := ⟨w.heap.size + 1, 1, none⟩) z2).trans k2_1
  replace z2 := Nat.lt_of_lt_of_le z2 hbw3.size
  replace S1 := hide (S1.out.below hbw3)
  replace S2 := hide (S2.out.below hbw3)
  replace HB := hide (bl_trans HB.out hbw3)
  clear hbw3
  by_cases hbig2 : (1048576 - (xs1.length : Int) : Int) < (xs2.length : Int)
  · rw [if_pos hbig2]
    go_wp2
    go_ret
    exact ⟨rfl, HB.out⟩
  rw [if_neg hbig2]
  go_upto_region 8 with fail
  go_cut [6, 7] (fun s0 t0 wc => ∃ (N0 : Nat) (aW0n : Option Addr) (cW0n : Nat) (aW0d : Option Addr) (cW0d : Nat), s0 = .pointer (some ⟨N0, 0, none⟩) ∧ t0 = .bool (rtT (okB n1 xs1 && okB n2 xs2) (mk n1 (Num.nat xs1)) (mk n2 (Num.nat xs2))) ∧ Hid (w3.heap.size ≤ N0 ∧ N0 < wc.heap.size ∧ wc.cell? ⟨N0, 0, none⟩ = some (Value.bool (sgn (rtN (okB n1 xs1 && okB n2 xs2) (mk n1 (Num.nat xs1)) (mk n2 (Num.nat xs2))))) ∧ wc.cell? ⟨N0, 1, none⟩ = some (Value.slice aW0n (lms (rtN (okB n1 xs1 && okB n2 xs2) (mk n1 (Num.nat xs1)) (mk n2 (Num.nat xs2)))).length cW0n) ∧ wc.cell? ⟨N0, 2, none⟩ = some (Value.bool (sgn (rtD (okB n1 xs1 && okB n2 xs2) (mk n1 (Num.nat xs1)) (mk n2 (Num.nat xs2))))) ∧ wc.cell? ⟨N0, 3, none⟩ = some (Value.slice aW0d (lms (rtD (okB n1 xs1 && okB n2 xs2) (mk n1 (Num.nat xs1)) (mk n2 (Num.nat xs2)))).length cW0d) ∧ Seg wc aW0n (lms (rtN (okB n1 xs1 && okB n2 xs2) (mk n1 (Num.nat xs1)) (mk n2 (Num.nat xs2)))).length cW0n (lms (rtN (okB n1 xs1 && okB n2 xs2) (mk n1 (Num.nat xs1)) (mk n2 (Num.nat xs2)))) ∧ Seg wc aW0d (lms (rtD (okB n1 xs1 && okB n2 xs2) (mk n1 (Num.nat xs1)) (mk n2 (Num.nat xs2)))).length cW0d (lms (rtD (okB n1 xs1 && okB n2 xs2) (mk n1 (Num.nat xs1)) (mk n2 (Num.nat xs2)))) ∧ Below w3.heap.size w3 wc))
  case first =>
    have KP : Hid (∀ w', Below w3.heap.size w3 w' → (w'.cell? ⟨w.heap.size, 0, none⟩ = some (Value.bool n1) ∧ w'.cell? ⟨w.heap.size, 1, none⟩ = some (Value.slice a1 xs1.length c1) ∧ w'.cell? ⟨w.heap.size + 1, 0, none⟩ = some (Value.bool n2) ∧ w'.cell? ⟨w.heap.size + 1, 1, none⟩ = some (Value.slice a2 xs2.length c2) ∧ Hid (Below w3.heap.size w3 w'))) := hide (fun w' hb => ⟨(hb.cell (p := ⟨w.heap.size, 0, none⟩) z1).trans k1_0, (hb.cell (p := ⟨w.heap.size, 1, none⟩) z1).trans k1_1, (hb.cell (p := ⟨w.heap.size + 1, 0, none⟩) z2).trans k2_0, (hb.cell (p := ⟨w.heap.size + 1, 1, none⟩) z2).trans k2_1, hb⟩)
    go_region_held3 (fun w' => w'.cell? ⟨w.heap.size, 0, none⟩ = some (Value.bool n1) ∧ w'.cell? ⟨w.heap.size, 1, none⟩ = some (Value.slice a1 xs1.length c1) ∧ w'.cell? ⟨w.heap.size + 1, 0, none⟩ = some (Value.bool n2) ∧ w'.cell? ⟨w.heap.size + 1, 1, none⟩ = some (Value.slice a2 xs2.length c2) ∧ Hid (Below w3.heap.size w3 w'))
      (first | exact KP.out _ (bl_refl w3).drew | exact KP.out _ bC | exact KP.out _ bB | exact KP.out _ bA | exact KP.out _ (by repeat first | exact bC | exact bB | exact bA | exact (bl_refl w3).drew | exact bl_refl w3 | refine bl_alloc ?_ _ | refine bl_trans ?_ (bl_refl _).drew | refine Below.setCell ?_ (by first | omega | (dsimp only; omega) | (dsimp only; rw [World.size_drew]; omega)) _))
      (first
        | (go_at_call_of 10 (Value.agg #[Value.bool n1, Value.slice a1 xs1.length c1]); refine (toB n1 a1 xs1.length c1 xs1 _ (S1.out.below (Hid.out (And.right (And.right (And.right (And.right (by assumption))))))) (by omega)).mono ?_; rintro e wA ⟨uX, rfl, ⟨aX, cX, rfl, hoX⟩, hbA⟩; have bA : Below w3.heap.size w3 wA := bl_trans (Hid.out (And.right (And.right (And.right (And.right (by assumption)))))) hbA; have yA := bA.size; have HX := hide hoX.seg; clear hoX; (first | have HZa0 := hide (show Zr4 wA w3.heap.size from born4 hbA) | have HZa0 := hide (show Zr4 wA w3.heap.size from born4 (bl_trans (bl_refl (w3.alloc (Obj.cells #[Value.bool false, Value.slice none 0 0, Value.bool false, Value.slice none 0 0] 28))).drew hbA)) | skip); (try have zza0 := HZa0.out.1); clear hbA)
        | (go_at_call_of 10 (Value.agg #[Value.bool n2, Value.slice a2 xs2.length c2]); refine (toB n2 a2 xs2.length c2 xs2 _ (S2.out.below (Hid.out (And.right (And.right (And.right (And.right (by assumption))))))) (by omega)).mono ?_; rintro e wB ⟨uY, rfl, ⟨aY, cY, rfl, hoY⟩, hbB⟩; have bB : Below w3.heap.size w3 wB := bl_trans (Hid.out (And.right (And.right (And.right (And.right (by assumption)))))) hbB; have bAB : Below wA.heap.size wA wB := (by first | exact hbB | exact bl_one hbB | exact bl_two hbB); have yB := bAB.size; have HY := hide hoY.seg; clear hoY; replace HX := hide (HX.out.below bAB); (try replace HZa0 := hide (HZa0.out.below bAB)); (first | have HZb0 := hide (show Zr4 wB wA.heap.size from born4 hbB) | have HZb0 := hide (show Zr4 wB wA.heap.size from born4 (bl_trans (bl_refl (wA.alloc (Obj.cells #[Value.bool false, Value.slice none 0 0, Value.bool false, Value.slice none 0 0] 28))).drew hbB)) | skip); (try have zzb0 := HZb0.out.1); clear hbB)
        | (go_at_call 9; refine (MakeRatQ n1 xs1 n2 xs2 aX cX aY cY _ ((HX.out.below (by first | exact bl_refl _ | exact bl_alloc (bl_refl _) _ | exact bl_alloc (bl_alloc (bl_refl _) _) _))) ((HY.out.below (by first | exact bl_refl _ | exact bl_alloc (bl_refl _) _ | exact bl_alloc (bl_alloc (bl_refl _) _) _)))).mono ?_; rintro e wC ⟨aC0n, cC0n, aC0d, cC0d, rfl, hoC0n, hoC0d, hapC01, hbC⟩; have bBC : Below wB.heap.size wB wC := (by first | exact hbC | exact bl_one hbC | exact bl_two hbC); have bC : Below w3.heap.size w3 wC := bl_trans bB bBC; have yC := bBC.size; have RC0n := hide hoC0n.rgs; clear hoC0n; have RC0d := hide hoC0d.rgs; clear hoC0d; (try replace HZa0 := hide (HZa0.out.below bBC)); (try replace HZb0 := hide (HZb0.out.below bBC)); (first | have HZc0 := hide (show Zr4 wC wB.heap.size from born4 hbC) | have HZc0 := hide (show Zr4 wC wB.heap.size from born4 (bl_trans (bl_refl (wB.alloc (Obj.cells #[Value.bool false, Value.slice none 0 0, Value.bool false, Value.slice none 0 0] 28))).drew hbC)) | skip); (try have Qa0 := HZa0.out); (try obtain ⟨za0, ka0_0, ka0_1, ka0_2, ka0_3, fa0_0, fa0_1, fa0_2, fa0_3⟩ := HZa0.out); (try have Qb0 := HZb0.out); (try obtain ⟨zb0, kb0_0, kb0_1, kb0_2, kb0_3, fb0_0, fb0_1, fb0_2, fb0_3⟩ := HZb0.out); (try have Qc0 := HZc0.out); (try obtain ⟨zc0, kc0_0, kc0_1, kc0_2, kc0_3, fc0_0, fc0_1, fc0_2, fc0_3⟩ := HZc0.out); (try simp only [World.size_drew] at RC0n); (try simp only [World.size_alloc] at RC0n); (try simp only [World.size_drew] at RC0d); (try simp only [World.size_alloc] at RC0d); skip; clear hbC))
    all_goals (go_wp2_with fail; go_meet)
    · exact ⟨_, aC0n, cC0n, aC0d, cC0d, rfl, rfl, hide (res4_b RC0n.out RC0d.out bC)⟩
    · exact ⟨_, aC0n, cC0n, aC0d, cC0d, rfl, rfl, hide (res4_a RC0n.out RC0d.out bC Qc0 (by omega) (by omega) (by omega))⟩
    · exact ⟨_, aC0n, cC0n, aC0d, cC0d, rfl, rfl, hide (res4_a RC0n.out RC0d.out bC Qb0 (by omega) (by omega) (by omega))⟩
    · exact ⟨_, aC0n, cC0n, aC0d, cC0d, rfl, rfl, hide (res4_a RC0n.out RC0d.out bC Qa0 (by omega) (by omega) (by omega))⟩
  case rest =>
  obtain ⟨NW0, aW0n, cW0n, aW0d, cW0d, rfl, rfl, hres⟩ := hcut
  obtain ⟨nW0, mW0, rW0_0, rW0_1, rW0_2, rW0_3, gW0n, gW0d, rB⟩ := hres.out
  clear hres
  rename World => w4
  have yw4 := rB.size
  replace k1_0 := (rB.cell (p := ⟨w.heap.size, 0, none⟩) z1).trans k1_0
  replace k1_1 := (rB.cell (p := ⟨w.heap.size, 1, none⟩) z1).trans k1_1
  replace z1 := Nat.lt_of_lt_of_le z1 rB.size
  replace k2_0 := (rB.cell (p := ⟨w.heap.size + 1, 0, none⟩) z2).trans k2_0
  replace k2_1 := (rB.cell (p := ⟨w.heap.size + 1, 1, none⟩) z2).trans k2_1
  replace z2 := Nat.lt_of_lt_of_le z2 rB.size
  replace S1 := hide (S1.out.below rB)
  replace S2 := hide (S2.out.below rB)
  replace HB := hide (bl_trans HB.out rB)
  have kW0_0 := rW0_0
  clear rW0_0
  have kW0_1 := rW0_1
  clear rW0_1
  have kW0_2 := rW0_2
  clear rW0_2
  have kW0_3 := rW0_3
  clear rW0_3
  have zW0 := mW0
  have SW0n := hide gW0n
  have AW0n := SW0n
  clear gW0n
  have SW0d := hide gW0d
  have AW0d := SW0d
  clear gW0d
  clear rB
  go_wp2_with fail
  refine (toB n1 a1 xs1.length c1 xs1 _ S1.out (by omega)).mono ?_
  rintro e w5 ⟨uP, rfl, ⟨aP, cP, rfl, hoP⟩, hbw5⟩
  have yw5 := hbw5.size
  replace k1_0 := (hbw5.cell (p := ⟨w.heap.size, 0, none⟩) z1).trans k1_0
  replace k1_1 := (hbw5.cell (p := ⟨w.heap.size, 1, none⟩) z1).trans k1_1
  replace z1 := Nat.lt_of_lt_of_le z1 hbw5.size
  replace k2_0 := (hbw5.cell (p := ⟨w.heap.size + 1, 0, none⟩) z2).trans k2_0
  replace k2_1 := (hbw5.cell (p := ⟨w.heap.size + 1, 1, none⟩) z2).trans k2_1
  replace z2 := Nat.lt_of_lt_of_le z2 hbw5.size
  replace kW0_0 := (hbw5.cell (p := ⟨NW0, 0, none⟩) zW0).trans kW0_0
  replace kW0_1 := (hbw5.cell (p := ⟨NW0, 1, none⟩) zW0).trans kW0_1
  replace kW0_2 := (hbw5.cell (p := ⟨NW0, 2, none⟩) zW0).trans kW0_2
  replace kW0_3 := (hbw5.cell (p := ⟨NW0, 3, none⟩) zW0).trans kW0_3
  replace zW0 := Nat.lt_of_lt_of_le zW0 hbw5.size
  replace S1 := hide (S1.out.below hbw5)
  replace S2 := hide (S2.out.below hbw5)
  replace SW0n := hide (SW0n.out.below hbw5)
  replace SW0d := hide (SW0d.out.below hbw5)
  replace HB := hide (bl_trans HB.out hbw5)
  clear hbw5
  have oP : ∀ k, (Value.slice aP xs1.length cP).ownBlock = some k → w4.heap.size ≤ k ∧ k < w5.heap.size := fun k e => hoP.1.lt k e
  have HP := hide hoP
  clear hoP
  go_wp2_with fail
  have kP_0 : (w5.alloc (Obj.cells #[Value.bool n1, Value.slice aP xs1.length cP] 26)).cell? ⟨w5.heap.size, 0, none⟩ = some (Value.bool n1) := by go_simp
  have kP_1 : (w5.alloc (Obj.cells #[Value.bool n1, Value.slice aP xs1.length cP] 26)).cell? ⟨w5.heap.size, 1, none⟩ = some (Value.slice aP xs1.length cP) := by go_simp
  have zP : w5.heap.size < (w5.alloc (Obj.cells #[Value.bool n1, Value.slice aP xs1.length cP] 26)).heap.size := by simp only [World.size_alloc]; omega
  have yw6 : w5.heap.size + 1 ≤ (w5.alloc (Obj.cells #[Value.bool n1, Value.slice aP xs1.length cP] 26)).heap.size := by simp only [World.size_alloc]; omega
  have hbw6 := (bl_alloc (bl_refl w5) (Obj.cells #[Value.bool n1, Value.slice aP xs1.length cP] 26))
  generalize (w5.alloc (Obj.cells #[Value.bool n1, Value.slice aP xs1.length cP] 26)) = w6 at *
  replace k1_0 := (hbw6.cell (p := ⟨w.heap.size, 0, none⟩) z1).trans k1_0
  replace k1_1 := (hbw6.cell (p := ⟨w.heap.size, 1, none⟩) z1).trans k1_1
  replace z1 := Nat.lt_of_lt_of_le z1 hbw6.size
  replace k2_0 := (hbw6.cell (p := ⟨w.heap.size + 1, 0, none⟩) z2).trans k2_0
  replace k2_1 := (hbw6.cell (p := ⟨w.heap.size + 1, 1, none⟩) z2).trans k2_1
  replace z2 := Nat.lt_of_lt_of_le z2 hbw6.size
  replace kW0_0 := (hbw6.cell (p := ⟨NW0, 0, none⟩) zW0).trans kW0_0
  replace kW0_1 := (hbw6.cell (p := ⟨NW0, 1, none⟩) zW0).trans kW0_1
  replace kW0_2 := (hbw6.cell (p := ⟨NW0, 2, none⟩) zW0).trans kW0_2
  replace kW0_3 := (hbw6.cell (p := ⟨NW0, 3, none⟩) zW0).trans kW0_3
  replace zW0 := Nat.lt_of_lt_of_le zW0 hbw6.size
  replace S1 := hide (S1.out.below hbw6)
  replace S2 := hide (S2.out.below hbw6)
  replace SW0n := hide (SW0n.out.below hbw6)
  replace SW0d := hide (SW0d.out.below hbw6)
  replace HP := hide (HP.out.below hbw6)
  replace HB := hide (bl_trans HB.out hbw6)
  clear hbw6
  refine (toB n2 a2 xs2.length c2 xs2 _ S2.out (by omega)).mono ?_
  rintro e w7 ⟨uQ, rfl, ⟨aQ, cQ, rfl, hoQ⟩, hbw7⟩
  have yw7 := hbw7.size
  replace k1_0 := (hbw7.cell (p := ⟨w.heap.size, 0, none⟩) z1).trans k1_0
  replace k1_1 := (hbw7.cell (p := ⟨w.heap.size, 1, none⟩) z1).trans k1_1
  replace z1 := Nat.lt_of_lt_of_le z1 hbw7.size
  replace k2_0 := (hbw7.cell (p := ⟨w.heap.size + 1, 0, none⟩) z2).trans k2_0
  replace k2_1 := (hbw7.cell (p := ⟨w.heap.size + 1, 1, none⟩) z2).trans k2_1
  replace z2 := Nat.lt_of_lt_of_le z2 hbw7.size
  replace kW0_0 := (hbw7.cell (p := ⟨NW0, 0, none⟩) zW0).trans kW0_0
  replace kW0_1 := (hbw7.cell (p := ⟨NW0, 1, none⟩) zW0).trans kW0_1
  replace kW0_2 := (hbw7.cell (p := ⟨NW0, 2, none⟩) zW0).trans kW0_2
  replace kW0_3 := (hbw7.cell (p := ⟨NW0, 3, none⟩) zW0).trans kW0_3
  replace zW0 := Nat.lt_of_lt_of_le zW0 hbw7.size
  replace kP_0 := (hbw7.cell (p := ⟨w5.heap.size, 0, none⟩) zP).trans kP_0
  replace kP_1 := (hbw7.cell (p := ⟨w5.heap.size, 1, none⟩) zP).trans kP_1
  replace zP := Nat.lt_of_lt_of_le zP hbw7.size
  replace S1 := hide (S1.out.below hbw7)
  replace S2 := hide (S2.out.below hbw7)
  replace SW0n := hide (SW0n.out.below hbw7)
  replace SW0d := hide (SW0d.out.below hbw7)
  replace HP := hide (HP.out.below hbw7)
  replace HB := hide (bl_trans HB.out hbw7)
  clear hbw7
  have oQ : ∀ k, (Value.slice aQ xs2.length cQ).ownBlock = some k → w6.heap.size ≤ k ∧ k < w7.heap.size := fun k e => hoQ.1.lt k e
  have HQ := hide hoQ
  clear hoQ
  go_wp2_with fail
  have kQ_0 : (w7.alloc (Obj.cells #[Value.bool n2, Value.slice aQ xs2.length cQ] 26)).cell? ⟨w7.heap.size, 0, none⟩ = some (Value.bool n2) := by go_simp
  have kQ_1 : (w7.alloc (Obj.cells #[Value.bool n2, Value.slice aQ xs2.length cQ] 26)).cell? ⟨w7.heap.size, 1, none⟩ = some (Value.slice aQ xs2.length cQ) := by go_simp
  have zQ : w7.heap.size < (w7.alloc (Obj.cells #[Value.bool n2, Value.slice aQ xs2.length cQ] 26)).heap.size := by simp only [World.size_alloc]; omega
  have yw8 : w7.heap.size + 1 ≤ (w7.alloc (Obj.cells #[Value.bool n2, Value.slice aQ xs2.length cQ] 26)).heap.size := by simp only [World.size_alloc]; omega
  have hbw8 := (bl_alloc (bl_refl w7) (Obj.cells #[Value.bool n2, Value.slice aQ xs2.length cQ] 26))
  generalize (w7.alloc (Obj.cells #[Value.bool n2, Value.slice aQ xs2.length cQ] 26)) = w8 at *
  replace k1_0 := (hbw8.cell (p := ⟨w.heap.size, 0, none⟩) z1).trans k1_0
  replace k1_1 := (hbw8.cell (p := ⟨w.heap.size, 1, none⟩) z1).trans k1_1
  replace z1 := Nat.lt_of_lt_of_le z1 hbw8.size
  replace k2_0 := (hbw8.cell (p := ⟨w.heap.size + 1, 0, none⟩) z2).trans k2_0
  replace k2_1 := (hbw8.cell (p := ⟨w.heap.size + 1, 1, none⟩) z2).trans k2_1
  replace z2 := Nat.lt_of_lt_of_le z2 hbw8.size
  replace kW0_0 := (hbw8.cell (p := ⟨NW0, 0, none⟩) zW0).trans kW0_0
  replace kW0_1 := (hbw8.cell (p := ⟨NW0, 1, none⟩) zW0).trans kW0_1
  replace kW0_2 := (hbw8.cell (p := ⟨NW0, 2, none⟩) zW0).trans kW0_2
  replace kW0_3 := (hbw8.cell (p := ⟨NW0, 3, none⟩) zW0).trans kW0_3
  replace zW0 := Nat.lt_of_lt_of_le zW0 hbw8.size
  replace kP_0 := (hbw8.cell (p := ⟨w5.heap.size, 0, none⟩) zP).trans kP_0
  replace kP_1 := (hbw8.cell (p := ⟨w5.heap.size, 1, none⟩) zP).trans kP_1
  replace zP := Nat.lt_of_lt_of_le zP hbw8.size
  replace S1 := hide (S1.out.below hbw8)
  replace S2 := hide (S2.out.below hbw8)
  replace SW0n := hide (SW0n.out.below hbw8)
  replace SW0d := hide (SW0d.out.below hbw8)
  replace HP := hide (HP.out.below hbw8)
  replace HQ := hide (HQ.out.below hbw8)
  replace HB := hide (bl_trans HB.out hbw8)
  clear hbw8
  refine (MakeRatP n1 xs1 n2 xs2 aP cP aQ cQ _ (HP.out.seg) (HQ.out.seg)).mono ?_
  rintro e w9 ⟨aG0n, cG0n, aG0d, cG0d, rfl, hoG0n, hoG0d, hapG01, hbw9⟩
  have yw9 := hbw9.size
  replace k1_0 := (hbw9.cell (p := ⟨w.heap.size, 0, none⟩) z1).trans k1_0
  replace k1_1 := (hbw9.cell (p := ⟨w.heap.size, 1, none⟩) z1).trans k1_1
  replace z1 := Nat.lt_of_lt_of_le z1 hbw9.size
  replace k2_0 := (hbw9.cell (p := ⟨w.heap.size + 1, 0, none⟩) z2).trans k2_0
  replace k2_1 := (hbw9.cell (p := ⟨w.heap.size + 1, 1, none⟩) z2).trans k2_1
  replace z2 := Nat.lt_of_lt_of_le z2 hbw9.size
  replace kW0_0 := (hbw9.cell (p := ⟨NW0, 0, none⟩) zW0).trans kW0_0
  replace kW0_1 := (hbw9.cell (p := ⟨NW0, 1, none⟩) zW0).trans kW0_1
  replace kW0_2 := (hbw9.cell (p := ⟨NW0, 2, none⟩) zW0).trans kW0_2
  replace kW0_3 := (hbw9.cell (p := ⟨NW0, 3, none⟩) zW0).trans kW0_3
  replace zW0 := Nat.lt_of_lt_of_le zW0 hbw9.size
  replace kP_0 := (hbw9.cell (p := ⟨w5.heap.size, 0, none⟩) zP).trans kP_0
  replace kP_1 := (hbw9.cell (p := ⟨w5.heap.size, 1, none⟩) zP).trans kP_1
  replace zP := Nat.lt_of_lt_of_le zP hbw9.size
  replace kQ_0 := (hbw9.cell (p := ⟨w7.heap.size, 0, none⟩) zQ).trans kQ_0
  replace kQ_1 := (hbw9.cell (p := ⟨w7.heap.size, 1, none⟩) zQ).trans kQ_1
  replace zQ := Nat.lt_of_lt_of_le zQ hbw9.size
  replace S1 := hide (S1.out.below hbw9)
  replace S2 := hide (S2.out.below hbw9)
  replace SW0n := hide (SW0n.out.below hbw9)
  replace SW0d := hide (SW0d.out.below hbw9)
  replace HP := hide (HP.out.below hbw9)
  replace HQ := hide (HQ.out.below hbw9)
  replace HB := hide (bl_trans HB.out hbw9)
  clear hbw9
  have oG0n : ∀ k, (Value.slice aG0n (lms (rtN (okB n1 xs1 && okB n2 xs2) (mk n1 (Num.nat xs1)) (mk n2 (Num.nat xs2)))).length cG0n).ownBlock = some k → w8.heap.size ≤ k ∧ k < w9.heap.size := fun k e => hoG0n.1.lt k e
  have HG0n := hide hoG0n
  clear hoG0n
  have oG0d : ∀ k, (Value.slice aG0d (lms (rtD (okB n1 xs1 && okB n2 xs2) (mk n1 (Num.nat xs1)) (mk n2 (Num.nat xs2)))).length cG0d).ownBlock = some k → w8.heap.size ≤ k ∧ k < w9.heap.size := fun k e => hoG0d.1.lt k e
  have HG0d := hide hoG0d
  clear hoG0d
  have HAPG01 := hide hapG01
  clear hapG01
  go_wp2_with fail
  have kG0_0 : (w9.alloc (Obj.cells #[Value.bool (sgn (rtN (okB n1 xs1 && okB n2 xs2) (mk n1 (Num.nat xs1)) (mk n2 (Num.nat xs2)))), Value.slice aG0n (lms (rtN (okB n1 xs1 && okB n2 xs2) (mk n1 (Num.nat xs1)) (mk n2 (Num.nat xs2)))).length cG0n, Value.bool (sgn (rtD (okB n1 xs1 && okB n2 xs2) (mk n1 (Num.nat xs1)) (mk n2 (Num.nat xs2)))), Value.slice aG0d (lms (rtD (okB n1 xs1 && okB n2 xs2) (mk n1 (Num.nat xs1)) (mk n2 (Num.nat xs2)))).length cG0d] 28)).cell? ⟨w9.heap.size, 0, none⟩ = some (Value.bool (sgn (rtN (okB n1 xs1 && okB n2 xs2) (mk n1 (Num.nat xs1)) (mk n2 (Num.nat xs2))))) := by go_simp
  have kG0_1 : (w9.alloc (Obj.cells #[Value.bool (sgn (rtN (okB n1 xs1 && okB n2 xs2) (mk n1 (Num.nat xs1)) (mk n2 (Num.nat xs2)))), Value.slice aG0n (lms (rtN (okB n1 xs1 && okB n2 xs2) (mk n1 (Num.nat xs1)) (mk n2 (Num.nat xs2)))).length cG0n, Value.bool (sgn (rtD (okB n1 xs1 && okB n2 xs2) (mk n1 (Num.nat xs1)) (mk n2 (Num.nat xs2)))), Value.slice aG0d (lms (rtD (okB n1 xs1 && okB n2 xs2) (mk n1 (Num.nat xs1)) (mk n2 (Num.nat xs2)))).length cG0d] 28)).cell? ⟨w9.heap.size, 1, none⟩ = some (Value.slice aG0n (lms (rtN (okB n1 xs1 && okB n2 xs2) (mk n1 (Num.nat xs1)) (mk n2 (Num.nat xs2)))).length cG0n) := by go_simp
  have kG0_2 : (w9.alloc (Obj.cells #[Value.bool (sgn (rtN (okB n1 xs1 && okB n2 xs2) (mk n1 (Num.nat xs1)) (mk n2 (Num.nat xs2)))), Value.slice aG0n (lms (rtN (okB n1 xs1 && okB n2 xs2) (mk n1 (Num.nat xs1)) (mk n2 (Num.nat xs2)))).length cG0n, Value.bool (sgn (rtD (okB n1 xs1 && okB n2 xs2) (mk n1 (Num.nat xs1)) (mk n2 (Num.nat xs2)))), Value.slice aG0d (lms (rtD (okB n1 xs1 && okB n2 xs2) (mk n1 (Num.nat xs1)) (mk n2 (Num.nat xs2)))).length cG0d] 28)).cell? ⟨w9.heap.size, 2, none⟩ = some (Value.bool (sgn (rtD (okB n1 xs1 && okB n2 xs2) (mk n1 (Num.nat xs1)) (mk n2 (Num.nat xs2))))) := by go_simp
  have kG0_3 : (w9.alloc (Obj.cells #[Value.bool (sgn (rtN (okB n1 xs1 && okB n2 xs2) (mk n1 (Num.nat xs1)) (mk n2 (Num.nat xs2)))), Value.slice aG0n (lms (rtN (okB n1 xs1 && okB n2 xs2) (mk n1 (Num.nat xs1)) (mk n2 (Num.nat xs2)))).length cG0n, Value.bool (sgn (rtD (okB n1 xs1 && okB n2 xs2) (mk n1 (Num.nat xs1)) (mk n2 (Num.nat xs2)))), Value.slice aG0d (lms (rtD (okB n1 xs1 && okB n2 xs2) (mk n1 (Num.nat xs1)) (mk n2 (Num.nat xs2)))).length cG0d] 28)).cell? ⟨w9.heap.size, 3, none⟩ = some (Value.slice aG0d (lms (rtD (okB n1 xs1 && okB n2 xs2) (mk n1 (Num.nat xs1)) (mk n2 (Num.nat xs2)))).length cG0d) := by go_simp
  have zG0 : w9.heap.size < (w9.alloc (Obj.cells #[Value.bool (sgn (rtN (okB n1 xs1 && okB n2 xs2) (mk n1 (Num.nat xs1)) (mk n2 (Num.nat xs2)))), Value.slice aG0n (lms (rtN (okB n1 xs1 && okB n2 xs2) (mk n1 (Num.nat xs1)) (mk n2 (Num.nat xs2)))).length cG0n, Value.bool (sgn (rtD (okB n1 xs1 && okB n2 xs2) (mk n1 (Num.nat xs1)) (mk n2 (Num.nat xs2)))), Value.slice aG0d (lms (rtD (okB n1 xs1 && okB n2 xs2) (mk n1 (Num.nat xs1)) (mk n2 (Num.nat xs2)))).length cG0d] 28)).heap.size := by simp only [World.size_alloc]; omega
  have yw10 : w9.heap.size + 1 ≤ (w9.alloc (Obj.cells #[Value.bool (sgn (rtN (okB n1 xs1 && okB n2 xs2) (mk n1 (Num.nat xs1)) (mk n2 (Num.nat xs2)))), Value.slice aG0n (lms (rtN (okB n1 xs1 && okB n2 xs2) (mk n1 (Num.nat xs1)) (mk n2 (Num.nat xs2)))).length cG0n, Value.bool (sgn (rtD (okB n1 xs1 && okB n2 xs2) (mk n1 (Num.nat xs1)) (mk n2 (Num.nat xs2)))), Value.slice aG0d (lms (rtD (okB n1 xs1 && okB n2 xs2) (mk n1 (Num.nat xs1)) (mk n2 (Num.nat xs2)))).length cG0d] 28)).heap.size := by simp only [World.size_alloc]; omega
  have hbw10 := (bl_alloc (bl_refl w9) (Obj.cells #[Value.bool (sgn (rtN (okB n1 xs1 && okB n2 xs2) (mk n1 (Num.nat xs1)) (mk n2 (Num.nat xs2)))), Value.slice aG0n (lms (rtN (okB n1 xs1 && okB n2 xs2) (mk n1 (Num.nat xs1)) (mk n2 (Num.nat xs2)))).length cG0n, Value.bool (sgn (rtD (okB n1 xs1 && okB n2 xs2) (mk n1 (Num.nat xs1)) (mk n2 (Num.nat xs2)))), Value.slice aG0d (lms (rtD (okB n1 xs1 && okB n2 xs2) (mk n1 (Num.nat xs1)) (mk n2 (Num.nat xs2)))).length cG0d] 28))
  generalize (w9.alloc (Obj.cells #[Value.bool (sgn (rtN (okB n1 xs1 && okB n2 xs2) (mk n1 (Num.nat xs1)) (mk n2 (Num.nat xs2)))), Value.slice aG0n (lms (rtN (okB n1 xs1 && okB n2 xs2) (mk n1 (Num.nat xs1)) (mk n2 (Num.nat xs2)))).length cG0n, Value.bool (sgn (rtD (okB n1 xs1 && okB n2 xs2) (mk n1 (Num.nat xs1)) (mk n2 (Num.nat xs2)))), Value.slice aG0d (lms (rtD (okB n1 xs1 && okB n2 xs2) (mk n1 (Num.nat xs1)) (mk n2 (Num.nat xs2)))).length cG0d] 28)) = w10 at *
  replace k1_0 := (hbw10.cell (p := ⟨w.heap.size, 0, none⟩) z1).trans k1_0
  replace k1_1 := (hbw10.cell (p := ⟨w.heap.size, 1, none⟩) z1).trans k1_1
  replace z1 := Nat.lt_of_lt_of_le z1 hbw10.size
  replace k2_0 := (hbw10.cell (p := ⟨w.heap.size + 1, 0, none⟩) z2).trans k2_0
  replace k2_1 := (hbw10.cell (p := ⟨w.heap.size + 1, 1, none⟩) z2).trans k2_1
  replace z2 := Nat.lt_of_lt_of_le z2 hbw10.size
  replace kW0_0 := (hbw10.cell (p := ⟨NW0, 0, none⟩) zW0).trans kW0_0
  replace kW0_1 := (hbw10.cell (p := ⟨NW0, 1, none⟩) zW0).trans kW0_1
  replace kW0_2 := (hbw10.cell (p := ⟨NW0, 2, none⟩) zW0).trans kW0_2
  replace kW0_3 := (hbw10.cell (p := ⟨NW0, 3, none⟩) zW0).trans kW0_3
  replace zW0 := Nat.lt_of_lt_of_le zW0 hbw10.size
  replace kP_0 := (hbw10.cell (p := ⟨w5.heap.size, 0, none⟩) zP).trans kP_0
  replace kP_1 := (hbw10.cell (p := ⟨w5.heap.size, 1, none⟩) zP).trans kP_1
  replace zP := Nat.lt_of_lt_of_le zP hbw10.size
  replace kQ_0 := (hbw10.cell (p := ⟨w7.heap.size, 0, none⟩) zQ).trans kQ_0
  replace kQ_1 := (hbw10.cell (p := ⟨w7.heap.size, 1, none⟩) zQ).trans kQ_1
  replace zQ := Nat.lt_of_lt_of_le zQ hbw10.size
  replace S1 := hide (S1.out.below hbw10)
  replace S2 := hide (S2.out.below hbw10)
  replace SW0n := hide (SW0n.out.below hbw10)
  replace SW0d := hide (SW0d.out.below hbw10)
  replace HP := hide (HP.out.below hbw10)
  replace HQ := hide (HQ.out.below hbw10)
  replace HG0n := hide (HG0n.out.below hbw10)
  replace HG0d := hide (HG0d.out.below hbw10)
  replace HB := hide (bl_trans HB.out hbw10)
  clear hbw10
  refine (eqR (sgn (rtN (okB n1 xs1 && okB n2 xs2) (mk n1 (Num.nat xs1)) (mk n2 (Num.nat xs2)))) (lms (rtN (okB n1 xs1 && okB n2 xs2) (mk n1 (Num.nat xs1)) (mk n2 (Num.nat xs2)))) (sgn (rtD (okB n1 xs1 && okB n2 xs2) (mk n1 (Num.nat xs1)) (mk n2 (Num.nat xs2)))) (lms (rtD (okB n1 xs1 && okB n2 xs2) (mk n1 (Num.nat xs1)) (mk n2 (Num.nat xs2)))) aG0n cG0n aG0d cG0d aW0n cW0n aW0d cW0d _ (HG0n.out.seg) (HG0d.out.seg) (SW0n.out) (SW0d.out)).mono ?_
  rintro e w11 ⟨rfl, hbw11⟩
  have yw11 := hbw11.size
  replace k1_0 := (hbw11.cell (p := ⟨w.heap.size, 0, none⟩) z1).trans k1_0
  replace k1_1 := (hbw11.cell (p := ⟨w.heap.size, 1, none⟩) z1).trans k1_1
  replace z1 := Nat.lt_of_lt_of_le z1 hbw11.size
  replace k2_0 := (hbw11.cell (p := ⟨w.heap.size + 1, 0, none⟩) z2).trans k2_0
  replace k2_1 := (hbw11.cell (p := ⟨w.heap.size + 1, 1, none⟩) z2).trans k2_1
  replace z2 := Nat.lt_of_lt_of_le z2 hbw11.size
  replace kW0_0 := (hbw11.cell (p := ⟨NW0, 0, none⟩) zW0).trans kW0_0
  replace kW0_1 := (hbw11.cell (p := ⟨NW0, 1, none⟩) zW0).trans kW0_1
  replace kW0_2 := (hbw11.cell (p := ⟨NW0, 2, none⟩) zW0).trans kW0_2
  replace kW0_3 := (hbw11.cell (p := ⟨NW0, 3, none⟩) zW0).trans kW0_3
  replace zW0 := Nat.lt_of_lt_of_le zW0 hbw11.size
  replace kP_0 := (hbw11.cell (p := ⟨w5.heap.size, 0, none⟩) zP).trans kP_0
  replace kP_1 := (hbw11.cell (p := ⟨w5.heap.size, 1, none⟩) zP).trans kP_1
  replace zP := Nat.lt_of_lt_of_le zP hbw11.size
  replace kQ_0 := (hbw11.cell (p := ⟨w7.heap.size, 0, none⟩) zQ).trans kQ_0
  replace kQ_1 := (hbw11.cell (p := ⟨w7.heap.size, 1, none⟩) zQ).trans kQ_1
  replace zQ := Nat.lt_of_lt_of_le zQ hbw11.size
  replace kG0_0 := (hbw11.cell (p := ⟨w9.heap.size, 0, none⟩) zG0).trans kG0_0
  replace kG0_1 := (hbw11.cell (p := ⟨w9.heap.size, 1, none⟩) zG0).trans kG0_1
  replace kG0_2 := (hbw11.cell (p := ⟨w9.heap.size, 2, none⟩) zG0).trans kG0_2
  replace kG0_3 := (hbw11.cell (p := ⟨w9.heap.size, 3, none⟩) zG0).trans kG0_3
  replace zG0 := Nat.lt_of_lt_of_le zG0 hbw11.size
  replace S1 := hide (S1.out.below hbw11)
  replace S2 := hide (S2.out.below hbw11)
  replace SW0n := hide (SW0n.out.below hbw11)
  replace SW0d := hide (SW0d.out.below hbw11)
  replace HP := hide (HP.out.below hbw11)
  replace HQ := hide (HQ.out.below hbw11)
  replace HG0n := hide (HG0n.out.below hbw11)
  replace HG0d := hide (HG0d.out.below hbw11)
  replace HB := hide (bl_trans HB.out hbw11)
  clear hbw11
  go_wp2_with fail
  have KP : Hid (∀ w', Below w11.heap.size w11 w' → (w'.cell? ⟨w.heap.size, 0, none⟩ = some (Value.bool n1) ∧ w'.cell? ⟨w.heap.size, 1, none⟩ = some (Value.slice a1 xs1.length c1) ∧ w'.cell? ⟨w5.heap.size, 0, none⟩ = some (Value.bool n1) ∧ w'.cell? ⟨w5.heap.size, 1, none⟩ = some (Value.slice aP xs1.length cP))) := hide (fun w' hb => ⟨(hb.cell (p := ⟨w.heap.size, 0, none⟩) z1).trans k1_0, (hb.cell (p := ⟨w.heap.size, 1, none⟩) z1).trans k1_1, (hb.cell (p := ⟨w5.heap.size, 0, none⟩) zP).trans kP_0, (hb.cell (p := ⟨w5.heap.size, 1, none⟩) zP).trans kP_1⟩)
  go_region_held3 (fun w' => w'.cell? ⟨w.heap.size, 0, none⟩ = some (Value.bool n1) ∧ w'.cell? ⟨w.heap.size, 1, none⟩ = some (Value.slice a1 xs1.length c1) ∧ w'.cell? ⟨w5.heap.size, 0, none⟩ = some (Value.bool n1) ∧ w'.cell? ⟨w5.heap.size, 1, none⟩ = some (Value.slice aP xs1.length cP))
    (first | exact KP.out _ (bl_refl w11).drew | exact KP.out _ hbw13 | exact KP.out _ hbw12)
    (first
      | (go_at_call_of 10 (Value.agg #[Value.bool n1, Value.slice a1 xs1.length c1]); refine (toB n1 a1 xs1.length c1 xs1 _ (S1.out.below ((bl_refl w11).drew)) (by omega)).mono ?_; rintro e w12 ⟨u, rfl, hgu, hbw12r⟩; have hbw12 : Below w11.heap.size w11 w12 := (bl_refl w11).drew.trans hbw12r)
      | (go_at_call 13; refine (eqB _ u n1 xs1 _ ⟨aP, cP, rfl, HP.out.seg.below hbw12⟩ hgu.raw).mono ?_; rintro e w13 ⟨rfl, hbw13r⟩; have hbw13 : Below w11.heap.size w11 w13 := bl_trans hbw12 hbw13r))
  clear KP
  have yw13 := hbw13.size
  replace k1_0 := (hbw13.cell (p := ⟨w.heap.size, 0, none⟩) z1).trans k1_0
  replace k1_1 := (hbw13.cell (p := ⟨w.heap.size, 1, none⟩) z1).trans k1_1
  replace z1 := Nat.lt_of_lt_of_le z1 hbw13.size
  replace k2_0 := (hbw13.cell (p := ⟨w.heap.size + 1, 0, none⟩) z2).trans k2_0
  replace k2_1 := (hbw13.cell (p := ⟨w.heap.size + 1, 1, none⟩) z2).trans k2_1
  replace z2 := Nat.lt_of_lt_of_le z2 hbw13.size
  replace kW0_0 := (hbw13.cell (p := ⟨NW0, 0, none⟩) zW0).trans kW0_0
  replace kW0_1 := (hbw13.cell (p := ⟨NW0, 1, none⟩) zW0).trans kW0_1
  replace kW0_2 := (hbw13.cell (p := ⟨NW0, 2, none⟩) zW0).trans kW0_2
  replace kW0_3 := (hbw13.cell (p := ⟨NW0, 3, none⟩) zW0).trans kW0_3
  replace zW0 := Nat.lt_of_lt_of_le zW0 hbw13.size
  replace kP_0 := (hbw13.cell (p := ⟨w5.heap.size, 0, none⟩) zP).trans kP_0
  replace kP_1 := (hbw13.cell (p := ⟨w5.heap.size, 1, none⟩) zP).trans kP_1
  replace zP := Nat.lt_of_lt_of_le zP hbw13.size
  replace kQ_0 := (hbw13.cell (p := ⟨w7.heap.size, 0, none⟩) zQ).trans kQ_0
  replace kQ_1 := (hbw13.cell (p := ⟨w7.heap.size, 1, none⟩) zQ).trans kQ_1
  replace zQ := Nat.lt_of_lt_of_le zQ hbw13.size
  replace kG0_0 := (hbw13.cell (p := ⟨w9.heap.size, 0, none⟩) zG0).trans kG0_0
  replace kG0_1 := (hbw13.cell (p := ⟨w9.heap.size, 1, none⟩) zG0).trans kG0_1
  replace kG0_2 := (hbw13.cell (p := ⟨w9.heap.size, 2, none⟩) zG0).trans kG0_2
  replace kG0_3 := (hbw13.cell (p := ⟨w9.heap.size, 3, none⟩) zG0).trans kG0_3
  replace zG0 := Nat.lt_of_lt_of_le zG0 hbw13.size
  replace S1 := hide (S1.out.below hbw13)
  replace S2 := hide (S2.out.below hbw13)
  replace SW0n := hide (SW0n.out.below hbw13)
  replace SW0d := hide (SW0d.out.below hbw13)
  replace HP := hide (HP.out.below hbw13)
  replace HQ := hide (HQ.out.below hbw13)
  replace HG0n := hide (HG0n.out.below hbw13)
  replace HG0d := hide (HG0d.out.below hbw13)
  replace HB := hide (bl_trans HB.out hbw13)
  clear hbw12 hbw12r hbw13 hbw13r hgu
  go_wp2_with fail
  have KP : Hid (∀ w', Below w13.heap.size w13 w' → (w'.cell? ⟨w.heap.size + 1, 0, none⟩ = some (Value.bool n2) ∧ w'.cell? ⟨w.heap.size + 1, 1, none⟩ = some (Value.slice a2 xs2.length c2) ∧ w'.cell? ⟨w7.heap.size, 0, none⟩ = some (Value.bool n2) ∧ w'.cell? ⟨w7.heap.size, 1, none⟩ = some (Value.slice aQ xs2.length cQ))) := hide (fun w' hb => ⟨(hb.cell (p := ⟨w.heap.size + 1, 0, none⟩) z2).trans k2_0, (hb.cell (p := ⟨w.heap.size + 1, 1, none⟩) z2).trans k2_1, (hb.cell (p := ⟨w7.heap.size, 0, none⟩) zQ).trans kQ_0, (hb.cell (p := ⟨w7.heap.size, 1, none⟩) zQ).trans kQ_1⟩)
  go_region_held3 (fun w' => w'.cell? ⟨w.heap.size + 1, 0, none⟩ = some (Value.bool n2) ∧ w'.cell? ⟨w.heap.size + 1, 1, none⟩ = some (Value.slice a2 xs2.length c2) ∧ w'.cell? ⟨w7.heap.size, 0, none⟩ = some (Value.bool n2) ∧ w'.cell? ⟨w7.heap.size, 1, none⟩ = some (Value.slice aQ xs2.length cQ))
    (first | exact KP.out _ (bl_refl w13).drew | exact KP.out _ hbw15 | exact KP.out _ hbw14)
    (first
      | (go_at_call_of 10 (Value.agg #[Value.bool n2, Value.slice a2 xs2.length c2]); refine (toB n2 a2 xs2.length c2 xs2 _ (S2.out.below ((bl_refl w13).drew)) (by omega)).mono ?_; rintro e w14 ⟨u, rfl, hgu, hbw14r⟩; have hbw14 : Below w13.heap.size w13 w14 := (bl_refl w13).drew.trans hbw14r)
      | (go_at_call 13; refine (eqB _ u n2 xs2 _ ⟨aQ, cQ, rfl, HQ.out.seg.below hbw14⟩ hgu.raw).mono ?_; rintro e w15 ⟨rfl, hbw15r⟩; have hbw15 : Below w13.heap.size w13 w15 := bl_trans hbw14 hbw15r))
  clear KP
  have yw15 := hbw15.size
  replace k1_0 := (hbw15.cell (p := ⟨w.heap.size, 0, none⟩) z1).trans k1_0
  replace k1_1 := (hbw15.cell (p := ⟨w.heap.size, 1, none⟩) z1).trans k1_1
  replace z1 := Nat.lt_of_lt_of_le z1 hbw15.size
  replace k2_0 := (hbw15.cell (p := ⟨w.heap.size + 1, 0, none⟩) z2).trans k2_0
  replace k2_1 := (hbw15.cell (p := ⟨w.heap.size + 1, 1, none⟩) z2).trans k2_1
  replace z2 := Nat.lt_of_lt_of_le z2 hbw15.size
  replace kW0_0 := (hbw15.cell (p := ⟨NW0, 0, none⟩) zW0).trans kW0_0
  replace kW0_1 := (hbw15.cell (p := ⟨NW0, 1, none⟩) zW0).trans kW0_1
  replace kW0_2 := (hbw15.cell (p := ⟨NW0, 2, none⟩) zW0).trans kW0_2
  replace kW0_3 := (hbw15.cell (p := ⟨NW0, 3, none⟩) zW0).trans kW0_3
  replace zW0 := Nat.lt_of_lt_of_le zW0 hbw15.size
  replace kP_0 := (hbw15.cell (p := ⟨w5.heap.size, 0, none⟩) zP).trans kP_0
  replace kP_1 := (hbw15.cell (p := ⟨w5.heap.size, 1, none⟩) zP).trans kP_1
  replace zP := Nat.lt_of_lt_of_le zP hbw15.size
  replace kQ_0 := (hbw15.cell (p := ⟨w7.heap.size, 0, none⟩) zQ).trans kQ_0
  replace kQ_1 := (hbw15.cell (p := ⟨w7.heap.size, 1, none⟩) zQ).trans kQ_1
  replace zQ := Nat.lt_of_lt_of_le zQ hbw15.size
  replace kG0_0 := (hbw15.cell (p := ⟨w9.heap.size, 0, none⟩) zG0).trans kG0_0
  replace kG0_1 := (hbw15.cell (p := ⟨w9.heap.size, 1, none⟩) zG0).trans kG0_1
  replace kG0_2 := (hbw15.cell (p := ⟨w9.heap.size, 2, none⟩) zG0).trans kG0_2
  replace kG0_3 := (hbw15.cell (p := ⟨w9.heap.size, 3, none⟩) zG0).trans kG0_3
  replace zG0 := Nat.lt_of_lt_of_le zG0 hbw15.size
  replace S1 := hide (S1.out.below hbw15)
  replace S2 := hide (S2.out.below hbw15)
  replace SW0n := hide (SW0n.out.below hbw15)
  replace SW0d := hide (SW0d.out.below hbw15)
  replace HP := hide (HP.out.below hbw15)
  replace HQ := hide (HQ.out.below hbw15)
  replace HG0n := hide (HG0n.out.below hbw15)
  replace HG0d := hide (HG0d.out.below hbw15)
  replace HB := hide (bl_trans HB.out hbw15)
  clear hbw14 hbw14r hbw15 hbw15r hgu
  go_wp2_with fail
  refine (markBe n1 aP xs1.length cP _ _ (0) (1) _ (by omega) (by omega) HP.out).mono ?_
  rintro e w16 ⟨rfl, hm, hg⟩
  have yw16 := hg.size
  replace k1_0 := hg.cell k1_0 (fun e => by have := oP _ e.symm; dsimp only at this; omega)
  replace k1_1 := hg.cell k1_1 (fun e => by have := oP _ e.symm; dsimp only at this; omega)
  replace z1 := Nat.lt_of_lt_of_le z1 yw16
  replace k2_0 := hg.cell k2_0 (fun e => by have := oP _ e.symm; dsimp only at this; omega)
  replace k2_1 := hg.cell k2_1 (fun e => by have := oP _ e.symm; dsimp only at this; omega)
  replace z2 := Nat.lt_of_lt_of_le z2 yw16
  replace kW0_0 := hg.cell kW0_0 (fun e => by have := oP _ e.symm; dsimp only at this; omega)
  replace kW0_1 := hg.cell kW0_1 (fun e => by have := oP _ e.symm; dsimp only at this; omega)
  replace kW0_2 := hg.cell kW0_2 (fun e => by have := oP _ e.symm; dsimp only at this; omega)
  replace kW0_3 := hg.cell kW0_3 (fun e => by have := oP _ e.symm; dsimp only at this; omega)
  replace zW0 := Nat.lt_of_lt_of_le zW0 yw16
  replace kP_0 := hg.cell kP_0 (fun e => by have := oP _ e.symm; dsimp only at this; omega)
  replace kP_1 := hg.cell kP_1 (fun e => by have := oP _ e.symm; dsimp only at this; omega)
  replace zP := Nat.lt_of_lt_of_le zP yw16
  replace kQ_0 := hg.cell kQ_0 (fun e => by have := oP _ e.symm; dsimp only at this; omega)
  replace kQ_1 := hg.cell kQ_1 (fun e => by have := oP _ e.symm; dsimp only at this; omega)
  replace zQ := Nat.lt_of_lt_of_le zQ yw16
  replace kG0_0 := hg.cell kG0_0 (fun e => by have := oP _ e.symm; dsimp only at this; omega)
  replace kG0_1 := hg.cell kG0_1 (fun e => by have := oP _ e.symm; dsimp only at this; omega)
  replace kG0_2 := hg.cell kG0_2 (fun e => by have := oP _ e.symm; dsimp only at this; omega)
  replace kG0_3 := hg.cell kG0_3 (fun e => by have := oP _ e.symm; dsimp only at this; omega)
  replace zG0 := Nat.lt_of_lt_of_le zG0 yw16
  replace S1 := hide (S1.out.grownLow A1.out hg (fun k e => by have := oP k e; omega))
  replace S2 := hide (S2.out.grownLow A2.out hg (fun k e => by have := oP k e; omega))
  replace SW0n := hide (SW0n.out.grownLow AW0n.out hg (fun k e => by have := oP k e; omega))
  replace SW0d := hide (SW0d.out.grownLow AW0d.out hg (fun k e => by have := oP k e; omega))
  replace HQ := hide (HQ.out.kept hg (apart_of oQ oP (by omega)))
  replace HG0n := hide (HG0n.out.kept hg (apart_of oG0n oP (by omega)))
  replace HG0d := hide (HG0d.out.kept hg (apart_of oG0d oP (by omega)))
  replace HB := hide (HB.out.grown hg HB.out.size (fun k e => by have := oP k e; omega))
  replace HP := hide hm
  clear hg hm
  go_wp2_with fail
  refine (markBe n2 aQ xs2.length cQ _ _ (0 + xs1.length) (1 + (xs1.length : Int)) _ (by omega) (by omega) HQ.out).mono ?_
  rintro e w17 ⟨rfl, hm, hg⟩
  have yw17 := hg.size
  replace k1_0 := hg.cell k1_0 (fun e => by have := oQ _ e.symm; dsimp only at this; omega)
  replace k1_1 := hg.cell k1_1 (fun e => by have := oQ _ e.symm; dsimp only at this; omega)
  replace z1 := Nat.lt_of_lt_of_le z1 yw17
  replace k2_0 := hg.cell k2_0 (fun e => by have := oQ _ e.symm; dsimp only at this; omega)
  replace k2_1 := hg.cell k2_1 (fun e => by have := oQ _ e.symm; dsimp only at this; omega)
  replace z2 := Nat.lt_of_lt_of_le z2 yw17
  replace kW0_0 := hg.cell kW0_0 (fun e => by have := oQ _ e.symm; dsimp only at this; omega)
  replace kW0_1 := hg.cell kW0_1 (fun e => by have := oQ _ e.symm; dsimp only at this; omega)
  replace kW0_2 := hg.cell kW0_2 (fun e => by have := oQ _ e.symm; dsimp only at this; omega)
  replace kW0_3 := hg.cell kW0_3 (fun e => by have := oQ _ e.symm; dsimp only at this; omega)
  replace zW0 := Nat.lt_of_lt_of_le zW0 yw17
  replace kP_0 := hg.cell kP_0 (fun e => by have := oQ _ e.symm; dsimp only at this; omega)
  replace kP_1 := hg.cell kP_1 (fun e => by have := oQ _ e.symm; dsimp only at this; omega)
  replace zP := Nat.lt_of_lt_of_le zP yw17
  replace kQ_0 := hg.cell kQ_0 (fun e => by have := oQ _ e.symm; dsimp only at this; omega)
  replace kQ_1 := hg.cell kQ_1 (fun e => by have := oQ _ e.symm; dsimp only at this; omega)
  replace zQ := Nat.lt_of_lt_of_le zQ yw17
  replace kG0_0 := hg.cell kG0_0 (fun e => by have := oQ _ e.symm; dsimp only at this; omega)
  replace kG0_1 := hg.cell kG0_1 (fun e => by have := oQ _ e.symm; dsimp only at this; omega)
  replace kG0_2 := hg.cell kG0_2 (fun e => by have := oQ _ e.symm; dsimp only at this; omega)
  replace kG0_3 := hg.cell kG0_3 (fun e => by have := oQ _ e.symm; dsimp only at this; omega)
  replace zG0 := Nat.lt_of_lt_of_le zG0 yw17
  replace S1 := hide (S1.out.grownLow A1.out hg (fun k e => by have := oQ k e; omega))
  replace S2 := hide (S2.out.grownLow A2.out hg (fun k e => by have := oQ k e; omega))
  replace SW0n := hide (SW0n.out.grownLow AW0n.out hg (fun k e => by have := oQ k e; omega))
  replace SW0d := hide (SW0d.out.grownLow AW0d.out hg (fun k e => by have := oQ k e; omega))
  replace HP := hide (HP.out.kept hg (apart_of oP oQ (by omega)))
  replace HG0n := hide (HG0n.out.kept hg (apart_of oG0n oQ (by omega)))
  replace HG0d := hide (HG0d.out.kept hg (apart_of oG0d oQ (by omega)))
  replace HB := hide (HB.out.grown hg HB.out.size (fun k e => by have := oQ k e; omega))
  replace HQ := hide hm
  clear hg hm
  go_wp2_with fail
  refine (eqR (sgn (rtN (okB n1 xs1 && okB n2 xs2) (mk n1 (Num.nat xs1)) (mk n2 (Num.nat xs2)))) (lms (rtN (okB n1 xs1 && okB n2 xs2) (mk n1 (Num.nat xs1)) (mk n2 (Num.nat xs2)))) (sgn (rtD (okB n1 xs1 && okB n2 xs2) (mk n1 (Num.nat xs1)) (mk n2 (Num.nat xs2)))) (lms (rtD (okB n1 xs1 && okB n2 xs2) (mk n1 (Num.nat xs1)) (mk n2 (Num.nat xs2)))) aG0n cG0n aG0d cG0d aW0n cW0n aW0d cW0d _ (HG0n.out.seg) (HG0d.out.seg) (SW0n.out) (SW0d.out)).mono ?_
  rintro e w18 ⟨rfl, hbw18⟩
  have yw18 := hbw18.size
  replace k1_0 := (hbw18.cell (p := ⟨w.heap.size, 0, none⟩) z1).trans k1_0
  replace k1_1 := (hbw18.cell (p := ⟨w.heap.size, 1, none⟩) z1).trans k1_1
  replace z1 := Nat.lt_of_lt_of_le z1 hbw18.size
  replace k2_0 := (hbw18.cell (p := ⟨w.heap.size + 1, 0, none⟩) z2).trans k2_0
  replace k2_1 := (hbw18.cell (p := ⟨w.heap.size + 1, 1, none⟩) z2).trans k2_1
  replace z2 := Nat.lt_of_lt_of_le z2 hbw18.size
  replace kW0_0 := (hbw18.cell (p := ⟨NW0, 0, none⟩) zW0).trans kW0_0
  replace kW0_1 := (hbw18.cell (p := ⟨NW0, 1, none⟩) zW0).trans kW0_1
  replace kW0_2 := (hbw18.cell (p := ⟨NW0, 2, none⟩) zW0).trans kW0_2
  replace kW0_3 := (hbw18.cell (p := ⟨NW0, 3, none⟩) zW0).trans kW0_3
  replace zW0 := Nat.lt_of_lt_of_le zW0 hbw18.size
  replace kP_0 := (hbw18.cell (p := ⟨w5.heap.size, 0, none⟩) zP).trans kP_0
  replace kP_1 := (hbw18.cell (p := ⟨w5.heap.size, 1, none⟩) zP).trans kP_1
  replace zP := Nat.lt_of_lt_of_le zP hbw18.size
  replace kQ_0 := (hbw18.cell (p := ⟨w7.heap.size, 0, none⟩) zQ).trans kQ_0
  replace kQ_1 := (hbw18.cell (p := ⟨w7.heap.size, 1, none⟩) zQ).trans kQ_1
  replace zQ := Nat.lt_of_lt_of_le zQ hbw18.size
  replace kG0_0 := (hbw18.cell (p := ⟨w9.heap.size, 0, none⟩) zG0).trans kG0_0
  replace kG0_1 := (hbw18.cell (p := ⟨w9.heap.size, 1, none⟩) zG0).trans kG0_1
  replace kG0_2 := (hbw18.cell (p := ⟨w9.heap.size, 2, none⟩) zG0).trans kG0_2
  replace kG0_3 := (hbw18.cell (p := ⟨w9.heap.size, 3, none⟩) zG0).trans kG0_3
  replace zG0 := Nat.lt_of_lt_of_le zG0 hbw18.size
  replace S1 := hide (S1.out.below hbw18)
  replace S2 := hide (S2.out.below hbw18)
  replace SW0n := hide (SW0n.out.below hbw18)
  replace SW0d := hide (SW0d.out.below hbw18)
  replace HP := hide (HP.out.below hbw18)
  replace HQ := hide (HQ.out.below hbw18)
  replace HG0n := hide (HG0n.out.below hbw18)
  replace HG0d := hide (HG0d.out.below hbw18)
  replace HB := hide (bl_trans HB.out hbw18)
  clear hbw18
  go_wp2_with fail
  refine (markR (sgn (rtN (okB n1 xs1 && okB n2 xs2) (mk n1 (Num.nat xs1)) (mk n2 (Num.nat xs2)))) aG0n (lms (rtN (okB n1 xs1 && okB n2 xs2) (mk n1 (Num.nat xs1)) (mk n2 (Num.nat xs2)))).length cG0n _ _ (sgn (rtD (okB n1 xs1 && okB n2 xs2) (mk n1 (Num.nat xs1)) (mk n2 (Num.nat xs2)))) aG0d (lms (rtD (okB n1 xs1 && okB n2 xs2) (mk n1 (Num.nat xs1)) (mk n2 (Num.nat xs2)))).length cG0d _ _ (0) (1) _ (by omega) (by omega) HG0n.out HG0d.out HAPG01.out).mono ?_
  rintro e w20 ⟨rfl, hm, hm2, w19, hg, hg2⟩
  have yw19 := hg.size
  replace k1_0 := hg.cell k1_0 (fun e => by have := oG0n _ e.symm; dsimp only at this; omega)
  replace k1_1 := hg.cell k1_1 (fun e => by have := oG0n _ e.symm; dsimp only at this; omega)
  replace z1 := Nat.lt_of_lt_of_le z1 yw19
  replace k2_0 := hg.cell k2_0 (fun e => by have := oG0n _ e.symm; dsimp only at this; omega)
  replace k2_1 := hg.cell k2_1 (fun e => by have := oG0n _ e.symm; dsimp only at this; omega)
  replace z2 := Nat.lt_of_lt_of_le z2 yw19
  replace kW0_0 := hg.cell kW0_0 (fun e => by have := oG0n _ e.symm; dsimp only at this; omega)
  replace kW0_1 := hg.cell kW0_1 (fun e => by have := oG0n _ e.symm; dsimp only at this; omega)
  replace kW0_2 := hg.cell kW0_2 (fun e => by have := oG0n _ e.symm; dsimp only at this; omega)
  replace kW0_3 := hg.cell kW0_3 (fun e => by have := oG0n _ e.symm; dsimp only at this; omega)
  replace zW0 := Nat.lt_of_lt_of_le zW0 yw19
  replace kP_0 := hg.cell kP_0 (fun e => by have := oG0n _ e.symm; dsimp only at this; omega)
  replace kP_1 := hg.cell kP_1 (fun e => by have := oG0n _ e.symm; dsimp only at this; omega)
  replace zP := Nat.lt_of_lt_of_le zP yw19
  replace kQ_0 := hg.cell kQ_0 (fun e => by have := oG0n _ e.symm; dsimp only at this; omega)
  replace kQ_1 := hg.cell kQ_1 (fun e => by have := oG0n _ e.symm; dsimp only at this; omega)
  replace zQ := Nat.lt_of_lt_of_le zQ yw19
  replace kG0_0 := hg.cell kG0_0 (fun e => by have := oG0n _ e.symm; dsimp only at this; omega)
  replace kG0_1 := hg.cell kG0_1 (fun e => by have := oG0n _ e.symm; dsimp only at this; omega)
  replace kG0_2 := hg.cell kG0_2 (fun e => by have := oG0n _ e.symm; dsimp only at this; omega)
  replace kG0_3 := hg.cell kG0_3 (fun e => by have := oG0n _ e.symm; dsimp only at this; omega)
  replace zG0 := Nat.lt_of_lt_of_le zG0 yw19
  replace S1 := hide (S1.out.grownLow A1.out hg (fun k e => by have := oG0n k e; omega))
  replace S2 := hide (S2.out.grownLow A2.out hg (fun k e => by have := oG0n k e; omega))
  replace SW0n := hide (SW0n.out.grownLow AW0n.out hg (fun k e => by have := oG0n k e; omega))
  replace SW0d := hide (SW0d.out.grownLow AW0d.out hg (fun k e => by have := oG0n k e; omega))
  replace HP := hide (HP.out.kept hg (apart_of oP oG0n (by omega)))
  replace HQ := hide (HQ.out.kept hg (apart_of oQ oG0n (by omega)))
  replace HB := hide (HB.out.grown hg HB.out.size (fun k e => by have := oG0n k e; omega))
  have yw20 := hg2.size
  replace k1_0 := hg2.cell k1_0 (fun e => by have := oG0d _ e.symm; dsimp only at this; omega)
  replace k1_1 := hg2.cell k1_1 (fun e => by have := oG0d _ e.symm; dsimp only at this; omega)
  replace z1 := Nat.lt_of_lt_of_le z1 yw20
  replace k2_0 := hg2.cell k2_0 (fun e => by have := oG0d _ e.symm; dsimp only at this; omega)
  replace k2_1 := hg2.cell k2_1 (fun e => by have := oG0d _ e.symm; dsimp only at this; omega)
  replace z2 := Nat.lt_of_lt_of_le z2 yw20
  replace kW0_0 := hg2.cell kW0_0 (fun e => by have := oG0d _ e.symm; dsimp only at this; omega)
  replace kW0_1 := hg2.cell kW0_1 (fun e => by have := oG0d _ e.symm; dsimp only at this; omega)
  replace kW0_2 := hg2.cell kW0_2 (fun e => by have := oG0d _ e.symm; dsimp only at this; omega)
  replace kW0_3 := hg2.cell kW0_3 (fun e => by have := oG0d _ e.symm; dsimp only at this; omega)
  replace zW0 := Nat.lt_of_lt_of_le zW0 yw20
  replace kP_0 := hg2.cell kP_0 (fun e => by have := oG0d _ e.symm; dsimp only at this; omega)
  replace kP_1 := hg2.cell kP_1 (fun e => by have := oG0d _ e.symm; dsimp only at this; omega)
  replace zP := Nat.lt_of_lt_of_le zP yw20
  replace kQ_0 := hg2.cell kQ_0 (fun e => by have := oG0d _ e.symm; dsimp only at this; omega)
  replace kQ_1 := hg2.cell kQ_1 (fun e => by have := oG0d _ e.symm; dsimp only at this; omega)
  replace zQ := Nat.lt_of_lt_of_le zQ yw20
  replace kG0_0 := hg2.cell kG0_0 (fun e => by have := oG0d _ e.symm; dsimp only at this; omega)
  replace kG0_1 := hg2.cell kG0_1 (fun e => by have := oG0d _ e.symm; dsimp only at this; omega)
  replace kG0_2 := hg2.cell kG0_2 (fun e => by have := oG0d _ e.symm; dsimp only at this; omega)
  replace kG0_3 := hg2.cell kG0_3 (fun e => by have := oG0d _ e.symm; dsimp only at this; omega)
  replace zG0 := Nat.lt_of_lt_of_le zG0 yw20
  replace S1 := hide (S1.out.grownLow A1.out hg2 (fun k e => by have := oG0d k e; omega))
  replace S2 := hide (S2.out.grownLow A2.out hg2 (fun k e => by have := oG0d k e; omega))
  replace SW0n := hide (SW0n.out.grownLow AW0n.out hg2 (fun k e => by have := oG0d k e; omega))
  replace SW0d := hide (SW0d.out.grownLow AW0d.out hg2 (fun k e => by have := oG0d k e; omega))
  replace HP := hide (HP.out.kept hg2 (apart_of oP oG0d (by omega)))
  replace HQ := hide (HQ.out.kept hg2 (apart_of oQ oG0d (by omega)))
  replace HB := hide (HB.out.grown hg2 HB.out.size (fun k e => by have := oG0d k e; omega))
  replace HG0n := hide hm
  replace HG0d := hide hm2
  clear hg hg2 hm hm2
  go_wp2_with fail
  refine (heldR (sgn (rtN (okB n1 xs1 && okB n2 xs2) (mk n1 (Num.nat xs1)) (mk n2 (Num.nat xs2)))) aG0n (lms (rtN (okB n1 xs1 && okB n2 xs2) (mk n1 (Num.nat xs1)) (mk n2 (Num.nat xs2)))).length cG0n (sgn (rtD (okB n1 xs1 && okB n2 xs2) (mk n1 (Num.nat xs1)) (mk n2 (Num.nat xs2)))) aG0d (lms (rtD (okB n1 xs1 && okB n2 xs2) (mk n1 (Num.nat xs1)) (mk n2 (Num.nat xs2)))).length cG0d (0) (1) _ (by omega) (by omega) HG0n.out.seg HG0d.out.seg).mono ?_
  rintro e w21 ⟨rfl, hbw21⟩
  have yw21 := hbw21.size
  replace k1_0 := (hbw21.cell (p := ⟨w.heap.size, 0, none⟩) z1).trans k1_0
  replace k1_1 := (hbw21.cell (p := ⟨w.heap.size, 1, none⟩) z1).trans k1_1
  replace z1 := Nat.lt_of_lt_of_le z1 hbw21.size
  replace k2_0 := (hbw21.cell (p := ⟨w.heap.size + 1, 0, none⟩) z2).trans k2_0
  replace k2_1 := (hbw21.cell (p := ⟨w.heap.size + 1, 1, none⟩) z2).trans k2_1
  replace z2 := Nat.lt_of_lt_of_le z2 hbw21.size
  replace kW0_0 := (hbw21.cell (p := ⟨NW0, 0, none⟩) zW0).trans kW0_0
  replace kW0_1 := (hbw21.cell (p := ⟨NW0, 1, none⟩) zW0).trans kW0_1
  replace kW0_2 := (hbw21.cell (p := ⟨NW0, 2, none⟩) zW0).trans kW0_2
  replace kW0_3 := (hbw21.cell (p := ⟨NW0, 3, none⟩) zW0).trans kW0_3
  replace zW0 := Nat.lt_of_lt_of_le zW0 hbw21.size
  replace kP_0 := (hbw21.cell (p := ⟨w5.heap.size, 0, none⟩) zP).trans kP_0
  replace kP_1 := (hbw21.cell (p := ⟨w5.heap.size, 1, none⟩) zP).trans kP_1
  replace zP := Nat.lt_of_lt_of_le zP hbw21.size
  replace kQ_0 := (hbw21.cell (p := ⟨w7.heap.size, 0, none⟩) zQ).trans kQ_0
  replace kQ_1 := (hbw21.cell (p := ⟨w7.heap.size, 1, none⟩) zQ).trans kQ_1
  replace zQ := Nat.lt_of_lt_of_le zQ hbw21.size
  replace kG0_0 := (hbw21.cell (p := ⟨w9.heap.size, 0, none⟩) zG0).trans kG0_0
  replace kG0_1 := (hbw21.cell (p := ⟨w9.heap.size, 1, none⟩) zG0).trans kG0_1
  replace kG0_2 := (hbw21.cell (p := ⟨w9.heap.size, 2, none⟩) zG0).trans kG0_2
  replace kG0_3 := (hbw21.cell (p := ⟨w9.heap.size, 3, none⟩) zG0).trans kG0_3
  replace zG0 := Nat.lt_of_lt_of_le zG0 hbw21.size
  replace S1 := hide (S1.out.below hbw21)
  replace S2 := hide (S2.out.below hbw21)
  replace SW0n := hide (SW0n.out.below hbw21)
  replace SW0d := hide (SW0d.out.below hbw21)
  replace HP := hide (HP.out.below hbw21)
  replace HQ := hide (HQ.out.below hbw21)
  replace HG0n := hide (HG0n.out.below hbw21)
  replace HG0d := hide (HG0d.out.below hbw21)
  replace HB := hide (bl_trans HB.out hbw21)
  clear hbw21
  go_upto_region 31 with fail
  go_cut [15, 16] (fun s0 t0 wc => ∃ (N0 : Nat) (aV0n : Option Addr) (cV0n : Nat) (aV0d : Option Addr) (cV0d : Nat), s0 = .pointer (some ⟨N0, 0, none⟩) ∧ t0 = .bool (rtT (okB n1 xs1 && okB n2 xs2) (mk n1 (Num.nat xs1)) (mk n2 (Num.nat xs2))) ∧ Hid (w21.heap.size ≤ N0 ∧ N0 < wc.heap.size ∧ wc.cell? ⟨N0, 0, none⟩ = some (Value.bool (sgn (rtN (okB n1 xs1 && okB n2 xs2) (mk n1 (Num.nat xs1)) (mk n2 (Num.nat xs2))))) ∧ wc.cell? ⟨N0, 1, none⟩ = some (Value.slice aV0n (lms (rtN (okB n1 xs1 && okB n2 xs2) (mk n1 (Num.nat xs1)) (mk n2 (Num.nat xs2)))).length cV0n) ∧ wc.cell? ⟨N0, 2, none⟩ = some (Value.bool (sgn (rtD (okB n1 xs1 && okB n2 xs2) (mk n1 (Num.nat xs1)) (mk n2 (Num.nat xs2))))) ∧ wc.cell? ⟨N0, 3, none⟩ = some (Value.slice aV0d (lms (rtD (okB n1 xs1 && okB n2 xs2) (mk n1 (Num.nat xs1)) (mk n2 (Num.nat xs2)))).length cV0d) ∧ Seg wc aV0n (lms (rtN (okB n1 xs1 && okB n2 xs2) (mk n1 (Num.nat xs1)) (mk n2 (Num.nat xs2)))).length cV0n (lms (rtN (okB n1 xs1 && okB n2 xs2) (mk n1 (Num.nat xs1)) (mk n2 (Num.nat xs2)))) ∧ Seg wc aV0d (lms (rtD (okB n1 xs1 && okB n2 xs2) (mk n1 (Num.nat xs1)) (mk n2 (Num.nat xs2)))).length cV0d (lms (rtD (okB n1 xs1 && okB n2 xs2) (mk n1 (Num.nat xs1)) (mk n2 (Num.nat xs2)))) ∧ Below w21.heap.size w21 wc))
  case first =>
    have KP : Hid (∀ w', Below w21.heap.size w21 w' → (w'.cell? ⟨w.heap.size, 0, none⟩ = some (Value.bool n1) ∧ w'.cell? ⟨w.heap.size, 1, none⟩ = some (Value.slice a1 xs1.length c1) ∧ w'.cell? ⟨w.heap.size + 1, 0, none⟩ = some (Value.bool n2) ∧ w'.cell? ⟨w.heap.size + 1, 1, none⟩ = some (Value.slice a2 xs2.length c2) ∧ Hid (Below w21.heap.size w21 w'))) := hide (fun w' hb => ⟨(hb.cell (p := ⟨w.heap.size, 0, none⟩) z1).trans k1_0, (hb.cell (p := ⟨w.heap.size, 1, none⟩) z1).trans k1_1, (hb.cell (p := ⟨w.heap.size + 1, 0, none⟩) z2).trans k2_0, (hb.cell (p := ⟨w.heap.size + 1, 1, none⟩) z2).trans k2_1, hb⟩)
    go_region_held3 (fun w' => w'.cell? ⟨w.heap.size, 0, none⟩ = some (Value.bool n1) ∧ w'.cell? ⟨w.heap.size, 1, none⟩ = some (Value.slice a1 xs1.length c1) ∧ w'.cell? ⟨w.heap.size + 1, 0, none⟩ = some (Value.bool n2) ∧ w'.cell? ⟨w.heap.size + 1, 1, none⟩ = some (Value.slice a2 xs2.length c2) ∧ Hid (Below w21.heap.size w21 w'))
      (first | exact KP.out _ (bl_refl w21).drew | exact KP.out _ bC | exact KP.out _ bB | exact KP.out _ bA | exact KP.out _ (by repeat first | exact bC | exact bB | exact bA | exact (bl_refl w21).drew | exact bl_refl w21 | refine bl_alloc ?_ _ | refine bl_trans ?_ (bl_refl _).drew | refine Below.setCell ?_ (by first | omega | (dsimp only; omega) | (dsimp only; rw [World.size_drew]; omega)) _))
      (first
        | (go_at_call_of 10 (Value.agg #[Value.bool n1, Value.slice a1 xs1.length c1]); refine (toB n1 a1 xs1.length c1 xs1 _ (S1.out.below (Hid.out (And.right (And.right (And.right (And.right (by assumption))))))) (by omega)).mono ?_; rintro e wA ⟨uX, rfl, ⟨aX, cX, rfl, hoX⟩, hbA⟩; have bA : Below w21.heap.size w21 wA := bl_trans (Hid.out (And.right (And.right (And.right (And.right (by assumption)))))) hbA; have yA := bA.size; have HX := hide hoX.seg; clear hoX; (first | have HZa0 := hide (show Zr4 wA w21.heap.size from born4 hbA) | have HZa0 := hide (show Zr4 wA w21.heap.size from born4 (bl_trans (bl_refl (w21.alloc (Obj.cells #[Value.bool false, Value.slice none 0 0, Value.bool false, Value.slice none 0 0] 28))).drew hbA)) | skip); (try have zza0 := HZa0.out.1); clear hbA)
        | (go_at_call_of 10 (Value.agg #[Value.bool n2, Value.slice a2 xs2.length c2]); refine (toB n2 a2 xs2.length c2 xs2 _ (S2.out.below (Hid.out (And.right (And.right (And.right (And.right (by assumption))))))) (by omega)).mono ?_; rintro e wB ⟨uY, rfl, ⟨aY, cY, rfl, hoY⟩, hbB⟩; have bB : Below w21.heap.size w21 wB := bl_trans (Hid.out (And.right (And.right (And.right (And.right (by assumption)))))) hbB; have bAB : Below wA.heap.size wA wB := (by first | exact hbB | exact bl_one hbB | exact bl_two hbB); have yB := bAB.size; have HY := hide hoY.seg; clear hoY; replace HX := hide (HX.out.below bAB); (try replace HZa0 := hide (HZa0.out.below bAB)); (first | have HZb0 := hide (show Zr4 wB wA.heap.size from born4 hbB) | have HZb0 := hide (show Zr4 wB wA.heap.size from born4 (bl_trans (bl_refl (wA.alloc (Obj.cells #[Value.bool false, Value.slice none 0 0, Value.bool false, Value.slice none 0 0] 28))).drew hbB)) | skip); (try have zzb0 := HZb0.out.1); clear hbB)
        | (go_at_call 11; refine (MakeRatP n1 xs1 n2 xs2 aX cX aY cY _ ((HX.out.below (by first | exact bl_refl _ | exact bl_alloc (bl_refl _) _ | exact bl_alloc (bl_alloc (bl_refl _) _) _))) ((HY.out.below (by first | exact bl_refl _ | exact bl_alloc (bl_refl _) _ | exact bl_alloc (bl_alloc (bl_refl _) _) _)))).mono ?_; rintro e wC ⟨aC0n, cC0n, aC0d, cC0d, rfl, hoC0n, hoC0d, hapC01, hbC⟩; have bBC : Below wB.heap.size wB wC := (by first | exact hbC | exact bl_one hbC | exact bl_two hbC); have bC : Below w21.heap.size w21 wC := bl_trans bB bBC; have yC := bBC.size; have RC0n := hide hoC0n.rgs; clear hoC0n; have RC0d := hide hoC0d.rgs; clear hoC0d; (try replace HZa0 := hide (HZa0.out.below bBC)); (try replace HZb0 := hide (HZb0.out.below bBC)); (first | have HZc0 := hide (show Zr4 wC wB.heap.size from born4 hbC) | have HZc0 := hide (show Zr4 wC wB.heap.size from born4 (bl_trans (bl_refl (wB.alloc (Obj.cells #[Value.bool false, Value.slice none 0 0, Value.bool false, Value.slice none 0 0] 28))).drew hbC)) | skip); (try have Qa0 := HZa0.out); (try obtain ⟨za0, ka0_0, ka0_1, ka0_2, ka0_3, fa0_0, fa0_1, fa0_2, fa0_3⟩ := HZa0.out); (try have Qb0 := HZb0.out); (try obtain ⟨zb0, kb0_0, kb0_1, kb0_2, kb0_3, fb0_0, fb0_1, fb0_2, fb0_3⟩ := HZb0.out); (try have Qc0 := HZc0.out); (try obtain ⟨zc0, kc0_0, kc0_1, kc0_2, kc0_3, fc0_0, fc0_1, fc0_2, fc0_3⟩ := HZc0.out); (try simp only [World.size_drew] at RC0n); (try simp only [World.size_alloc] at RC0n); (try simp only [World.size_drew] at RC0d); (try simp only [World.size_alloc] at RC0d); skip; clear hbC))
    all_goals (go_wp2_with fail; go_meet)
    · exact ⟨_, aC0n, cC0n, aC0d, cC0d, rfl, rfl, hide (res4_b RC0n.out RC0d.out bC)⟩
    · exact ⟨_, aC0n, cC0n, aC0d, cC0d, rfl, rfl, hide (res4_a RC0n.out RC0d.out bC Qc0 (by omega) (by omega) (by omega))⟩
    · exact ⟨_, aC0n, cC0n, aC0d, cC0d, rfl, rfl, hide (res4_a RC0n.out RC0d.out bC Qb0 (by omega) (by omega) (by omega))⟩
    · exact ⟨_, aC0n, cC0n, aC0d, cC0d, rfl, rfl, hide (res4_a RC0n.out RC0d.out bC Qa0 (by omega) (by omega) (by omega))⟩
  case rest =>
  obtain ⟨NV0, aV0n, cV0n, aV0d, cV0d, rfl, rfl, hres⟩ := hcut
  obtain ⟨nV0, mV0, rV0_0, rV0_1, rV0_2, rV0_3, gV0n, gV0d, rB⟩ := hres.out
  clear hres
  rename World => w22
  have yw22 := rB.size
  replace k1_0 := (rB.cell (p := ⟨w.heap.size, 0, none⟩) z1).trans k1_0
  replace k1_1 := (rB.cell (p := ⟨w.heap.size, 1, none⟩) z1).trans k1_1
  replace z1 := Nat.lt_of_lt_of_le z1 rB.size
  replace k2_0 := (rB.cell (p := ⟨w.heap.size + 1, 0, none⟩) z2).trans k2_0
  replace k2_1 := (rB.cell (p := ⟨w.heap.size + 1, 1, none⟩) z2).trans k2_1
  replace z2 := Nat.lt_of_lt_of_le z2 rB.size
  replace kW0_0 := (rB.cell (p := ⟨NW0, 0, none⟩) zW0).trans kW0_0
  replace kW0_1 := (rB.cell (p := ⟨NW0, 1, none⟩) zW0).trans kW0_1
  replace kW0_2 := (rB.cell (p := ⟨NW0, 2, none⟩) zW0).trans kW0_2
  replace kW0_3 := (rB.cell (p := ⟨NW0, 3, none⟩) zW0).trans kW0_3
  replace zW0 := Nat.lt_of_lt_of_le zW0 rB.size
  replace kP_0 := (rB.cell (p := ⟨w5.heap.size, 0, none⟩) zP).trans kP_0
  replace kP_1 := (rB.cell (p := ⟨w5.heap.size, 1, none⟩) zP).trans kP_1
  replace zP := Nat.lt_of_lt_of_le zP rB.size
  replace kQ_0 := (rB.cell (p := ⟨w7.heap.size, 0, none⟩) zQ).trans kQ_0
  replace kQ_1 := (rB.cell (p := ⟨w7.heap.size, 1, none⟩) zQ).trans kQ_1
  replace zQ := Nat.lt_of_lt_of_le zQ rB.size
  replace kG0_0 := (rB.cell (p := ⟨w9.heap.size, 0, none⟩) zG0).trans kG0_0
  replace kG0_1 := (rB.cell (p := ⟨w9.heap.size, 1, none⟩) zG0).trans kG0_1
  replace kG0_2 := (rB.cell (p := ⟨w9.heap.size, 2, none⟩) zG0).trans kG0_2
  replace kG0_3 := (rB.cell (p := ⟨w9.heap.size, 3, none⟩) zG0).trans kG0_3
  replace zG0 := Nat.lt_of_lt_of_le zG0 rB.size
  replace S1 := hide (S1.out.below rB)
  replace S2 := hide (S2.out.below rB)
  replace SW0n := hide (SW0n.out.below rB)
  replace SW0d := hide (SW0d.out.below rB)
  replace HP := hide (HP.out.below rB)
  replace HQ := hide (HQ.out.below rB)
  replace HG0n := hide (HG0n.out.below rB)
  replace HG0d := hide (HG0d.out.below rB)
  replace HB := hide (bl_trans HB.out rB)
  have kV0_0 := rV0_0
  clear rV0_0
  have kV0_1 := rV0_1
  clear rV0_1
  have kV0_2 := rV0_2
  clear rV0_2
  have kV0_3 := rV0_3
  clear rV0_3
  have zV0 := mV0
  have SV0n := hide gV0n
  have AV0n := SV0n
  clear gV0n
  have SV0d := hide gV0d
  have AV0d := SV0d
  clear gV0d
  clear rB
  go_wp2_with fail
  refine (eqR (sgn (rtN (okB n1 xs1 && okB n2 xs2) (mk n1 (Num.nat xs1)) (mk n2 (Num.nat xs2)))) (lms (rtN (okB n1 xs1 && okB n2 xs2) (mk n1 (Num.nat xs1)) (mk n2 (Num.nat xs2)))) (sgn (rtD (okB n1 xs1 && okB n2 xs2) (mk n1 (Num.nat xs1)) (mk n2 (Num.nat xs2)))) (lms (rtD (okB n1 xs1 && okB n2 xs2) (mk n1 (Num.nat xs1)) (mk n2 (Num.nat xs2)))) aV0n cV0n aV0d cV0d aW0n cW0n aW0d cW0d _ (SV0n.out) (SV0d.out) (SW0n.out) (SW0d.out)).mono ?_
  rintro e w23 ⟨rfl, hbw23⟩
  have yw23 := hbw23.size
  replace k1_0 := (hbw23.cell (p := ⟨w.heap.size, 0, none⟩) z1).trans k1_0
  replace k1_1 := (hbw23.cell (p := ⟨w.heap.size, 1, none⟩) z1).trans k1_1
  replace z1 := Nat.lt_of_lt_of_le z1 hbw23.size
  replace k2_0 := (hbw23.cell (p := ⟨w.heap.size + 1, 0, none⟩) z2).trans k2_0
  replace k2_1 := (hbw23.cell (p := ⟨w.heap.size + 1, 1, none⟩) z2).trans k2_1
  replace z2 := Nat.lt_of_lt_of_le z2 hbw23.size
  replace kW0_0 := (hbw23.cell (p := ⟨NW0, 0, none⟩) zW0).trans kW0_0
  replace kW0_1 := (hbw23.cell (p := ⟨NW0, 1, none⟩) zW0).trans kW0_1
  replace kW0_2 := (hbw23.cell (p := ⟨NW0, 2, none⟩) zW0).trans kW0_2
  replace kW0_3 := (hbw23.cell (p := ⟨NW0, 3, none⟩) zW0).trans kW0_3
  replace zW0 := Nat.lt_of_lt_of_le zW0 hbw23.size
  replace kP_0 := (hbw23.cell (p := ⟨w5.heap.size, 0, none⟩) zP).trans kP_0
  replace kP_1 := (hbw23.cell (p := ⟨w5.heap.size, 1, none⟩) zP).trans kP_1
  replace zP := Nat.lt_of_lt_of_le zP hbw23.size
  replace kQ_0 := (hbw23.cell (p := ⟨w7.heap.size, 0, none⟩) zQ).trans kQ_0
  replace kQ_1 := (hbw23.cell (p := ⟨w7.heap.size, 1, none⟩) zQ).trans kQ_1
  replace zQ := Nat.lt_of_lt_of_le zQ hbw23.size
  replace kG0_0 := (hbw23.cell (p := ⟨w9.heap.size, 0, none⟩) zG0).trans kG0_0
  replace kG0_1 := (hbw23.cell (p := ⟨w9.heap.size, 1, none⟩) zG0).trans kG0_1
  replace kG0_2 := (hbw23.cell (p := ⟨w9.heap.size, 2, none⟩) zG0).trans kG0_2
  replace kG0_3 := (hbw23.cell (p := ⟨w9.heap.size, 3, none⟩) zG0).trans kG0_3
  replace zG0 := Nat.lt_of_lt_of_le zG0 hbw23.size
  replace kV0_0 := (hbw23.cell (p := ⟨NV0, 0, none⟩) zV0).trans kV0_0
  replace kV0_1 := (hbw23.cell (p := ⟨NV0, 1, none⟩) zV0).trans kV0_1
  replace kV0_2 := (hbw23.cell (p := ⟨NV0, 2, none⟩) zV0).trans kV0_2
  replace kV0_3 := (hbw23.cell (p := ⟨NV0, 3, none⟩) zV0).trans kV0_3
  replace zV0 := Nat.lt_of_lt_of_le zV0 hbw23.size
  replace S1 := hide (S1.out.below hbw23)
  replace S2 := hide (S2.out.below hbw23)
  replace SW0n := hide (SW0n.out.below hbw23)
  replace SW0d := hide (SW0d.out.below hbw23)
  replace HP := hide (HP.out.below hbw23)
  replace HQ := hide (HQ.out.below hbw23)
  replace HG0n := hide (HG0n.out.below hbw23)
  replace HG0d := hide (HG0d.out.below hbw23)
  replace SV0n := hide (SV0n.out.below hbw23)
  replace SV0d := hide (SV0d.out.below hbw23)
  replace HB := hide (bl_trans HB.out hbw23)
  clear hbw23
  go_wp2_with fail
  refine (heldR (sgn (rtN (okB n1 xs1 && okB n2 xs2) (mk n1 (Num.nat xs1)) (mk n2 (Num.nat xs2)))) aG0n (lms (rtN (okB n1 xs1 && okB n2 xs2) (mk n1 (Num.nat xs1)) (mk n2 (Num.nat xs2)))).length cG0n (sgn (rtD (okB n1 xs1 && okB n2 xs2) (mk n1 (Num.nat xs1)) (mk n2 (Num.nat xs2)))) aG0d (lms (rtD (okB n1 xs1 && okB n2 xs2) (mk n1 (Num.nat xs1)) (mk n2 (Num.nat xs2)))).length cG0d (0) (1) _ (by omega) (by omega) HG0n.out.seg HG0d.out.seg).mono ?_
  rintro e w24 ⟨rfl, hbw24⟩
  have yw24 := hbw24.size
  replace k1_0 := (hbw24.cell (p := ⟨w.heap.size, 0, none⟩) z1).trans k1_0
  replace k1_1 := (hbw24.cell (p := ⟨w.heap.size, 1, none⟩) z1).trans k1_1
  replace z1 := Nat.lt_of_lt_of_le z1 hbw24.size
  replace k2_0 := (hbw24.cell (p := ⟨w.heap.size + 1, 0, none⟩) z2).trans k2_0
  replace k2_1 := (hbw24.cell (p := ⟨w.heap.size + 1, 1, none⟩) z2).trans k2_1
  replace z2 := Nat.lt_of_lt_of_le z2 hbw24.size
  replace kW0_0 := (hbw24.cell (p := ⟨NW0, 0, none⟩) zW0).trans kW0_0
  replace kW0_1 := (hbw24.cell (p := ⟨NW0, 1, none⟩) zW0).trans kW0_1
  replace kW0_2 := (hbw24.cell (p := ⟨NW0, 2, none⟩) zW0).trans kW0_2
  replace kW0_3 := (hbw24.cell (p := ⟨NW0, 3, none⟩) zW0).trans kW0_3
  replace zW0 := Nat.lt_of_lt_of_le zW0 hbw24.size
  replace kP_0 := (hbw24.cell (p := ⟨w5.heap.size, 0, none⟩) zP).trans kP_0
  replace kP_1 := (hbw24.cell (p := ⟨w5.heap.size, 1, none⟩) zP).trans kP_1
  replace zP := Nat.lt_of_lt_of_le zP hbw24.size
  replace kQ_0 := (hbw24.cell (p := ⟨w7.heap.size, 0, none⟩) zQ).trans kQ_0
  replace kQ_1 := (hbw24.cell (p := ⟨w7.heap.size, 1, none⟩) zQ).trans kQ_1
  replace zQ := Nat.lt_of_lt_of_le zQ hbw24.size
  replace kG0_0 := (hbw24.cell (p := ⟨w9.heap.size, 0, none⟩) zG0).trans kG0_0
  replace kG0_1 := (hbw24.cell (p := ⟨w9.heap.size, 1, none⟩) zG0).trans kG0_1
  replace kG0_2 := (hbw24.cell (p := ⟨w9.heap.size, 2, none⟩) zG0).trans kG0_2
  replace kG0_3 := (hbw24.cell (p := ⟨w9.heap.size, 3, none⟩) zG0).trans kG0_3
  replace zG0 := Nat.lt_of_lt_of_le zG0 hbw24.size
  replace kV0_0 := (hbw24.cell (p := ⟨NV0, 0, none⟩) zV0).trans kV0_0
  replace kV0_1 := (hbw24.cell (p := ⟨NV0, 1, none⟩) zV0).trans kV0_1
  replace kV0_2 := (hbw24.cell (p := ⟨NV0, 2, none⟩) zV0).trans kV0_2
  replace kV0_3 := (hbw24.cell (p := ⟨NV0, 3, none⟩) zV0).trans kV0_3
  replace zV0 := Nat.lt_of_lt_of_le zV0 hbw24.size
  replace S1 := hide (S1.out.below hbw24)
  replace S2 := hide (S2.out.below hbw24)
  replace SW0n := hide (SW0n.out.below hbw24)
  replace SW0d := hide (SW0d.out.below hbw24)
  replace HP := hide (HP.out.below hbw24)
  replace HQ := hide (HQ.out.below hbw24)
  replace HG0n := hide (HG0n.out.below hbw24)
  replace HG0d := hide (HG0d.out.below hbw24)
  replace SV0n := hide (SV0n.out.below hbw24)
  replace SV0d := hide (SV0d.out.below hbw24)
  replace HB := hide (bl_trans HB.out hbw24)
  clear hbw24
  go_wp2
  go_ret
  exact ⟨rfl, HB.out⟩
end Go.Proofs.Ytemjkgegbpkeoaa
