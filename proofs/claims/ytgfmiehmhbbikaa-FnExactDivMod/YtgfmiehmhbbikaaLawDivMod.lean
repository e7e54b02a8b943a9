/- The walk of the exact law of DivMod. -/
import Derived.Test.YtgfmiehmhbbikaaDivM
import Derived.Test.YtgfmiehmhbbikaaRes2
import Derived.Test.YtgfmiehmhbbikaaRatH
import Derived.Test.YtgfmiehmhbbikaaGcdT
namespace Go.Proofs.Ytgfmiehmhbbikaa
open Go.RowKit
set_option linter.unusedVariables false

theorem dvQ_len (n1 : Bool) (xs : List Nat) (n2 : Bool) (ys : List Nat) (h1 : Num.Small xs) : (lms (dvQ n1 xs n2 ys)).length ≤ 40 := by
  unfold dvQ
  by_cases h : dvT n1 xs n2 ys = true
  · rw [if_pos h]
    unfold dvT at h
    simp only [Bool.and_eq_true] at h
    obtain ⟨x, rfl, rfl, hx⟩ := ok_num h1 h.1.1
    rw [nat_lms, mk_self]
    exact Num.limbs_len.2 (Nat.lt_of_le_of_lt (div_abs_le _ _) hx)
  · rw [if_neg h, zero_lms]; exact Nat.zero_le _
theorem dvR_len (n1 : Bool) (xs : List Nat) (n2 : Bool) (ys : List Nat) (h2 : Num.Small ys) : (lms (dvR n1 xs n2 ys)).length ≤ 40 := by
  unfold dvR
  by_cases h : dvT n1 xs n2 ys = true
  · rw [if_pos h]
    unfold dvT at h
    simp only [Bool.and_eq_true] at h
    obtain ⟨y, rfl, rfl, hy⟩ := ok_num h2 h.1.2
    rw [nat_lms, mk_self]
    exact Num.limbs_len.2 (Nat.lt_of_le_of_lt (mod_abs_le _ (by have := of_decide_eq_true h.2; rw [nat_lms, mk_self] at this; exact this)) hy)
  · rw [if_neg h, zero_lms]; exact Nat.zero_le _

theorem DivModQ' (v1 v2 : Value) (n1 n2 : Bool) (xs ys : List Nat) (w : World) (h1 : Raw w v1 n1 xs) (h2 : Raw w v2 n2 ys) :
    Calls Try.prog 7 #[v1, v2] w fun e w' => ∃ a1 c1 a2 c2, e = .returned (.tuple #[.agg #[.bool (sgn (dvQ n1 xs n2 ys)), .slice a1 (lms (dvQ n1 xs n2 ys)).length c1], .agg #[.bool (sgn (dvR n1 xs n2 ys)), .slice a2 (lms (dvR n1 xs n2 ys)).length c2], .bool (dvT n1 xs n2 ys)]) ∧ Own w' w.heap.size a1 (lms (dvQ n1 xs n2 ys)).length c1 (lms (dvQ n1 xs n2 ys)) ∧ Own w' w.heap.size a2 (lms (dvR n1 xs n2 ys)).length c2 (lms (dvR n1 xs n2 ys)) ∧ True ∧ Below w.heap.size w w' :=
  (DivModQ v1 v2 n1 n2 xs ys w h1 h2).mono fun e w' ⟨a1, c1, a2, c2, h, i, j, k⟩ => ⟨a1, c1, a2, c2, h, i, j, trivial, k⟩

set_option maxHeartbeats 40000000 in
set_option maxRecDepth 20000 in
theorem walk8 (n1 : Bool) (a1 : Option Addr) (c1 : Nat) (xs1 : List Nat) (n2 : Bool) (a2 : Option Addr) (c2 : Nat) (xs2 : List Nat) (w : World) (s1 : Seg w a1 xs1.length c1 xs1) (s2 : Seg w a2 xs2.length c2 xs2) :
    Calls Try.prog 3 #[Value.agg #[Value.bool n1, Value.slice a1 xs1.length c1], Value.agg #[Value.bool n2, Value.slice a2 xs2.length c2]] w fun e w' => e = .returned (.bool true) ∧ Below w.heap.size w w' := by
  have hL0 : (lms (dvQ n1 xs1 n2 xs2)).length ≤ 40 := dvQ_len n1 xs1 n2 xs2 s1.2.2.2.1
  have hL1 : (lms (dvR n1 xs1 n2 xs2)).length ≤ 40 := dvR_len n1 xs1 n2 xs2 s2.2.2.2.1
  have A1 := hide s1
  have hn1 := s1.le
  have A2 := hide s2
  have hn2 := s2.le
  have k1_0 : ((w.alloc (Obj.cells #[Value.bool n1, Value.slice a1 xs1.length c1] 24)).alloc (Obj.cells #[Value.bool n2, Value.slice a2 xs2.length c2] 24)).cell? ⟨w.heap.size, 0, none⟩ = some (Value.bool n1) := by go_simp
  have k1_1 : ((w.alloc (Obj.cells #[Value.bool n1, Value.slice a1 xs1.length c1] 24)).alloc (Obj.cells #[Value.bool n2, Value.slice a2 xs2.length c2] 24)).cell? ⟨w.heap.size, 1, none⟩ = some (Value.slice a1 xs1.length c1) := by go_simp
  have z1 : w.heap.size < ((w.alloc (Obj.cells #[Value.bool n1, Value.slice a1 xs1.length c1] 24)).alloc (Obj.cells #[Value.bool n2, Value.slice a2 xs2.length c2] 24)).heap.size := by simp only [World.size_alloc]; omega
  have k2_0 : ((w.alloc (Obj.cells #[Value.bool n1, Value.slice a1 xs1.length c1] 24)).alloc (Obj.cells #[Value.bool n2, Value.slice a2 xs2.length c2] 24)).cell? ⟨w.heap.size + 1, 0, none⟩ = some (Value.bool n2) := by go_simp
  have k2_1 : ((w.alloc (Obj.cells #[Value.bool n1, Value.slice a1 xs1.length c1] 24)).alloc (Obj.cells #[Value.bool n2, Value.slice a2 xs2.length c2] 24)).cell? ⟨w.heap.size + 1, 1, none⟩ = some (Value.slice a2 xs2.length c2) := by go_simp
  have z2 : w.heap.size + 1 < ((w.alloc (Obj.cells #[Value.bool n1, Value.slice a1 xs1.length c1] 24)).alloc (Obj.cells #[Value.bool n2, Value.slice a2 xs2.length c2] 24)).heap.size := by simp only [World.size_alloc]; omega
  have S1 := hide (s1.below (bl_alloc (bl_alloc (bl_refl w) (Obj.cells #[Value.bool n1, Value.slice a1 xs1.length c1] 24)) (Obj.cells #[Value.bool n2, Value.slice a2 xs2.length c2] 24)))
  clear s1
  have S2 := hide (s2.below (bl_alloc (bl_alloc (bl_refl w) (Obj.cells #[Value.bool n1, Value.slice a1 xs1.length c1] 24)) (Obj.cells #[Value.bool n2, Value.slice a2 xs2.length c2] 24)))
  clear s2
  have HB := hide (bl_alloc (bl_alloc (bl_refl w) (Obj.cells #[Value.bool n1, Value.slice a1 xs1.length c1] 24)) (Obj.cells #[Value.bool n2, Value.slice a2 xs2.length c2] 24))
  have y0 : w.heap.size + 2 ≤ ((w.alloc (Obj.cells #[Value.bool n1, Value.slice a1 xs1.length c1] 24)).alloc (Obj.cells #[Value.bool n2, Value.slice a2 xs2.length c2] 24)).heap.size := by simp only [World.size_alloc]; omega
  go_enter Try.func3, Try.ntmps3
  go_wp2_with fail
  generalize ((w.alloc (Obj.cells #[Value.bool n1, Value.slice a1 xs1.length c1] 24)).alloc (Obj.cells #[Value.bool n2, Value.slice a2 xs2.length c2] 24)) = w1 at *
  refine (szB n1 a1 xs1.length c1 (1048576) _ hn1 (by omega) (by omega)).mono ?_
  rintro e w2 ⟨rfl, hbw2⟩
  have yw2 := hbw2.size
  replace k1_0 := (hbw2.cell (p := ⟨w.heap.size, 0, none⟩) z1).trans k1_0
  replace k1_1 := (hbw2.cell (p := ⟨w.heap.size, 1, none⟩) z1).trans k1_1
  replace z1 := Nat.lt_of_lt_of_le z1 hbw2.size
  replace k2_0 := (hbw2.cell (p := ⟨w.heap.size + 1, 0, none⟩) z2).trans k2_0
  replace k2_1 := (hbw2.cell (p := ⟨w.heap.size + 1, 1, none⟩) z2).trans k2_1
  replace z2 := Nat.lt_of_lt_of_le z2 hbw2.size
  replace S1 := hide (S1.out.below hbw2)
  replace S2 := hide (S2.out.below hbw2)
  replace HB := hide (bl_trans HB.out hbw2)
  clear hbw2
  by_cases hbig1 : (1048576 : Int) < (xs1.length : Int)
  · rw [if_pos hbig1]
    go_wp2
    go_ret
    exact ⟨rfl, HB.out⟩
  rw [if_neg hbig1]
  go_wp2_with fail
  refine (szB n2 a2 xs2.length c2 (1048576 - (xs1.length : Int)) _ hn2 (by omega) (by omega)).mono ?_
  rintro e w3 ⟨rfl, hbw3⟩
  have yw3 := hbw3.size
  replace k1_0 := (hbw3.cell (p := ⟨w.heap.size, 0, none⟩) z1).trans k1_0
  replace k1_1 := (hbw3.cell (p := ⟨w.heap.size, 1, none⟩) z1).trans k1_1
  replace z1 := Nat.lt_of_lt_of_le z1 hbw3.size
  replace k2_0 := (hbw3.cell (p := ⟨w.heap.size + 1, 0, none⟩) z2).trans k2_0
  replace k2_1 := (hbw3.cell (p := ⟨w.heap.size + 1, 1, none⟩) z2).trans k2_1
  replace z2 := Nat.lt_of_lt_of_le z2 hbw3.size
  replace S1 := hide (S1.out.below hbw3)
  replace S2 := hide (S2.out.below hbw3)
  replace HB := hide (bl_trans HB.out hbw3)
  clear hbw3
  by_cases hbig2 : (1048576 - (xs1.length : Int) : Int) < (xs2.length : Int)
  · rw [if_pos hbig2]
    go_wp2
    go_ret
    exact ⟨rfl, HB.out⟩
  rw [if_neg hbig2]
  go_upto_region 8 with fail
  go_cut [6, 7, 8] (fun s0 s1 t0 wc => ∃ (N0 : Nat) (N1 : Nat) (aW0 : Option Addr) (cW0 : Nat) (aW1 : Option Addr) (cW1 : Nat), s0 = .pointer (some ⟨N0, 0, none⟩) ∧ s1 = .pointer (some ⟨N1, 0, none⟩) ∧ t0 = .bool (dvT n1 xs1 n2 xs2) ∧ Hid (w3.heap.size ≤ N0 ∧ N0 < wc.heap.size ∧ wc.cell? ⟨N0, 0, none⟩ = some (Value.bool (sgn (dvQ n1 xs1 n2 xs2))) ∧ wc.cell? ⟨N0, 1, none⟩ = some (Value.slice aW0 (lms (dvQ n1 xs1 n2 xs2)).length cW0) ∧ w3.heap.size ≤ N1 ∧ N1 < wc.heap.size ∧ wc.cell? ⟨N1, 0, none⟩ = some (Value.bool (sgn (dvR n1 xs1 n2 xs2))) ∧ wc.cell? ⟨N1, 1, none⟩ = some (Value.slice aW1 (lms (dvR n1 xs1 n2 xs2)).length cW1) ∧ Seg wc aW0 (lms (dvQ n1 xs1 n2 xs2)).length cW0 (lms (dvQ n1 xs1 n2 xs2)) ∧ Seg wc aW1 (lms (dvR n1 xs1 n2 xs2)).length cW1 (lms (dvR n1 xs1 n2 xs2)) ∧ Below w3.heap.size w3 wc))
  case first =>
    as_aux_lemma =>
      have KP : Hid (∀ w', Below w3.heap.size w3 w' → (w'.cell? ⟨w.heap.size, 0, none⟩ = some (Value.bool n1) ∧ w'.cell? ⟨w.heap.size, 1, none⟩ = some (Value.slice a1 xs1.length c1) ∧ w'.cell? ⟨w.heap.size + 1, 0, none⟩ = some (Value.bool n2) ∧ w'.cell? ⟨w.heap.size + 1, 1, none⟩ = some (Value.slice a2 xs2.length c2) ∧ Hid (Below w3.heap.size w3 w'))) := hide (fun w' hb => ⟨(hb.cell (p := ⟨w.heap.size, 0, none⟩) z1).trans k1_0, (hb.cell (p := ⟨w.heap.size, 1, none⟩) z1).trans k1_1, (hb.cell (p := ⟨w.heap.size + 1, 0, none⟩) z2).trans k2_0, (hb.cell (p := ⟨w.heap.size + 1, 1, none⟩) z2).trans k2_1, hb⟩)
      go_region_held3 (fun w' => w'.cell? ⟨w.heap.size, 0, none⟩ = some (Value.bool n1) ∧ w'.cell? ⟨w.heap.size, 1, none⟩ = some (Value.slice a1 xs1.length c1) ∧ w'.cell? ⟨w.heap.size + 1, 0, none⟩ = some (Value.bool n2) ∧ w'.cell? ⟨w.heap.size + 1, 1, none⟩ = some (Value.slice a2 xs2.length c2) ∧ Hid (Below w3.heap.size w3 w'))
        (first | exact KP.out _ (bl_refl w3).drew | exact KP.out _ bC | exact KP.out _ bB | exact KP.out _ bA | exact KP.out _ (by repeat first | exact bC | exact bB | exact bA | exact (bl_refl w3).drew | exact bl_refl w3 | refine bl_alloc ?_ _ | refine bl_trans ?_ (bl_refl _).drew | refine Below.setCell ?_ (by first | omega | (dsimp only; omega) | (dsimp only; rw [World.size_drew]; omega)) _))
        (first
          | (go_at_call_of 8 (Value.agg #[Value.bool n1, Value.slice a1 xs1.length c1]); refine (toB n1 a1 xs1.length c1 xs1 _ (S1.out.below (Hid.out (And.right (And.right (And.right (And.right (by assumption))))))) (by omega)).mono ?_; rintro e wA ⟨uX, rfl, ⟨aX, cX, rfl, hoX⟩, hbA⟩; have bA : Below w3.heap.size w3 wA := bl_trans (Hid.out (And.right (And.right (And.right (And.right (by assumption)))))) hbA; have yA := bA.size; have HX := hide hoX.seg; clear hoX; (first | (have HZa0 := hide (show Zr wA w3.heap.size from (born2 hbA).1); have HZa1 := hide (show Zr wA (w3.heap.size + 1) from (born2 hbA).2)) | (have HZa0 := hide (show Zr wA w3.heap.size from (born2 (bl_trans (bl_refl ((w3.alloc (Obj.cells #[Value.bool false, Value.slice none 0 0] 26)).alloc (Obj.cells #[Value.bool false, Value.slice none 0 0] 26))).drew hbA)).1); have HZa1 := hide (show Zr wA (w3.heap.size + 1) from (born2 (bl_trans (bl_refl ((w3.alloc (Obj.cells #[Value.bool false, Value.slice none 0 0] 26)).alloc (Obj.cells #[Value.bool false, Value.slice none 0 0] 26))).drew hbA)).2)) | have HZa0 := hide (show Zr wA w3.heap.size from born1 hbA) | have HZa0 := hide (show Zr wA w3.heap.size from born1 (bl_trans (bl_refl (w3.alloc (Obj.cells #[Value.bool false, Value.slice none 0 0] 26))).drew hbA)) | skip); (try have zza0 := HZa0.out.1); (try have zza1 := HZa1.out.1); clear hbA)
          | (go_at_call_of 8 (Value.agg #[Value.bool n2, Value.slice a2 xs2.length c2]); refine (toB n2 a2 xs2.length c2 xs2 _ (S2.out.below (Hid.out (And.right (And.right (And.right (And.right (by assumption))))))) (by omega)).mono ?_; rintro e wB ⟨uY, rfl, ⟨aY, cY, rfl, hoY⟩, hbB⟩; have bB : Below w3.heap.size w3 wB := bl_trans (Hid.out (And.right (And.right (And.right (And.right (by assumption)))))) hbB; have bAB : Below wA.heap.size wA wB := (by first | exact hbB | exact bl_one hbB | exact bl_two hbB); have yB := bAB.size; have HY := hide hoY.seg; clear hoY; replace HX := hide (HX.out.below bAB); (try replace HZa0 := hide (HZa0.out.below bAB)); (try replace HZa1 := hide (HZa1.out.below bAB)); (first | (have HZb0 := hide (show Zr wB wA.heap.size from (born2 hbB).1); have HZb1 := hide (show Zr wB (wA.heap.size + 1) from (born2 hbB).2)) | (have HZb0 := hide (show Zr wB wA.heap.size from (born2 (bl_trans (bl_refl ((wA.alloc (Obj.cells #[Value.bool false, Value.slice none 0 0] 26)).alloc (Obj.cells #[Value.bool false, Value.slice none 0 0] 26))).drew hbB)).1); have HZb1 := hide (show Zr wB (wA.heap.size + 1) from (born2 (bl_trans (bl_refl ((wA.alloc (Obj.cells #[Value.bool false, Value.slice none 0 0] 26)).alloc (Obj.cells #[Value.bool false, Value.slice none 0 0] 26))).drew hbB)).2)) | have HZb0 := hide (show Zr wB wA.heap.size from born1 hbB) | have HZb0 := hide (show Zr wB wA.heap.size from born1 (bl_trans (bl_refl (wA.alloc (Obj.cells #[Value.bool false, Value.slice none 0 0] 26))).drew hbB)) | skip); (try have zzb0 := HZb0.out.1); (try have zzb1 := HZb1.out.1); clear hbB)
          | (go_at_call 7; refine (DivModQ' _ _ n1 n2 xs1 xs2 _ ⟨aX, cX, rfl, (HX.out.below (by first | exact bl_refl _ | exact bl_alloc (bl_refl _) _ | exact bl_alloc (bl_alloc (bl_refl _) _) _))⟩ ⟨aY, cY, rfl, (HY.out.below (by first | exact bl_refl _ | exact bl_alloc (bl_refl _) _ | exact bl_alloc (bl_alloc (bl_refl _) _) _))⟩).mono ?_; rintro e wC ⟨aC0, cC0, aC1, cC1, rfl, hoC0, hoC1, hapC01, hbC⟩; have bBC : Below wB.heap.size wB wC := (by first | exact hbC | exact bl_one hbC | exact bl_two hbC); have bC : Below w3.heap.size w3 wC := bl_trans bB bBC; have yC := bBC.size; have RC0 := hide hoC0.rgs; clear hoC0; have RC1 := hide hoC1.rgs; clear hoC1; (try replace HZa0 := hide (HZa0.out.below bBC)); (try replace HZa1 := hide (HZa1.out.below bBC)); (try replace HZb0 := hide (HZb0.out.below bBC)); (try replace HZb1 := hide (HZb1.out.below bBC)); (first | (have HZc0 := hide (show Zr wC wB.heap.size from (born2 hbC).1); have HZc1 := hide (show Zr wC (wB.heap.size + 1) from (born2 hbC).2)) | (have HZc0 := hide (show Zr wC wB.heap.size from (born2 (bl_trans (bl_refl ((wB.alloc (Obj.cells #[Value.bool false, Value.slice none 0 0] 26)).alloc (Obj.cells #[Value.bool false, Value.slice none 0 0] 26))).drew hbC)).1); have HZc1 := hide (show Zr wC (wB.heap.size + 1) from (born2 (bl_trans (bl_refl ((wB.alloc (Obj.cells #[Value.bool false, Value.slice none 0 0] 26)).alloc (Obj.cells #[Value.bool false, Value.slice none 0 0] 26))).drew hbC)).2)) | have HZc0 := hide (show Zr wC wB.heap.size from born1 hbC) | have HZc0 := hide (show Zr wC wB.heap.size from born1 (bl_trans (bl_refl (wB.alloc (Obj.cells #[Value.bool false, Value.slice none 0 0] 26))).drew hbC)) | skip); (try have Qa0 := HZa0.out); (try have Qa1 := HZa1.out); (try obtain ⟨za0, ka0_0, ka0_1, fa0_0, fa0_1⟩ := HZa0.out); (try obtain ⟨za1, ka1_0, ka1_1, fa1_0, fa1_1⟩ := HZa1.out); (try have Qb0 := HZb0.out); (try have Qb1 := HZb1.out); (try obtain ⟨zb0, kb0_0, kb0_1, fb0_0, fb0_1⟩ := HZb0.out); (try obtain ⟨zb1, kb1_0, kb1_1, fb1_0, fb1_1⟩ := HZb1.out); (try have Qc0 := HZc0.out); (try have Qc1 := HZc1.out); (try obtain ⟨zc0, kc0_0, kc0_1, fc0_0, fc0_1⟩ := HZc0.out); (try obtain ⟨zc1, kc1_0, kc1_1, fc1_0, fc1_1⟩ := HZc1.out); (try simp only [World.size_drew] at RC0); (try simp only [World.size_alloc] at RC0); (try simp only [World.size_drew] at RC1); (try simp only [World.size_alloc] at RC1); (try have := Nat.ne_of_lt za0); (try have := Nat.ne_of_lt za1); (try have := Nat.ne_of_lt zb0); (try have := Nat.ne_of_lt zb1); (try have := Nat.ne_of_lt zc0); (try have := Nat.ne_of_lt zc1); (try (have := za0; have := zb0; have : ¬ w3.heap.size = wA.heap.size := by omega)); (try (have := za0; have := zb1; have : ¬ w3.heap.size = wA.heap.size + 1 := by omega)); (try (have := za0; have := zc0; have : ¬ w3.heap.size = wB.heap.size := by omega)); (try (have := za0; have := zc1; have : ¬ w3.heap.size = wB.heap.size + 1 := by omega)); (try (have := za1; have := zb0; have : ¬ w3.heap.size + 1 = wA.heap.size := by omega)); (try (have := za1; have := zb1; have : ¬ w3.heap.size + 1 = wA.heap.size + 1 := by omega)); (try (have := za1; have := zc0; have : ¬ w3.heap.size + 1 = wB.heap.size := by omega)); (try (have := za1; have := zc1; have : ¬ w3.heap.size + 1 = wB.heap.size + 1 := by omega)); (try (have := zb0; have := za0; have : ¬ wA.heap.size = w3.heap.size := by omega)); (try (have := zb0; have := za1; have : ¬ wA.heap.size = w3.heap.size + 1 := by omega)); (try (have := zb0; have := zc0; have : ¬ wA.heap.size = wB.heap.size := by omega)); (try (have := zb0; have := zc1; have : ¬ wA.heap.size = wB.heap.size + 1 := by omega)); (try (have := zb1; have := za0; have : ¬ wA.heap.size + 1 = w3.heap.size := by omega)); (try (have := zb1; have := za1; have : ¬ wA.heap.size + 1 = w3.heap.size + 1 := by omega)); (try (have := zb1; have := zc0; have : ¬ wA.heap.size + 1 = wB.heap.size := by omega)); (try (have := zb1; have := zc1; have : ¬ wA.heap.size + 1 = wB.heap.size + 1 := by omega)); (try (have := zc0; have := za0; have : ¬ wB.heap.size = w3.heap.size := by omega)); (try (have := zc0; have := za1; have : ¬ wB.heap.size = w3.heap.size + 1 := by omega)); (try (have := zc0; have := zb0; have : ¬ wB.heap.size = wA.heap.size := by omega)); (try (have := zc0; have := zb1; have : ¬ wB.heap.size = wA.heap.size + 1 := by omega)); (try (have := zc1; have := za0; have : ¬ wB.heap.size + 1 = w3.heap.size := by omega)); (try (have := zc1; have := za1; have : ¬ wB.heap.size + 1 = w3.heap.size + 1 := by omega)); (try (have := zc1; have := zb0; have : ¬ wB.heap.size + 1 = wA.heap.size := by omega)); (try (have := zc1; have := zb1; have : ¬ wB.heap.size + 1 = wA.heap.size + 1 := by omega)); clear hbC))
      all_goals (go_wp2_with fail; go_meet)
      · exact ⟨_, _, aC0, cC0, aC1, cC1, rfl, rfl, rfl, hide (res2_bb RC0.out RC1.out (by omega) (by omega) bC)⟩
      · exact ⟨_, _, aC0, cC0, aC1, cC1, rfl, rfl, rfl, hide (res2_bb2 RC0.out RC1.out (by omega) (by omega) bC)⟩
      · exact ⟨_, _, aC0, cC0, aC1, cC1, rfl, rfl, rfl, hide (res2_ab RC0.out RC1.out (by omega) (by omega) bC Qc0 (by omega) (by omega) (by omega))⟩
      · exact ⟨_, _, aC0, cC0, aC1, cC1, rfl, rfl, rfl, hide (res2_aa RC0.out RC1.out (by omega) (by omega) bC Qc0 (by omega) (by omega) (by omega) Qc1 (by omega) (by omega) (by omega) (by omega))⟩
      · exact ⟨_, _, aC0, cC0, aC1, cC1, rfl, rfl, rfl, hide (res2_ba RC0.out RC1.out (by omega) (by omega) bC Qc0 (by omega) (by omega) (by omega))⟩
      · exact ⟨_, _, aC0, cC0, aC1, cC1, rfl, rfl, rfl, hide (res2_aa RC0.out RC1.out (by omega) (by omega) bC Qc1 (by omega) (by omega) (by omega) Qc0 (by omega) (by omega) (by omega) (by omega))⟩
      · exact ⟨_, _, aC0, cC0, aC1, cC1, rfl, rfl, rfl, hide (res2_ab RC0.out RC1.out (by omega) (by omega) bC Qb0 (by omega) (by omega) (by omega))⟩
      · exact ⟨_, _, aC0, cC0, aC1, cC1, rfl, rfl, rfl, hide (res2_aa RC0.out RC1.out (by omega) (by omega) bC Qb0 (by omega) (by omega) (by omega) Qc0 (by omega) (by omega) (by omega) (by omega))⟩
      · exact ⟨_, _, aC0, cC0, aC1, cC1, rfl, rfl, rfl, hide (res2_aa RC0.out RC1.out (by omega) (by omega) bC Qb0 (by omega) (by omega) (by omega) Qb1 (by omega) (by omega) (by omega) (by omega))⟩
      · exact ⟨_, _, aC0, cC0, aC1, cC1, rfl, rfl, rfl, hide (res2_ba RC0.out RC1.out (by omega) (by omega) bC Qb0 (by omega) (by omega) (by omega))⟩
      · exact ⟨_, _, aC0, cC0, aC1, cC1, rfl, rfl, rfl, hide (res2_aa RC0.out RC1.out (by omega) (by omega) bC Qc0 (by omega) (by omega) (by omega) Qb0 (by omega) (by omega) (by omega) (by omega))⟩
      · exact ⟨_, _, aC0, cC0, aC1, cC1, rfl, rfl, rfl, hide (res2_aa RC0.out RC1.out (by omega) (by omega) bC Qb1 (by omega) (by omega) (by omega) Qb0 (by omega) (by omega) (by omega) (by omega))⟩
      · exact ⟨_, _, aC0, cC0, aC1, cC1, rfl, rfl, rfl, hide (res2_ab RC0.out RC1.out (by omega) (by omega) bC Qa0 (by omega) (by omega) (by omega))⟩
      · exact ⟨_, _, aC0, cC0, aC1, cC1, rfl, rfl, rfl, hide (res2_aa RC0.out RC1.out (by omega) (by omega) bC Qa0 (by omega) (by omega) (by omega) Qc0 (by omega) (by omega) (by omega) (by omega))⟩
      · exact ⟨_, _, aC0, cC0, aC1, cC1, rfl, rfl, rfl, hide (res2_aa RC0.out RC1.out (by omega) (by omega) bC Qa0 (by omega) (by omega) (by omega) Qb0 (by omega) (by omega) (by omega) (by omega))⟩
      · exact ⟨_, _, aC0, cC0, aC1, cC1, rfl, rfl, rfl, hide (res2_aa RC0.out RC1.out (by omega) (by omega) bC Qa0 (by omega) (by omega) (by omega) Qa1 (by omega) (by omega) (by omega) (by omega))⟩
      · exact ⟨_, _, aC0, cC0, aC1, cC1, rfl, rfl, rfl, hide (res2_ba RC0.out RC1.out (by omega) (by omega) bC Qa0 (by omega) (by omega) (by omega))⟩
      · exact ⟨_, _, aC0, cC0, aC1, cC1, rfl, rfl, rfl, hide (res2_aa RC0.out RC1.out (by omega) (by omega) bC Qc0 (by omega) (by omega) (by omega) Qa0 (by omega) (by omega) (by omega) (by omega))⟩
      · exact ⟨_, _, aC0, cC0, aC1, cC1, rfl, rfl, rfl, hide (res2_aa RC0.out RC1.out (by omega) (by omega) bC Qb0 (by omega) (by omega) (by omega) Qa0 (by omega) (by omega) (by omega) (by omega))⟩
      · exact ⟨_, _, aC0, cC0, aC1, cC1, rfl, rfl, rfl, hide (res2_aa RC0.out RC1.out (by omega) (by omega) bC Qa1 (by omega) (by omega) (by omega) Qa0 (by omega) (by omega) (by omega) (by omega))⟩
  case rest =>
  obtain ⟨NW0, NW1, aW0, cW0, aW1, cW1, rfl, rfl, rfl, hres⟩ := hcut
  obtain ⟨nW0, mW0, rW0_0, rW0_1, nW1, mW1, rW1_0, rW1_1, gW0, gW1, rB⟩ := hres.out
  clear hres
  rename World => w4
  have yw4 := rB.size
  replace k1_0 := (rB.cell (p := ⟨w.heap.size, 0, none⟩) z1).trans k1_0
  replace k1_1 := (rB.cell (p := ⟨w.heap.size, 1, none⟩) z1).trans k1_1
  replace z1 := Nat.lt_of_lt_of_le z1 rB.size
  replace k2_0 := (rB.cell (p := ⟨w.heap.size + 1, 0, none⟩) z2).trans k2_0
  replace k2_1 := (rB.cell (p := ⟨w.heap.size + 1, 1, none⟩) z2).trans k2_1
  replace z2 := Nat.lt_of_lt_of_le z2 rB.size
  replace S1 := hide (S1.out.below rB)
  replace S2 := hide (S2.out.below rB)
  replace HB := hide (bl_trans HB.out rB)
  have kW0_0 := rW0_0
  clear rW0_0
  have kW0_1 := rW0_1
  clear rW0_1
  have zW0 := mW0
  have kW1_0 := rW1_0
  clear rW1_0
  have kW1_1 := rW1_1
  clear rW1_1
  have zW1 := mW1
  have SW0 := hide gW0
  have AW0 := SW0
  clear gW0
  have SW1 := hide gW1
  have AW1 := SW1
  clear gW1
  clear rB
  go_wp2_with fail
  refine (toB n1 a1 xs1.length c1 xs1 _ S1.out (by omega)).mono ?_
  rintro e w5 ⟨uP, rfl, ⟨aP, cP, rfl, hoP⟩, hbw5⟩
  have yw5 := hbw5.size
  replace k1_0 := (hbw5.cell (p := ⟨w.heap.size, 0, none⟩) z1).trans k1_0
  replace k1_1 := (hbw5.cell (p := ⟨w.heap.size, 1, none⟩) z1).trans k1_1
  replace z1 := Nat.lt_of_lt_of_le z1 hbw5.size
  replace k2_0 := (hbw5.cell (p := ⟨w.heap.size + 1, 0, none⟩) z2).trans k2_0
  replace k2_1 := (hbw5.cell (p := ⟨w.heap.size + 1, 1, none⟩) z2).trans k2_1
  replace z2 := Nat.lt_of_lt_of_le z2 hbw5.size
  replace kW0_0 := (hbw5.cell (p := ⟨NW0, 0, none⟩) zW0).trans kW0_0
  replace kW0_1 := (hbw5.cell (p := ⟨NW0, 1, none⟩) zW0).trans kW0_1
  replace zW0 := Nat.lt_of_lt_of_le zW0 hbw5.size
  replace kW1_0 := (hbw5.cell (p := ⟨NW1, 0, none⟩) zW1).trans kW1_0
  replace kW1_1 := (hbw5.cell (p := ⟨NW1, 1, none⟩) zW1).trans kW1_1
  replace zW1 := Nat.lt_of_lt_of_le zW1 hbw5.size
  replace S1 := hide (S1.out.below hbw5)
  replace S2 := hide (S2.out.below hbw5)
  replace SW0 := hide (SW0.out.below hbw5)
  replace SW1 := hide (SW1.out.below hbw5)
  replace HB := hide (bl_trans HB.out hbw5)
  clear hbw5
  have oP : ∀ k, (Value.slice aP xs1.length cP).ownBlock = some k → w4.heap.size ≤ k ∧ k < w5.heap.size := fun k e => hoP.1.lt k e
  have HP := hide hoP
  clear hoP
  go_wp2_with fail
  have kP_0 : (w5.alloc (Obj.cells #[Value.bool n1, Value.slice aP xs1.length cP] 26)).cell? ⟨w5.heap.size, 0, none⟩ = some (Value.bool n1) := by go_simp
  have kP_1 : (w5.alloc (Obj.cells #[Value.bool n1, Value.slice aP xs1.length cP] 26)).cell? ⟨w5.heap.size, 1, none⟩ = some (Value.slice aP xs1.length cP) := by go_simp
  have zP : w5.heap.size < (w5.alloc (Obj.cells #[Value.bool n1, Value.slice aP xs1.length cP] 26)).heap.size := by simp only [World.size_alloc]; omega
  have yw6 : w5.heap.size + 1 ≤ (w5.alloc (Obj.cells #[Value.bool n1, Value.slice aP xs1.length cP] 26)).heap.size := by simp only [World.size_alloc]; omega
  have hbw6 := (bl_alloc (bl_refl w5) (Obj.cells #[Value.bool n1, Value.slice aP xs1.length cP] 26))
  generalize (w5.alloc (Obj.cells #[Value.bool n1, Value.slice aP xs1.length cP] 26)) = w6 at *
  replace k1_0 := (hbw6.cell (p := ⟨w.heap.size, 0, none⟩) z1).trans k1_0
  replace k1_1 := (hbw6.cell (p := ⟨w.heap.size, 1, none⟩) z1).trans k1_1
  replace z1 := Nat.lt_of_lt_of_le z1 hbw6.size
  replace k2_0 := (hbw6.cell (p := ⟨w.heap.size + 1, 0, none⟩) z2).trans k2_0
  replace k2_1 := (hbw6.cell (p := ⟨w.heap.size + 1, 1, none⟩) z2).trans k2_1
  replace z2 := Nat.lt_of_lt_of_le z2 hbw6.size
  replace kW0_0 := (hbw6.cell (p := ⟨NW0, 0, none⟩) zW0).trans kW0_0
  replace kW0_1 := (hbw6.cell (p := ⟨NW0, 1, none⟩) zW0).trans kW0_1
  replace zW0 := Nat.lt_of_lt_of_le zW0 hbw6.size
  replace kW1_0 := (hbw6.cell (p := ⟨NW1, 0, none⟩) zW1).trans kW1_0
  replace kW1_1 := (hbw6.cell (p := ⟨NW1, 1, none⟩) zW1).trans kW1_1
  replace zW1 := Nat.lt_of_lt_of_le zW1 hbw6.size
  replace S1 := hide (S1.out.below hbw6)
  replace S2 := hide (S2.out.below hbw6)
  replace SW0 := hide (SW0.out.below hbw6)
  replace SW1 := hide (SW1.out.below hbw6)
  replace HP := hide (HP.out.below hbw6)
  replace HB := hide (bl_trans HB.out hbw6)
  clear hbw6
  refine (toB n2 a2 xs2.length c2 xs2 _ S2.out (by omega)).mono ?_
  rintro e w7 ⟨uQ, rfl, ⟨aQ, cQ, rfl, hoQ⟩, hbw7⟩
  have yw7 := hbw7.size
  replace k1_0 := (hbw7.cell (p := ⟨w.heap.size, 0, none⟩) z1).trans k1_0
  replace k1_1 := (hbw7.cell (p := ⟨w.heap.size, 1, none⟩) z1).trans k1_1
  replace z1 := Nat.lt_of_lt_of_le z1 hbw7.size
  replace k2_0 := (hbw7.cell (p := ⟨w.heap.size + 1, 0, none⟩) z2).trans k2_0
  replace k2_1 := (hbw7.cell (p := ⟨w.heap.size + 1, 1, none⟩) z2).trans k2_1
  replace z2 := Nat.lt_of_lt_of_le z2 hbw7.size
  replace kW0_0 := (hbw7.cell (p := ⟨NW0, 0, none⟩) zW0).trans kW0_0
  replace kW0_1 := (hbw7.cell (p := ⟨NW0, 1, none⟩) zW0).trans kW0_1
  replace zW0 := Nat.lt_of_lt_of_le zW0 hbw7.size
  replace kW1_0 := (hbw7.cell (p := ⟨NW1, 0, none⟩) zW1).trans kW1_0
  replace kW1_1 := (hbw7.cell (p := ⟨NW1, 1, none⟩) zW1).trans kW1_1
  replace zW1 := Nat.lt_of_lt_of_le zW1 hbw7.size
  replace kP_0 := (hbw7.cell (p := ⟨w5.heap.size, 0, none⟩) zP).trans kP_0
  replace kP_1 := (hbw7.cell (p := ⟨w5.heap.size, 1, none⟩) zP).trans kP_1
  replace zP := Nat.lt_of_lt_of_le zP hbw7.size
  replace S1 := hide (S1.out.below hbw7)
  replace S2 := hide (S2.out.below hbw7)
  replace SW0 := hide (SW0.out.below hbw7)
  replace SW1 := hide (SW1.out.below hbw7)
  replace HP := hide (HP.out.below hbw7)
  replace HB := hide (bl_trans HB.out hbw7)
  clear hbw7
  have oQ : ∀ k, (Value.slice aQ xs2.length cQ).ownBlock = some k → w6.heap.size ≤ k ∧ k < w7.heap.size := fun k e => hoQ.1.lt k e
  have HQ := hide hoQ
  clear hoQ
  go_wp2_with fail
  have kQ_0 : (w7.alloc (Obj.cells #[Value.bool n2, Value.slice aQ xs2.length cQ] 26)).cell? ⟨w7.heap.size, 0, none⟩ = some (Value.bool n2) := by go_simp
  have kQ_1 : (w7.alloc (Obj.cells #[Value.bool n2, Value.slice aQ xs2.length cQ] 26)).cell? ⟨w7.heap.size, 1, none⟩ = some (Value.slice aQ xs2.length cQ) := by go_simp
  have zQ : w7.heap.size < (w7.alloc (Obj.cells #[Value.bool n2, Value.slice aQ xs2.length cQ] 26)).heap.size := by simp only [World.size_alloc]; omega
  have yw8 : w7.heap.size + 1 ≤ (w7.alloc (Obj.cells #[Value.bool n2, Value.slice aQ xs2.length cQ] 26)).heap.size := by simp only [World.size_alloc]; omega
  have hbw8 := (bl_alloc (bl_refl w7) (Obj.cells #[Value.bool n2, Value.slice aQ xs2.length cQ] 26))
  generalize (w7.alloc (Obj.cells #[Value.bool n2, Value.slice aQ xs2.length cQ] 26)) = w8 at *
  replace k1_0 := (hbw8.cell (p := ⟨w.heap.size, 0, none⟩) z1).trans k1_0
  replace k1_1 := (hbw8.cell (p := ⟨w.heap.size, 1, none⟩) z1).trans k1_1
  replace z1 := Nat.lt_of_lt_of_le z1 hbw8.size
  replace k2_0 := (hbw8.cell (p := ⟨w.heap.size + 1, 0, none⟩) z2).trans k2_0
  replace k2_1 := (hbw8.cell (p := ⟨w.heap.size + 1, 1, none⟩) z2).trans k2_1
  replace z2 := Nat.lt_of_lt_of_le z2 hbw8.size
  replace kW0_0 := (hbw8.cell (p := ⟨NW0, 0, none⟩) zW0).trans kW0_0
  replace kW0_1 := (hbw8.cell (p := ⟨NW0, 1, none⟩) zW0).trans kW0_1
  replace zW0 := Nat.lt_of_lt_of_le zW0 hbw8.size
  replace kW1_0 := (hbw8.cell (p := ⟨NW1, 0, none⟩) zW1).trans kW1_0
  replace kW1_1 := (hbw8.cell (p := ⟨NW1, 1, none⟩) zW1).trans kW1_1
  replace zW1 := Nat.lt_of_lt_of_le zW1 hbw8.size
  replace kP_0 := (hbw8.cell (p := ⟨w5.heap.size, 0, none⟩) zP).trans kP_0
  replace kP_1 := (hbw8.cell (p := ⟨w5.heap.size, 1, none⟩) zP).trans kP_1
  replace zP := Nat.lt_of_lt_of_le zP hbw8.size
  replace S1 := hide (S1.out.below hbw8)
  replace S2 := hide (S2.out.below hbw8)
  replace SW0 := hide (SW0.out.below hbw8)
  replace SW1 := hide (SW1.out.below hbw8)
  replace HP := hide (HP.out.below hbw8)
  replace HQ := hide (HQ.out.below hbw8)
  replace HB := hide (bl_trans HB.out hbw8)
  clear hbw8
  refine (DivModP _ _ n1 n2 xs1 xs2 _ ⟨aP, cP, rfl, HP.out.seg⟩ ⟨aQ, cQ, rfl, HQ.out.seg⟩).mono ?_
  rintro e w9 ⟨aG0, cG0, aG1, cG1, rfl, hoG0, hoG1, hapG01, hbw9⟩
  have yw9 := hbw9.size
  replace k1_0 := (hbw9.cell (p := ⟨w.heap.size, 0, none⟩) z1).trans k1_0
  replace k1_1 := (hbw9.cell (p := ⟨w.heap.size, 1, none⟩) z1).trans k1_1
  replace z1 := Nat.lt_of_lt_of_le z1 hbw9.size
  replace k2_0 := (hbw9.cell (p := ⟨w.heap.size + 1, 0, none⟩) z2).trans k2_0
  replace k2_1 := (hbw9.cell (p := ⟨w.heap.size + 1, 1, none⟩) z2).trans k2_1
  replace z2 := Nat.lt_of_lt_of_le z2 hbw9.size
  replace kW0_0 := (hbw9.cell (p := ⟨NW0, 0, none⟩) zW0).trans kW0_0
  replace kW0_1 := (hbw9.cell (p := ⟨NW0, 1, none⟩) zW0).trans kW0_1
  replace zW0 := Nat.lt_of_lt_of_le zW0 hbw9.size
  replace kW1_0 := (hbw9.cell (p := ⟨NW1, 0, none⟩) zW1).trans kW1_0
  replace kW1_1 := (hbw9.cell (p := ⟨NW1, 1, none⟩) zW1).trans kW1_1
  replace zW1 := Nat.lt_of_lt_of_le zW1 hbw9.size
  replace kP_0 := (hbw9.cell (p := ⟨w5.heap.size, 0, none⟩) zP).trans kP_0
  replace kP_1 := (hbw9.cell (p := ⟨w5.heap.size, 1, none⟩) zP).trans kP_1
  replace zP := Nat.lt_of_lt_of_le zP hbw9.size
  replace kQ_0 := (hbw9.cell (p := ⟨w7.heap.size, 0, none⟩) zQ).trans kQ_0
  replace kQ_1 := (hbw9.cell (p := ⟨w7.heap.size, 1, none⟩) zQ).trans kQ_1
  replace zQ := Nat.lt_of_lt_of_le zQ hbw9.size
  replace S1 := hide (S1.out.below hbw9)
  replace S2 := hide (S2.out.below hbw9)
  replace SW0 := hide (SW0.out.below hbw9)
  replace SW1 := hide (SW1.out.below hbw9)
  replace HP := hide (HP.out.below hbw9)
  replace HQ := hide (HQ.out.below hbw9)
  replace HB := hide (bl_trans HB.out hbw9)
  clear hbw9
  have oG0 : ∀ k, (Value.slice aG0 (lms (dvQ n1 xs1 n2 xs2)).length cG0).ownBlock = some k → w8.heap.size ≤ k ∧ k < w9.heap.size := fun k e => hoG0.1.lt k e
  have HG0 := hide hoG0
  clear hoG0
  have oG1 : ∀ k, (Value.slice aG1 (lms (dvR n1 xs1 n2 xs2)).length cG1).ownBlock = some k → w8.heap.size ≤ k ∧ k < w9.heap.size := fun k e => hoG1.1.lt k e
  have HG1 := hide hoG1
  clear hoG1
  have HAPG01 := hide hapG01
  clear hapG01
  go_wp2_with fail
  have kG0_0 : ((w9.alloc (Obj.cells #[Value.bool (sgn (dvQ n1 xs1 n2 xs2)), Value.slice aG0 (lms (dvQ n1 xs1 n2 xs2)).length cG0] 26)).alloc (Obj.cells #[Value.bool (sgn (dvR n1 xs1 n2 xs2)), Value.slice aG1 (lms (dvR n1 xs1 n2 xs2)).length cG1] 26)).cell? ⟨w9.heap.size, 0, none⟩ = some (Value.bool (sgn (dvQ n1 xs1 n2 xs2))) := by go_simp
  have kG0_1 : ((w9.alloc (Obj.cells #[Value.bool (sgn (dvQ n1 xs1 n2 xs2)), Value.slice aG0 (lms (dvQ n1 xs1 n2 xs2)).length cG0] 26)).alloc (Obj.cells #[Value.bool (sgn (dvR n1 xs1 n2 xs2)), Value.slice aG1 (lms (dvR n1 xs1 n2 xs2)).length cG1] 26)).cell? ⟨w9.heap.size, 1, none⟩ = some (Value.slice aG0 (lms (dvQ n1 xs1 n2 xs2)).length cG0) := by go_simp
  have zG0 : w9.heap.size < ((w9.alloc (Obj.cells #[Value.bool (sgn (dvQ n1 xs1 n2 xs2)), Value.slice aG0 (lms (dvQ n1 xs1 n2 xs2)).length cG0] 26)).alloc (Obj.cells #[Value.bool (sgn (dvR n1 xs1 n2 xs2)), Value.slice aG1 (lms (dvR n1 xs1 n2 xs2)).length cG1] 26)).heap.size := by simp only [World.size_alloc]; omega
  have kG1_0 : ((w9.alloc (Obj.cells #[Value.bool (sgn (dvQ n1 xs1 n2 xs2)), Value.slice aG0 (lms (dvQ n1 xs1 n2 xs2)).length cG0] 26)).alloc (Obj.cells #[Value.bool (sgn (dvR n1 xs1 n2 xs2)), Value.slice aG1 (lms (dvR n1 xs1 n2 xs2)).length cG1] 26)).cell? ⟨w9.heap.size + 1, 0, none⟩ = some (Value.bool (sgn (dvR n1 xs1 n2 xs2))) := by go_simp
  have kG1_1 : ((w9.alloc (Obj.cells #[Value.bool (sgn (dvQ n1 xs1 n2 xs2)), Value.slice aG0 (lms (dvQ n1 xs1 n2 xs2)).length cG0] 26)).alloc (Obj.cells #[Value.bool (sgn (dvR n1 xs1 n2 xs2)), Value.slice aG1 (lms (dvR n1 xs1 n2 xs2)).length cG1] 26)).cell? ⟨w9.heap.size + 1, 1, none⟩ = some (Value.slice aG1 (lms (dvR n1 xs1 n2 xs2)).length cG1) := by go_simp
  have zG1 : w9.heap.size + 1 < ((w9.alloc (Obj.cells #[Value.bool (sgn (dvQ n1 xs1 n2 xs2)), Value.slice aG0 (lms (dvQ n1 xs1 n2 xs2)).length cG0] 26)).alloc (Obj.cells #[Value.bool (sgn (dvR n1 xs1 n2 xs2)), Value.slice aG1 (lms (dvR n1 xs1 n2 xs2)).length cG1] 26)).heap.size := by simp only [World.size_alloc]; omega
  have yw10 : w9.heap.size + 2 ≤ ((w9.alloc (Obj.cells #[Value.bool (sgn (dvQ n1 xs1 n2 xs2)), Value.slice aG0 (lms (dvQ n1 xs1 n2 xs2)).length cG0] 26)).alloc (Obj.cells #[Value.bool (sgn (dvR n1 xs1 n2 xs2)), Value.slice aG1 (lms (dvR n1 xs1 n2 xs2)).length cG1] 26)).heap.size := by simp only [World.size_alloc]; omega
  have hbw10 := (bl_alloc (bl_alloc (bl_refl w9) (Obj.cells #[Value.bool (sgn (dvQ n1 xs1 n2 xs2)), Value.slice aG0 (lms (dvQ n1 xs1 n2 xs2)).length cG0] 26)) (Obj.cells #[Value.bool (sgn (dvR n1 xs1 n2 xs2)), Value.slice aG1 (lms (dvR n1 xs1 n2 xs2)).length cG1] 26))
  generalize ((w9.alloc (Obj.cells #[Value.bool (sgn (dvQ n1 xs1 n2 xs2)), Value.slice aG0 (lms (dvQ n1 xs1 n2 xs2)).length cG0] 26)).alloc (Obj.cells #[Value.bool (sgn (dvR n1 xs1 n2 xs2)), Value.slice aG1 (lms (dvR n1 xs1 n2 xs2)).length cG1] 26)) = w10 at *
  replace k1_0 := (hbw10.cell (p := ⟨w.heap.size, 0, none⟩) z1).trans k1_0
  replace k1_1 := (hbw10.cell (p := ⟨w.heap.size, 1, none⟩) z1).trans k1_1
  replace z1 := Nat.lt_of_lt_of_le z1 hbw10.size
  replace k2_0 := (hbw10.cell (p := ⟨w.heap.size + 1, 0, none⟩) z2).trans k2_0
  replace k2_1 := (hbw10.cell (p := ⟨w.heap.size + 1, 1, none⟩) z2).trans k2_1
  replace z2 := Nat.lt_of_lt_of_le z2 hbw10.size
  replace kW0_0 := (hbw10.cell (p := ⟨NW0, 0, none⟩) zW0).trans kW0_0
  replace kW0_1 := (hbw10.cell (p := ⟨NW0, 1, none⟩) zW0).trans kW0_1
  replace zW0 := Nat.lt_of_lt_of_le zW0 hbw10.size
  replace kW1_0 := (hbw10.cell (p := ⟨NW1, 0, none⟩) zW1).trans kW1_0
  replace kW1_1 := (hbw10.cell (p := ⟨NW1, 1, none⟩) zW1).trans kW1_1
  replace zW1 := Nat.lt_of_lt_of_le zW1 hbw10.size
  replace kP_0 := (hbw10.cell (p := ⟨w5.heap.size, 0, none⟩) zP).trans kP_0
  replace kP_1 := (hbw10.cell (p := ⟨w5.heap.size, 1, none⟩) zP).trans kP_1
  replace zP := Nat.lt_of_lt_of_le zP hbw10.size
  replace kQ_0 := (hbw10.cell (p := ⟨w7.heap.size, 0, none⟩) zQ).trans kQ_0
  replace kQ_1 := (hbw10.cell (p := ⟨w7.heap.size, 1, none⟩) zQ).trans kQ_1
  replace zQ := Nat.lt_of_lt_of_le zQ hbw10.size
  replace S1 := hide (S1.out.below hbw10)
  replace S2 := hide (S2.out.below hbw10)
  replace SW0 := hide (SW0.out.below hbw10)
  replace SW1 := hide (SW1.out.below hbw10)
  replace HP := hide (HP.out.below hbw10)
  replace HQ := hide (HQ.out.below hbw10)
  replace HG0 := hide (HG0.out.below hbw10)
  replace HG1 := hide (HG1.out.below hbw10)
  replace HB := hide (bl_trans HB.out hbw10)
  clear hbw10
  refine (eqB _ _ (sgn (dvQ n1 xs1 n2 xs2)) (lms (dvQ n1 xs1 n2 xs2)) _ ⟨aG0, cG0, rfl, HG0.out.seg⟩ ⟨aW0, cW0, rfl, SW0.out⟩).mono ?_
  rintro e w11 ⟨rfl, hbw11⟩
  have yw11 := hbw11.size
  replace k1_0 := (hbw11.cell (p := ⟨w.heap.size, 0, none⟩) z1).trans k1_0
  replace k1_1 := (hbw11.cell (p := ⟨w.heap.size, 1, none⟩) z1).trans k1_1
  replace z1 := Nat.lt_of_lt_of_le z1 hbw11.size
  replace k2_0 := (hbw11.cell (p := ⟨w.heap.size + 1, 0, none⟩) z2).trans k2_0
  replace k2_1 := (hbw11.cell (p := ⟨w.heap.size + 1, 1, none⟩) z2).trans k2_1
  replace z2 := Nat.lt_of_lt_of_le z2 hbw11.size
  replace kW0_0 := (hbw11.cell (p := ⟨NW0, 0, none⟩) zW0).trans kW0_0
  replace kW0_1 := (hbw11.cell (p := ⟨NW0, 1, none⟩) zW0).trans kW0_1
  replace zW0 := Nat.lt_of_lt_of_le zW0 hbw11.size
  replace kW1_0 := (hbw11.cell (p := ⟨NW1, 0, none⟩) zW1).trans kW1_0
  replace kW1_1 := (hbw11.cell (p := ⟨NW1, 1, none⟩) zW1).trans kW1_1
  replace zW1 := Nat.lt_of_lt_of_le zW1 hbw11.size
  replace kP_0 := (hbw11.cell (p := ⟨w5.heap.size, 0, none⟩) zP).trans kP_0
  replace kP_1 := (hbw11.cell (p := ⟨w5.heap.size, 1, none⟩) zP).trans kP_1
  replace zP := Nat.lt_of_lt_of_le zP hbw11.size
  replace kQ_0 := (hbw11.cell (p := ⟨w7.heap.size, 0, none⟩) zQ).trans kQ_0
  replace kQ_1 := (hbw11.cell (p := ⟨w7.heap.size, 1, none⟩) zQ).trans kQ_1
  replace zQ := Nat.lt_of_lt_of_le zQ hbw11.size
  replace kG0_0 := (hbw11.cell (p := ⟨w9.heap.size, 0, none⟩) zG0).trans kG0_0
  replace kG0_1 := (hbw11.cell (p := ⟨w9.heap.size, 1, none⟩) zG0).trans kG0_1
  replace zG0 := Nat.lt_of_lt_of_le zG0 hbw11.size
  replace kG1_0 := (hbw11.cell (p := ⟨w9.heap.size + 1, 0, none⟩) zG1).trans kG1_0
  replace kG1_1 := (hbw11.cell (p := ⟨w9.heap.size + 1, 1, none⟩) zG1).trans kG1_1
  replace zG1 := Nat.lt_of_lt_of_le zG1 hbw11.size
  replace S1 := hide (S1.out.below hbw11)
  replace S2 := hide (S2.out.below hbw11)
  replace SW0 := hide (SW0.out.below hbw11)
  replace SW1 := hide (SW1.out.below hbw11)
  replace HP := hide (HP.out.below hbw11)
  replace HQ := hide (HQ.out.below hbw11)
  replace HG0 := hide (HG0.out.below hbw11)
  replace HG1 := hide (HG1.out.below hbw11)
  replace HB := hide (bl_trans HB.out hbw11)
  clear hbw11
  go_wp2_with fail
  refine (eqB _ _ (sgn (dvR n1 xs1 n2 xs2)) (lms (dvR n1 xs1 n2 xs2)) _ ⟨aG1, cG1, rfl, HG1.out.seg⟩ ⟨aW1, cW1, rfl, SW1.out⟩).mono ?_
  rintro e w12 ⟨rfl, hbw12⟩
  have yw12 := hbw12.size
  replace k1_0 := (hbw12.cell (p := ⟨w.heap.size, 0, none⟩) z1).trans k1_0
  replace k1_1 := (hbw12.cell (p := ⟨w.heap.size, 1, none⟩) z1).trans k1_1
  replace z1 := Nat.lt_of_lt_of_le z1 hbw12.size
  replace k2_0 := (hbw12.cell (p := ⟨w.heap.size + 1, 0, none⟩) z2).trans k2_0
  replace k2_1 := (hbw12.cell (p := ⟨w.heap.size + 1, 1, none⟩) z2).trans k2_1
  replace z2 := Nat.lt_of_lt_of_le z2 hbw12.size
  replace kW0_0 := (hbw12.cell (p := ⟨NW0, 0, none⟩) zW0).trans kW0_0
  replace kW0_1 := (hbw12.cell (p := ⟨NW0, 1, none⟩) zW0).trans kW0_1
  replace zW0 := Nat.lt_of_lt_of_le zW0 hbw12.size
  replace kW1_0 := (hbw12.cell (p := ⟨NW1, 0, none⟩) zW1).trans kW1_0
  replace kW1_1 := (hbw12.cell (p := ⟨NW1, 1, none⟩) zW1).trans kW1_1
  replace zW1 := Nat.lt_of_lt_of_le zW1 hbw12.size
  replace kP_0 := (hbw12.cell (p := ⟨w5.heap.size, 0, none⟩) zP).trans kP_0
  replace kP_1 := (hbw12.cell (p := ⟨w5.heap.size, 1, none⟩) zP).trans kP_1
  replace zP := Nat.lt_of_lt_of_le zP hbw12.size
  replace kQ_0 := (hbw12.cell (p := ⟨w7.heap.size, 0, none⟩) zQ).trans kQ_0
  replace kQ_1 := (hbw12.cell (p := ⟨w7.heap.size, 1, none⟩) zQ).trans kQ_1
  replace zQ := Nat.lt_of_lt_of_le zQ hbw12.size
  replace kG0_0 := (hbw12.cell (p := ⟨w9.heap.size, 0, none⟩) zG0).trans kG0_0
  replace kG0_1 := (hbw12.cell (p := ⟨w9.heap.size, 1, none⟩) zG0).trans kG0_1
  replace zG0 := Nat.lt_of_lt_of_le zG0 hbw12.size
  replace kG1_0 := (hbw12.cell (p := ⟨w9.heap.size + 1, 0, none⟩) zG1).trans kG1_0
  replace kG1_1 := (hbw12.cell (p := ⟨w9.heap.size + 1, 1, none⟩) zG1).trans kG1_1
  replace zG1 := Nat.lt_of_lt_of_le zG1 hbw12.size
  replace S1 := hide (S1.out.below hbw12)
  replace S2 := hide (S2.out.below hbw12)
  replace SW0 := hide (SW0.out.below hbw12)
  replace SW1 := hide (SW1.out.below hbw12)
  replace HP := hide (HP.out.below hbw12)
  replace HQ := hide (HQ.out.below hbw12)
  replace HG0 := hide (HG0.out.below hbw12)
  replace HG1 := hide (HG1.out.below hbw12)
  replace HB := hide (bl_trans HB.out hbw12)
  clear hbw12
  go_wp2_with fail
  have KP : Hid (∀ w', Below w12.heap.size w12 w' → (w'.cell? ⟨w.heap.size, 0, none⟩ = some (Value.bool n1) ∧ w'.cell? ⟨w.heap.size, 1, none⟩ = some (Value.slice a1 xs1.length c1) ∧ w'.cell? ⟨w5.heap.size, 0, none⟩ = some (Value.bool n1) ∧ w'.cell? ⟨w5.heap.size, 1, none⟩ = some (Value.slice aP xs1.length cP))) := hide (fun w' hb => ⟨(hb.cell (p := ⟨w.heap.size, 0, none⟩) z1).trans k1_0, (hb.cell (p := ⟨w.heap.size, 1, none⟩) z1).trans k1_1, (hb.cell (p := ⟨w5.heap.size, 0, none⟩) zP).trans kP_0, (hb.cell (p := ⟨w5.heap.size, 1, none⟩) zP).trans kP_1⟩)
  go_region_held3 (fun w' => w'.cell? ⟨w.heap.size, 0, none⟩ = some (Value.bool n1) ∧ w'.cell? ⟨w.heap.size, 1, none⟩ = some (Value.slice a1 xs1.length c1) ∧ w'.cell? ⟨w5.heap.size, 0, none⟩ = some (Value.bool n1) ∧ w'.cell? ⟨w5.heap.size, 1, none⟩ = some (Value.slice aP xs1.length cP))
    (first | exact KP.out _ (bl_refl w12).drew | exact KP.out _ hbw14 | exact KP.out _ hbw13)
    (first
      | (go_at_call_of 8 (Value.agg #[Value.bool n1, Value.slice a1 xs1.length c1]); refine (toB n1 a1 xs1.length c1 xs1 _ (S1.out.below ((bl_refl w12).drew)) (by omega)).mono ?_; rintro e w13 ⟨u, rfl, hgu, hbw13r⟩; have hbw13 : Below w12.heap.size w12 w13 := (bl_refl w12).drew.trans hbw13r)
      | (go_at_call 10; refine (eqB _ u n1 xs1 _ ⟨aP, cP, rfl, HP.out.seg.below hbw13⟩ hgu.raw).mono ?_; rintro e w14 ⟨rfl, hbw14r⟩; have hbw14 : Below w12.heap.size w12 w14 := bl_trans hbw13 hbw14r))
  clear KP
  have yw14 := hbw14.size
  replace k1_0 := (hbw14.cell (p := ⟨w.heap.size, 0, none⟩) z1).trans k1_0
  replace k1_1 := (hbw14.cell (p := ⟨w.heap.size, 1, none⟩) z1).trans k1_1
  replace z1 := Nat.lt_of_lt_of_le z1 hbw14.size
  replace k2_0 := (hbw14.cell (p := ⟨w.heap.size + 1, 0, none⟩) z2).trans k2_0
  replace k2_1 := (hbw14.cell (p := ⟨w.heap.size + 1, 1, none⟩) z2).trans k2_1
  replace z2 := Nat.lt_of_lt_of_le z2 hbw14.size
  replace kW0_0 := (hbw14.cell (p := ⟨NW0, 0, none⟩) zW0).trans kW0_0
  replace kW0_1 := (hbw14.cell (p := ⟨NW0, 1, none⟩) zW0).trans kW0_1
  replace zW0 := Nat.lt_of_lt_of_le zW0 hbw14.size
  replace kW1_0 := (hbw14.cell (p := ⟨NW1, 0, none⟩) zW1).trans kW1_0
  replace kW1_1 := (hbw14.cell (p := ⟨NW1, 1, none⟩) zW1).trans kW1_1
  replace zW1 := Nat.lt_of_lt_of_le zW1 hbw14.size
  replace kP_0 := (hbw14.cell (p := ⟨w5.heap.size, 0, none⟩) zP).trans kP_0
  replace kP_1 := (hbw14.cell (p := ⟨w5.heap.size, 1, none⟩) zP).trans kP_1
  replace zP := Nat.lt_of_lt_of_le zP hbw14.size
  replace kQ_0 := (hbw14.cell (p := ⟨w7.heap.size, 0, none⟩) zQ).trans kQ_0
  replace kQ_1 := (hbw14.cell (p := ⟨w7.heap.size, 1, none⟩) zQ).trans kQ_1
  replace zQ := Nat.lt_of_lt_of_le zQ hbw14.size
  replace kG0_0 := (hbw14.cell (p := ⟨w9.heap.size, 0, none⟩) zG0).trans kG0_0
  replace kG0_1 := (hbw14.cell (p := ⟨w9.heap.size, 1, none⟩) zG0).trans kG0_1
  replace zG0 := Nat.lt_of_lt_of_le zG0 hbw14.size
  replace kG1_0 := (hbw14.cell (p := ⟨w9.heap.size + 1, 0, none⟩) zG1).trans kG1_0
  replace kG1_1 := (hbw14.cell (p := ⟨w9.heap.size + 1, 1, none⟩) zG1).trans kG1_1
  replace zG1 := Nat.lt_of_lt_of_le zG1 hbw14.size
  replace S1 := hide (S1.out.below hbw14)
  replace S2 := hide (S2.out.below hbw14)
  replace SW0 := hide (SW0.out.below hbw14)
  replace SW1 := hide (SW1.out.below hbw14)
  replace HP := hide (HP.out.below hbw14)
  replace HQ := hide (HQ.out.below hbw14)
  replace HG0 := hide (HG0.out.below hbw14)
  replace HG1 := hide (HG1.out.below hbw14)
  replace HB := hide (bl_trans HB.out hbw14)
  clear hbw13 hbw13r hbw14 hbw14r hgu
  go_wp2_with fail
  have KP : Hid (∀ w', Below w14.heap.size w14 w' → (w'.cell? ⟨w.heap.size + 1, 0, none⟩ = some (Value.bool n2) ∧ w'.cell? ⟨w.heap.size + 1, 1, none⟩ = some (Value.slice a2 xs2.length c2) ∧ w'.cell? ⟨w7.heap.size, 0, none⟩ = some (Value.bool n2) ∧ w'.cell? ⟨w7.heap.size, 1, none⟩ = some (Value.slice aQ xs2.length cQ))) := hide (fun w' hb => ⟨(hb.cell (p := ⟨w.heap.size + 1, 0, none⟩) z2).trans k2_0, (hb.cell (p := ⟨w.heap.size + 1, 1, none⟩) z2).trans k2_1, (hb.cell (p := ⟨w7.heap.size, 0, none⟩) zQ).trans kQ_0, (hb.cell (p := ⟨w7.heap.size, 1, none⟩) zQ).trans kQ_1⟩)
  go_region_held3 (fun w' => w'.cell? ⟨w.heap.size + 1, 0, none⟩ = some (Value.bool n2) ∧ w'.cell? ⟨w.heap.size + 1, 1, none⟩ = some (Value.slice a2 xs2.length c2) ∧ w'.cell? ⟨w7.heap.size, 0, none⟩ = some (Value.bool n2) ∧ w'.cell? ⟨w7.heap.size, 1, none⟩ = some (Value.slice aQ xs2.length cQ))
    (first | exact KP.out _ (bl_refl w14).drew | exact KP.out _ hbw16 | exact KP.out _ hbw15)
    (first
      | (go_at_call_of 8 (Value.agg #[Value.bool n2, Value.slice a2 xs2.length c2]); refine (toB n2 a2 xs2.length c2 xs2 _ (S2.out.below ((bl_refl w14).drew)) (by omega)).mono ?_; rintro e w15 ⟨u, rfl, hgu, hbw15r⟩; have hbw15 : Below w14.heap.size w14 w15 := (bl_refl w14).drew.trans hbw15r)
      | (go_at_call 10; refine (eqB _ u n2 xs2 _ ⟨aQ, cQ, rfl, HQ.out.seg.below hbw15⟩ hgu.raw).mono ?_; rintro e w16 ⟨rfl, hbw16r⟩; have hbw16 : Below w14.heap.size w14 w16 := bl_trans hbw15 hbw16r))
  clear KP
  have yw16 := hbw16.size
  replace k1_0 := (hbw16.cell (p := ⟨w.heap.size, 0, none⟩) z1).trans k1_0
  replace k1_1 := (hbw16.cell (p := ⟨w.heap.size, 1, none⟩) z1).trans k1_1
  replace z1 := Nat.lt_of_lt_of_le z1 hbw16.size
  replace k2_0 := (hbw16.cell (p := ⟨w.heap.size + 1, 0, none⟩) z2).trans k2_0
  replace k2_1 := (hbw16.cell (p := ⟨w.heap.size + 1, 1, none⟩) z2).trans k2_1
  replace z2 := Nat.lt_of_lt_of_le z2 hbw16.size
  replace kW0_0 := (hbw16.cell (p := ⟨NW0, 0, none⟩) zW0).trans kW0_0
  replace kW0_1 := (hbw16.cell (p := ⟨NW0, 1, none⟩) zW0).trans kW0_1
  replace zW0 := Nat.lt_of_lt_of_le zW0 hbw16.size
  replace kW1_0 := (hbw16.cell (p := ⟨NW1, 0, none⟩) zW1).trans kW1_0
  replace kW1_1 := (hbw16.cell (p := ⟨NW1, 1, none⟩) zW1).trans kW1_1
  replace zW1 := Nat.lt_of_lt_of_le zW1 hbw16.size
  replace kP_0 := (hbw16.cell (p := ⟨w5.heap.size, 0, none⟩) zP).trans kP_0
  replace kP_1 := (hbw16.cell (p := ⟨w5.heap.size, 1, none⟩) zP).trans kP_1
  replace zP := Nat.lt_of_lt_of_le zP hbw16.size
  replace kQ_0 := (hbw16.cell (p := ⟨w7.heap.size, 0, none⟩) zQ).trans kQ_0
  replace kQ_1 := (hbw16.cell (p := ⟨w7.heap.size, 1, none⟩) zQ).trans kQ_1
  replace zQ := Nat.lt_of_lt_of_le zQ hbw16.size
  replace kG0_0 := (hbw16.cell (p := ⟨w9.heap.size, 0, none⟩) zG0).trans kG0_0
  replace kG0_1 := (hbw16.cell (p := ⟨w9.heap.size, 1, none⟩) zG0).trans kG0_1
  replace zG0 := Nat.lt_of_lt_of_le zG0 hbw16.size
  replace kG1_0 := (hbw16.cell (p := ⟨w9.heap.size + 1, 0, none⟩) zG1).trans kG1_0
  replace kG1_1 := (hbw16.cell (p := ⟨w9.heap.size + 1, 1, none⟩) zG1).trans kG1_1
  replace zG1 := Nat.lt_of_lt_of_le zG1 hbw16.size
  replace S1 := hide (S1.out.below hbw16)
  replace S2 := hide (S2.out.below hbw16)
  replace SW0 := hide (SW0.out.below hbw16)
  replace SW1 := hide (SW1.out.below hbw16)
  replace HP := hide (HP.out.below hbw16)
  replace HQ := hide (HQ.out.below hbw16)
  replace HG0 := hide (HG0.out.below hbw16)
  replace HG1 := hide (HG1.out.below hbw16)
  replace HB := hide (bl_trans HB.out hbw16)
  clear hbw15 hbw15r hbw16 hbw16r hgu
  go_wp2_with fail
  refine (markBe n1 aP xs1.length cP _ _ (0) (1) _ (by omega) (by omega) HP.out).mono ?_
  rintro e w17 ⟨rfl, hm, hg⟩
  have yw17 := hg.size
  replace k1_0 := hg.cell k1_0 (fun e => by have := oP _ e.symm; dsimp only at this; omega)
  replace k1_1 := hg.cell k1_1 (fun e => by have := oP _ e.symm; dsimp only at this; omega)
  replace z1 := Nat.lt_of_lt_of_le z1 yw17
  replace k2_0 := hg.cell k2_0 (fun e => by have := oP _ e.symm; dsimp only at this; omega)
  replace k2_1 := hg.cell k2_1 (fun e => by have := oP _ e.symm; dsimp only at this; omega)
  replace z2 := Nat.lt_of_lt_of_le z2 yw17
  replace kW0_0 := hg.cell kW0_0 (fun e => by have := oP _ e.symm; dsimp only at this; omega)
  replace kW0_1 := hg.cell kW0_1 (fun e => by have := oP _ e.symm; dsimp only at this; omega)
  replace zW0 := Nat.lt_of_lt_of_le zW0 yw17
  replace kW1_0 := hg.cell kW1_0 (fun e => by have := oP _ e.symm; dsimp only at this; omega)
  replace kW1_1 := hg.cell kW1_1 (fun e => by have := oP _ e.symm; dsimp only at this; omega)
  replace zW1 := Nat.lt_of_lt_of_le zW1 yw17
  replace kP_0 := hg.cell kP_0 (fun e => by have := oP _ e.symm; dsimp only at this; omega)
  replace kP_1 := hg.cell kP_1 (fun e => by have := oP _ e.symm; dsimp only at this; omega)
  replace zP := Nat.lt_of_lt_of_le zP yw17
  replace kQ_0 := hg.cell kQ_0 (fun e => by have := oP _ e.symm; dsimp only at this; omega)
  replace kQ_1 := hg.cell kQ_1 (fun e => by have := oP _ e.symm; dsimp only at this; omega)
  replace zQ := Nat.lt_of_lt_of_le zQ yw17
  replace kG0_0 := hg.cell kG0_0 (fun e => by have := oP _ e.symm; dsimp only at this; omega)
  replace kG0_1 := hg.cell kG0_1 (fun e => by have := oP _ e.symm; dsimp only at this; omega)
  replace zG0 := Nat.lt_of_lt_of_le zG0 yw17
  replace kG1_0 := hg.cell kG1_0 (fun e => by have := oP _ e.symm; dsimp only at this; omega)
  replace kG1_1 := hg.cell kG1_1 (fun e => by have := oP _ e.symm; dsimp only at this; omega)
  replace zG1 := Nat.lt_of_lt_of_le zG1 yw17
  replace S1 := hide (S1.out.grownLow A1.out hg (fun k e => by have := oP k e; omega))
  replace S2 := hide (S2.out.grownLow A2.out hg (fun k e => by have := oP k e; omega))
  replace SW0 := hide (SW0.out.grownLow AW0.out hg (fun k e => by have := oP k e; omega))
  replace SW1 := hide (SW1.out.grownLow AW1.out hg (fun k e => by have := oP k e; omega))
  replace HQ := hide (HQ.out.kept hg (apart_of oQ oP (by omega)))
  replace HG0 := hide (HG0.out.kept hg (apart_of oG0 oP (by omega)))
  replace HG1 := hide (HG1.out.kept hg (apart_of oG1 oP (by omega)))
  replace HB := hide (HB.out.grown hg HB.out.size (fun k e => by have := oP k e; omega))
  replace HP := hide hm
  clear hg hm
  go_wp2_with fail
  refine (markBe n2 aQ xs2.length cQ _ _ (0 + xs1.length) (1 + (xs1.length : Int)) _ (by omega) (by omega) HQ.out).mono ?_
  rintro e w18 ⟨rfl, hm, hg⟩
  have yw18 := hg.size
  replace k1_0 := hg.cell k1_0 (fun e => by have := oQ _ e.symm; dsimp only at this; omega)
  replace k1_1 := hg.cell k1_1 (fun e => by have := oQ _ e.symm; dsimp only at this; omega)
  replace z1 := Nat.lt_of_lt_of_le z1 yw18
  replace k2_0 := hg.cell k2_0 (fun e => by have := oQ _ e.symm; dsimp only at this; omega)
  replace k2_1 := hg.cell k2_1 (fun e => by have := oQ _ e.symm; dsimp only at this; omega)
  replace z2 := Nat.lt_of_lt_of_le z2 yw18
  replace kW0_0 := hg.cell kW0_0 (fun e => by have := oQ _ e.symm; dsimp only at this; omega)
  replace kW0_1 := hg.cell kW0_1 (fun e => by have := oQ _ e.symm; dsimp only at this; omega)
  replace zW0 := Nat.lt_of_lt_of_le zW0 yw18
  replace kW1_0 := hg.cell kW1_0 (fun e => by have := oQ _ e.symm; dsimp only at this; omega)
  replace kW1_1 := hg.cell kW1_1 (fun e => by have := oQ _ e.symm; dsimp only at this; omega)
  replace zW1 := Nat.lt_of_lt_of_le zW1 yw18
  replace kP_0 := hg.cell kP_0 (fun e => by have := oQ _ e.symm; dsimp only at this; omega)
  replace kP_1 := hg.cell kP_1 (fun e => by have := oQ _ e.symm; dsimp only at this; omega)
  replace zP := Nat.lt_of_lt_of_le zP yw18
  replace kQ_0 := hg.cell kQ_0 (fun e => by have := oQ _ e.symm; dsimp only at this; omega)
  replace kQ_1 := hg.cell kQ_1 (fun e => by have := oQ _ e.symm; dsimp only at this; omega)
  replace zQ := Nat.lt_of_lt_of_le zQ yw18
  replace kG0_0 := hg.cell kG0_0 (fun e => by have := oQ _ e.symm; dsimp only at this; omega)
  replace kG0_1 := hg.cell kG0_1 (fun e => by have := oQ _ e.symm; dsimp only at this; omega)
  replace zG0 := Nat.lt_of_lt_of_le zG0 yw18
  replace kG1_0 := hg.cell kG1_0 (fun e => by have := oQ _ e.symm; dsimp only at this; omega)
  replace kG1_1 := hg.cell kG1_1 (fun e => by have := oQ _ e.symm; dsimp only at this; omega)
  replace zG1 := Nat.lt_of_lt_of_le zG1 yw18
  replace S1 := hide (S1.out.grownLow A1.out hg (fun k e => by have := oQ k e; omega))
  replace S2 := hide (S2.out.grownLow A2.out hg (fun k e => by have := oQ k e; omega))
  replace SW0 := hide (SW0.out.grownLow AW0.out hg (fun k e => by have := oQ k e; omega))
  replace SW1 := hide (SW1.out.grownLow AW1.out hg (fun k e => by have := oQ k e; omega))
  replace HP := hide (HP.out.kept hg (apart_of oP oQ (by omega)))
  replace HG0 := hide (HG0.out.kept hg (apart_of oG0 oQ (by omega)))
  replace HG1 := hide (HG1.out.kept hg (apart_of oG1 oQ (by omega)))
  replace HB := hide (HB.out.grown hg HB.out.size (fun k e => by have := oQ k e; omega))
  replace HQ := hide hm
  clear hg hm
  go_wp2_with fail
  refine (eqB _ _ (sgn (dvQ n1 xs1 n2 xs2)) (lms (dvQ n1 xs1 n2 xs2)) _ ⟨aG0, cG0, rfl, HG0.out.seg⟩ ⟨aW0, cW0, rfl, SW0.out⟩).mono ?_
  rintro e w19 ⟨rfl, hbw19⟩
  have yw19 := hbw19.size
  replace k1_0 := (hbw19.cell (p := ⟨w.heap.size, 0, none⟩) z1).trans k1_0
  replace k1_1 := (hbw19.cell (p := ⟨w.heap.size, 1, none⟩) z1).trans k1_1
  replace z1 := Nat.lt_of_lt_of_le z1 hbw19.size
  replace k2_0 := (hbw19.cell (p := ⟨w.heap.size + 1, 0, none⟩) z2).trans k2_0
  replace k2_1 := (hbw19.cell (p := ⟨w.heap.size + 1, 1, none⟩) z2).trans k2_1
  replace z2 := Nat.lt_of_lt_of_le z2 hbw19.size
  replace kW0_0 := (hbw19.cell (p := ⟨NW0, 0, none⟩) zW0).trans kW0_0
  replace kW0_1 := (hbw19.cell (p := ⟨NW0, 1, none⟩) zW0).trans kW0_1
  replace zW0 := Nat.lt_of_lt_of_le zW0 hbw19.size
  replace kW1_0 := (hbw19.cell (p := ⟨NW1, 0, none⟩) zW1).trans kW1_0
  replace kW1_1 := (hbw19.cell (p := ⟨NW1, 1, none⟩) zW1).trans kW1_1
  replace zW1 := Nat.lt_of_lt_of_le zW1 hbw19.size
  replace kP_0 := (hbw19.cell (p := ⟨w5.heap.size, 0, none⟩) zP).trans kP_0
  replace kP_1 := (hbw19.cell (p := ⟨w5.heap.size, 1, none⟩) zP).trans kP_1
  replace zP := Nat.lt_of_lt_of_le zP hbw19.size
  replace kQ_0 := (hbw19.cell (p := ⟨w7.heap.size, 0, none⟩) zQ).trans kQ_0
  replace kQ_1 := (hbw19.cell (p := ⟨w7.heap.size, 1, none⟩) zQ).trans kQ_1
  replace zQ := Nat.lt_of_lt_of_le zQ hbw19.size
  replace kG0_0 := (hbw19.cell (p := ⟨w9.heap.size, 0, none⟩) zG0).trans kG0_0
  replace kG0_1 := (hbw19.cell (p := ⟨w9.heap.size, 1, none⟩) zG0).trans kG0_1
  replace zG0 := Nat.lt_of_lt_of_le zG0 hbw19.size
  replace kG1_0 := (hbw19.cell (p := ⟨w9.heap.size + 1, 0, none⟩) zG1).trans kG1_0
  replace kG1_1 := (hbw19.cell (p := ⟨w9.heap.size + 1, 1, none⟩) zG1).trans kG1_1
  replace zG1 := Nat.lt_of_lt_of_le zG1 hbw19.size
  replace S1 := hide (S1.out.below hbw19)
  replace S2 := hide (S2.out.below hbw19)
  replace SW0 := hide (SW0.out.below hbw19)
  replace SW1 := hide (SW1.out.below hbw19)
  replace HP := hide (HP.out.below hbw19)
  replace HQ := hide (HQ.out.below hbw19)
  replace HG0 := hide (HG0.out.below hbw19)
  replace HG1 := hide (HG1.out.below hbw19)
  replace HB := hide (bl_trans HB.out hbw19)
  clear hbw19
  go_wp2_with fail
  refine (eqB _ _ (sgn (dvR n1 xs1 n2 xs2)) (lms (dvR n1 xs1 n2 xs2)) _ ⟨aG1, cG1, rfl, HG1.out.seg⟩ ⟨aW1, cW1, rfl, SW1.out⟩).mono ?_
  rintro e w20 ⟨rfl, hbw20⟩
  have yw20 := hbw20.size
  replace k1_0 := (hbw20.cell (p := ⟨w.heap.size, 0, none⟩) z1).trans k1_0
  replace k1_1 := (hbw20.cell (p := ⟨w.heap.size, 1, none⟩) z1).trans k1_1
  replace z1 := Nat.lt_of_lt_of_le z1 hbw20.size
  replace k2_0 := (hbw20.cell (p := ⟨w.heap.size + 1, 0, none⟩) z2).trans k2_0
  replace k2_1 := (hbw20.cell (p := ⟨w.heap.size + 1, 1, none⟩) z2).trans k2_1
  replace z2 := Nat.lt_of_lt_of_le z2 hbw20.size
  replace kW0_0 := (hbw20.cell (p := ⟨NW0, 0, none⟩) zW0).trans kW0_0
  replace kW0_1 := (hbw20.cell (p := ⟨NW0, 1, none⟩) zW0).trans kW0_1
  replace zW0 := Nat.lt_of_lt_of_le zW0 hbw20.size
  replace kW1_0 := (hbw20.cell (p := ⟨NW1, 0, none⟩) zW1).trans kW1_0
  replace kW1_1 := (hbw20.cell (p := ⟨NW1, 1, none⟩) zW1).trans kW1_1
  replace zW1 := Nat.lt_of_lt_of_le zW1 hbw20.size
  replace kP_0 := (hbw20.cell (p := ⟨w5.heap.size, 0, none⟩) zP).trans kP_0
  replace kP_1 := (hbw20.cell (p := ⟨w5.heap.size, 1, none⟩) zP).trans kP_1
  replace zP := Nat.lt_of_lt_of_le zP hbw20.size
  replace kQ_0 := (hbw20.cell (p := ⟨w7.heap.size, 0, none⟩) zQ).trans kQ_0
  replace kQ_1 := (hbw20.cell (p := ⟨w7.heap.size, 1, none⟩) zQ).trans kQ_1
  replace zQ := Nat.lt_of_lt_of_le zQ hbw20.size
  replace kG0_0 := (hbw20.cell (p := ⟨w9.heap.size, 0, none⟩) zG0).trans kG0_0
  replace kG0_1 := (hbw20.cell (p := ⟨w9.heap.size, 1, none⟩) zG0).trans kG0_1
  replace zG0 := Nat.lt_of_lt_of_le zG0 hbw20.size
  replace kG1_0 := (hbw20.cell (p := ⟨w9.heap.size + 1, 0, none⟩) zG1).trans kG1_0
  replace kG1_1 := (hbw20.cell (p := ⟨w9.heap.size + 1, 1, none⟩) zG1).trans kG1_1
  replace zG1 := Nat.lt_of_lt_of_le zG1 hbw20.size
  replace S1 := hide (S1.out.below hbw20)
  replace S2 := hide (S2.out.below hbw20)
  replace SW0 := hide (SW0.out.below hbw20)
  replace SW1 := hide (SW1.out.below hbw20)
  replace HP := hide (HP.out.below hbw20)
  replace HQ := hide (HQ.out.below hbw20)
  replace HG0 := hide (HG0.out.below hbw20)
  replace HG1 := hide (HG1.out.below hbw20)
  replace HB := hide (bl_trans HB.out hbw20)
  clear hbw20
  go_wp2_with fail
  refine (markBe (sgn (dvQ n1 xs1 n2 xs2)) aG0 (lms (dvQ n1 xs1 n2 xs2)).length cG0 _ _ (0) (1) _ (by omega) (by omega) HG0.out).mono ?_
  rintro e w21 ⟨rfl, hm, hg⟩
  have yw21 := hg.size
  replace k1_0 := hg.cell k1_0 (fun e => by have := oG0 _ e.symm; dsimp only at this; omega)
  replace k1_1 := hg.cell k1_1 (fun e => by have := oG0 _ e.symm; dsimp only at this; omega)
  replace z1 := Nat.lt_of_lt_of_le z1 yw21
  replace k2_0 := hg.cell k2_0 (fun e => by have := oG0 _ e.symm; dsimp only at this; omega)
  replace k2_1 := hg.cell k2_1 (fun e => by have := oG0 _ e.symm; dsimp only at this; omega)
  replace z2 := Nat.lt_of_lt_of_le z2 yw21
  replace kW0_0 := hg.cell kW0_0 (fun e => by have := oG0 _ e.symm; dsimp only at this; omega)
  replace kW0_1 := hg.cell kW0_1 (fun e => by have := oG0 _ e.symm; dsimp only at this; omega)
  replace zW0 := Nat.lt_of_lt_of_le zW0 yw21
  replace kW1_0 := hg.cell kW1_0 (fun e => by have := oG0 _ e.symm; dsimp only at this; omega)
  replace kW1_1 := hg.cell kW1_1 (fun e => by have := oG0 _ e.symm; dsimp only at this; omega)
  replace zW1 := Nat.lt_of_lt_of_le zW1 yw21
  replace kP_0 := hg.cell kP_0 (fun e => by have := oG0 _ e.symm; dsimp only at this; omega)
  replace kP_1 := hg.cell kP_1 (fun e => by have := oG0 _ e.symm; dsimp only at this; omega)
  replace zP := Nat.lt_of_lt_of_le zP yw21
  replace kQ_0 := hg.cell kQ_0 (fun e => by have := oG0 _ e.symm; dsimp only at this; omega)
  replace kQ_1 := hg.cell kQ_1 (fun e => by have := oG0 _ e.symm; dsimp only at this; omega)
  replace zQ := Nat.lt_of_lt_of_le zQ yw21
  replace kG0_0 := hg.cell kG0_0 (fun e => by have := oG0 _ e.symm; dsimp only at this; omega)
  replace kG0_1 := hg.cell kG0_1 (fun e => by have := oG0 _ e.symm; dsimp only at this; omega)
  replace zG0 := Nat.lt_of_lt_of_le zG0 yw21
  replace kG1_0 := hg.cell kG1_0 (fun e => by have := oG0 _ e.symm; dsimp only at this; omega)
  replace kG1_1 := hg.cell kG1_1 (fun e => by have := oG0 _ e.symm; dsimp only at this; omega)
  replace zG1 := Nat.lt_of_lt_of_le zG1 yw21
  replace S1 := hide (S1.out.grownLow A1.out hg (fun k e => by have := oG0 k e; omega))
  replace S2 := hide (S2.out.grownLow A2.out hg (fun k e => by have := oG0 k e; omega))
  replace SW0 := hide (SW0.out.grownLow AW0.out hg (fun k e => by have := oG0 k e; omega))
  replace SW1 := hide (SW1.out.grownLow AW1.out hg (fun k e => by have := oG0 k e; omega))
  replace HP := hide (HP.out.kept hg (apart_of oP oG0 (by omega)))
  replace HQ := hide (HQ.out.kept hg (apart_of oQ oG0 (by omega)))
  replace HG1 := hide (HG1.out.kept hg (HAPG01.out.symm.own _ _ _ _))
  replace HB := hide (HB.out.grown hg HB.out.size (fun k e => by have := oG0 k e; omega))
  replace HG0 := hide hm
  clear hg hm
  go_wp2_with fail
  refine (markBe (sgn (dvR n1 xs1 n2 xs2)) aG1 (lms (dvR n1 xs1 n2 xs2)).length cG1 _ _ (0 + (lms (dvQ n1 xs1 n2 xs2)).length) (1 + ((lms (dvQ n1 xs1 n2 xs2)).length : Int)) _ (by omega) (by omega) HG1.out).mono ?_
  rintro e w22 ⟨rfl, hm, hg⟩
  have yw22 := hg.size
  replace k1_0 := hg.cell k1_0 (fun e => by have := oG1 _ e.symm; dsimp only at this; omega)
  replace k1_1 := hg.cell k1_1 (fun e => by have := oG1 _ e.symm; dsimp only at this; omega)
  replace z1 := Nat.lt_of_lt_of_le z1 yw22
  replace k2_0 := hg.cell k2_0 (fun e => by have := oG1 _ e.symm; dsimp only at this; omega)
  replace k2_1 := hg.cell k2_1 (fun e => by have := oG1 _ e.symm; dsimp only at this; omega)
  replace z2 := Nat.lt_of_lt_of_le z2 yw22
  replace kW0_0 := hg.cell kW0_0 (fun e => by have := oG1 _ e.symm; dsimp only at this; omega)
  replace kW0_1 := hg.cell kW0_1 (fun e => by have := oG1 _ e.symm; dsimp only at this; omega)
  replace zW0 := Nat.lt_of_lt_of_le zW0 yw22
  replace kW1_0 := hg.cell kW1_0 (fun e => by have := oG1 _ e.symm; dsimp only at this; omega)
  replace kW1_1 := hg.cell kW1_1 (fun e => by have := oG1 _ e.symm; dsimp only at this; omega)
  replace zW1 := Nat.lt_of_lt_of_le zW1 yw22
  replace kP_0 := hg.cell kP_0 (fun e => by have := oG1 _ e.symm; dsimp only at this; omega)
  replace kP_1 := hg.cell kP_1 (fun e => by have := oG1 _ e.symm; dsimp only at this; omega)
  replace zP := Nat.lt_of_lt_of_le zP yw22
  replace kQ_0 := hg.cell kQ_0 (fun e => by have := oG1 _ e.symm; dsimp only at this; omega)
  replace kQ_1 := hg.cell kQ_1 (fun e => by have := oG1 _ e.symm; dsimp only at this; omega)
  replace zQ := Nat.lt_of_lt_of_le zQ yw22
  replace kG0_0 := hg.cell kG0_0 (fun e => by have := oG1 _ e.symm; dsimp only at this; omega)
  replace kG0_1 := hg.cell kG0_1 (fun e => by have := oG1 _ e.symm; dsimp only at this; omega)
  replace zG0 := Nat.lt_of_lt_of_le zG0 yw22
  replace kG1_0 := hg.cell kG1_0 (fun e => by have := oG1 _ e.symm; dsimp only at this; omega)
  replace kG1_1 := hg.cell kG1_1 (fun e => by have := oG1 _ e.symm; dsimp only at this; omega)
  replace zG1 := Nat.lt_of_lt_of_le zG1 yw22
  replace S1 := hide (S1.out.grownLow A1.out hg (fun k e => by have := oG1 k e; omega))
  replace S2 := hide (S2.out.grownLow A2.out hg (fun k e => by have := oG1 k e; omega))
  replace SW0 := hide (SW0.out.grownLow AW0.out hg (fun k e => by have := oG1 k e; omega))
  replace SW1 := hide (SW1.out.grownLow AW1.out hg (fun k e => by have := oG1 k e; omega))
  replace HP := hide (HP.out.kept hg (apart_of oP oG1 (by omega)))
  replace HQ := hide (HQ.out.kept hg (apart_of oQ oG1 (by omega)))
  replace HG0 := hide (HG0.out.kept hg (HAPG01.out.own _ _ _ _))
  replace HB := hide (HB.out.grown hg HB.out.size (fun k e => by have := oG1 k e; omega))
  replace HG1 := hide hm
  clear hg hm
  go_wp2_with fail
  refine (heldBe (sgn (dvQ n1 xs1 n2 xs2)) aG0 (lms (dvQ n1 xs1 n2 xs2)).length cG0 (0) (1) _ (by omega) (by omega) HG0.out.seg).mono ?_
  rintro e w23 ⟨rfl, hbw23⟩
  have yw23 := hbw23.size
  replace k1_0 := (hbw23.cell (p := ⟨w.heap.size, 0, none⟩) z1).trans k1_0
  replace k1_1 := (hbw23.cell (p := ⟨w.heap.size, 1, none⟩) z1).trans k1_1
  replace z1 := Nat.lt_of_lt_of_le z1 hbw23.size
  replace k2_0 := (hbw23.cell (p := ⟨w.heap.size + 1, 0, none⟩) z2).trans k2_0
  replace k2_1 := (hbw23.cell (p := ⟨w.heap.size + 1, 1, none⟩) z2).trans k2_1
  replace z2 := Nat.lt_of_lt_of_le z2 hbw23.size
  replace kW0_0 := (hbw23.cell (p := ⟨NW0, 0, none⟩) zW0).trans kW0_0
  replace kW0_1 := (hbw23.cell (p := ⟨NW0, 1, none⟩) zW0).trans kW0_1
  replace zW0 := Nat.lt_of_lt_of_le zW0 hbw23.size
  replace kW1_0 := (hbw23.cell (p := ⟨NW1, 0, none⟩) zW1).trans kW1_0
  replace kW1_1 := (hbw23.cell (p := ⟨NW1, 1, none⟩) zW1).trans kW1_1
  replace zW1 := Nat.lt_of_lt_of_le zW1 hbw23.size
  replace kP_0 := (hbw23.cell (p := ⟨w5.heap.size, 0, none⟩) zP).trans kP_0
  replace kP_1 := (hbw23.cell (p := ⟨w5.heap.size, 1, none⟩) zP).trans kP_1
  replace zP := Nat.lt_of_lt_of_le zP hbw23.size
  replace kQ_0 := (hbw23.cell (p := ⟨w7.heap.size, 0, none⟩) zQ).trans kQ_0
  replace kQ_1 := (hbw23.cell (p := ⟨w7.heap.size, 1, none⟩) zQ).trans kQ_1
  replace zQ := Nat.lt_of_lt_of_le zQ hbw23.size
  replace kG0_0 := (hbw23.cell (p := ⟨w9.heap.size, 0, none⟩) zG0).trans kG0_0
  replace kG0_1 := (hbw23.cell (p := ⟨w9.heap.size, 1, none⟩) zG0).trans kG0_1
  replace zG0 := Nat.lt_of_lt_of_le zG0 hbw23.size
  replace kG1_0 := (hbw23.cell (p := ⟨w9.heap.size + 1, 0, none⟩) zG1).trans kG1_0
  replace kG1_1 := (hbw23.cell (p := ⟨w9.heap.size + 1, 1, none⟩) zG1).trans kG1_1
  replace zG1 := Nat.lt_of_lt_of_le zG1 hbw23.size
  replace S1 := hide (S1.out.below hbw23)
  replace S2 := hide (S2.out.below hbw23)
  replace SW0 := hide (SW0.out.below hbw23)
  replace SW1 := hide (SW1.out.below hbw23)
  replace HP := hide (HP.out.below hbw23)
  replace HQ := hide (HQ.out.below hbw23)
  replace HG0 := hide (HG0.out.below hbw23)
  replace HG1 := hide (HG1.out.below hbw23)
  replace HB := hide (bl_trans HB.out hbw23)
  clear hbw23
  go_wp2_with fail
  refine (heldBe (sgn (dvR n1 xs1 n2 xs2)) aG1 (lms (dvR n1 xs1 n2 xs2)).length cG1 (0 + (lms (dvQ n1 xs1 n2 xs2)).length) (1 + ((lms (dvQ n1 xs1 n2 xs2)).length : Int)) _ (by omega) (by omega) HG1.out.seg).mono ?_
  rintro e w24 ⟨rfl, hbw24⟩
  have yw24 := hbw24.size
  replace k1_0 := (hbw24.cell (p := ⟨w.heap.size, 0, none⟩) z1).trans k1_0
  replace k1_1 := (hbw24.cell (p := ⟨w.heap.size, 1, none⟩) z1).trans k1_1
  replace z1 := Nat.lt_of_lt_of_le z1 hbw24.size
  replace k2_0 := (hbw24.cell (p := ⟨w.heap.size + 1, 0, none⟩) z2).trans k2_0
  replace k2_1 := (hbw24.cell (p := ⟨w.heap.size + 1, 1, none⟩) z2).trans k2_1
  replace z2 := Nat.lt_of_lt_of_le z2 hbw24.size
  replace kW0_0 := (hbw24.cell (p := ⟨NW0, 0, none⟩) zW0).trans kW0_0
  replace kW0_1 := (hbw24.cell (p := ⟨NW0, 1, none⟩) zW0).trans kW0_1
  replace zW0 := Nat.lt_of_lt_of_le zW0 hbw24.size
  replace kW1_0 := (hbw24.cell (p := ⟨NW1, 0, none⟩) zW1).trans kW1_0
  replace kW1_1 := (hbw24.cell (p := ⟨NW1, 1, none⟩) zW1).trans kW1_1
  replace zW1 := Nat.lt_of_lt_of_le zW1 hbw24.size
  replace kP_0 := (hbw24.cell (p := ⟨w5.heap.size, 0, none⟩) zP).trans kP_0
  replace kP_1 := (hbw24.cell (p := ⟨w5.heap.size, 1, none⟩) zP).trans kP_1
  replace zP := Nat.lt_of_lt_of_le zP hbw24.size
  replace kQ_0 := (hbw24.cell (p := ⟨w7.heap.size, 0, none⟩) zQ).trans kQ_0
  replace kQ_1 := (hbw24.cell (p := ⟨w7.heap.size, 1, none⟩) zQ).trans kQ_1
  replace zQ := Nat.lt_of_lt_of_le zQ hbw24.size
  replace kG0_0 := (hbw24.cell (p := ⟨w9.heap.size, 0, none⟩) zG0).trans kG0_0
  replace kG0_1 := (hbw24.cell (p := ⟨w9.heap.size, 1, none⟩) zG0).trans kG0_1
  replace zG0 := Nat.lt_of_lt_of_le zG0 hbw24.size
  replace kG1_0 := (hbw24.cell (p := ⟨w9.heap.size + 1, 0, none⟩) zG1).trans kG1_0
  replace kG1_1 := (hbw24.cell (p := ⟨w9.heap.size + 1, 1, none⟩) zG1).trans kG1_1
  replace zG1 := Nat.lt_of_lt_of_le zG1 hbw24.size
  replace S1 := hide (S1.out.below hbw24)
  replace S2 := hide (S2.out.below hbw24)
  replace SW0 := hide (SW0.out.below hbw24)
  replace SW1 := hide (SW1.out.below hbw24)
  replace HP := hide (HP.out.below hbw24)
  replace HQ := hide (HQ.out.below hbw24)
  replace HG0 := hide (HG0.out.below hbw24)
  replace HG1 := hide (HG1.out.below hbw24)
  replace HB := hide (bl_trans HB.out hbw24)
  clear hbw24
  go_upto_region 35 with fail
  go_cut [17, 18, 19] (fun s0 s1 t0 wc => ∃ (N0 : Nat) (N1 : Nat) (aV0 : Option Addr) (cV0 : Nat) (aV1 : Option Addr) (cV1 : Nat), s0 = .pointer (some ⟨N0, 0, none⟩) ∧ s1 = .pointer (some ⟨N1, 0, none⟩) ∧ t0 = .bool (dvT n1 xs1 n2 xs2) ∧ Hid (w24.heap.size ≤ N0 ∧ N0 < wc.heap.size ∧ wc.cell? ⟨N0, 0, none⟩ = some (Value.bool (sgn (dvQ n1 xs1 n2 xs2))) ∧ wc.cell? ⟨N0, 1, none⟩ = some (Value.slice aV0 (lms (dvQ n1 xs1 n2 xs2)).length cV0) ∧ w24.heap.size ≤ N1 ∧ N1 < wc.heap.size ∧ wc.cell? ⟨N1, 0, none⟩ = some (Value.bool (sgn (dvR n1 xs1 n2 xs2))) ∧ wc.cell? ⟨N1, 1, none⟩ = some (Value.slice aV1 (lms (dvR n1 xs1 n2 xs2)).length cV1) ∧ Seg wc aV0 (lms (dvQ n1 xs1 n2 xs2)).length cV0 (lms (dvQ n1 xs1 n2 xs2)) ∧ Seg wc aV1 (lms (dvR n1 xs1 n2 xs2)).length cV1 (lms (dvR n1 xs1 n2 xs2)) ∧ Below w24.heap.size w24 wc))
  case first =>
    as_aux_lemma =>
      have KP : Hid (∀ w', Below w24.heap.size w24 w' → (w'.cell? ⟨w.heap.size, 0, none⟩ = some (Value.bool n1) ∧ w'.cell? ⟨w.heap.size, 1, none⟩ = some (Value.slice a1 xs1.length c1) ∧ w'.cell? ⟨w.heap.size + 1, 0, none⟩ = some (Value.bool n2) ∧ w'.cell? ⟨w.heap.size + 1, 1, none⟩ = some (Value.slice a2 xs2.length c2) ∧ Hid (Below w24.heap.size w24 w'))) := hide (fun w' hb => ⟨(hb.cell (p := ⟨w.heap.size, 0, none⟩) z1).trans k1_0, (hb.cell (p := ⟨w.heap.size, 1, none⟩) z1).trans k1_1, (hb.cell (p := ⟨w.heap.size + 1, 0, none⟩) z2).trans k2_0, (hb.cell (p := ⟨w.heap.size + 1, 1, none⟩) z2).trans k2_1, hb⟩)
      go_region_held3 (fun w' => w'.cell? ⟨w.heap.size, 0, none⟩ = some (Value.bool n1) ∧ w'.cell? ⟨w.heap.size, 1, none⟩ = some (Value.slice a1 xs1.length c1) ∧ w'.cell? ⟨w.heap.size + 1, 0, none⟩ = some (Value.bool n2) ∧ w'.cell? ⟨w.heap.size + 1, 1, none⟩ = some (Value.slice a2 xs2.length c2) ∧ Hid (Below w24.heap.size w24 w'))
        (first | exact KP.out _ (bl_refl w24).drew | exact KP.out _ bC | exact KP.out _ bB | exact KP.out _ bA | exact KP.out _ (by repeat first | exact bC | exact bB | exact bA | exact (bl_refl w24).drew | exact bl_refl w24 | refine bl_alloc ?_ _ | refine bl_trans ?_ (bl_refl _).drew | refine Below.setCell ?_ (by first | omega | (dsimp only; omega) | (dsimp only; rw [World.size_drew]; omega)) _))
        (first
          | (go_at_call_of 8 (Value.agg #[Value.bool n1, Value.slice a1 xs1.length c1]); refine (toB n1 a1 xs1.length c1 xs1 _ (S1.out.below (Hid.out (And.right (And.right (And.right (And.right (by assumption))))))) (by omega)).mono ?_; rintro e wA ⟨uX, rfl, ⟨aX, cX, rfl, hoX⟩, hbA⟩; have bA : Below w24.heap.size w24 wA := bl_trans (Hid.out (And.right (And.right (And.right (And.right (by assumption)))))) hbA; have yA := bA.size; have HX := hide hoX.seg; clear hoX; (first | (have HZa0 := hide (show Zr wA w24.heap.size from (born2 hbA).1); have HZa1 := hide (show Zr wA (w24.heap.size + 1) from (born2 hbA).2)) | (have HZa0 := hide (show Zr wA w24.heap.size from (born2 (bl_trans (bl_refl ((w24.alloc (Obj.cells #[Value.bool false, Value.slice none 0 0] 26)).alloc (Obj.cells #[Value.bool false, Value.slice none 0 0] 26))).drew hbA)).1); have HZa1 := hide (show Zr wA (w24.heap.size + 1) from (born2 (bl_trans (bl_refl ((w24.alloc (Obj.cells #[Value.bool false, Value.slice none 0 0] 26)).alloc (Obj.cells #[Value.bool false, Value.slice none 0 0] 26))).drew hbA)).2)) | have HZa0 := hide (show Zr wA w24.heap.size from born1 hbA) | have HZa0 := hide (show Zr wA w24.heap.size from born1 (bl_trans (bl_refl (w24.alloc (Obj.cells #[Value.bool false, Value.slice none 0 0] 26))).drew hbA)) | skip); (try have zza0 := HZa0.out.1); (try have zza1 := HZa1.out.1); clear hbA)
          | (go_at_call_of 8 (Value.agg #[Value.bool n2, Value.slice a2 xs2.length c2]); refine (toB n2 a2 xs2.length c2 xs2 _ (S2.out.below (Hid.out (And.right (And.right (And.right (And.right (by assumption))))))) (by omega)).mono ?_; rintro e wB ⟨uY, rfl, ⟨aY, cY, rfl, hoY⟩, hbB⟩; have bB : Below w24.heap.size w24 wB := bl_trans (Hid.out (And.right (And.right (And.right (And.right (by assumption)))))) hbB; have bAB : Below wA.heap.size wA wB := (by first | exact hbB | exact bl_one hbB | exact bl_two hbB); have yB := bAB.size; have HY := hide hoY.seg; clear hoY; replace HX := hide (HX.out.below bAB); (try replace HZa0 := hide (HZa0.out.below bAB)); (try replace HZa1 := hide (HZa1.out.below bAB)); (first | (have HZb0 := hide (show Zr wB wA.heap.size from (born2 hbB).1); have HZb1 := hide (show Zr wB (wA.heap.size + 1) from (born2 hbB).2)) | (have HZb0 := hide (show Zr wB wA.heap.size from (born2 (bl_trans (bl_refl ((wA.alloc (Obj.cells #[Value.bool false, Value.slice none 0 0] 26)).alloc (Obj.cells #[Value.bool false, Value.slice none 0 0] 26))).drew hbB)).1); have HZb1 := hide (show Zr wB (wA.heap.size + 1) from (born2 (bl_trans (bl_refl ((wA.alloc (Obj.cells #[Value.bool false, Value.slice none 0 0] 26)).alloc (Obj.cells #[Value.bool false, Value.slice none 0 0] 26))).drew hbB)).2)) | have HZb0 := hide (show Zr wB wA.heap.size from born1 hbB) | have HZb0 := hide (show Zr wB wA.heap.size from born1 (bl_trans (bl_refl (wA.alloc (Obj.cells #[Value.bool false, Value.slice none 0 0] 26))).drew hbB)) | skip); (try have zzb0 := HZb0.out.1); (try have zzb1 := HZb1.out.1); clear hbB)
          | (go_at_call 9; refine (DivModP _ _ n1 n2 xs1 xs2 _ ⟨aX, cX, rfl, (HX.out.below (by first | exact bl_refl _ | exact bl_alloc (bl_refl _) _ | exact bl_alloc (bl_alloc (bl_refl _) _) _))⟩ ⟨aY, cY, rfl, (HY.out.below (by first | exact bl_refl _ | exact bl_alloc (bl_refl _) _ | exact bl_alloc (bl_alloc (bl_refl _) _) _))⟩).mono ?_; rintro e wC ⟨aC0, cC0, aC1, cC1, rfl, hoC0, hoC1, hapC01, hbC⟩; have bBC : Below wB.heap.size wB wC := (by first | exact hbC | exact bl_one hbC | exact bl_two hbC); have bC : Below w24.heap.size w24 wC := bl_trans bB bBC; have yC := bBC.size; have RC0 := hide hoC0.rgs; clear hoC0; have RC1 := hide hoC1.rgs; clear hoC1; (try replace HZa0 := hide (HZa0.out.below bBC)); (try replace HZa1 := hide (HZa1.out.below bBC)); (try replace HZb0 := hide (HZb0.out.below bBC)); (try replace HZb1 := hide (HZb1.out.below bBC)); (first | (have HZc0 := hide (show Zr wC wB.heap.size from (born2 hbC).1); have HZc1 := hide (show Zr wC (wB.heap.size + 1) from (born2 hbC).2)) | (have HZc0 := hide (show Zr wC wB.heap.size from (born2 (bl_trans (bl_refl ((wB.alloc (Obj.cells #[Value.bool false, Value.slice none 0 0] 26)).alloc (Obj.cells #[Value.bool false, Value.slice none 0 0] 26))).drew hbC)).1); have HZc1 := hide (show Zr wC (wB.heap.size + 1) from (born2 (bl_trans (bl_refl ((wB.alloc (Obj.cells #[Value.bool false, Value.slice none 0 0] 26)).alloc (Obj.cells #[Value.bool false, Value.slice none 0 0] 26))).drew hbC)).2)) | have HZc0 := hide (show Zr wC wB.heap.size from born1 hbC) | have HZc0 := hide (show Zr wC wB.heap.size from born1 (bl_trans (bl_refl (wB.alloc (Obj.cells #[Value.bool false, Value.slice none 0 0] 26))).drew hbC)) | skip); (try have Qa0 := HZa0.out); (try have Qa1 := HZa1.out); (try obtain ⟨za0, ka0_0, ka0_1, fa0_0, fa0_1⟩ := HZa0.out); (try obtain ⟨za1, ka1_0, ka1_1, fa1_0, fa1_1⟩ := HZa1.out); (try have Qb0 := HZb0.out); (try have Qb1 := HZb1.out); (try obtain ⟨zb0, kb0_0, kb0_1, fb0_0, fb0_1⟩ := HZb0.out); (try obtain ⟨zb1, kb1_0, kb1_1, fb1_0, fb1_1⟩ := HZb1.out); (try have Qc0 := HZc0.out); (try have Qc1 := HZc1.out); (try obtain ⟨zc0, kc0_0, kc0_1, fc0_0, fc0_1⟩ := HZc0.out); (try obtain ⟨zc1, kc1_0, kc1_1, fc1_0, fc1_1⟩ := HZc1.out); (try simp only [World.size_drew] at RC0); (try simp only [World.size_alloc] at RC0); (try simp only [World.size_drew] at RC1); (try simp only [World.size_alloc] at RC1); (try have := Nat.ne_of_lt za0); (try have := Nat.ne_of_lt za1); (try have := Nat.ne_of_lt zb0); (try have := Nat.ne_of_lt zb1); (try have := Nat.ne_of_lt zc0); (try have := Nat.ne_of_lt zc1); (try (have := za0; have := zb0; have : ¬ w24.heap.size = wA.heap.size := by omega)); (try (have := za0; have := zb1; have : ¬ w24.heap.size = wA.heap.size + 1 := by omega)); (try (have := za0; have := zc0; have : ¬ w24.heap.size = wB.heap.size := by omega)); (try (have := za0; have := zc1; have : ¬ w24.heap.size = wB.heap.size + 1 := by omega)); (try (have := za1; have := zb0; have : ¬ w24.heap.size + 1 = wA.heap.size := by omega)); (try (have := za1; have := zb1; have : ¬ w24.heap.size + 1 = wA.heap.size + 1 := by omega)); (try (have := za1; have := zc0; have : ¬ w24.heap.size + 1 = wB.heap.size := by omega)); (try (have := za1; have := zc1; have : ¬ w24.heap.size + 1 = wB.heap.size + 1 := by omega)); (try (have := zb0; have := za0; have : ¬ wA.heap.size = w24.heap.size := by omega)); (try (have := zb0; have := za1; have : ¬ wA.heap.size = w24.heap.size + 1 := by omega)); (try (have := zb0; have := zc0; have : ¬ wA.heap.size = wB.heap.size := by omega)); (try (have := zb0; have := zc1; have : ¬ wA.heap.size = wB.heap.size + 1 := by omega)); (try (have := zb1; have := za0; have : ¬ wA.heap.size + 1 = w24.heap.size := by omega)); (try (have := zb1; have := za1; have : ¬ wA.heap.size + 1 = w24.heap.size + 1 := by omega)); (try (have := zb1; have := zc0; have : ¬ wA.heap.size + 1 = wB.heap.size := by omega)); (try (have := zb1; have := zc1; have : ¬ wA.heap.size + 1 = wB.heap.size + 1 := by omega)); (try (have := zc0; have := za0; have : ¬ wB.heap.size = w24.heap.size := by omega)); (try (have := zc0; have := za1; have : ¬ wB.heap.size = w24.heap.size + 1 := by omega)); (try (have := zc0; have := zb0; have : ¬ wB.heap.size = wA.heap.size := by omega)); (try (have := zc0; have := zb1; have : ¬ wB.heap.size = wA.heap.size + 1 := by omega)); (try (have := zc1; have := za0; have : ¬ wB.heap.size + 1 = w24.heap.size := by omega)); (try (have := zc1; have := za1; have : ¬ wB.heap.size + 1 = w24.heap.size + 1 := by omega)); (try (have := zc1; have := zb0; have : ¬ wB.heap.size + 1 = wA.heap.size := by omega)); (try (have := zc1; have := zb1; have : ¬ wB.heap.size + 1 = wA.heap.size + 1 := by omega)); clear hbC))
      all_goals (go_wp2_with fail; go_meet)
      · exact ⟨_, _, aC0, cC0, aC1, cC1, rfl, rfl, rfl, hide (res2_bb RC0.out RC1.out (by omega) (by omega) bC)⟩
      · exact ⟨_, _, aC0, cC0, aC1, cC1, rfl, rfl, rfl, hide (res2_bb2 RC0.out RC1.out (by omega) (by omega) bC)⟩
      · exact ⟨_, _, aC0, cC0, aC1, cC1, rfl, rfl, rfl, hide (res2_ab RC0.out RC1.out (by omega) (by omega) bC Qc0 (by omega) (by omega) (by omega))⟩
      · exact ⟨_, _, aC0, cC0, aC1, cC1, rfl, rfl, rfl, hide (res2_aa RC0.out RC1.out (by omega) (by omega) bC Qc0 (by omega) (by omega) (by omega) Qc1 (by omega) (by omega) (by omega) (by omega))⟩
      · exact ⟨_, _, aC0, cC0, aC1, cC1, rfl, rfl, rfl, hide (res2_ba RC0.out RC1.out (by omega) (by omega) bC Qc0 (by omega) (by omega) (by omega))⟩
      · exact ⟨_, _, aC0, cC0, aC1, cC1, rfl, rfl, rfl, hide (res2_aa RC0.out RC1.out (by omega) (by omega) bC Qc1 (by omega) (by omega) (by omega) Qc0 (by omega) (by omega) (by omega) (by omega))⟩
      · exact ⟨_, _, aC0, cC0, aC1, cC1, rfl, rfl, rfl, hide (res2_ab RC0.out RC1.out (by omega) (by omega) bC Qb0 (by omega) (by omega) (by omega))⟩
      · exact ⟨_, _, aC0, cC0, aC1, cC1, rfl, rfl, rfl, hide (res2_aa RC0.out RC1.out (by omega) (by omega) bC Qb0 (by omega) (by omega) (by omega) Qc0 (by omega) (by omega) (by omega) (by omega))⟩
      · exact ⟨_, _, aC0, cC0, aC1, cC1, rfl, rfl, rfl, hide (res2_aa RC0.out RC1.out (by omega) (by omega) bC Qb0 (by omega) (by omega) (by omega) Qb1 (by omega) (by omega) (by omega) (by omega))⟩
      · exact ⟨_, _, aC0, cC0, aC1, cC1, rfl, rfl, rfl, hide (res2_ba RC0.out RC1.out (by omega) (by omega) bC Qb0 (by omega) (by omega) (by omega))⟩
      · exact ⟨_, _, aC0, cC0, aC1, cC1, rfl, rfl, rfl, hide (res2_aa RC0.out RC1.out (by omega) (by omega) bC Qc0 (by omega) (by omega) (by omega) Qb0 (by omega) (by omega) (by omega) (by omega))⟩
      · exact ⟨_, _, aC0, cC0, aC1, cC1, rfl, rfl, rfl, hide (res2_aa RC0.out RC1.out (by omega) (by omega) bC Qb1 (by omega) (by omega) (by omega) Qb0 (by omega) (by omega) (by omega) (by omega))⟩
      · exact ⟨_, _, aC0, cC0, aC1, cC1, rfl, rfl, rfl, hide (res2_ab RC0.out RC1.out (by omega) (by omega) bC Qa0 (by omega) (by omega) (by omega))⟩
      · exact ⟨_, _, aC0, cC0, aC1, cC1, rfl, rfl, rfl, hide (res2_aa RC0.out RC1.out (by omega) (by omega) bC Qa0 (by omega) (by omega) (by omega) Qc0 (by omega) (by omega) (by omega) (by omega))⟩
      · exact ⟨_, _, aC0, cC0, aC1, cC1, rfl, rfl, rfl, hide (res2_aa RC0.out RC1.out (by omega) (by omega) bC Qa0 (by omega) (by omega) (by omega) Qb0 (by omega) (by omega) (by omega) (by omega))⟩
      · exact ⟨_, _, aC0, cC0, aC1, cC1, rfl, rfl, rfl, hide (res2_aa RC0.out RC1.out (by omega) (by omega) bC Qa0 (by omega) (by omega) (by omega) Qa1 (by omega) (by omega) (by omega) (by omega))⟩
      · exact ⟨_, _, aC0, cC0, aC1, cC1, rfl, rfl, rfl, hide (res2_ba RC0.out RC1.out (by omega) (by omega) bC Qa0 (by omega) (by omega) (by omega))⟩
      · exact ⟨_, _, aC0, cC0, aC1, cC1, rfl, rfl, rfl, hide (res2_aa RC0.out RC1.out (by omega) (by omega) bC Qc0 (by omega) (by omega) (by omega) Qa0 (by omega) (by omega) (by omega) (by omega))⟩
      · exact ⟨_, _, aC0, cC0, aC1, cC1, rfl, rfl, rfl, hide (res2_aa RC0.out RC1.out (by omega) (by omega) bC Qb0 (by omega) (by omega) (by omega) Qa0 (by omega) (by omega) (by omega) (by omega))⟩
      · exact ⟨_, _, aC0, cC0, aC1, cC1, rfl, rfl, rfl, hide (res2_aa RC0.out RC1.out (by omega) (by omega) bC Qa1 (by omega) (by omega) (by omega) Qa0 (by omega) (by omega) (by omega) (by omega))⟩
  case rest =>
  obtain ⟨NV0, NV1, aV0, cV0, aV1, cV1, rfl, rfl, rfl, hres⟩ := hcut
  obtain ⟨nV0, mV0, rV0_0, rV0_1, nV1, mV1, rV1_0, rV1_1, gV0, gV1, rB⟩ := hres.out
  clear hres
  rename World => w25
  have yw25 := rB.size
  replace k1_0 := (rB.cell (p := ⟨w.heap.size, 0, none⟩) z1).trans k1_0
  replace k1_1 := (rB.cell (p := ⟨w.heap.size, 1, none⟩) z1).trans k1_1
  replace z1 := Nat.lt_of_lt_of_le z1 rB.size
  replace k2_0 := (rB.cell (p := ⟨w.heap.size + 1, 0, none⟩) z2).trans k2_0
  replace k2_1 := (rB.cell (p := ⟨w.heap.size + 1, 1, none⟩) z2).trans k2_1
  replace z2 := Nat.lt_of_lt_of_le z2 rB.size
  replace kW0_0 := (rB.cell (p := ⟨NW0, 0, none⟩) zW0).trans kW0_0
  replace kW0_1 := (rB.cell (p := ⟨NW0, 1, none⟩) zW0).trans kW0_1
  replace zW0 := Nat.lt_of_lt_of_le zW0 rB.size
  replace kW1_0 := (rB.cell (p := ⟨NW1, 0, none⟩) zW1).trans kW1_0
  replace kW1_1 := (rB.cell (p := ⟨NW1, 1, none⟩) zW1).trans kW1_1
  replace zW1 := Nat.lt_of_lt_of_le zW1 rB.size
  replace kP_0 := (rB.cell (p := ⟨w5.heap.size, 0, none⟩) zP).trans kP_0
  replace kP_1 := (rB.cell (p := ⟨w5.heap.size, 1, none⟩) zP).trans kP_1
  replace zP := Nat.lt_of_lt_of_le zP rB.size
  replace kQ_0 := (rB.cell (p := ⟨w7.heap.size, 0, none⟩) zQ).trans kQ_0
  replace kQ_1 := (rB.cell (p := ⟨w7.heap.size, 1, none⟩) zQ).trans kQ_1
  replace zQ := Nat.lt_of_lt_of_le zQ rB.size
  replace kG0_0 := (rB.cell (p := ⟨w9.heap.size, 0, none⟩) zG0).trans kG0_0
  replace kG0_1 := (rB.cell (p := ⟨w9.heap.size, 1, none⟩) zG0).trans kG0_1
  replace zG0 := Nat.lt_of_lt_of_le zG0 rB.size
  replace kG1_0 := (rB.cell (p := ⟨w9.heap.size + 1, 0, none⟩) zG1).trans kG1_0
  replace kG1_1 := (rB.cell (p := ⟨w9.heap.size + 1, 1, none⟩) zG1).trans kG1_1
  replace zG1 := Nat.lt_of_lt_of_le zG1 rB.size
  replace S1 := hide (S1.out.below rB)
  replace S2 := hide (S2.out.below rB)
  replace SW0 := hide (SW0.out.below rB)
  replace SW1 := hide (SW1.out.below rB)
  replace HP := hide (HP.out.below rB)
  replace HQ := hide (HQ.out.below rB)
  replace HG0 := hide (HG0.out.below rB)
  replace HG1 := hide (HG1.out.below rB)
  replace HB := hide (bl_trans HB.out rB)
  have kV0_0 := rV0_0
  clear rV0_0
  have kV0_1 := rV0_1
  clear rV0_1
  have zV0 := mV0
  have kV1_0 := rV1_0
  clear rV1_0
  have kV1_1 := rV1_1
  clear rV1_1
  have zV1 := mV1
  have SV0 := hide gV0
  have AV0 := SV0
  clear gV0
  have SV1 := hide gV1
  have AV1 := SV1
  clear gV1
  clear rB
  go_wp2_with fail
  refine (eqB _ _ (sgn (dvQ n1 xs1 n2 xs2)) (lms (dvQ n1 xs1 n2 xs2)) _ ⟨aV0, cV0, rfl, SV0.out⟩ ⟨aW0, cW0, rfl, SW0.out⟩).mono ?_
  rintro e w26 ⟨rfl, hbw26⟩
  have yw26 := hbw26.size
  replace k1_0 := (hbw26.cell (p := ⟨w.heap.size, 0, none⟩) z1).trans k1_0
  replace k1_1 := (hbw26.cell (p := ⟨w.heap.size, 1, none⟩) z1).trans k1_1
  replace z1 := Nat.lt_of_lt_of_le z1 hbw26.size
  replace k2_0 := (hbw26.cell (p := ⟨w.heap.size + 1, 0, none⟩) z2).trans k2_0
  replace k2_1 := (hbw26.cell (p := ⟨w.heap.size + 1, 1, none⟩) z2).trans k2_1
  replace z2 := Nat.lt_of_lt_of_le z2 hbw26.size
  replace kW0_0 := (hbw26.cell (p := ⟨NW0, 0, none⟩) zW0).trans kW0_0
  replace kW0_1 := (hbw26.cell (p := ⟨NW0, 1, none⟩) zW0).trans kW0_1
  replace zW0 := Nat.lt_of_lt_of_le zW0 hbw26.size
  replace kW1_0 := (hbw26.cell (p := ⟨NW1, 0, none⟩) zW1).trans kW1_0
  replace kW1_1 := (hbw26.cell (p := ⟨NW1, 1, none⟩) zW1).trans kW1_1
  replace zW1 := Nat.lt_of_lt_of_le zW1 hbw26.size
  replace kP_0 := (hbw26.cell (p := ⟨w5.heap.size, 0, none⟩) zP).trans kP_0
  replace kP_1 := (hbw26.cell (p := ⟨w5.heap.size, 1, none⟩) zP).trans kP_1
  replace zP := Nat.lt_of_lt_of_le zP hbw26.size
  replace kQ_0 := (hbw26.cell (p := ⟨w7.heap.size, 0, none⟩) zQ).trans kQ_0
  replace kQ_1 := (hbw26.cell (p := ⟨w7.heap.size, 1, none⟩) zQ).trans kQ_1
  replace zQ := Nat.lt_of_lt_of_le zQ hbw26.size
  replace kG0_0 := (hbw26.cell (p := ⟨w9.heap.size, 0, none⟩) zG0).trans kG0_0
  replace kG0_1 := (hbw26.cell (p := ⟨w9.heap.size, 1, none⟩) zG0).trans kG0_1
  replace zG0 := Nat.lt_of_lt_of_le zG0 hbw26.size
  replace kG1_0 := (hbw26.cell (p := ⟨w9.heap.size + 1, 0, none⟩) zG1).trans kG1_0
  replace kG1_1 := (hbw26.cell (p := ⟨w9.heap.size + 1, 1, none⟩) zG1).trans kG1_1
  replace zG1 := Nat.lt_of_lt_of_le zG1 hbw26.size
  replace kV0_0 := (hbw26.cell (p := ⟨NV0, 0, none⟩) zV0).trans kV0_0
  replace kV0_1 := (hbw26.cell (p := ⟨NV0, 1, none⟩) zV0).trans kV0_1
  replace zV0 := Nat.lt_of_lt_of_le zV0 hbw26.size
  replace kV1_0 := (hbw26.cell (p := ⟨NV1, 0, none⟩) zV1).trans kV1_0
  replace kV1_1 := (hbw26.cell (p := ⟨NV1, 1, none⟩) zV1).trans kV1_1
  replace zV1 := Nat.lt_of_lt_of_le zV1 hbw26.size
  replace S1 := hide (S1.out.below hbw26)
  replace S2 := hide (S2.out.below hbw26)
  replace SW0 := hide (SW0.out.below hbw26)
  replace SW1 := hide (SW1.out.below hbw26)
  replace HP := hide (HP.out.below hbw26)
  replace HQ := hide (HQ.out.below hbw26)
  replace HG0 := hide (HG0.out.below hbw26)
  replace HG1 := hide (HG1.out.below hbw26)
  replace SV0 := hide (SV0.out.below hbw26)
  replace SV1 := hide (SV1.out.below hbw26)
  replace HB := hide (bl_trans HB.out hbw26)
  clear hbw26
  go_wp2_with fail
  refine (eqB _ _ (sgn (dvR n1 xs1 n2 xs2)) (lms (dvR n1 xs1 n2 xs2)) _ ⟨aV1, cV1, rfl, SV1.out⟩ ⟨aW1, cW1, rfl, SW1.out⟩).mono ?_
  rintro e w27 ⟨rfl, hbw27⟩
  have yw27 := hbw27.size
  replace k1_0 := (hbw27.cell (p := ⟨w.heap.size, 0, none⟩) z1).trans k1_0
  replace k1_1 := (hbw27.cell (p := ⟨w.heap.size, 1, none⟩) z1).trans k1_1
  replace z1 := Nat.lt_of_lt_of_le z1 hbw27.size
  replace k2_0 := (hbw27.cell (p := ⟨w.heap.size + 1, 0, none⟩) z2).trans k2_0
  replace k2_1 := (hbw27.cell (p := ⟨w.heap.size + 1, 1, none⟩) z2).trans k2_1
  replace z2 := Nat.lt_of_lt_of_le z2 hbw27.size
  replace kW0_0 := (hbw27.cell (p := ⟨NW0, 0, none⟩) zW0).trans kW0_0
  replace kW0_1 := (hbw27.cell (p := ⟨NW0, 1, none⟩) zW0).trans kW0_1
  replace zW0 := Nat.lt_of_lt_of_le zW0 hbw27.size
  replace kW1_0 := (hbw27.cell (p := ⟨NW1, 0, none⟩) zW1).trans kW1_0
  replace kW1_1 := (hbw27.cell (p := ⟨NW1, 1, none⟩) zW1).trans kW1_1
  replace zW1 := Nat.lt_of_lt_of_le zW1 hbw27.size
  replace kP_0 := (hbw27.cell (p := ⟨w5.heap.size, 0, none⟩) zP).trans kP_0
  replace kP_1 := (hbw27.cell (p := ⟨w5.heap.size, 1, none⟩) zP).trans kP_1
  replace zP := Nat.lt_of_lt_of_le zP hbw27.size
  replace kQ_0 := (hbw27.cell (p := ⟨w7.heap.size, 0, none⟩) zQ).trans kQ_0
  replace kQ_1 := (hbw27.cell (p := ⟨w7.heap.size, 1, none⟩) zQ).trans kQ_1
  replace zQ := Nat.lt_of_lt_of_le zQ hbw27.size
  replace kG0_0 := (hbw27.cell (p := ⟨w9.heap.size, 0, none⟩) zG0).trans kG0_0
  replace kG0_1 := (hbw27.cell (p := ⟨w9.heap.size, 1, none⟩) zG0).trans kG0_1
  replace zG0 := Nat.lt_of_lt_of_le zG0 hbw27.size
  replace kG1_0 := (hbw27.cell (p := ⟨w9.heap.size + 1, 0, none⟩) zG1).trans kG1_0
  replace kG1_1 := (hbw27.cell (p := ⟨w9.heap.size + 1, 1, none⟩) zG1).trans kG1_1
  replace zG1 := Nat.lt_of_lt_of_le zG1 hbw27.size
  replace kV0_0 := (hbw27.cell (p := ⟨NV0, 0, none⟩) zV0).trans kV0_0
  replace kV0_1 := (hbw27.cell (p := ⟨NV0, 1, none⟩) zV0).trans kV0_1
  replace zV0 := Nat.lt_of_lt_of_le zV0 hbw27.size
  replace kV1_0 := (hbw27.cell (p := ⟨NV1, 0, none⟩) zV1).trans kV1_0
  replace kV1_1 := (hbw27.cell (p := ⟨NV1, 1, none⟩) zV1).trans kV1_1
  replace zV1 := Nat.lt_of_lt_of_le zV1 hbw27.size
  replace S1 := hide (S1.out.below hbw27)
  replace S2 := hide (S2.out.below hbw27)
  replace SW0 := hide (SW0.out.below hbw27)
  replace SW1 := hide (SW1.out.below hbw27)
  replace HP := hide (HP.out.below hbw27)
  replace HQ := hide (HQ.out.below hbw27)
  replace HG0 := hide (HG0.out.below hbw27)
  replace HG1 := hide (HG1.out.below hbw27)
  replace SV0 := hide (SV0.out.below hbw27)
  replace SV1 := hide (SV1.out.below hbw27)
  replace HB := hide (bl_trans HB.out hbw27)
  clear hbw27
  go_wp2_with fail
  refine (heldBe (sgn (dvQ n1 xs1 n2 xs2)) aG0 (lms (dvQ n1 xs1 n2 xs2)).length cG0 (0) (1) _ (by omega) (by omega) HG0.out.seg).mono ?_
  rintro e w28 ⟨rfl, hbw28⟩
  have yw28 := hbw28.size
  replace k1_0 := (hbw28.cell (p := ⟨w.heap.size, 0, none⟩) z1).trans k1_0
  replace k1_1 := (hbw28.cell (p := ⟨w.heap.size, 1, none⟩) z1).trans k1_1
  replace z1 := Nat.lt_of_lt_of_le z1 hbw28.size
  replace k2_0 := (hbw28.cell (p := ⟨w.heap.size + 1, 0, none⟩) z2).trans k2_0
  replace k2_1 := (hbw28.cell (p := ⟨w.heap.size + 1, 1, none⟩) z2).trans k2_1
  replace z2 := Nat.lt_of_lt_of_le z2 hbw28.size
  replace kW0_0 := (hbw28.cell (p := ⟨NW0, 0, none⟩) zW0).trans kW0_0
  replace kW0_1 := (hbw28.cell (p := ⟨NW0, 1, none⟩) zW0).trans kW0_1
  replace zW0 := Nat.lt_of_lt_of_le zW0 hbw28.size
  replace kW1_0 := (hbw28.cell (p := ⟨NW1, 0, none⟩) zW1).trans kW1_0
  replace kW1_1 := (hbw28.cell (p := ⟨NW1, 1, none⟩) zW1).trans kW1_1
  replace zW1 := Nat.lt_of_lt_of_le zW1 hbw28.size
  replace kP_0 := (hbw28.cell (p := ⟨w5.heap.size, 0, none⟩) zP).trans kP_0
  replace kP_1 := (hbw28.cell (p := ⟨w5.heap.size, 1, none⟩) zP).trans kP_1
  replace zP := Nat.lt_of_lt_of_le zP hbw28.size
  replace kQ_0 := (hbw28.cell (p := ⟨w7.heap.size, 0, none⟩) zQ).trans kQ_0
  replace kQ_1 := (hbw28.cell (p := ⟨w7.heap.size, 1, none⟩) zQ).trans kQ_1
  replace zQ := Nat.lt_of_lt_of_le zQ hbw28.size
  replace kG0_0 := (hbw28.cell (p := ⟨w9.heap.size, 0, none⟩) zG0).trans kG0_0
  replace kG0_1 := (hbw28.cell (p := ⟨w9.heap.size, 1, none⟩) zG0).trans kG0_1
  replace zG0 := Nat.lt_of_lt_of_le zG0 hbw28.size
  replace kG1_0 := (hbw28.cell (p := ⟨w9.heap.size + 1, 0, none⟩) zG1).trans kG1_0
  replace kG1_1 := (hbw28.cell (p := ⟨w9.heap.size + 1, 1, none⟩) zG1).trans kG1_1
  replace zG1 := Nat.lt_of_lt_of_le zG1 hbw28.size
  replace kV0_0 := (hbw28.cell (p := ⟨NV0, 0, none⟩) zV0).trans kV0_0
  replace kV0_1 := (hbw28.cell (p := ⟨NV0, 1, none⟩) zV0).trans kV0_1
  replace zV0 := Nat.lt_of_lt_of_le zV0 hbw28.size
  replace kV1_0 := (hbw28.cell (p := ⟨NV1, 0, none⟩) zV1).trans kV1_0
  replace kV1_1 := (hbw28.cell (p := ⟨NV1, 1, none⟩) zV1).trans kV1_1
  replace zV1 := Nat.lt_of_lt_of_le zV1 hbw28.size
  replace S1 := hide (S1.out.below hbw28)
  replace S2 := hide (S2.out.below hbw28)
  replace SW0 := hide (SW0.out.below hbw28)
  replace SW1 := hide (SW1.out.below hbw28)
  replace HP := hide (HP.out.below hbw28)
  replace HQ := hide (HQ.out.below hbw28)
  replace HG0 := hide (HG0.out.below hbw28)
  replace HG1 := hide (HG1.out.below hbw28)
  replace SV0 := hide (SV0.out.below hbw28)
  replace SV1 := hide (SV1.out.below hbw28)
  replace HB := hide (bl_trans HB.out hbw28)
  clear hbw28
  go_wp2_with fail
  refine (heldBe (sgn (dvR n1 xs1 n2 xs2)) aG1 (lms (dvR n1 xs1 n2 xs2)).length cG1 (0 + (lms (dvQ n1 xs1 n2 xs2)).length) (1 + ((lms (dvQ n1 xs1 n2 xs2)).length : Int)) _ (by omega) (by omega) HG1.out.seg).mono ?_
  rintro e w29 ⟨rfl, hbw29⟩
  have yw29 := hbw29.size
  replace k1_0 := (hbw29.cell (p := ⟨w.heap.size, 0, none⟩) z1).trans k1_0
  replace k1_1 := (hbw29.cell (p := ⟨w.heap.size, 1, none⟩) z1).trans k1_1
  replace z1 := Nat.lt_of_lt_of_le z1 hbw29.size
  replace k2_0 := (hbw29.cell (p := ⟨w.heap.size + 1, 0, none⟩) z2).trans k2_0
  replace k2_1 := (hbw29.cell (p := ⟨w.heap.size + 1, 1, none⟩) z2).trans k2_1
  replace z2 := Nat.lt_of_lt_of_le z2 hbw29.size
  replace kW0_0 := (hbw29.cell (p := ⟨NW0, 0, none⟩) zW0).trans kW0_0
  replace kW0_1 := (hbw29.cell (p := ⟨NW0, 1, none⟩) zW0).trans kW0_1
  replace zW0 := Nat.lt_of_lt_of_le zW0 hbw29.size
  replace kW1_0 := (hbw29.cell (p := ⟨NW1, 0, none⟩) zW1).trans kW1_0
  replace kW1_1 := (hbw29.cell (p := ⟨NW1, 1, none⟩) zW1).trans kW1_1
  replace zW1 := Nat.lt_of_lt_of_le zW1 hbw29.size
  replace kP_0 := (hbw29.cell (p := ⟨w5.heap.size, 0, none⟩) zP).trans kP_0
  replace kP_1 := (hbw29.cell (p := ⟨w5.heap.size, 1, none⟩) zP).trans kP_1
  replace zP := Nat.lt_of_lt_of_le zP hbw29.size
  replace kQ_0 := (hbw29.cell (p := ⟨w7.heap.size, 0, none⟩) zQ).trans kQ_0
  replace kQ_1 := (hbw29.cell (p := ⟨w7.heap.size, 1, none⟩) zQ).trans kQ_1
  replace zQ := Nat.lt_of_lt_of_le zQ hbw29.size
  replace kG0_0 := (hbw29.cell (p := ⟨w9.heap.size, 0, none⟩) zG0).trans kG0_0
  replace kG0_1 := (hbw29.cell (p := ⟨w9.heap.size, 1, none⟩) zG0).trans kG0_1
  replace zG0 := Nat.lt_of_lt_of_le zG0 hbw29.size
  replace kG1_0 := (hbw29.cell (p := ⟨w9.heap.size + 1, 0, none⟩) zG1).trans kG1_0
  replace kG1_1 := (hbw29.cell (p := ⟨w9.heap.size + 1, 1, none⟩) zG1).trans kG1_1
  replace zG1 := Nat.lt_of_lt_of_le zG1 hbw29.size
  replace kV0_0 := (hbw29.cell (p := ⟨NV0, 0, none⟩) zV0).trans kV0_0
  replace kV0_1 := (hbw29.cell (p := ⟨NV0, 1, none⟩) zV0).trans kV0_1
  replace zV0 := Nat.lt_of_lt_of_le zV0 hbw29.size
  replace kV1_0 := (hbw29.cell (p := ⟨NV1, 0, none⟩) zV1).trans kV1_0
  replace kV1_1 := (hbw29.cell (p := ⟨NV1, 1, none⟩) zV1).trans kV1_1
  replace zV1 := Nat.lt_of_lt_of_le zV1 hbw29.size
  replace S1 := hide (S1.out.below hbw29)
  replace S2 := hide (S2.out.below hbw29)
  replace SW0 := hide (SW0.out.below hbw29)
  replace SW1 := hide (SW1.out.below hbw29)
  replace HP := hide (HP.out.below hbw29)
  replace HQ := hide (HQ.out.below hbw29)
  replace HG0 := hide (HG0.out.below hbw29)
  replace HG1 := hide (HG1.out.below hbw29)
  replace SV0 := hide (SV0.out.below hbw29)
  replace SV1 := hide (SV1.out.below hbw29)
  replace HB := hide (bl_trans HB.out hbw29)
  clear hbw29
  go_wp2
  go_ret
  exact ⟨rfl, HB.out⟩
end Go.Proofs.Ytgfmiehmhbbikaa
