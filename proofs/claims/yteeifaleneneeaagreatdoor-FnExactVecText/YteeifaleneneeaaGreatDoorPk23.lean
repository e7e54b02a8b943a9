/- My texts VtU, VtS, in this order. -/
import Derived.Test.YteeifaleneneeaaGreatDoorVt0
import Derived.Test.YteeifaleneneeaaGreatDoorPk15
import Derived.Test.YteeifaleneneeaaGreatDoorRatTS
import Derived.Test.YteeifaleneneeaaGreatDoorPk06
import Derived.Deep.RegionHeld3
/- The walks of upText of powers, and of the specification's value at a place. -/
namespace Go.Proofs.YteeifaleneneeaaGreatDoor
open Go.RowKit
set_option linter.unusedVariables false

theorem fits_small {z : Int} (h : z.natAbs < 10 ^ 10) : fits z = true := by
  unfold fits
  rw [decide_eq_true_eq]
  have : (4294967296 : Nat) ^ 2 ≤ 4294967296 ^ 40 := Nat.pow_le_pow_right (by decide) (by decide)
  omega
theorem up_rt {x d : Int} (hx : x.natAbs < 10 ^ 10) (hd : d.natAbs < 10 ^ 10) (h0 : d ≠ 0) : rtT (okB (sgn x) (lms x) && okB (sgn d) (lms d)) x d = true ∧ rtN (okB (sgn x) (lms x) && okB (sgn d) (lms d)) x d = x / sgG x d ∧ rtD (okB (sgn x) (lms x) && okB (sgn d) (lms d)) x d = d / sgG x d := by
  have e : (okB (sgn x) (lms x) && okB (sgn d) (lms d)) = true := by rw [ok_fits, ok_fits, fits_small hx, fits_small hd]; rfl
  have ht : rtT true x d = true := by
    unfold rtT ftT
    rw [fits_small (Nat.lt_of_le_of_lt (quo_le _ _) hx), fits_small (Nat.lt_of_le_of_lt (quo_le _ _) hd), decide_eq_true h0]; rfl
  rw [e]
  refine ⟨ht, ?_, ?_⟩
  · unfold rtN; rw [if_pos ht]
  · unfold rtD; rw [if_pos ht]
theorem makeU (x d : Int) (a1 : Option Addr) (c1 : Nat) (a2 : Option Addr) (c2 : Nat) (w : World) (s1 : Seg w a1 (lms x).length c1 (lms x)) (s2 : Seg w a2 (lms d).length c2 (lms d)) (hx : x.natAbs < 10 ^ 10) (hd : d.natAbs < 10 ^ 10) (h0 : d ≠ 0) :
    Calls Tryz.prog 39 #[.agg #[.bool (sgn x), .slice a1 (lms x).length c1], .agg #[.bool (sgn d), .slice a2 (lms d).length c2]] w fun e w' => ∃ b1 e1 b2 e2, e = .returned (.tuple #[.agg #[.bool (sgn (x / sgG x d)), .slice b1 (lms (x / sgG x d)).length e1, .bool (sgn (d / sgG x d)), .slice b2 (lms (d / sgG x d)).length e2], .bool true]) ∧ Own w' w.heap.size b1 (lms (x / sgG x d)).length e1 (lms (x / sgG x d)) ∧ Own w' w.heap.size b2 (lms (d / sgG x d)).length e2 (lms (d / sgG x d)) ∧ Below w.heap.size w w' := by
  have HM := MakeRatP (sgn x) (lms x) (sgn d) (lms d) a1 c1 a2 c2 w s1 s2
  rw [mk_lm, mk_lm] at HM
  obtain ⟨h1, h2, h3⟩ := up_rt hx hd h0
  refine HM.mono ?_
  unfold RatAns
  rw [h1, h2, h3]
  rintro e w' ⟨b1, e1, b2, e2, rfl, o1, o2, -, hb⟩
  exact ⟨b1, e1, b2, e2, rfl, o1, o2, hb⟩
theorem up_one {x d : Int} (h : x = d) : upT x d = ⟨#[]⟩ := if_pos h
theorem up_more {x d : Int} (h : x ≠ d) : upT x d = ⟨#[94]⟩ ++ ratT (sgn (x / sgG x d)) (lms (x / sgG x d)) (sgn (d / sgG x d)) (lms (d / sgG x d)) := if_neg h

set_option maxHeartbeats 4000000 in
set_option maxRecDepth 20000 in
theorem upText_one (n d : Int) (f : Nat → Int) (i : Nat) (w : World) (hi : i < 8) (hx : -100000 ≤ f i ∧ f i ≤ 100000) (hd : 1 ≤ d ∧ d ≤ 720) (he : f i = d) (htab : Tabs w) :
    Calls Tryz.prog 23 #[Value.agg #[Value.int .i64 n, Value.int .i64 (f 0), Value.int .i64 (f 1), Value.int .i64 (f 2), Value.int .i64 (f 3), Value.int .i64 (f 4), Value.int .i64 (f 5), Value.int .i64 (f 6), Value.int .i64 (f 7), Value.int .i64 d], .int .i64 (i : Int)] w fun e w' => e = .returned (.string (upT (f i) d)) ∧ Below w.heap.size w w' := by
  have HB := hide (bl_refl w)
  have HTB := hide htab
  clear htab
  have hix := V.index8 f i hi
  rw [up_one he]
  have kx9 : (w.alloc (Obj.cells #[Value.int .i64 n, Value.int .i64 (f 0), Value.int .i64 (f 1), Value.int .i64 (f 2), Value.int .i64 (f 3), Value.int .i64 (f 4), Value.int .i64 (f 5), Value.int .i64 (f 6), Value.int .i64 (f 7), Value.int .i64 d] 50)).cell? ⟨w.heap.size, 9, none⟩ = some (Value.int .i64 d) := by go_simp
  have kxi : (w.alloc (Obj.cells #[Value.int .i64 n, Value.int .i64 (f 0), Value.int .i64 (f 1), Value.int .i64 (f 2), Value.int .i64 (f 3), Value.int .i64 (f 4), Value.int .i64 (f 5), Value.int .i64 (f 6), Value.int .i64 (f 7), Value.int .i64 d] 50)).cell? ⟨w.heap.size, 1 + i, none⟩ = some (Value.int .i64 (f i)) := by
    rcases i with _ | _ | _ | _ | _ | _ | _ | _ | i
    all_goals first | omega | go_simp
  have zr : w.heap.size < (w.alloc (Obj.cells #[Value.int .i64 n, Value.int .i64 (f 0), Value.int .i64 (f 1), Value.int .i64 (f 2), Value.int .i64 (f 3), Value.int .i64 (f 4), Value.int .i64 (f 5), Value.int .i64 (f 6), Value.int .i64 (f 7), Value.int .i64 d] 50)).heap.size := by simp only [World.size_alloc]; omega
  have hbn := bl_alloc (bl_refl w) (Obj.cells #[Value.int .i64 n, Value.int .i64 (f 0), Value.int .i64 (f 1), Value.int .i64 (f 2), Value.int .i64 (f 3), Value.int .i64 (f 4), Value.int .i64 (f 5), Value.int .i64 (f 6), Value.int .i64 (f 7), Value.int .i64 d] 50)
  replace HTB := hide (HTB.out.below hbn)
  replace HB := hide hbn
  clear hbn hix
  go_enter Tryz.func23, Tryz.ntmps23
  go_wp2_with fail
  generalize (w.alloc (Obj.cells #[Value.int .i64 n, Value.int .i64 (f 0), Value.int .i64 (f 1), Value.int .i64 (f 2), Value.int .i64 (f 3), Value.int .i64 (f 4), Value.int .i64 (f 5), Value.int .i64 (f 6), Value.int .i64 (f 7), Value.int .i64 d] 50)) = w1 at *
  go_region
  all_goals go_wp2
  all_goals go_ret
  all_goals exact ⟨rfl, (by first | exact HB.out | exact HB.out.drew | exact below_drewN HB.out _)⟩

set_option maxHeartbeats 4000000 in
set_option maxRecDepth 20000 in
theorem upText_two (n d : Int) (f : Nat → Int) (i : Nat) (w : World) (hi : i < 8) (hx : -100000 ≤ f i ∧ f i ≤ 100000) (hd : 1 ≤ d ∧ d ≤ 720) (he : f i ≠ d) (htab : Tabs w) :
    Calls Tryz.prog 23 #[Value.agg #[Value.int .i64 n, Value.int .i64 (f 0), Value.int .i64 (f 1), Value.int .i64 (f 2), Value.int .i64 (f 3), Value.int .i64 (f 4), Value.int .i64 (f 5), Value.int .i64 (f 6), Value.int .i64 (f 7), Value.int .i64 d], .int .i64 (i : Int)] w fun e w' => e = .returned (.string (upT (f i) d)) ∧ Below w.heap.size w w' := by
  have HB := hide (bl_refl w)
  have HTB := hide htab
  clear htab
  have hix := V.index8 f i hi
  have hi0 : (0 : Int) ≤ (i : Int) := by omega
  have hi8 : (i : Int) < 8 := by omega
  have hi9 : ¬ (8 : Int) ≤ (i : Int) := by omega
  have hi7 : ¬ (i : Int) < 0 := by omega
  rw [up_more he]
  have hne : (f i == d) = false := by rw [beq_eq_false_iff_ne]; exact he
  have HRT := hide (up_rt (x := f i) (d := d) (by omega) (by omega) (by omega))
  have hrs := rat_le (p := f i / sgG (f i) d) (q := d / sgG (f i) d) (Nat.lt_of_le_of_lt (quo_le _ _) (by omega)) (Nat.lt_of_le_of_lt (quo_le _ _) (by omega))
  have kx9 : (w.alloc (Obj.cells #[Value.int .i64 n, Value.int .i64 (f 0), Value.int .i64 (f 1), Value.int .i64 (f 2), Value.int .i64 (f 3), Value.int .i64 (f 4), Value.int .i64 (f 5), Value.int .i64 (f 6), Value.int .i64 (f 7), Value.int .i64 d] 50)).cell? ⟨w.heap.size, 9, none⟩ = some (Value.int .i64 d) := by go_simp
  have kxi : (w.alloc (Obj.cells #[Value.int .i64 n, Value.int .i64 (f 0), Value.int .i64 (f 1), Value.int .i64 (f 2), Value.int .i64 (f 3), Value.int .i64 (f 4), Value.int .i64 (f 5), Value.int .i64 (f 6), Value.int .i64 (f 7), Value.int .i64 d] 50)).cell? ⟨w.heap.size, 1 + i, none⟩ = some (Value.int .i64 (f i)) := by
    rcases i with _ | _ | _ | _ | _ | _ | _ | _ | i
    all_goals first | omega | go_simp
  have zr : w.heap.size < (w.alloc (Obj.cells #[Value.int .i64 n, Value.int .i64 (f 0), Value.int .i64 (f 1), Value.int .i64 (f 2), Value.int .i64 (f 3), Value.int .i64 (f 4), Value.int .i64 (f 5), Value.int .i64 (f 6), Value.int .i64 (f 7), Value.int .i64 d] 50)).heap.size := by simp only [World.size_alloc]; omega
  have hbn := bl_alloc (bl_refl w) (Obj.cells #[Value.int .i64 n, Value.int .i64 (f 0), Value.int .i64 (f 1), Value.int .i64 (f 2), Value.int .i64 (f 3), Value.int .i64 (f 4), Value.int .i64 (f 5), Value.int .i64 (f 6), Value.int .i64 (f 7), Value.int .i64 d] 50)
  replace HTB := hide (HTB.out.below hbn)
  replace HB := hide hbn
  clear hbn hix
  go_enter Tryz.func23, Tryz.ntmps23
  go_wp2_with fail
  generalize (w.alloc (Obj.cells #[Value.int .i64 n, Value.int .i64 (f 0), Value.int .i64 (f 1), Value.int .i64 (f 2), Value.int .i64 (f 3), Value.int .i64 (f 4), Value.int .i64 (f 5), Value.int .i64 (f 6), Value.int .i64 (f 7), Value.int .i64 d] 50)) = w1 at *
  go_region
  all_goals go_wp2_with fail
  go_upto_region 3 with fail
  go_cut [5, 6] (fun s0 t0 wc => ∃ (N0 : Nat) (aC : Option Addr) (cC : Nat) (bC : Option Addr) (eC : Nat), s0 = .pointer (some ⟨N0, 0, none⟩) ∧ t0 = .bool true ∧ Hid (w1.heap.size ≤ N0 ∧ N0 < wc.heap.size ∧ wc.cell? ⟨N0, 0, none⟩ = some (Value.bool (sgn (f i / sgG (f i) d))) ∧ wc.cell? ⟨N0, 1, none⟩ = some (Value.slice aC (lms (f i / sgG (f i) d)).length cC) ∧ wc.cell? ⟨N0, 2, none⟩ = some (Value.bool (sgn (d / sgG (f i) d))) ∧ wc.cell? ⟨N0, 3, none⟩ = some (Value.slice bC (lms (d / sgG (f i) d)).length eC) ∧ Seg wc aC (lms (f i / sgG (f i) d)).length cC (lms (f i / sgG (f i) d)) ∧ Seg wc bC (lms (d / sgG (f i) d)).length eC (lms (d / sgG (f i) d)) ∧ Below w1.heap.size w1 wc))
  case first =>
    have KP : Hid (∀ w', Below w1.heap.size w1 w' → (w'.cell? ⟨w.heap.size, 1 + i, none⟩ = some (Value.int .i64 (f i)) ∧ w'.cell? ⟨w.heap.size, 9, none⟩ = some (Value.int .i64 d) ∧ Hid (Below w1.heap.size w1 w'))) := hide (fun w' hb => ⟨(hb.cell (p := ⟨w.heap.size, 1 + i, none⟩) zr).trans kxi, (hb.cell (p := ⟨w.heap.size, 9, none⟩) zr).trans kx9, hide hb⟩)
    go_region_held3 (fun w' => w'.cell? ⟨w.heap.size, 1 + i, none⟩ = some (Value.int .i64 (f i)) ∧ w'.cell? ⟨w.heap.size, 9, none⟩ = some (Value.int .i64 d) ∧ Hid (Below w1.heap.size w1 w'))
      (first | with_reducible exact KP.out _ (bl_refl w1).drew | with_reducible exact KP.out _ bC | with_reducible exact KP.out _ bB | with_reducible exact KP.out _ bA | exact KP.out _ (by repeat first | with_reducible exact bC | with_reducible exact bB | with_reducible exact bA | with_reducible exact (bl_refl w1).drew | with_reducible exact bl_refl w1 | refine bl_alloc ?_ _ | refine bl_trans ?_ (bl_refl _).drew | refine Below.setCell ?_ (by first | omega | (dsimp only; omega) | (dsimp only; rw [World.size_drew]; omega)) _))
      (first
        | (go_at_call 40; have hq := yA; refine (fromI d _ (by omega) (by omega)).mono ?_; rintro e wB ⟨vB, rfl, ⟨aB, cB, rfl, hoB⟩, hbB⟩; have bAB : Below wA.heap.size wA wB := (by first | exact hbB | exact bl_one hbB | exact bl_two hbB); have bB : Below w1.heap.size w1 wB := bl_trans bA bAB; have yB := bAB.size; replace HP1 := hide (HP1.out.below bAB); have HP2 := hide hoB.seg; clear hoB; (try replace HZa0 := hide (HZa0.out.below bAB)); (first | have HZb0 := hide (show Zr4 wB wA.heap.size from born4 (W := wA) hbB) | have HZb0 := hide (show Zr4 wB wA.heap.size from born4 (W := wA.drew) hbB) | have HZb0 := hide (show Zr4 wB wA.heap.size from born4 (W := wA.drew.drew) hbB) | have HZb0 := hide (show Zr4 wB wA.heap.size from born4 (W := wA) (bl_trans (bl_refl (wA.alloc (Obj.cells #[Value.bool false, Value.slice none 0 0, Value.bool false, Value.slice none 0 0] 43))).drew hbB)) | have HZb0 := hide (show Zr4 wB wA.heap.size from born4 (W := wA.drew) (bl_trans (bl_refl (wA.drew.alloc (Obj.cells #[Value.bool false, Value.slice none 0 0, Value.bool false, Value.slice none 0 0] 43))).drew hbB)) | have HZb0 := hide (show Zr4 wB wA.heap.size from born4 (W := wA.drew.drew) (bl_trans (bl_refl (wA.drew.drew.alloc (Obj.cells #[Value.bool false, Value.slice none 0 0, Value.bool false, Value.slice none 0 0] 43))).drew hbB)) | have HZb0 := hide (show Zr4 wB wA.heap.size from born4 (W := wA) (bl_trans (bl_refl (wA.alloc (Obj.cells #[Value.bool false, Value.slice none 0 0, Value.bool false, Value.slice none 0 0] 43))).drew.drew hbB)) | have HZb0 := hide (show Zr4 wB wA.heap.size from born4 (W := wA.drew) (bl_trans (bl_refl (wA.drew.alloc (Obj.cells #[Value.bool false, Value.slice none 0 0, Value.bool false, Value.slice none 0 0] 43))).drew.drew hbB)) | have HZb0 := hide (show Zr4 wB wA.heap.size from born4 (W := wA.drew.drew) (bl_trans (bl_refl (wA.drew.drew.alloc (Obj.cells #[Value.bool false, Value.slice none 0 0, Value.bool false, Value.slice none 0 0] 43))).drew.drew hbB)) | skip); (try have zzb0 := HZb0.out.1); clear hbB hq)
        | (go_at_call 40; refine (fromI (f i) _ (by omega) (by omega)).mono ?_; rintro e wA ⟨vA, rfl, ⟨aA, cA, rfl, hoA⟩, hbA⟩; have bA : Below w1.heap.size w1 wA := bl_trans (Hid.out (And.right (And.right (by assumption)))) hbA; have yA := bA.size; have HP1 := hide hoA.seg; clear hoA; (first | have HZa0 := hide (show Zr4 wA w1.heap.size from born4 (W := w1) hbA) | have HZa0 := hide (show Zr4 wA w1.heap.size from born4 (W := w1.drew) hbA) | have HZa0 := hide (show Zr4 wA w1.heap.size from born4 (W := w1.drew.drew) hbA) | have HZa0 := hide (show Zr4 wA w1.heap.size from born4 (W := w1) (bl_trans (bl_refl (w1.alloc (Obj.cells #[Value.bool false, Value.slice none 0 0, Value.bool false, Value.slice none 0 0] 43))).drew hbA)) | have HZa0 := hide (show Zr4 wA w1.heap.size from born4 (W := w1.drew) (bl_trans (bl_refl (w1.drew.alloc (Obj.cells #[Value.bool false, Value.slice none 0 0, Value.bool false, Value.slice none 0 0] 43))).drew hbA)) | have HZa0 := hide (show Zr4 wA w1.heap.size from born4 (W := w1.drew.drew) (bl_trans (bl_refl (w1.drew.drew.alloc (Obj.cells #[Value.bool false, Value.slice none 0 0, Value.bool false, Value.slice none 0 0] 43))).drew hbA)) | have HZa0 := hide (show Zr4 wA w1.heap.size from born4 (W := w1) (bl_trans (bl_refl (w1.alloc (Obj.cells #[Value.bool false, Value.slice none 0 0, Value.bool false, Value.slice none 0 0] 43))).drew.drew hbA)) | have HZa0 := hide (show Zr4 wA w1.heap.size from born4 (W := w1.drew) (bl_trans (bl_refl (w1.drew.alloc (Obj.cells #[Value.bool false, Value.slice none 0 0, Value.bool false, Value.slice none 0 0] 43))).drew.drew hbA)) | have HZa0 := hide (show Zr4 wA w1.heap.size from born4 (W := w1.drew.drew) (bl_trans (bl_refl (w1.drew.drew.alloc (Obj.cells #[Value.bool false, Value.slice none 0 0, Value.bool false, Value.slice none 0 0] 43))).drew.drew hbA)) | skip); (try have zza0 := HZa0.out.1); clear hbA)
        | (go_at_call 39; refine (makeU (f i) d aA cA aB cB _ (HP1.out.below (by first | exact bl_refl _ | exact bl_alloc (bl_refl _) _ | exact bl_alloc (bl_alloc (bl_refl _) _) _)) (HP2.out.below (by first | exact bl_refl _ | exact bl_alloc (bl_refl _) _ | exact bl_alloc (bl_alloc (bl_refl _) _) _)) (by omega) (by omega) (by omega)).mono ?_; rintro e wC ⟨aC, cC, bC', eC, rfl, ho3, ho4, hbC⟩; have bBC : Below wB.heap.size wB wC := (by first | exact hbC | exact bl_one hbC | exact bl_two hbC); have bC : Below w1.heap.size w1 wC := bl_trans bB bBC; have yC := bBC.size; have R1 := hide ho3.rgs; have R2 := hide ho4.rgs; clear ho3 ho4; (try replace HZa0 := hide (HZa0.out.below bBC)); (try replace HZb0 := hide (HZb0.out.below bBC)); (first | have HZc0 := hide (show Zr4 wC wB.heap.size from born4 (W := wB) hbC) | have HZc0 := hide (show Zr4 wC wB.heap.size from born4 (W := wB.drew) hbC) | have HZc0 := hide (show Zr4 wC wB.heap.size from born4 (W := wB.drew.drew) hbC) | have HZc0 := hide (show Zr4 wC wB.heap.size from born4 (W := wB) (bl_trans (bl_refl (wB.alloc (Obj.cells #[Value.bool false, Value.slice none 0 0, Value.bool false, Value.slice none 0 0] 43))).drew hbC)) | have HZc0 := hide (show Zr4 wC wB.heap.size from born4 (W := wB.drew) (bl_trans (bl_refl (wB.drew.alloc (Obj.cells #[Value.bool false, Value.slice none 0 0, Value.bool false, Value.slice none 0 0] 43))).drew hbC)) | have HZc0 := hide (show Zr4 wC wB.heap.size from born4 (W := wB.drew.drew) (bl_trans (bl_refl (wB.drew.drew.alloc (Obj.cells #[Value.bool false, Value.slice none 0 0, Value.bool false, Value.slice none 0 0] 43))).drew hbC)) | have HZc0 := hide (show Zr4 wC wB.heap.size from born4 (W := wB) (bl_trans (bl_refl (wB.alloc (Obj.cells #[Value.bool false, Value.slice none 0 0, Value.bool false, Value.slice none 0 0] 43))).drew.drew hbC)) | have HZc0 := hide (show Zr4 wC wB.heap.size from born4 (W := wB.drew) (bl_trans (bl_refl (wB.drew.alloc (Obj.cells #[Value.bool false, Value.slice none 0 0, Value.bool false, Value.slice none 0 0] 43))).drew.drew hbC)) | have HZc0 := hide (show Zr4 wC wB.heap.size from born4 (W := wB.drew.drew) (bl_trans (bl_refl (wB.drew.drew.alloc (Obj.cells #[Value.bool false, Value.slice none 0 0, Value.bool false, Value.slice none 0 0] 43))).drew.drew hbC)) | skip); (try have Qa0 := HZa0.out); (try obtain ⟨za0, ka0_0, ka0_1, ka0_2, ka0_3, fa0_0, fa0_1, fa0_2, fa0_3⟩ := HZa0.out); (try have Qb0 := HZb0.out); (try obtain ⟨zb0, kb0_0, kb0_1, kb0_2, kb0_3, fb0_0, fb0_1, fb0_2, fb0_3⟩ := HZb0.out); (try have Qc0 := HZc0.out); (try obtain ⟨zc0, kc0_0, kc0_1, kc0_2, kc0_3, fc0_0, fc0_1, fc0_2, fc0_3⟩ := HZc0.out); (try simp only [World.size_drew] at R1 R2); (try simp only [World.size_alloc] at R1 R2); clear hbC))
    all_goals (go_wp2_with fail; go_meet)
    all_goals first | exact ⟨_, aC, cC, bC', eC, rfl, rfl, hide (res4_a R1.out R2.out bC Qc0 (by omega) (by omega) (by omega))⟩ | exact ⟨_, aC, cC, bC', eC, rfl, rfl, hide (res4_a R1.out R2.out bC Qb0 (by omega) (by omega) (by omega))⟩ | exact ⟨_, aC, cC, bC', eC, rfl, rfl, hide (res4_a R1.out R2.out bC Qa0 (by omega) (by omega) (by omega))⟩ | exact ⟨_, aC, cC, bC', eC, rfl, rfl, hide (res4_b R1.out R2.out bC)⟩
  case rest =>
  obtain ⟨N0, aC, cC, bC, eC, rfl, rfl, hres⟩ := hcut
  obtain ⟨nN, mN, kY0, kY1, kY2, kY3, gC, gD, hb⟩ := hres.out
  clear hres
  rename World => w2
  replace HTB := hide (HTB.out.below hb)
  replace HB := hide (bl_trans HB.out hb)
  have SC := hide gC
  have TC := hide gD
  clear hb kxi kx9 zr
  have HSC := SC
  go_wp2_with fail
  refine (ratTextI (sgn (f i / sgG (f i) d)) (lms (f i / sgG (f i) d)) (sgn (d / sgG (f i) d)) (lms (d / sgG (f i) d)) aC cC bC eC _ SC.out TC.out HTB.out).mono ?_
  rintro e w9 ⟨rfl, hb⟩
  replace HB := hide (bl_trans HB.out hb)
  clear hb HSC
  have hz2 : ¬ 9223372036854775807 < 1 + (ratT (sgn (f i / sgG (f i) d)) (lms (f i / sgG (f i) d)) (sgn (d / sgG (f i) d)) (lms (d / sgG (f i) d))).size := by omega
  go_wp2
  go_ret
  exact ⟨rfl, HB.out⟩

end Go.Proofs.YteeifaleneneeaaGreatDoor

/- The walk of the specification's VecText. -/
namespace Go.Proofs.YteeifaleneneeaaGreatDoor
open Go.RowKit
set_option linter.unusedVariables false

theorem lms_le {z : Int} (h : z.natAbs < 10 ^ 10) : (lms z).length ≤ 100000 := by
  exact Nat.le_trans (Num.limbs_len.2 (show z.natAbs < 4294967296 ^ 2 by omega)) (by decide)
set_option maxHeartbeats 4000000 in
set_option maxRecDepth 20000 in
theorem fracS (den : Int) (a : Option Addr) (cap : Nat) (xs : List Int) (i : Nat) (w : World) (hs : V.Seg w a xs.length cap xs) (hi : i < xs.length) (hx : -100000 ≤ V.at8 xs i ∧ V.at8 xs i ≤ 100000) (hd : 1 ≤ den ∧ den ≤ 720) :
    Calls Tryz.prog 16 #[Value.agg #[Value.int .i64 den, Value.slice a xs.length cap], .int .i64 (i : Int)] w fun e w' => ∃ a1 c1 a2 c2, e = .returned (Value.agg #[Value.bool (sgn (V.at8 xs i / sgG (V.at8 xs i) den)), Value.slice a1 (lms (V.at8 xs i / sgG (V.at8 xs i) den)).length c1, Value.bool (sgn (den / sgG (V.at8 xs i) den)), Value.slice a2 (lms (den / sgG (V.at8 xs i) den)).length c2]) ∧ Seg w' a1 (lms (V.at8 xs i / sgG (V.at8 xs i) den)).length c1 (lms (V.at8 xs i / sgG (V.at8 xs i) den)) ∧ Seg w' a2 (lms (den / sgG (V.at8 xs i) den)).length c2 (lms (den / sgG (V.at8 xs i) den)) ∧ Below w.heap.size w w' := by
  have hcp := hs.2.1
  have hcm := hs.2.2.1
  obtain ⟨g, o, rfl, hg, hc⟩ : ∃ g o, a = some ⟨g, o, none⟩ ∧ g < w.heap.size ∧ ∀ j (hj : j < xs.length), w.cell? ⟨g, o + j, none⟩ = some (.int .i64 xs[j]) := by
    rcases hs.2.2.2 with h | h
    · omega
    · exact h
  have ec := hc i hi
  rw [← V.at8_lt hi] at ec
  clear hc hs
  have kv0 : ((w.alloc (Obj.cells #[Value.int .i64 den, Value.slice (some ⟨g, o, none⟩) xs.length cap] 29)).alloc (Obj.cells #[Value.bool false, Value.slice none 0 0, Value.bool false, Value.slice none 0 0] 43)).cell? ⟨w.heap.size, 0, none⟩ = some (Value.int .i64 den) := by go_simp
  have kv1 : ((w.alloc (Obj.cells #[Value.int .i64 den, Value.slice (some ⟨g, o, none⟩) xs.length cap] 29)).alloc (Obj.cells #[Value.bool false, Value.slice none 0 0, Value.bool false, Value.slice none 0 0] 43)).cell? ⟨w.heap.size, 1, none⟩ = some (Value.slice (some ⟨g, o, none⟩) xs.length cap) := by go_simp
  have hzz : Zr4 ((w.alloc (Obj.cells #[Value.int .i64 den, Value.slice (some ⟨g, o, none⟩) xs.length cap] 29)).alloc (Obj.cells #[Value.bool false, Value.slice none 0 0, Value.bool false, Value.slice none 0 0] 43)) (w.heap.size + 1) := by have := zr4_alloc (w.alloc (Obj.cells #[Value.int .i64 den, Value.slice (some ⟨g, o, none⟩) xs.length cap] 29)); simpa only [World.size_alloc] using this
  have hbn := bl_alloc (bl_alloc (bl_refl w) (Obj.cells #[Value.int .i64 den, Value.slice (some ⟨g, o, none⟩) xs.length cap] 29)) (Obj.cells #[Value.bool false, Value.slice none 0 0, Value.bool false, Value.slice none 0 0] 43)
  replace ec := (hbn.cell (p := ⟨g, o + i, none⟩) hg).trans ec
  have zr : w.heap.size + 1 < ((w.alloc (Obj.cells #[Value.int .i64 den, Value.slice (some ⟨g, o, none⟩) xs.length cap] 29)).alloc (Obj.cells #[Value.bool false, Value.slice none 0 0, Value.bool false, Value.slice none 0 0] 43)).heap.size := by simp only [World.size_alloc]; omega
  have HB := hide hbn
  have HZ := hide hzz
  clear hbn hzz
  have hix : (i : Int) < (xs.length : Int) := by omega
  have hi0 : (0 : Int) ≤ (i : Int) := by omega
  generalize V.at8 xs i = x at *
  go_enter Tryz.func16, Tryz.ntmps16
  go_wp2_with fail
  generalize ((w.alloc (Obj.cells #[Value.int .i64 den, Value.slice (some ⟨g, o, none⟩) xs.length cap] 29)).alloc (Obj.cells #[Value.bool false, Value.slice none 0 0, Value.bool false, Value.slice none 0 0] 43)) = w1 at *
  have KP : Hid (∀ w', Below (w.heap.size + 1) w1 w' → (w'.cell? ⟨w.heap.size, 0, none⟩ = some (Value.int .i64 den) ∧ w'.cell? ⟨w.heap.size, 1, none⟩ = some (Value.slice (some ⟨g, o, none⟩) xs.length cap) ∧ w'.cell? ⟨g, o + i, none⟩ = some (Value.int .i64 x) ∧ Hid (Below (w.heap.size + 1) w1 w'))) := hide (fun w' hb => ⟨(hb.cell (p := ⟨w.heap.size, 0, none⟩) (by dsimp only; omega)).trans kv0, (hb.cell (p := ⟨w.heap.size, 1, none⟩) (by dsimp only; omega)).trans kv1, (hb.cell (p := ⟨g, o + i, none⟩) (by dsimp only; omega)).trans ec, hide hb⟩)
  go_region_held3 (fun w' => w'.cell? ⟨w.heap.size, 0, none⟩ = some (Value.int .i64 den) ∧ w'.cell? ⟨w.heap.size, 1, none⟩ = some (Value.slice (some ⟨g, o, none⟩) xs.length cap) ∧ w'.cell? ⟨g, o + i, none⟩ = some (Value.int .i64 x) ∧ Hid (Below (w.heap.size + 1) w1 w'))
    (first | with_reducible exact KP.out _ (Below.refl _ w1).drew | with_reducible exact KP.out _ bC | with_reducible exact KP.out _ bB | with_reducible exact KP.out _ bA | exact KP.out _ (by repeat first | with_reducible exact bC | with_reducible exact bB | with_reducible exact bA | with_reducible exact (Below.refl _ _).drew | with_reducible exact Below.refl _ _ | refine Below.setCell ?_ (by first | omega | (dsimp only; omega)) _))
    (first
      | (go_at_call 34; have hq := yA; refine (fromS den _ (by omega) (by omega)).mono ?_; rintro e wB ⟨vB, rfl, ⟨aB, cB, rfl, hoB⟩, hbB⟩; have bB : Below (w.heap.size + 1) w1 wB := bA.trans (hbB.mono (by omega)); have yB := hbB.size; replace HP1 := hide (HP1.out.below hbB); have HP2 := hide hoB.seg; replace HZA := hide (HZA.out.below hbB); clear hoB hbB hq)
      | (go_at_call 34; refine (fromS x _ (by omega) (by omega)).mono ?_; rintro e wA ⟨vA, rfl, ⟨aA, cA, rfl, hoA⟩, hbAr⟩; have hbA : Below w1.heap.size w1 wA := (bl_refl w1).drew.trans hbAr; have bA : Below (w.heap.size + 1) w1 wA := hbA.mono (by omega); have yA := hbA.size; have HP1 := hide hoA.seg; have HZA := hide (HZ.out.below hbA); clear hoA hbA hbAr)
      | (go_at_call 33; refine (makeR x den aA cA aB cB _ HP1.out HP2.out (by omega) (lms_le (by omega)) (lms_le (by omega))).mono ?_; rintro e wC ⟨a1, c1, a2, c2, rfl, ho1, ho2, -, hbC⟩; have bC : Below (w.heap.size + 1) w1 wC := bB.trans (hbC.mono (by omega)); have R1 := hide ho1.rgs; have R2 := hide ho2.rgs; replace HZA := hide (HZA.out.below hbC); obtain ⟨zN, kN0, kN1, kN2, kN3, fN0, fN1, fN2, fN3⟩ := HZA.out; clear ho1 ho2 hbC))
  all_goals go_wp2
  all_goals refine bodyPost_ret (v := Value.agg #[Value.bool (sgn (x / sgG x den)), Value.slice a1 (lms (x / sgG x den)).length c1, Value.bool (sgn (den / sgG x den)), Value.slice a2 (lms (den / sgG x den)).length c2]) (by simp [results, Tryz.results16, go_sem, *]) rfl ?_
  all_goals exact ⟨a1, c1, a2, c2, rfl, ((((R1.out.set (p := ⟨w.heap.size + 1, 0, none⟩) (by dsimp only; omega) _).set (p := ⟨w.heap.size + 1, 1, none⟩) (by dsimp only; omega) _).set (p := ⟨w.heap.size + 1, 2, none⟩) (by dsimp only; omega) _).set (p := ⟨w.heap.size + 1, 3, none⟩) (by dsimp only; omega) _).1, ((((R2.out.set (p := ⟨w.heap.size + 1, 0, none⟩) (by dsimp only; omega) _).set (p := ⟨w.heap.size + 1, 1, none⟩) (by dsimp only; omega) _).set (p := ⟨w.heap.size + 1, 2, none⟩) (by dsimp only; omega) _).set (p := ⟨w.heap.size + 1, 3, none⟩) (by dsimp only; omega) _).1, (((((HB.out.trans (bC.mono (by omega))).setCell (p := ⟨w.heap.size + 1, 0, none⟩) (by dsimp only; omega) _).setCell (p := ⟨w.heap.size + 1, 1, none⟩) (by dsimp only; omega) _).setCell (p := ⟨w.heap.size + 1, 2, none⟩) (by dsimp only; omega) _).setCell (p := ⟨w.heap.size + 1, 3, none⟩) (by dsimp only; omega) _)⟩

set_option maxHeartbeats 4000000 in
set_option maxRecDepth 20000 in
theorem vecTextS_no (den : Int) (a : Option Addr) (cap : Nat) (xs : List Int) (b : Option Addr) (m cb : Nat) (ts : List ByteArray) (w : World) (hs : V.Seg w a xs.length cap xs) (ht : SSeg w b m cb ts) (hz : stot ts ≤ 1048576) (h0 : V.vokB den xs = false) :
    Calls Tryz.prog 6 #[Value.agg #[Value.int .i64 den, Value.slice a xs.length cap], .slice b m cb] w fun e w' => e = .returned (.string (vtxt den xs ts)) ∧ Below w.heap.size w w' := by
  have HR : Hid (vtxt den xs ts = ⟨#[]⟩) := hide (by unfold vtxt vtB; rw [h0]; rfl)
  have htl := ht.1
  have hmc := ht.2.1
  have hmc2 := ht.2.2.1
  have hxc := hs.2.1
  have hxm := hs.2.2.1
  have hbn := bl_alloc (bl_refl w) (Obj.cells #[Value.int .i64 den, Value.slice a xs.length cap] 29)
  have HS := hide (hs.below hbn)
  have HT := hide (ht.below hbn)
  have HB := hide hbn
  have kv0 : (w.alloc (Obj.cells #[Value.int .i64 den, Value.slice a xs.length cap] 29)).cell? ⟨w.heap.size, 0, none⟩ = some (Value.int .i64 den) := by go_simp
  have kv1 : (w.alloc (Obj.cells #[Value.int .i64 den, Value.slice a xs.length cap] 29)).cell? ⟨w.heap.size, 1, none⟩ = some (Value.slice a xs.length cap) := by go_simp
  have zr : w.heap.size < (w.alloc (Obj.cells #[Value.int .i64 den, Value.slice a xs.length cap] 29)).heap.size := by simp only [World.size_alloc]; omega
  clear hbn hs ht
  go_enter Tryz.func6, Tryz.ntmps6
  go_wp2_with fail
  generalize (w.alloc (Obj.cells #[Value.int .i64 den, Value.slice a xs.length cap] 29)) = w0 at *
  refine (V.vecOkS den a cap xs _ HS.out).mono ?_
  rintro e w1 ⟨rfl, hb⟩
  have yw1 := hb.size
  replace kv0 := (hb.cell (p := ⟨w.heap.size, 0, none⟩) (by dsimp only; omega)).trans kv0
  replace kv1 := (hb.cell (p := ⟨w.heap.size, 1, none⟩) (by dsimp only; omega)).trans kv1
  replace HS := hide (HS.out.below hb)
  replace HT := hide (HT.out.below hb)
  replace zr := Nat.lt_of_lt_of_le zr hb.size
  replace HB := hide (bl_trans HB.out hb)
  clear hb
  rw [h0]
  go_wp2
  go_ret
  exact ⟨by rw [HR.out]; rfl, HB.out⟩

set_option maxHeartbeats 4000000 in
set_option maxRecDepth 20000 in
theorem vecTextS_len (den : Int) (a : Option Addr) (cap : Nat) (xs : List Int) (b : Option Addr) (m cb : Nat) (ts : List ByteArray) (w : World) (hs : V.Seg w a xs.length cap xs) (ht : SSeg w b m cb ts) (hz : stot ts ≤ 1048576) (h0 : V.vokB den xs = true) (h1 : m ≠ xs.length) :
    Calls Tryz.prog 6 #[Value.agg #[Value.int .i64 den, Value.slice a xs.length cap], .slice b m cb] w fun e w' => e = .returned (.string (vtxt den xs ts)) ∧ Below w.heap.size w w' := by
  have HR : Hid (vtxt den xs ts = ⟨#[]⟩) := hide (by unfold vtxt vtB; rw [decide_eq_false (p := ts.length = xs.length) (by have := ht.1; omega)]; simp)
  have h1'' : ¬ ((m : Int) = (xs.length : Int)) := by omega
  have h1' : ((m : Int) == (xs.length : Int)) = false := by rw [beq_eq_false_iff_ne]; omega
  have htl := ht.1
  have hmc := ht.2.1
  have hmc2 := ht.2.2.1
  have hxc := hs.2.1
  have hxm := hs.2.2.1
  have hbn := bl_alloc (bl_refl w) (Obj.cells #[Value.int .i64 den, Value.slice a xs.length cap] 29)
  have HS := hide (hs.below hbn)
  have HT := hide (ht.below hbn)
  have HB := hide hbn
  have kv0 : (w.alloc (Obj.cells #[Value.int .i64 den, Value.slice a xs.length cap] 29)).cell? ⟨w.heap.size, 0, none⟩ = some (Value.int .i64 den) := by go_simp
  have kv1 : (w.alloc (Obj.cells #[Value.int .i64 den, Value.slice a xs.length cap] 29)).cell? ⟨w.heap.size, 1, none⟩ = some (Value.slice a xs.length cap) := by go_simp
  have zr : w.heap.size < (w.alloc (Obj.cells #[Value.int .i64 den, Value.slice a xs.length cap] 29)).heap.size := by simp only [World.size_alloc]; omega
  clear hbn hs ht
  go_enter Tryz.func6, Tryz.ntmps6
  go_wp2_with fail
  generalize (w.alloc (Obj.cells #[Value.int .i64 den, Value.slice a xs.length cap] 29)) = w0 at *
  refine (V.vecOkS den a cap xs _ HS.out).mono ?_
  rintro e w1 ⟨rfl, hb⟩
  have yw1 := hb.size
  replace kv0 := (hb.cell (p := ⟨w.heap.size, 0, none⟩) (by dsimp only; omega)).trans kv0
  replace kv1 := (hb.cell (p := ⟨w.heap.size, 1, none⟩) (by dsimp only; omega)).trans kv1
  replace HS := hide (HS.out.below hb)
  replace HT := hide (HT.out.below hb)
  replace zr := Nat.lt_of_lt_of_le zr hb.size
  replace HB := hide (bl_trans HB.out hb)
  clear hb
  rw [h0]
  go_wp2
  go_ret
  exact ⟨by rw [HR.out]; rfl, HB.out⟩

set_option maxHeartbeats 4000000 in
set_option maxRecDepth 20000 in
theorem vecTextS_yes (den : Int) (a : Option Addr) (cap : Nat) (xs : List Int) (b : Option Addr) (m cb : Nat) (ts : List ByteArray) (w : World) (hs : V.Seg w a xs.length cap xs) (ht : SSeg w b m cb ts) (hz : stot ts ≤ 1048576) (h0 : V.vokB den xs = true) (h1 : m = xs.length) :
    Calls Tryz.prog 6 #[Value.agg #[Value.int .i64 den, Value.slice a xs.length cap], .slice b m cb] w fun e w' => e = .returned (.string (vtxt den xs ts)) ∧ Below w.heap.size w w' := by
  obtain ⟨hd, h8, hxr⟩ := at_big h0
  have H0 := hide h0
  have HD := hide hd
  have HXR := hide hxr
  clear hd hxr h0
  subst h1
  have htl := ht.1
  have hmc := ht.2.1
  have hmc2 := ht.2.2.1
  have hxc := hs.2.1
  have hxm := hs.2.2.1
  have hbn := bl_alloc (bl_refl w) (Obj.cells #[Value.int .i64 den, Value.slice a xs.length cap] 29)
  have HS := hide (hs.below hbn)
  have HT := hide (ht.below hbn)
  have HB := hide hbn
  have kv0 : (w.alloc (Obj.cells #[Value.int .i64 den, Value.slice a xs.length cap] 29)).cell? ⟨w.heap.size, 0, none⟩ = some (Value.int .i64 den) := by go_simp
  have kv1 : (w.alloc (Obj.cells #[Value.int .i64 den, Value.slice a xs.length cap] 29)).cell? ⟨w.heap.size, 1, none⟩ = some (Value.slice a xs.length cap) := by go_simp
  have zr : w.heap.size < (w.alloc (Obj.cells #[Value.int .i64 den, Value.slice a xs.length cap] 29)).heap.size := by simp only [World.size_alloc]; omega
  clear hbn hs ht
  go_enter Tryz.func6, Tryz.ntmps6
  go_wp2_with fail
  generalize (w.alloc (Obj.cells #[Value.int .i64 den, Value.slice a xs.length cap] 29)) = w0 at *
  refine (V.vecOkS den a cap xs _ HS.out).mono ?_
  rintro e w1 ⟨rfl, hb⟩
  have yw1 := hb.size
  replace kv0 := (hb.cell (p := ⟨w.heap.size, 0, none⟩) (by dsimp only; omega)).trans kv0
  replace kv1 := (hb.cell (p := ⟨w.heap.size, 1, none⟩) (by dsimp only; omega)).trans kv1
  replace HS := hide (HS.out.below hb)
  replace HT := hide (HT.out.below hb)
  replace zr := Nat.lt_of_lt_of_le zr hb.size
  replace HB := hide (bl_trans HB.out hb)
  clear hb
  rw [H0.out]
  go_wp2_with fail
  have HZ := hide hz
  clear hz
  have W0 : True := trivial
  go_loopw [5, 6] (fun o i wr => ∃ (k : Nat) (O : ByteArray), k ≤ xs.length ∧ o = .string O ∧ i = .int .i64 k ∧ Hid (O.data.toList = vk den xs ts k) ∧ Hid (∀ j (h : j < ts.length), j < k → nameOkB ts[j] = true) ∧ Hid (Below w1.heap.size w1 wr)) (fun _ i _ => xs.length - (intOf i).toNat)
  case atStart => exact ⟨0, ⟨#[]⟩, Nat.zero_le _, rfl, rfl, hide rfl, hide (fun j _ h => absurd h (Nat.not_lt_zero _)), hide (bl_refl w1)⟩
  case round =>
    obtain ⟨k, O, hk, rfl, rfl, hO, hal, hb⟩ := hrel
    by_cases hlt : k < xs.length
    · have hlt' : (k : Int) < (xs.length : Int) := by omega
      have hkx : k < ts.length := by omega
      have hk0 : (0 : Int) ≤ (k : Int) := by omega
      obtain ⟨g, o, rfl, hg, c0'⟩ := HT.out.at hkx
      have c0 := (hb.out.cell (p := ⟨g, o + k, none⟩) hg).trans c0'
      obtain ⟨gx, ox, rfl, hgx, cx'⟩ : ∃ gx ox, a = some ⟨gx, ox, none⟩ ∧ gx < w1.heap.size ∧ ∀ j (hj : j < xs.length), w1.cell? ⟨gx, ox + j, none⟩ = some (.int .i64 xs[j]) := by
                rcases HS.out.2.2.2 with h | h
                · omega
                · exact h
      have cx := cx' k hlt
      rw [← V.at8_lt hlt] at cx
      have hsz : ts[k].size ≤ 140737488355328 := by have := stot_mono ts k hkx; have := HZ.out; omega
      have HSZ0 := hide hsz
      clear hsz cx' c0'
      have C0 : Hid (w1.cell? ⟨g, o + k, none⟩ = some (.string ts[k])) := hide ((hb.out.cell (p := ⟨g, o + k, none⟩) hg).symm.trans c0)
      have CX : Hid (w1.cell? ⟨gx, ox + k, none⟩ = some (.int .i64 (V.at8 xs k))) := hide cx
      clear cx
      cases hn : nameOkB ts[k] with
      | false =>
        have HR : Hid (vtxt den xs ts = ⟨#[]⟩) := hide (by
                have : ts.all nameOkB = false := by rw [List.all_eq_false]; exact ⟨ts[k], List.getElem_mem _, by rw [hn]; decide⟩
                unfold vtxt vtB; rw [this]; simp)
        generalize ts[k] = s at *
        go_wp2_with (go_at_call 14; refine (nameS s _ HSZ0.out).mono ?_; rintro e wa ⟨rfl, nn, hwa⟩; rw [hn]; have HBwa : Hid (Below w1.heap.size w1 wa) := hide (hb.out.trans (by rw [hwa]; exact below_drewN (Below.refl _ _) nn)); clear hwa; have d0 := (HBwa.out.cell (p := ⟨g, o + k, none⟩) hg).trans C0.out; have dx := (HBwa.out.cell (p := ⟨gx, ox + k, none⟩) hgx).trans CX.out; have e0 : wa.cell? ⟨w.heap.size, 0, none⟩ = some (Value.int .i64 den) := Eq.trans (Below.cell HBwa.out (p := ⟨w.heap.size, 0, none⟩) zr) kv0; have e1 : wa.cell? ⟨w.heap.size, 1, none⟩ = some (Value.slice (some ⟨gx, ox, none⟩) xs.length cap) := Eq.trans (Below.cell HBwa.out (p := ⟨w.heap.size, 1, none⟩) zr) kv1)
        go_ret
        exact ⟨by rw [HR.out]; rfl, bl_trans HB.out HBwa.out⟩
      | true =>
        have HAL : Hid (∀ j (h : j < ts.length), j < k + 1 → nameOkB ts[j] = true) := hide (fun j h hj => by
                        by_cases ee : j = k
                        · subst ee; exact hn
                        · exact hal.out j h (by omega))
        by_cases hx0 : V.at8 xs k = 0
        · have HV := hide (vk_zero (den := den) (ts := ts) hx0)
          have hxx := hx0
          generalize ts[k] = s at *
          rw [hx0] at CX
          go_wp2_with (go_at_call 14; refine (nameS s _ HSZ0.out).mono ?_; rintro e wa ⟨rfl, nn, hwa⟩; rw [hn]; have HBwa : Hid (Below w1.heap.size w1 wa) := hide (hb.out.trans (by rw [hwa]; exact below_drewN (Below.refl _ _) nn)); clear hwa; have d0 := (HBwa.out.cell (p := ⟨g, o + k, none⟩) hg).trans C0.out; have dx := (HBwa.out.cell (p := ⟨gx, ox + k, none⟩) hgx).trans CX.out; have e0 : wa.cell? ⟨w.heap.size, 0, none⟩ = some (Value.int .i64 den) := Eq.trans (Below.cell HBwa.out (p := ⟨w.heap.size, 0, none⟩) zr) kv0; have e1 : wa.cell? ⟨w.heap.size, 1, none⟩ = some (Value.slice (some ⟨gx, ox, none⟩) xs.length cap) := Eq.trans (Below.cell HBwa.out (p := ⟨w.heap.size, 1, none⟩) zr) kv1)
          exact ⟨⟨k + 1, O, by omega, rfl, by go_num, hide (by rw [HV.out]; exact hO.out), HAL, HBwa⟩, by simp [intOf]; omega⟩
        have hx0b : (V.at8 xs k == 0) = false := by rw [beq_eq_false_iff_ne]; exact hx0
        have hvl := vk_len (ts := ts) HD.out HXR.out k (by omega) (fun j h hj => (name_short (hal.out j h hj)).1)
        have hsz1 := (name_short hn).1
        have hxk := HXR.out k
        have hd := HD.out
        have hol : O.size = (vk den xs ts k).length := by rw [← bsz, hO.out]
        by_cases h0 : (vk den xs ts k).length = 0
        · by_cases hxd : V.at8 xs k = den
          · have HV := hide (vk_first (den := den) hkx hx0 h0)
            have HUP := hide (up_one hxd)
            rw [HUP.out] at HV
            obtain rfl : O = ⟨#[]⟩ := by
                apply ByteArray.ext; apply Array.ext'; rw [hO.out, List.eq_nil_of_length_eq_zero h0]
            have hxb : (V.at8 xs k == den) = true := by rw [beq_iff_eq]; exact hxd
            have HFR := hide (fun wx (h : V.Seg wx (some ⟨gx, ox, none⟩) xs.length cap xs) => fracS den _ cap xs k wx h hlt hxk hd)
            have HN2 := hide (name_short hn).1
            generalize ts[k] = s at *
            have z1 : ¬ 9223372036854775807 < (⟨#[]⟩ : ByteArray).size + s.size := by show ¬ _ < 0 + _; omega
            have z2 : ¬ 9223372036854775807 < s.size := by omega
            go_wp2_with (go_at_call 14; refine (nameS s _ HSZ0.out).mono ?_; rintro e wa ⟨rfl, nn, hwa⟩; rw [hn]; have HBwa : Hid (Below w1.heap.size w1 wa) := hide (hb.out.trans (by rw [hwa]; exact below_drewN (Below.refl _ _) nn)); clear hwa; have d0 := (HBwa.out.cell (p := ⟨g, o + k, none⟩) hg).trans C0.out; have dx := (HBwa.out.cell (p := ⟨gx, ox + k, none⟩) hgx).trans CX.out; have e0 : wa.cell? ⟨w.heap.size, 0, none⟩ = some (Value.int .i64 den) := Eq.trans (Below.cell HBwa.out (p := ⟨w.heap.size, 0, none⟩) zr) kv0; have e1 : wa.cell? ⟨w.heap.size, 1, none⟩ = some (Value.slice (some ⟨gx, ox, none⟩) xs.length cap) := Eq.trans (Below.cell HBwa.out (p := ⟨w.heap.size, 1, none⟩) zr) kv1)
            have BW := HBwa
            go_region
            all_goals go_wp2
            all_goals exact ⟨⟨k + 1, _, by omega, rfl, by go_num, hide (by rw [HV.out]; simp [ByteArray.data_append]), HAL, hide (by first | exact BW.out | exact BW.out.drew | exact below_drewN BW.out _)⟩, by simp [intOf]; omega⟩
          · have HV := hide (vk_first (den := den) hkx hx0 h0)
            have HUP := hide (up_more hxd)
            rw [HUP.out] at HV
            obtain rfl : O = ⟨#[]⟩ := by
                apply ByteArray.ext; apply Array.ext'; rw [hO.out, List.eq_nil_of_length_eq_zero h0]
            have hxb : (V.at8 xs k == den) = false := by rw [beq_eq_false_iff_ne]; exact hxd
            have hrl := rat_le (p := V.at8 xs k / sgG (V.at8 xs k) den) (q := den / sgG (V.at8 xs k) den) (Nat.lt_of_le_of_lt (quo_le _ _) (by omega)) (Nat.lt_of_le_of_lt (quo_le _ _) (by omega))
            have HFR := hide (fun wx (h : V.Seg wx (some ⟨gx, ox, none⟩) xs.length cap xs) => fracS den _ cap xs k wx h hlt hxk hd)
            have HN2 := hide (name_short hn).1
            generalize ts[k] = s at *
            have z1 : ¬ 9223372036854775807 < (⟨#[]⟩ : ByteArray).size + s.size := by show ¬ _ < 0 + _; omega
            have z2 : ¬ 9223372036854775807 < s.size := by omega
            obtain ⟨u, hrt0⟩ : ∃ u, ratT (sgn (V.at8 xs k / sgG (V.at8 xs k) den)) (lms (V.at8 xs k / sgG (V.at8 xs k) den)) (sgn (den / sgG (V.at8 xs k) den)) (lms (den / sgG (V.at8 xs k) den)) = u := ⟨_, rfl⟩
            rw [hrt0] at HV hrl
            have HRT := hide hrt0
            clear hrt0 HUP
            have z3 : ¬ 9223372036854775807 < s.size + 1 := by omega
            have z4 : ¬ 9223372036854775807 < s.size + 1 + u.size := by omega
            go_wp2_with (go_at_call 14; refine (nameS s _ HSZ0.out).mono ?_; rintro e wa ⟨rfl, nn, hwa⟩; rw [hn]; have HBwa : Hid (Below w1.heap.size w1 wa) := hide (hb.out.trans (by rw [hwa]; exact below_drewN (Below.refl _ _) nn)); clear hwa; have d0 := (HBwa.out.cell (p := ⟨g, o + k, none⟩) hg).trans C0.out; have dx := (HBwa.out.cell (p := ⟨gx, ox + k, none⟩) hgx).trans CX.out; have e0 : wa.cell? ⟨w.heap.size, 0, none⟩ = some (Value.int .i64 den) := Eq.trans (Below.cell HBwa.out (p := ⟨w.heap.size, 0, none⟩) zr) kv0; have e1 : wa.cell? ⟨w.heap.size, 1, none⟩ = some (Value.slice (some ⟨gx, ox, none⟩) xs.length cap) := Eq.trans (Below.cell HBwa.out (p := ⟨w.heap.size, 1, none⟩) zr) kv1)
            have BW := HBwa
            go_region
            all_goals go_wp2_with (first
              | (go_at_call 16; refine (HFR.out _ (HS.out.below (by first | exact BW.out | exact BW.out.drew | exact below_drewN BW.out _))).mono ?_; rintro e wb ⟨f1, d1, f2, d2, rfl, g1, g2, hbb⟩; have G1 := hide g1; have G2 := hide g2; have HBwb : Hid (Below w1.heap.size w1 wb) := hide (bl_trans (by first | exact BW.out | exact BW.out.drew | exact below_drewN BW.out _) hbb); clear g1 g2 hbb)
              | (go_at_call 15; refine (ratTextS _ _ _ _ f1 d1 f2 d2 _ G1.out G2.out).mono ?_; rintro e wc ⟨rfl, hbc⟩; rw [HRT.out]; have HBwc : Hid (Below w1.heap.size w1 wc) := hide (HBwb.out.trans (hbc.mono HBwb.out.size)); clear hbc))
            all_goals exact ⟨⟨k + 1, _, by omega, rfl, by go_num, hide (by rw [HV.out]; simp [ByteArray.data_append]), HAL, HBwc⟩, by simp [intOf]; omega⟩
        · by_cases hxd : V.at8 xs k = den
          · have HV := hide (vk_more (den := den) hkx hx0 h0)
            have HUP := hide (up_one hxd)
            rw [HUP.out] at HV
            have hne : ¬ O = ⟨#[]⟩ := fun ee => by rw [ee] at hol; exact h0 hol.symm
            have hne3 : O.toList.isEmpty = false := by
                rw [Lib.toList_data, hO.out]
                cases hv : vk den xs ts k with
                | nil => exact absurd (by rw [hv]; rfl) h0
                | cons => rfl
            have hxb : (V.at8 xs k == den) = true := by rw [beq_iff_eq]; exact hxd
            have HFR := hide (fun wx (h : V.Seg wx (some ⟨gx, ox, none⟩) xs.length cap xs) => fracS den _ cap xs k wx h hlt hxk hd)
            have HN2 := hide (name_short hn).1
            generalize ts[k] = s at *
            have z1 : ¬ 9223372036854775807 < O.size + 1 := by omega
            have z2 : ¬ 9223372036854775807 < O.size + 1 + s.size := by omega
            go_wp2_with (go_at_call 14; refine (nameS s _ HSZ0.out).mono ?_; rintro e wa ⟨rfl, nn, hwa⟩; rw [hn]; have HBwa : Hid (Below w1.heap.size w1 wa) := hide (hb.out.trans (by rw [hwa]; exact below_drewN (Below.refl _ _) nn)); clear hwa; have d0 := (HBwa.out.cell (p := ⟨g, o + k, none⟩) hg).trans C0.out; have dx := (HBwa.out.cell (p := ⟨gx, ox + k, none⟩) hgx).trans CX.out; have e0 : wa.cell? ⟨w.heap.size, 0, none⟩ = some (Value.int .i64 den) := Eq.trans (Below.cell HBwa.out (p := ⟨w.heap.size, 0, none⟩) zr) kv0; have e1 : wa.cell? ⟨w.heap.size, 1, none⟩ = some (Value.slice (some ⟨gx, ox, none⟩) xs.length cap) := Eq.trans (Below.cell HBwa.out (p := ⟨w.heap.size, 1, none⟩) zr) kv1)
            have BW := HBwa
            go_region
            all_goals go_wp2
            all_goals exact ⟨⟨k + 1, _, by omega, rfl, by go_num, hide (by rw [HV.out]; simp [ByteArray.data_append, hO.out]), HAL, hide (by first | exact BW.out | exact BW.out.drew | exact below_drewN BW.out _)⟩, by simp [intOf]; omega⟩
          · have HV := hide (vk_more (den := den) hkx hx0 h0)
            have HUP := hide (up_more hxd)
            rw [HUP.out] at HV
            have hne : ¬ O = ⟨#[]⟩ := fun ee => by rw [ee] at hol; exact h0 hol.symm
            have hne3 : O.toList.isEmpty = false := by
                rw [Lib.toList_data, hO.out]
                cases hv : vk den xs ts k with
                | nil => exact absurd (by rw [hv]; rfl) h0
                | cons => rfl
            have hxb : (V.at8 xs k == den) = false := by rw [beq_eq_false_iff_ne]; exact hxd
            have hrl := rat_le (p := V.at8 xs k / sgG (V.at8 xs k) den) (q := den / sgG (V.at8 xs k) den) (Nat.lt_of_le_of_lt (quo_le _ _) (by omega)) (Nat.lt_of_le_of_lt (quo_le _ _) (by omega))
            have HFR := hide (fun wx (h : V.Seg wx (some ⟨gx, ox, none⟩) xs.length cap xs) => fracS den _ cap xs k wx h hlt hxk hd)
            have HN2 := hide (name_short hn).1
            generalize ts[k] = s at *
            have z1 : ¬ 9223372036854775807 < O.size + 1 := by omega
            have z2 : ¬ 9223372036854775807 < O.size + 1 + s.size := by omega
            obtain ⟨u, hrt0⟩ : ∃ u, ratT (sgn (V.at8 xs k / sgG (V.at8 xs k) den)) (lms (V.at8 xs k / sgG (V.at8 xs k) den)) (sgn (den / sgG (V.at8 xs k) den)) (lms (den / sgG (V.at8 xs k) den)) = u := ⟨_, rfl⟩
            rw [hrt0] at HV hrl
            have HRT := hide hrt0
            clear hrt0 HUP
            have Z3 := hide (show ¬ 9223372036854775807 < O.size + 1 + s.size + 1 by omega)
            have Z4 := hide (show ¬ 9223372036854775807 < O.size + 1 + s.size + 1 + u.size by omega)
            have HRL := hide hrl
            clear hrl
            go_wp2_with (go_at_call 14; refine (nameS s _ HSZ0.out).mono ?_; rintro e wa ⟨rfl, nn, hwa⟩; rw [hn]; have HBwa : Hid (Below w1.heap.size w1 wa) := hide (hb.out.trans (by rw [hwa]; exact below_drewN (Below.refl _ _) nn)); clear hwa; have d0 := (HBwa.out.cell (p := ⟨g, o + k, none⟩) hg).trans C0.out; have dx := (HBwa.out.cell (p := ⟨gx, ox + k, none⟩) hgx).trans CX.out; have e0 : wa.cell? ⟨w.heap.size, 0, none⟩ = some (Value.int .i64 den) := Eq.trans (Below.cell HBwa.out (p := ⟨w.heap.size, 0, none⟩) zr) kv0; have e1 : wa.cell? ⟨w.heap.size, 1, none⟩ = some (Value.slice (some ⟨gx, ox, none⟩) xs.length cap) := Eq.trans (Below.cell HBwa.out (p := ⟨w.heap.size, 1, none⟩) zr) kv1)
            have BW := HBwa
            go_region
            all_goals have z3 := Z3.out
            all_goals have z4 := Z4.out
            all_goals go_wp2_with (first
              | (go_at_call 16; refine (HFR.out _ (HS.out.below (by first | exact BW.out | exact BW.out.drew | exact below_drewN BW.out _))).mono ?_; rintro e wb ⟨f1, d1, f2, d2, rfl, g1, g2, hbb⟩; have G1 := hide g1; have G2 := hide g2; have HBwb : Hid (Below w1.heap.size w1 wb) := hide (bl_trans (by first | exact BW.out | exact BW.out.drew | exact below_drewN BW.out _) hbb); clear g1 g2 hbb)
              | (go_at_call 15; refine (ratTextS _ _ _ _ f1 d1 f2 d2 _ G1.out G2.out).mono ?_; rintro e wc ⟨rfl, hbc⟩; rw [HRT.out]; have HBwc : Hid (Below w1.heap.size w1 wc) := hide (HBwb.out.trans (hbc.mono HBwb.out.size)); clear hbc))
            all_goals exact ⟨⟨k + 1, _, by omega, rfl, by go_num, hide (by rw [HV.out]; simp [ByteArray.data_append, hO.out]), HAL, HBwc⟩, by simp [intOf]; omega⟩
    · obtain rfl : k = xs.length := by omega
      skip
      have hall : ts.all nameOkB = true := by
                rw [List.all_eq_true]; intro t ht; obtain ⟨j, hj, rfl⟩ := List.getElem_of_mem ht; exact hal.out j hj (by omega)
      have hvt : vtB den xs ts = true := by unfold vtB; rw [H0.out, hall, decide_eq_true htl]; rfl
      by_cases h0 : (vk den xs ts xs.length).length = 0
      · have HR : Hid (vtxt den xs ts = ⟨#[49]⟩) := hide (by unfold vtxt; rw [if_pos hvt, htl, if_pos h0])
        obtain rfl : O = ⟨#[]⟩ := by
                apply ByteArray.ext; apply Array.ext'; rw [hO.out, List.eq_nil_of_length_eq_zero h0]
        clear hvt hall
        go_wp2
        go_ret
        exact ⟨by rw [HR.out]; rfl, bl_trans HB.out hb.out⟩
      · have HR : Hid (vtxt den xs ts = O) := hide (by unfold vtxt; rw [if_pos hvt, htl, if_neg h0]; apply ByteArray.ext; apply Array.ext'; rw [hO.out])
        have hne : ¬ O = ⟨#[]⟩ := fun ee => by rw [ee] at hO; exact h0 (by rw [← hO.out]; rfl)
        have hne3 : O.toList.isEmpty = false := by
                rw [Lib.toList_data, hO.out]
                cases hv : vk den xs ts xs.length with
                | nil => exact absurd (by rw [hv]; rfl) h0
                | cons => rfl
        clear hvt hall
        go_wp2
        go_ret
        exact ⟨by rw [HR.out]; rfl, bl_trans HB.out hb.out⟩

end Go.Proofs.YteeifaleneneeaaGreatDoor
