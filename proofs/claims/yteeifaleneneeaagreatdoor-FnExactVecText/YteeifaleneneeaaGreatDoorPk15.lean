/- My texts GcdI, RatOkI, GcdS, RatOkS, RCmp, ShortR, MakeR, FitR, MRat, Res4, in this order. -/
import Derived.Test.YteeifaleneneeaaGreatDoorPk14
import Derived.Test.YteeifaleneneeaaGreatDoorPk02
import Derived.Deep.LoopGhost
import Derived.Deep.RegionWith
import Derived.Deep.DeepCutAuto
import Derived.Test.YteeifaleneneeaaGreatDoorPk13
/- The walks of bigSize and bigGcd. -/
namespace Go.Proofs.YteeifaleneneeaaGreatDoor
open Go.RowKit
set_option linter.unusedVariables false

set_option maxHeartbeats 2000000 in
set_option maxRecDepth 20000 in
theorem sizeI (v1 : Value) (x : Int) (w : World) (h1 : Is w v1 x) (l1 : (lms x).length ≤ 1048576) :
    Calls Tryz.prog 79 #[v1] w fun e w' => ∃ v, e = .returned v ∧ New w' w.heap.size v (x.natAbs : Int) ∧ Below w.heap.size w w' := by
  obtain ⟨a, ca, rfl, ha⟩ := h1
  have HA := hide ha
  clear ha
  have HM : Hid (mk false x.natAbs = (x.natAbs : Int)) := hide rfl
  have kA0 : ((w.alloc (Obj.cells #[Value.bool (sgn x), Value.slice a (lms x).length ca] 41)).alloc (Obj.cells #[Value.bool false, Value.slice none 0 0] 41)).cell? ⟨w.heap.size, 0, none⟩ = some (Value.bool (sgn x)) := by go_simp
  have kA1 : ((w.alloc (Obj.cells #[Value.bool (sgn x), Value.slice a (lms x).length ca] 41)).alloc (Obj.cells #[Value.bool false, Value.slice none 0 0] 41)).cell? ⟨w.heap.size, 1, none⟩ = some (Value.slice a (lms x).length ca) := by go_simp
  have zA : w.heap.size < ((w.alloc (Obj.cells #[Value.bool (sgn x), Value.slice a (lms x).length ca] 41)).alloc (Obj.cells #[Value.bool false, Value.slice none 0 0] 41)).heap.size := by simp only [World.size_alloc]; omega
  have kR0 : ((w.alloc (Obj.cells #[Value.bool (sgn x), Value.slice a (lms x).length ca] 41)).alloc (Obj.cells #[Value.bool false, Value.slice none 0 0] 41)).cell? ⟨w.heap.size + 1, 0, none⟩ = some (Value.bool false) := by go_simp
  have fR0 : ((w.alloc (Obj.cells #[Value.bool (sgn x), Value.slice a (lms x).length ca] 41)).alloc (Obj.cells #[Value.bool false, Value.slice none 0 0] 41)).frozen? ⟨w.heap.size + 1, 0, none⟩ = false := by go_simp
  have kR1 : ((w.alloc (Obj.cells #[Value.bool (sgn x), Value.slice a (lms x).length ca] 41)).alloc (Obj.cells #[Value.bool false, Value.slice none 0 0] 41)).cell? ⟨w.heap.size + 1, 1, none⟩ = some (Value.slice none 0 0) := by go_simp
  have fR1 : ((w.alloc (Obj.cells #[Value.bool (sgn x), Value.slice a (lms x).length ca] 41)).alloc (Obj.cells #[Value.bool false, Value.slice none 0 0] 41)).frozen? ⟨w.heap.size + 1, 1, none⟩ = false := by go_simp
  have zR : w.heap.size + 1 < ((w.alloc (Obj.cells #[Value.bool (sgn x), Value.slice a (lms x).length ca] 41)).alloc (Obj.cells #[Value.bool false, Value.slice none 0 0] 41)).heap.size := by simp only [World.size_alloc]; omega
  have HB := hide (bl_alloc (bl_alloc (bl_refl w) (Obj.cells #[Value.bool (sgn x), Value.slice a (lms x).length ca] 41)) (Obj.cells #[Value.bool false, Value.slice none 0 0] 41))
  replace HA := hide (HA.out.below HB.out)
  have y0 : w.heap.size + 2 ≤ ((w.alloc (Obj.cells #[Value.bool (sgn x), Value.slice a (lms x).length ca] 41)).alloc (Obj.cells #[Value.bool false, Value.slice none 0 0] 41)).heap.size := by simp only [World.size_alloc]; omega
  go_enter Tryz.func79, Tryz.ntmps79
  go_wp2_with fail
  generalize ((w.alloc (Obj.cells #[Value.bool (sgn x), Value.slice a (lms x).length ca] 41)).alloc (Obj.cells #[Value.bool false, Value.slice none 0 0] 41)) = w1 at *
  refine (cloneI a _ ca (lms x) _ HA.out l1).mono ?_
  rintro e w2 ⟨a2, c2, rfl, ho2, hbw2⟩
  have yw2 := hbw2.size
  replace kA0 := (hbw2.cell (p := ⟨w.heap.size, 0, none⟩) zA).trans kA0
  replace kA1 := (hbw2.cell (p := ⟨w.heap.size, 1, none⟩) zA).trans kA1
  replace zA := Nat.lt_of_lt_of_le zA hbw2.size
  replace kR0 := (hbw2.cell (p := ⟨w.heap.size + 1, 0, none⟩) zR).trans kR0
  replace fR0 := (hbw2.frozen (p := ⟨w.heap.size + 1, 0, none⟩) zR).trans fR0
  replace kR1 := (hbw2.cell (p := ⟨w.heap.size + 1, 1, none⟩) zR).trans kR1
  replace fR1 := (hbw2.frozen (p := ⟨w.heap.size + 1, 1, none⟩) zR).trans fR1
  replace zR := Nat.lt_of_lt_of_le zR hbw2.size
  replace HA := hide (HA.out.below hbw2)
  replace HB := hide (bl_trans HB.out hbw2)
  clear hbw2
  have HO := hide ho2
  clear ho2
  go_wp2_with fail
  refine bodyPost_ret (v := .agg #[.bool false, .slice a2 (lms x).length c2]) (by simp [results, Tryz.results79, go_sem, kR0, kR1]) rfl ?_
  have e1 : lms (x.natAbs : Int) = lms x := by unfold lms; rw [Int.natAbs_natCast]
  have e2 : sgn (x.natAbs : Int) = false := decide_eq_false (by omega)
  refine ⟨_, rfl, ⟨a2, c2, by rw [e1, e2], ?_⟩, ?_⟩
  · rw [e1]; exact ((HO.out.setCell (p := ⟨w.heap.size + 1, 0, none⟩) (by dsimp only; omega) _).setCell (p := ⟨w.heap.size + 1, 1, none⟩) (by dsimp only; omega) _).mono (by omega)
  · exact (HB.out.setCell (p := ⟨w.heap.size + 1, 0, none⟩) (by dsimp only; omega) _).setCell (p := ⟨w.heap.size + 1, 1, none⟩) (by dsimp only; omega) _

theorem lms_nat' (m : Nat) : lms (m : Int) = Num.limbs m := by unfold lms; rw [Int.natAbs_natCast]

set_option maxHeartbeats 4000000 in
set_option maxRecDepth 20000 in
theorem gcdI (v1 v2 : Value) (x y : Int) (w : World) (h1 : Is w v1 x) (h2 : Is w v2 y) (l1 : (lms x).length ≤ 400000) (l2 : (lms y).length ≤ 400000) :
    Calls Tryz.prog 68 #[v1, v2] w fun e w' => ∃ v, e = .returned v ∧ New w' w.heap.size v (Int.gcd x y : Int) ∧ Below w.heap.size w w' := by
  obtain ⟨a, ca, rfl, ha⟩ := h1
  obtain ⟨b, cb, rfl, hb⟩ := h2
  have HA := hide ha
  have HBB := hide hb
  clear ha hb
  have kA0 : (((w.alloc (Obj.cells #[Value.bool (sgn x), Value.slice a (lms x).length ca] 41)).alloc (Obj.cells #[Value.bool (sgn y), Value.slice b (lms y).length cb] 41)).alloc (Obj.cells #[Value.bool false, Value.slice none 0 0] 41)).cell? ⟨w.heap.size, 0, none⟩ = some (Value.bool (sgn x)) := by go_simp
  have fA0 : (((w.alloc (Obj.cells #[Value.bool (sgn x), Value.slice a (lms x).length ca] 41)).alloc (Obj.cells #[Value.bool (sgn y), Value.slice b (lms y).length cb] 41)).alloc (Obj.cells #[Value.bool false, Value.slice none 0 0] 41)).frozen? ⟨w.heap.size, 0, none⟩ = false := by go_simp
  have kA1 : (((w.alloc (Obj.cells #[Value.bool (sgn x), Value.slice a (lms x).length ca] 41)).alloc (Obj.cells #[Value.bool (sgn y), Value.slice b (lms y).length cb] 41)).alloc (Obj.cells #[Value.bool false, Value.slice none 0 0] 41)).cell? ⟨w.heap.size, 1, none⟩ = some (Value.slice a (lms x).length ca) := by go_simp
  have fA1 : (((w.alloc (Obj.cells #[Value.bool (sgn x), Value.slice a (lms x).length ca] 41)).alloc (Obj.cells #[Value.bool (sgn y), Value.slice b (lms y).length cb] 41)).alloc (Obj.cells #[Value.bool false, Value.slice none 0 0] 41)).frozen? ⟨w.heap.size, 1, none⟩ = false := by go_simp
  have zA : w.heap.size < (((w.alloc (Obj.cells #[Value.bool (sgn x), Value.slice a (lms x).length ca] 41)).alloc (Obj.cells #[Value.bool (sgn y), Value.slice b (lms y).length cb] 41)).alloc (Obj.cells #[Value.bool false, Value.slice none 0 0] 41)).heap.size := by simp only [World.size_alloc]; omega
  have kB0 : (((w.alloc (Obj.cells #[Value.bool (sgn x), Value.slice a (lms x).length ca] 41)).alloc (Obj.cells #[Value.bool (sgn y), Value.slice b (lms y).length cb] 41)).alloc (Obj.cells #[Value.bool false, Value.slice none 0 0] 41)).cell? ⟨w.heap.size + 1, 0, none⟩ = some (Value.bool (sgn y)) := by go_simp
  have fB0 : (((w.alloc (Obj.cells #[Value.bool (sgn x), Value.slice a (lms x).length ca] 41)).alloc (Obj.cells #[Value.bool (sgn y), Value.slice b (lms y).length cb] 41)).alloc (Obj.cells #[Value.bool false, Value.slice none 0 0] 41)).frozen? ⟨w.heap.size + 1, 0, none⟩ = false := by go_simp
  have kB1 : (((w.alloc (Obj.cells #[Value.bool (sgn x), Value.slice a (lms x).length ca] 41)).alloc (Obj.cells #[Value.bool (sgn y), Value.slice b (lms y).length cb] 41)).alloc (Obj.cells #[Value.bool false, Value.slice none 0 0] 41)).cell? ⟨w.heap.size + 1, 1, none⟩ = some (Value.slice b (lms y).length cb) := by go_simp
  have fB1 : (((w.alloc (Obj.cells #[Value.bool (sgn x), Value.slice a (lms x).length ca] 41)).alloc (Obj.cells #[Value.bool (sgn y), Value.slice b (lms y).length cb] 41)).alloc (Obj.cells #[Value.bool false, Value.slice none 0 0] 41)).frozen? ⟨w.heap.size + 1, 1, none⟩ = false := by go_simp
  have zB : w.heap.size + 1 < (((w.alloc (Obj.cells #[Value.bool (sgn x), Value.slice a (lms x).length ca] 41)).alloc (Obj.cells #[Value.bool (sgn y), Value.slice b (lms y).length cb] 41)).alloc (Obj.cells #[Value.bool false, Value.slice none 0 0] 41)).heap.size := by simp only [World.size_alloc]; omega
  have kR0 : (((w.alloc (Obj.cells #[Value.bool (sgn x), Value.slice a (lms x).length ca] 41)).alloc (Obj.cells #[Value.bool (sgn y), Value.slice b (lms y).length cb] 41)).alloc (Obj.cells #[Value.bool false, Value.slice none 0 0] 41)).cell? ⟨w.heap.size + 1 + 1, 0, none⟩ = some (Value.bool false) := by go_simp
  have fR0 : (((w.alloc (Obj.cells #[Value.bool (sgn x), Value.slice a (lms x).length ca] 41)).alloc (Obj.cells #[Value.bool (sgn y), Value.slice b (lms y).length cb] 41)).alloc (Obj.cells #[Value.bool false, Value.slice none 0 0] 41)).frozen? ⟨w.heap.size + 1 + 1, 0, none⟩ = false := by go_simp
  have kR1 : (((w.alloc (Obj.cells #[Value.bool (sgn x), Value.slice a (lms x).length ca] 41)).alloc (Obj.cells #[Value.bool (sgn y), Value.slice b (lms y).length cb] 41)).alloc (Obj.cells #[Value.bool false, Value.slice none 0 0] 41)).cell? ⟨w.heap.size + 1 + 1, 1, none⟩ = some (Value.slice none 0 0) := by go_simp
  have fR1 : (((w.alloc (Obj.cells #[Value.bool (sgn x), Value.slice a (lms x).length ca] 41)).alloc (Obj.cells #[Value.bool (sgn y), Value.slice b (lms y).length cb] 41)).alloc (Obj.cells #[Value.bool false, Value.slice none 0 0] 41)).frozen? ⟨w.heap.size + 1 + 1, 1, none⟩ = false := by go_simp
  have zR : w.heap.size + 1 + 1 < (((w.alloc (Obj.cells #[Value.bool (sgn x), Value.slice a (lms x).length ca] 41)).alloc (Obj.cells #[Value.bool (sgn y), Value.slice b (lms y).length cb] 41)).alloc (Obj.cells #[Value.bool false, Value.slice none 0 0] 41)).heap.size := by simp only [World.size_alloc]; omega
  have HB := hide (bl_alloc (bl_alloc (bl_alloc (bl_refl w) (Obj.cells #[Value.bool (sgn x), Value.slice a (lms x).length ca] 41)) (Obj.cells #[Value.bool (sgn y), Value.slice b (lms y).length cb] 41)) (Obj.cells #[Value.bool false, Value.slice none 0 0] 41))
  replace HA := hide (HA.out.below HB.out)
  replace HBB := hide (HBB.out.below HB.out)
  have y0 : w.heap.size + 3 ≤ (((w.alloc (Obj.cells #[Value.bool (sgn x), Value.slice a (lms x).length ca] 41)).alloc (Obj.cells #[Value.bool (sgn y), Value.slice b (lms y).length cb] 41)).alloc (Obj.cells #[Value.bool false, Value.slice none 0 0] 41)).heap.size := by simp only [World.size_alloc]; omega
  go_enter Tryz.func68, Tryz.ntmps68
  go_upto_region 1 with fail
  generalize (((w.alloc (Obj.cells #[Value.bool (sgn x), Value.slice a (lms x).length ca] 41)).alloc (Obj.cells #[Value.bool (sgn y), Value.slice b (lms y).length cb] 41)).alloc (Obj.cells #[Value.bool false, Value.slice none 0 0] 41)) = w1 at *
  go_cut [] (fun wc => ∃ ap cp aq cq, Hid (GSt w wc (w.heap.size) (w.heap.size + 1) (w.heap.size + 1 + 1) w1.heap.size (x.natAbs : Int) (y.natAbs : Int) ap cp aq cq))
  case first =>
    have qA0 := kA0
    have qA1 := kA1
    have qB0 := kB0
    have qB1 := kB1
    have qR0 := kR0
    have qR1 := kR1
    go_region_with (first
      | (go_at_call_of 79 (Value.agg #[Value.bool (sgn x), Value.slice a (lms x).length ca]); refine (sizeI (Value.agg #[Value.bool (sgn x), Value.slice a (lms x).length ca]) x _ ⟨a, ca, rfl, HA.out.below (bl_refl w1).drew⟩ (by omega)).mono ?_; rintro e wA ⟨vA, rfl, hnA, hbA⟩; have bA : Below w1.heap.size w1 wA := (bl_refl w1).drew.trans hbA; have yA := bA.size; have kA0 := (bA.cell (p := ⟨w.heap.size, 0, none⟩) zA).trans kA0; have kA1 := (bA.cell (p := ⟨w.heap.size, 1, none⟩) zA).trans kA1; have kB0 := (bA.cell (p := ⟨w.heap.size + 1, 0, none⟩) zB).trans kB0; have kB1 := (bA.cell (p := ⟨w.heap.size + 1, 1, none⟩) zB).trans kB1)
      | (go_at_call_of 79 (Value.agg #[Value.bool (sgn y), Value.slice b (lms y).length cb]); refine (sizeI (Value.agg #[Value.bool (sgn y), Value.slice b (lms y).length cb]) y _ ⟨b, cb, rfl, HBB.out.below bA⟩ (by omega)).mono ?_; rintro e wB ⟨vB, rfl, hnB, hbB⟩; have bB : Below w1.heap.size w1 wB := bl_trans bA hbB; have yB := hbB.size; obtain ⟨aA, cA, rfl, hoA⟩ := hnA; obtain ⟨aB, cB, rfl, hoB⟩ := hnB; have OA := hide ((hoA.below hbB).mono (base' := w1.heap.size) (by first | exact Nat.le_refl _ | (rw [World.size_drew]))); have OB := hide (hoB.mono (base' := w1.heap.size) yA); have kA0 := (bB.cell (p := ⟨w.heap.size, 0, none⟩) zA).trans qA0; have kA1 := (bB.cell (p := ⟨w.heap.size, 1, none⟩) zA).trans qA1; have kB0 := (bB.cell (p := ⟨w.heap.size + 1, 0, none⟩) zB).trans qB0; have kB1 := (bB.cell (p := ⟨w.heap.size + 1, 1, none⟩) zB).trans qB1; have kR0 := (bB.cell (p := ⟨w.heap.size + 1 + 1, 0, none⟩) zR).trans qR0; have kR1 := (bB.cell (p := ⟨w.heap.size + 1 + 1, 1, none⟩) zR).trans qR1; have fA0 := (bB.frozen (p := ⟨w.heap.size, 0, none⟩) zA).trans fA0; have fA1 := (bB.frozen (p := ⟨w.heap.size, 1, none⟩) zA).trans fA1; have fB0 := (bB.frozen (p := ⟨w.heap.size + 1, 0, none⟩) zB).trans fB0; have fB1 := (bB.frozen (p := ⟨w.heap.size + 1, 1, none⟩) zB).trans fB1; have fR0 := (bB.frozen (p := ⟨w.heap.size + 1 + 1, 0, none⟩) zR).trans fR0; have fR1 := (bB.frozen (p := ⟨w.heap.size + 1 + 1, 1, none⟩) zR).trans fR1; clear hoA hoB hbA hbB))
    all_goals (go_wp2_with fail; go_meet)
    all_goals exact ⟨aA, cA, aB, cB, hide (gst_init kA0 kA1 kB0 kB1 kR0 kR1 fA0 fA1 fB0 fB1 fR0 fR1 (by omega) (by omega) (by omega) (by omega) OA.out OB.out (bl_trans HB.out bB) (by omega) (by omega) (by omega) (by omega) (by omega))⟩
  case rest =>
  obtain ⟨ap, cp, aq, cq, hG⟩ := hcut
  clear kA0 kA1 kB0 kB1 kR0 kR1 fA0 fA1 fB0 fB1 fR0 fR1 HA HBB HB
  have l1' : (lms (x.natAbs : Int)).length ≤ 400000 := by unfold lms; rw [Int.natAbs_natCast]; exact l1
  have l2' : (lms (y.natAbs : Int)).length ≤ 400000 := by unfold lms; rw [Int.natAbs_natCast]; exact l2
  go_wp2_with fail
  go_loopg [] y.natAbs (fun gk wr => ∃ (p q : Nat) (ap : Option Addr) (cp : Nat) (aq : Option Addr) (cq : Nat), (lms (p : Int)).length ≤ 400000 ∧ (lms (q : Int)).length ≤ 400000 ∧ Hid (gk = q) ∧ Hid (Nat.gcd p q = Int.gcd x y) ∧ Hid (GSt w wr (w.heap.size) (w.heap.size + 1) (w.heap.size + 1 + 1) w1.heap.size (p : Int) (q : Int) ap cp aq cq))
  case atStart => exact ⟨x.natAbs, y.natAbs, ap, cp, aq, cq, l1', l2', hide rfl, hide rfl, hG⟩
  case round =>
    clear hG l1' l2'
    obtain ⟨p, q, ap, cp, aq, cq, hp, hq, hgk, hgcd, hG⟩ := hrel
    obtain ⟨kA0, kA1, kB0, kB1, kR0, kR1, fA0, fA1, fB0, fB1, fR0, fR1, zN, zM, zR, zB, oA, oB, bel⟩ := hG.out
    have HOA := hide oA
    have HOB := hide oB
    clear oA oB bel
    go_wp2_with fail
    refine (noughtI _ (sgn (q : Int)) (lms (q : Int)) _ ⟨aq, cq, rfl, HOB.out.seg⟩).mono ?_
    rintro e w2 ⟨rfl, hb2⟩
    rw [len_zero]
    replace hG := hide (hG.out.below hb2)
    clear kA0 kA1 kB0 kB1 kR0 kR1 fA0 fA1 fB0 fB1 fR0 fR1 zB HOA HOB
    obtain ⟨kA0, kA1, kB0, kB1, kR0, kR1, fA0, fA1, fB0, fB1, fR0, fR1, -, -, -, zB, oA, oB, bel⟩ := hG.out
    have HOA := hide oA
    have HOB := hide oB
    have y2 := hb2.size
    clear oA oB bel hb2
    by_cases hq0 : q = 0
    · rw [decide_eq_true (by omega)]
      have HE : Hid ((p : Int) = (Int.gcd x y : Int)) := hide (by rw [← hgcd.out, hq0, Nat.gcd_zero_right])
      go_wp2
      refine bodyPost_ret (v := .agg #[.bool (sgn (p : Int)), .slice ap (lms (p : Int)).length cp]) (by simp [results, Tryz.results68, go_sem, kR0, kR1]) rfl ?_
      rw [← HE.out]
      exact ⟨_, rfl, hG.out.fin (by omega) _ _⟩
    · rw [decide_eq_false (by omega)]
      go_wp2_with fail
      refine (divI (.agg #[.bool (sgn (p : Int)), .slice ap (lms (p : Int)).length cp]) (.agg #[.bool (sgn (q : Int)), .slice aq (lms (q : Int)).length cq]) p q _ ⟨ap, cp, rfl, HOA.out.seg⟩ ⟨aq, cq, rfl, HOB.out.seg⟩ (by omega) hp hq).mono ?_
      rintro e w3 ⟨a1, c1, a2, c2, rfl, ho1, ho2, hap, hb3⟩
      obtain ⟨r, hrr⟩ : ∃ r, p % q = r := ⟨_, rfl⟩
      have hr : ((p : Int) % (q : Int)) = (r : Int) := by rw [← hrr]; rfl
      have HRR := hide hrr
      rw [hr] at ho2 ⊢
      have y3 := hb3.size
      replace hG := hide (hG.out.below hb3)
      have z3 := hG.out.zB
      have HO2 := hide (ho2.mono (base' := w1.heap.size) (by omega))
      clear kA0 kA1 kB0 kB1 kR0 kR1 fA0 fA1 fB0 fB1 fR0 fR1 zB HOA HOB ho1 ho2 hap hb3 hr hrr
      go_upto_region 4 with fail
      have hb4 := bl_alloc (bl_alloc (bl_refl w3) (Obj.cells #[Value.bool (sgn ((p : Int) / (q : Int))), Value.slice a1 (lms ((p : Int) / (q : Int))).length c1] 41)) (Obj.cells #[Value.bool (sgn (r : Int)), Value.slice a2 (lms (r : Int)).length c2] 41)
      have kS0 : ((w3.alloc (Obj.cells #[Value.bool (sgn ((p : Int) / (q : Int))), Value.slice a1 (lms ((p : Int) / (q : Int))).length c1] 41)).alloc (Obj.cells #[Value.bool (sgn (r : Int)), Value.slice a2 (lms (r : Int)).length c2] 41)).cell? ⟨w3.heap.size + 1, 0, none⟩ = some (Value.bool (sgn (r : Int))) := by go_simp
      have kS1 : ((w3.alloc (Obj.cells #[Value.bool (sgn ((p : Int) / (q : Int))), Value.slice a1 (lms ((p : Int) / (q : Int))).length c1] 41)).alloc (Obj.cells #[Value.bool (sgn (r : Int)), Value.slice a2 (lms (r : Int)).length c2] 41)).cell? ⟨w3.heap.size + 1, 1, none⟩ = some (Value.slice a2 (lms (r : Int)).length c2) := by go_simp
      have y4 : w3.heap.size + 2 ≤ ((w3.alloc (Obj.cells #[Value.bool (sgn ((p : Int) / (q : Int))), Value.slice a1 (lms ((p : Int) / (q : Int))).length c1] 41)).alloc (Obj.cells #[Value.bool (sgn (r : Int)), Value.slice a2 (lms (r : Int)).length c2] 41)).heap.size := by simp only [World.size_alloc]; omega
      generalize ((w3.alloc (Obj.cells #[Value.bool (sgn ((p : Int) / (q : Int))), Value.slice a1 (lms ((p : Int) / (q : Int))).length c1] 41)).alloc (Obj.cells #[Value.bool (sgn (r : Int)), Value.slice a2 (lms (r : Int)).length c2] 41)) = w4 at *
      replace hG := hide (hG.out.below hb4)
      replace HO2 := hide (HO2.out.below hb4)
      clear hb4
      obtain ⟨kA0, kA1, kB0, kB1, kR0, kR1, fA0, fA1, fB0, fB1, fR0, fR1, -, -, -, zB4, oA, oB, bel⟩ := hG.out
      have HOB := hide oB
      clear oA oB bel
      have HL : Hid ((lms (r : Int)).length ≤ 400000) := hide (by rw [lms_nat'] at hp ⊢; rw [← HRR.out]; exact mod_len hp)
      have HGC : Hid (Nat.gcd q r = Int.gcd x y) := hide (by rw [← hgcd.out, ← HRR.out, Nat.gcd_comm, ← Nat.gcd_rec, Nat.gcd_comm])
      have HLT : Hid (r < gk) := hide (by rw [hgk.out, ← HRR.out]; exact Nat.mod_lt _ (by omega))
      have HFIN := hide (GSt.set2 (GSt.set1 (hG.out.below (bl_refl w4).drew) (r := (q : Int)) (HOB.out.below (bl_refl w4).drew) (by omega) (by omega) (by omega)) (r := (r : Int)) (((HO2.out.below (bl_refl w4).drew).setCell (p := ⟨w.heap.size, 0, none⟩) (by dsimp only; omega) (.bool (sgn (q : Int)))).setCell (p := ⟨w.heap.size, 1, none⟩) (by dsimp only; omega) (.slice aq (lms (q : Int)).length cq)) (by omega) (by omega) (by omega))
      clear HO2 HOB hG hgcd hgk
      have e1 : ¬ w.heap.size = w3.heap.size + 1 := by omega
      have e2 : ¬ w3.heap.size + 1 = w.heap.size := by omega
      have e3 : ¬ w.heap.size = w3.heap.size := by omega
      have e4 : ¬ w3.heap.size = w.heap.size := by omega
      go_region
      all_goals go_wp2_with fail
      all_goals go_roundg r
      all_goals first | exact HLT.out | exact ⟨q, r, _, _, _, _, hq, HL.out, hide rfl, HGC, HFIN⟩

end Go.Proofs.YteeifaleneneeaaGreatDoor

/- The walks of isOne, the method right and RatOk of the program. -/
namespace Go.Proofs.YteeifaleneneeaaGreatDoor
open Go.RowKit
set_option linter.unusedVariables false

theorem cmp_one (x : Int) : (cmpZ x 1 == 0) = decide (x = 1) := by
  unfold cmpZ
  by_cases h : x < 1
  · simp [h]; omega
  · by_cases h2 : 1 < x
    · simp [h, h2]; omega
    · have : x = 1 := by omega
      simp [this]

set_option maxHeartbeats 4000000 in
set_option maxRecDepth 20000 in
theorem isOneI (v1 : Value) (x : Int) (w : World) (h1 : Is w v1 x) :
    Calls Tryz.prog 72 #[v1] w fun e w' => e = .returned (.bool (decide (x = 1))) ∧ Below w.heap.size w w' := by
  obtain ⟨a, ca, rfl, ha⟩ := h1
  have HA := hide ha
  clear ha
  have HE := hide (cmp_one x)
  have kA0 : (w.alloc (Obj.cells #[Value.bool (sgn x), Value.slice a (lms x).length ca] 41)).cell? ⟨w.heap.size, 0, none⟩ = some (Value.bool (sgn x)) := by go_simp
  have kA1 : (w.alloc (Obj.cells #[Value.bool (sgn x), Value.slice a (lms x).length ca] 41)).cell? ⟨w.heap.size, 1, none⟩ = some (Value.slice a (lms x).length ca) := by go_simp
  have zA : w.heap.size < (w.alloc (Obj.cells #[Value.bool (sgn x), Value.slice a (lms x).length ca] 41)).heap.size := by simp only [World.size_alloc]; omega
  have HB := hide (bl_alloc (bl_refl w) (Obj.cells #[Value.bool (sgn x), Value.slice a (lms x).length ca] 41))
  replace HA := hide (HA.out.below HB.out)
  have y0 : w.heap.size + 1 ≤ (w.alloc (Obj.cells #[Value.bool (sgn x), Value.slice a (lms x).length ca] 41)).heap.size := by simp only [World.size_alloc]; omega
  go_enter Tryz.func72, Tryz.ntmps72
  go_wp2_with fail
  generalize (w.alloc (Obj.cells #[Value.bool (sgn x), Value.slice a (lms x).length ca] 41)) = w1 at *
  go_region_held3 (fun w' => w'.cell? ⟨w.heap.size, 0, none⟩ = some (Value.bool (sgn x)) ∧ w'.cell? ⟨w.heap.size, 1, none⟩ = some (Value.slice a (lms x).length ca))
    (first
      | exact ⟨(by (try rw [World.cell?_drew]); first | with_reducible assumption), (by (try rw [World.cell?_drew]); first | with_reducible assumption)⟩)
    (first
      | (go_at_call 40; refine (fromI 1 _ (by decide) (by decide)).mono ?_; rintro e w2 ⟨v1, rfl, hn1, hbw2r⟩; have hbw2 : Below w1.heap.size w1 w2 := (bl_refl w1).drew.trans hbw2r; have yw2 := hbw2.size; have kA0 := (hbw2r.cell (p := ⟨w.heap.size, 0, none⟩) (by dsimp only; rw [World.size_drew]; omega)).trans kA0; have kA1 := (hbw2r.cell (p := ⟨w.heap.size, 1, none⟩) (by dsimp only; rw [World.size_drew]; omega)).trans kA1)
      | (go_at_call 83; refine (cmpBI (.agg #[.bool (sgn x), .slice a (lms x).length ca]) v1 x 1 _ ⟨a, ca, rfl, HA.out.below (hbw2)⟩ hn1.is).mono ?_; rintro e w3 ⟨rfl, hbw3r⟩; have hbw3 : Below w1.heap.size w1 w3 := bl_trans hbw2 hbw3r; have yw3 := hbw3.size; have kA0 := (hbw3r.cell (p := ⟨w.heap.size, 0, none⟩) (by dsimp only; omega)).trans kA0; have kA1 := (hbw3r.cell (p := ⟨w.heap.size, 1, none⟩) (by dsimp only; omega)).trans kA1))
  have HB2 := hide (bl_trans HB.out hbw3)
  go_wp2
  go_ret
  exact ⟨ret_bool HE.out, HB2.out⟩

def ratB (n : Bool) (xs : List Nat) (m : Bool) (ys : List Nat) : Bool := okB n xs && okB m ys && (decide (0 < mk m (Num.nat ys)) && decide (Int.gcd (mk n (Num.nat xs)) (mk m (Num.nat ys)) = 1))

set_option maxHeartbeats 4000000 in
set_option maxRecDepth 20000 in
theorem rightI (n : Bool) (xs : List Nat) (m : Bool) (ys : List Nat) (a : Option Addr) (c : Nat) (b : Option Addr) (d : Nat) (w : World) (s1 : Seg w a xs.length c xs) (s2 : Seg w b ys.length d ys) :
    Calls Tryz.prog 61 #[(.agg #[.bool n, .slice a xs.length c, .bool m, .slice b ys.length d])] w fun e w' => e = .returned (.bool (ratB n xs m ys)) ∧ Below w.heap.size w w' := by
  have H1 := hide s1
  have H2 := hide s2
  clear s1 s2
  have kA0 : (w.alloc (Obj.cells #[Value.bool n, Value.slice a xs.length c, Value.bool m, Value.slice b ys.length d] 43)).cell? ⟨w.heap.size, 0, none⟩ = some (Value.bool n) := by go_simp
  have kA1 : (w.alloc (Obj.cells #[Value.bool n, Value.slice a xs.length c, Value.bool m, Value.slice b ys.length d] 43)).cell? ⟨w.heap.size, 1, none⟩ = some (Value.slice a xs.length c) := by go_simp
  have kA2 : (w.alloc (Obj.cells #[Value.bool n, Value.slice a xs.length c, Value.bool m, Value.slice b ys.length d] 43)).cell? ⟨w.heap.size, 2, none⟩ = some (Value.bool m) := by go_simp
  have kA3 : (w.alloc (Obj.cells #[Value.bool n, Value.slice a xs.length c, Value.bool m, Value.slice b ys.length d] 43)).cell? ⟨w.heap.size, 3, none⟩ = some (Value.slice b ys.length d) := by go_simp
  have zA : w.heap.size < (w.alloc (Obj.cells #[Value.bool n, Value.slice a xs.length c, Value.bool m, Value.slice b ys.length d] 43)).heap.size := by simp only [World.size_alloc]; omega
  have HB := hide (bl_alloc (bl_refl w) (Obj.cells #[Value.bool n, Value.slice a xs.length c, Value.bool m, Value.slice b ys.length d] 43))
  replace H1 := hide (H1.out.below HB.out)
  replace H2 := hide (H2.out.below HB.out)
  have y0 : w.heap.size + 1 ≤ (w.alloc (Obj.cells #[Value.bool n, Value.slice a xs.length c, Value.bool m, Value.slice b ys.length d] 43)).heap.size := by simp only [World.size_alloc]; omega
  go_enter Tryz.func61, Tryz.ntmps61
  go_wp2_with fail
  generalize (w.alloc (Obj.cells #[Value.bool n, Value.slice a xs.length c, Value.bool m, Value.slice b ys.length d] 43)) = w1 at *
  refine (okI _ n xs _ ⟨a, c, rfl, H1.out⟩).mono ?_
  rintro e w2 ⟨rfl, hbw2⟩
  have yw2 := hbw2.size
  replace kA0 := (hbw2.cell (p := ⟨w.heap.size, 0, none⟩) zA).trans kA0
  replace kA1 := (hbw2.cell (p := ⟨w.heap.size, 1, none⟩) zA).trans kA1
  replace kA2 := (hbw2.cell (p := ⟨w.heap.size, 2, none⟩) zA).trans kA2
  replace kA3 := (hbw2.cell (p := ⟨w.heap.size, 3, none⟩) zA).trans kA3
  replace zA := Nat.lt_of_lt_of_le zA hbw2.size
  replace H1 := hide (H1.out.below hbw2)
  replace H2 := hide (H2.out.below hbw2)
  replace HB := hide (bl_trans HB.out hbw2)
  clear hbw2
  cases e1 : okB n xs with
  | false =>
    have HE : Hid (ratB n xs m ys = false) := hide (by unfold ratB; rw [e1]; rfl)
    clear e1
    go_wp2
    go_ret
    exact ⟨ret_bool HE.out.symm, HB.out⟩
  | true =>
  have E1 := hide e1
  clear e1
  go_wp2_with fail
  refine (okI _ m ys _ ⟨b, d, rfl, H2.out⟩).mono ?_
  rintro e w3 ⟨rfl, hbw3⟩
  have yw3 := hbw3.size
  replace kA0 := (hbw3.cell (p := ⟨w.heap.size, 0, none⟩) zA).trans kA0
  replace kA1 := (hbw3.cell (p := ⟨w.heap.size, 1, none⟩) zA).trans kA1
  replace kA2 := (hbw3.cell (p := ⟨w.heap.size, 2, none⟩) zA).trans kA2
  replace kA3 := (hbw3.cell (p := ⟨w.heap.size, 3, none⟩) zA).trans kA3
  replace zA := Nat.lt_of_lt_of_le zA hbw3.size
  replace H1 := hide (H1.out.below hbw3)
  replace H2 := hide (H2.out.below hbw3)
  replace HB := hide (bl_trans HB.out hbw3)
  clear hbw3
  cases e2 : okB m ys with
  | false =>
    have HE : Hid (ratB n xs m ys = false) := hide (by unfold ratB; rw [e2, Bool.and_false]; rfl)
    clear e2
    go_wp2
    go_ret
    exact ⟨ret_bool HE.out.symm, HB.out⟩
  | true =>
  have E2 := hide e2
  clear e2
  obtain ⟨x, rfl, rfl, hx⟩ := ok_num H1.out.2.2.2.1 E1.out
  obtain ⟨y, rfl, rfl, hy⟩ := ok_num H2.out.2.2.2.1 E2.out
  have HR : Hid (ratB (sgn x) (lms x) (sgn y) (lms y) = (decide (0 < y) && decide (Int.gcd x y = 1))) := hide (by unfold ratB; rw [E1.out, E2.out, nat_lms, nat_lms, mk_self, mk_self]; rfl)
  have lx : (lms x).length ≤ 40 := Num.limbs_len.2 hx
  have ly : (lms y).length ≤ 40 := Num.limbs_len.2 hy
  clear hx hy
  go_wp2_with fail
  refine (signI _ y _ ⟨b, d, rfl, H2.out⟩).mono ?_
  rintro e w4 ⟨rfl, hbw4⟩
  have yw4 := hbw4.size
  replace kA0 := (hbw4.cell (p := ⟨w.heap.size, 0, none⟩) zA).trans kA0
  replace kA1 := (hbw4.cell (p := ⟨w.heap.size, 1, none⟩) zA).trans kA1
  replace kA2 := (hbw4.cell (p := ⟨w.heap.size, 2, none⟩) zA).trans kA2
  replace kA3 := (hbw4.cell (p := ⟨w.heap.size, 3, none⟩) zA).trans kA3
  replace zA := Nat.lt_of_lt_of_le zA hbw4.size
  replace H1 := hide (H1.out.below hbw4)
  replace H2 := hide (H2.out.below hbw4)
  replace HB := hide (bl_trans HB.out hbw4)
  clear hbw4
  by_cases hy0 : 0 < y
  · have hs : (0 : Int) < Int.sign y := by rw [Int.sign_eq_one_of_pos hy0]; decide
    generalize Int.sign y = sy at *
    go_wp2_with fail
    refine (gcdI _ _ x y _ ⟨a, c, rfl, H1.out⟩ ⟨b, d, rfl, H2.out⟩ (by omega) (by omega)).mono ?_
    rintro e w5 ⟨v5, rfl, hn5, hbw5⟩
    have yw5 := hbw5.size
    replace kA0 := (hbw5.cell (p := ⟨w.heap.size, 0, none⟩) zA).trans kA0
    replace kA1 := (hbw5.cell (p := ⟨w.heap.size, 1, none⟩) zA).trans kA1
    replace kA2 := (hbw5.cell (p := ⟨w.heap.size, 2, none⟩) zA).trans kA2
    replace kA3 := (hbw5.cell (p := ⟨w.heap.size, 3, none⟩) zA).trans kA3
    replace zA := Nat.lt_of_lt_of_le zA hbw5.size
    replace H1 := hide (H1.out.below hbw5)
    replace H2 := hide (H2.out.below hbw5)
    replace HB := hide (bl_trans HB.out hbw5)
    have HN := hide hn5.is
    obtain ⟨a5, c5, rfl, ho5⟩ := hn5
    clear ho5
    clear hbw5
    go_wp2_with fail
    refine (isOneI _ (Int.gcd x y : Int) _ HN.out).mono ?_
    rintro e w6 ⟨rfl, hbw6⟩
    have yw6 := hbw6.size
    replace kA0 := (hbw6.cell (p := ⟨w.heap.size, 0, none⟩) zA).trans kA0
    replace kA1 := (hbw6.cell (p := ⟨w.heap.size, 1, none⟩) zA).trans kA1
    replace kA2 := (hbw6.cell (p := ⟨w.heap.size, 2, none⟩) zA).trans kA2
    replace kA3 := (hbw6.cell (p := ⟨w.heap.size, 3, none⟩) zA).trans kA3
    replace zA := Nat.lt_of_lt_of_le zA hbw6.size
    replace H1 := hide (H1.out.below hbw6)
    replace H2 := hide (H2.out.below hbw6)
    replace HN := hide (HN.out.below hbw6)
    replace HB := hide (bl_trans HB.out hbw6)
    clear hbw6
    have HE : Hid (ratB (sgn x) (lms x) (sgn y) (lms y) = decide ((Int.gcd x y : Int) = 1)) := hide (by rw [HR.out, decide_eq_true hy0, Bool.true_and]; exact decide_eq_decide.2 (by omega))
    generalize decide ((Int.gcd x y : Int) = 1) = t at *
    go_wp2
    go_ret
    exact ⟨ret_bool HE.out.symm, HB.out⟩
  · have hs : ¬ (0 : Int) < Int.sign y := by have := Int.sign_nonpos_iff.2 (show y ≤ 0 by omega); omega
    generalize Int.sign y = sy at *
    have HE : Hid (ratB (sgn x) (lms x) (sgn y) (lms y) = false) := hide (by rw [HR.out, decide_eq_false hy0]; rfl)
    go_wp2
    go_ret
    exact ⟨ret_bool HE.out.symm, HB.out⟩

end Go.Proofs.YteeifaleneneeaaGreatDoor

/- The walk of l02Gcd. -/
namespace Go.Proofs.YteeifaleneneeaaGreatDoor
open Go.RowKit
set_option linter.unusedVariables false

theorem mk_nat_lms (x : Int) : mk false (Num.nat (lms x)) = (x.natAbs : Int) := by rw [nat_lms]; rfl
theorem OwnR.below {W W' : World} {lo hi : Nat} {a : Option Addr} {n cap : Nat} {xs : List Nat} (h : OwnR W lo hi a n cap xs) (hb : Below W.heap.size W W') : OwnR W' lo hi a n cap xs := ⟨h.1.below hb, h.2⟩

set_option maxHeartbeats 8000000 in
set_option maxRecDepth 20000 in
theorem gcdS (v1 v2 : Value) (x y : Int) (w : World) (h1 : Is w v1 x) (h2 : Is w v2 y) (l1 : (lms x).length ≤ 100000) (l2 : (lms y).length ≤ 100000) :
    Calls Tryz.prog 45 #[v1, v2] w fun e w' => ∃ v, e = .returned v ∧ IsB w' w.heap.size v (Int.gcd x y : Int) ∧ Below w.heap.size w w' := by
  obtain ⟨a, ca, rfl, ha⟩ := h1
  obtain ⟨b, cb, rfl, hb⟩ := h2
  have HA := hide ha
  have HBB := hide hb
  clear ha hb
  have kA0 : (((w.alloc (Obj.cells #[Value.bool (sgn x), Value.slice a (lms x).length ca] 41)).alloc (Obj.cells #[Value.bool (sgn y), Value.slice b (lms y).length cb] 41)).alloc (Obj.cells #[Value.bool false, Value.slice none 0 0] 41)).cell? ⟨w.heap.size, 0, none⟩ = some (Value.bool (sgn x)) := by go_simp
  have kA1 : (((w.alloc (Obj.cells #[Value.bool (sgn x), Value.slice a (lms x).length ca] 41)).alloc (Obj.cells #[Value.bool (sgn y), Value.slice b (lms y).length cb] 41)).alloc (Obj.cells #[Value.bool false, Value.slice none 0 0] 41)).cell? ⟨w.heap.size, 1, none⟩ = some (Value.slice a (lms x).length ca) := by go_simp
  have zA : w.heap.size < (((w.alloc (Obj.cells #[Value.bool (sgn x), Value.slice a (lms x).length ca] 41)).alloc (Obj.cells #[Value.bool (sgn y), Value.slice b (lms y).length cb] 41)).alloc (Obj.cells #[Value.bool false, Value.slice none 0 0] 41)).heap.size := by simp only [World.size_alloc]; omega
  have kB0 : (((w.alloc (Obj.cells #[Value.bool (sgn x), Value.slice a (lms x).length ca] 41)).alloc (Obj.cells #[Value.bool (sgn y), Value.slice b (lms y).length cb] 41)).alloc (Obj.cells #[Value.bool false, Value.slice none 0 0] 41)).cell? ⟨w.heap.size + 1, 0, none⟩ = some (Value.bool (sgn y)) := by go_simp
  have kB1 : (((w.alloc (Obj.cells #[Value.bool (sgn x), Value.slice a (lms x).length ca] 41)).alloc (Obj.cells #[Value.bool (sgn y), Value.slice b (lms y).length cb] 41)).alloc (Obj.cells #[Value.bool false, Value.slice none 0 0] 41)).cell? ⟨w.heap.size + 1, 1, none⟩ = some (Value.slice b (lms y).length cb) := by go_simp
  have zB : w.heap.size + 1 < (((w.alloc (Obj.cells #[Value.bool (sgn x), Value.slice a (lms x).length ca] 41)).alloc (Obj.cells #[Value.bool (sgn y), Value.slice b (lms y).length cb] 41)).alloc (Obj.cells #[Value.bool false, Value.slice none 0 0] 41)).heap.size := by simp only [World.size_alloc]; omega
  have kR0 : (((w.alloc (Obj.cells #[Value.bool (sgn x), Value.slice a (lms x).length ca] 41)).alloc (Obj.cells #[Value.bool (sgn y), Value.slice b (lms y).length cb] 41)).alloc (Obj.cells #[Value.bool false, Value.slice none 0 0] 41)).cell? ⟨w.heap.size + 1 + 1, 0, none⟩ = some (Value.bool false) := by go_simp
  have fR0 : (((w.alloc (Obj.cells #[Value.bool (sgn x), Value.slice a (lms x).length ca] 41)).alloc (Obj.cells #[Value.bool (sgn y), Value.slice b (lms y).length cb] 41)).alloc (Obj.cells #[Value.bool false, Value.slice none 0 0] 41)).frozen? ⟨w.heap.size + 1 + 1, 0, none⟩ = false := by go_simp
  have kR1 : (((w.alloc (Obj.cells #[Value.bool (sgn x), Value.slice a (lms x).length ca] 41)).alloc (Obj.cells #[Value.bool (sgn y), Value.slice b (lms y).length cb] 41)).alloc (Obj.cells #[Value.bool false, Value.slice none 0 0] 41)).cell? ⟨w.heap.size + 1 + 1, 1, none⟩ = some (Value.slice none 0 0) := by go_simp
  have fR1 : (((w.alloc (Obj.cells #[Value.bool (sgn x), Value.slice a (lms x).length ca] 41)).alloc (Obj.cells #[Value.bool (sgn y), Value.slice b (lms y).length cb] 41)).alloc (Obj.cells #[Value.bool false, Value.slice none 0 0] 41)).frozen? ⟨w.heap.size + 1 + 1, 1, none⟩ = false := by go_simp
  have zR : w.heap.size + 1 + 1 < (((w.alloc (Obj.cells #[Value.bool (sgn x), Value.slice a (lms x).length ca] 41)).alloc (Obj.cells #[Value.bool (sgn y), Value.slice b (lms y).length cb] 41)).alloc (Obj.cells #[Value.bool false, Value.slice none 0 0] 41)).heap.size := by simp only [World.size_alloc]; omega
  have HB := hide (bl_alloc (bl_alloc (bl_alloc (bl_refl w) (Obj.cells #[Value.bool (sgn x), Value.slice a (lms x).length ca] 41)) (Obj.cells #[Value.bool (sgn y), Value.slice b (lms y).length cb] 41)) (Obj.cells #[Value.bool false, Value.slice none 0 0] 41))
  replace HA := hide (HA.out.below HB.out)
  replace HBB := hide (HBB.out.below HB.out)
  have y0 : w.heap.size + 3 ≤ (((w.alloc (Obj.cells #[Value.bool (sgn x), Value.slice a (lms x).length ca] 41)).alloc (Obj.cells #[Value.bool (sgn y), Value.slice b (lms y).length cb] 41)).alloc (Obj.cells #[Value.bool false, Value.slice none 0 0] 41)).heap.size := by simp only [World.size_alloc]; omega
  go_enter Tryz.func45, Tryz.ntmps45
  go_upto_region 1 with fail
  generalize (((w.alloc (Obj.cells #[Value.bool (sgn x), Value.slice a (lms x).length ca] 41)).alloc (Obj.cells #[Value.bool (sgn y), Value.slice b (lms y).length cb] 41)).alloc (Obj.cells #[Value.bool false, Value.slice none 0 0] 41)) = w1 at *
  go_cut [5, 6] (fun s5 s6 wc => ∃ (N M : Nat) (ap : Option Addr) (cp : Nat) (aq : Option Addr) (cq : Nat), s5 = .pointer (some ⟨N, 0, none⟩) ∧ s6 = .pointer (some ⟨M, 0, none⟩) ∧ Hid (SSt w wc N M (w.heap.size + 1 + 1) (x.natAbs : Int) (y.natAbs : Int) ap cp aq cq))
  case first =>
    have KP : Hid (∀ w', Below w1.heap.size w1 w' → (w'.cell? ⟨w.heap.size, 1, none⟩ = some (Value.slice a (lms x).length ca) ∧ w'.cell? ⟨w.heap.size + 1, 1, none⟩ = some (Value.slice b (lms y).length cb) ∧ Hid (Below w1.heap.size w1 w'))) := hide (fun w' hb => ⟨(hb.cell (p := ⟨w.heap.size, 1, none⟩) zA).trans kA1, (hb.cell (p := ⟨w.heap.size + 1, 1, none⟩) zB).trans kB1, hb⟩)
    have TT := trivial
    go_region_held3 (fun w' => w'.cell? ⟨w.heap.size, 1, none⟩ = some (Value.slice a (lms x).length ca) ∧ w'.cell? ⟨w.heap.size + 1, 1, none⟩ = some (Value.slice b (lms y).length cb) ∧ Hid (Below w1.heap.size w1 w'))
      (first | exact KP.out _ (bl_refl w1).drew | exact KP.out _ bB | exact KP.out _ bA | exact KP.out _ (by repeat first | exact bB | exact bA | exact (bl_refl w1).drew | exact bl_refl w1 | refine bl_alloc ?_ _ | refine bl_trans ?_ (bl_refl _).drew | refine Below.setCell ?_ (by first | omega | (dsimp only; omega) | (dsimp only; rw [World.size_drew]; omega)) _))
      (first
        | (go_at_call 47; (fail_if_success have := armA); refine (makeS false a _ ca (lms x) _ (HA.out.below (Hid.out (And.right (And.right (by assumption))))) (by omega)).mono ?_; rintro e wA ⟨vA, rfl, hnA, hbA⟩; have bA : Below w1.heap.size w1 wA := bl_trans (Hid.out (And.right (And.right (by assumption)))) hbA; have yA := bA.size; rw [mk_nat_lms] at hnA; obtain ⟨aA, cA, rfl, hoA⟩ := hnA; have RA := hide hoA.range; (try simp only [World.size_drew] at RA); (try simp only [World.size_alloc] at RA); (first | (have HZa0 := hide (show Zr wA w1.heap.size from (born2 hbA).1); have HZa1 := hide (show Zr wA (w1.heap.size + 1) from (born2 hbA).2)) | (have HZa0 := hide (show Zr wA w1.heap.size from (born2 (bl_trans (bl_refl ((w1.alloc (Obj.cells #[Value.bool false, Value.slice none 0 0] 41)).alloc (Obj.cells #[Value.bool false, Value.slice none 0 0] 41))).drew hbA)).1); have HZa1 := hide (show Zr wA (w1.heap.size + 1) from (born2 (bl_trans (bl_refl ((w1.alloc (Obj.cells #[Value.bool false, Value.slice none 0 0] 41)).alloc (Obj.cells #[Value.bool false, Value.slice none 0 0] 41))).drew hbA)).2)) | have HZa0 := hide (show Zr wA w1.heap.size from born1 hbA) | have HZa0 := hide (show Zr wA w1.heap.size from born1 (bl_trans (bl_refl (w1.alloc (Obj.cells #[Value.bool false, Value.slice none 0 0] 41))).drew hbA)) | skip); (try have zza0 := HZa0.out.1); (try have zza1 := HZa1.out.1); have armA := TT; clear hoA hbA)
        | (go_at_call 47; have := armA; refine (makeS false b _ cb (lms y) _ (HBB.out.below (Hid.out (And.right (And.right (by assumption))))) (by omega)).mono ?_; rintro e wB ⟨vB, rfl, hnB, hbB⟩; have bB : Below w1.heap.size w1 wB := bl_trans (Hid.out (And.right (And.right (by assumption)))) hbB; have bAB : Below wA.heap.size wA wB := (by first | exact hbB | exact bl_one hbB | exact bl_two hbB); have yB := bAB.size; rw [mk_nat_lms] at hnB; obtain ⟨aB, cB, rfl, hoB⟩ := hnB; have RB := hide hoB.range; (try simp only [World.size_drew] at RB); (try simp only [World.size_alloc] at RB); replace RA := hide (RA.out.below bAB); (try replace HZa0 := hide (HZa0.out.below bAB)); (try replace HZa1 := hide (HZa1.out.below bAB)); (first | (have HZb0 := hide (show Zr wB wA.heap.size from (born2 hbB).1); have HZb1 := hide (show Zr wB (wA.heap.size + 1) from (born2 hbB).2)) | (have HZb0 := hide (show Zr wB wA.heap.size from (born2 (bl_trans (bl_refl ((wA.alloc (Obj.cells #[Value.bool false, Value.slice none 0 0] 41)).alloc (Obj.cells #[Value.bool false, Value.slice none 0 0] 41))).drew hbB)).1); have HZb1 := hide (show Zr wB (wA.heap.size + 1) from (born2 (bl_trans (bl_refl ((wA.alloc (Obj.cells #[Value.bool false, Value.slice none 0 0] 41)).alloc (Obj.cells #[Value.bool false, Value.slice none 0 0] 41))).drew hbB)).2)) | have HZb0 := hide (show Zr wB wA.heap.size from born1 hbB) | have HZb0 := hide (show Zr wB wA.heap.size from born1 (bl_trans (bl_refl (wA.alloc (Obj.cells #[Value.bool false, Value.slice none 0 0] 41))).drew hbB)) | skip); (try have Qa0 := HZa0.out); (try have Qa1 := HZa1.out); (try obtain ⟨za0, ka0_0, ka0_1, fa0_0, fa0_1⟩ := HZa0.out); (try obtain ⟨za1, ka1_0, ka1_1, fa1_0, fa1_1⟩ := HZa1.out); (try have Qb0 := HZb0.out); (try have Qb1 := HZb1.out); (try obtain ⟨zb0, kb0_0, kb0_1, fb0_0, fb0_1⟩ := HZb0.out); (try obtain ⟨zb1, kb1_0, kb1_1, fb1_0, fb1_1⟩ := HZb1.out); have kR0 := (bB.cell (p := ⟨w.heap.size + 1 + 1, 0, none⟩) zR).trans kR0; have kR1 := (bB.cell (p := ⟨w.heap.size + 1 + 1, 1, none⟩) zR).trans kR1; have fR0 := (bB.frozen (p := ⟨w.heap.size + 1 + 1, 0, none⟩) zR).trans fR0; have fR1 := (bB.frozen (p := ⟨w.heap.size + 1 + 1, 1, none⟩) zR).trans fR1; (try have := Nat.ne_of_lt za0); (try have := Nat.ne_of_lt za1); (try have := Nat.ne_of_lt zb0); (try have := Nat.ne_of_lt zb1); (try (have := za0; have := zb0; have : ¬ w1.heap.size = wA.heap.size := by omega)); (try (have := za0; have := zb1; have : ¬ w1.heap.size = wA.heap.size + 1 := by omega)); (try (have := za1; have := zb0; have : ¬ w1.heap.size + 1 = wA.heap.size := by omega)); (try (have := za1; have := zb1; have : ¬ w1.heap.size + 1 = wA.heap.size + 1 := by omega)); (try (have := zb0; have := za0; have : ¬ wA.heap.size = w1.heap.size := by omega)); (try (have := zb0; have := za1; have : ¬ wA.heap.size = w1.heap.size + 1 := by omega)); (try (have := zb1; have := za0; have : ¬ wA.heap.size + 1 = w1.heap.size := by omega)); (try (have := zb1; have := za1; have : ¬ wA.heap.size + 1 = w1.heap.size + 1 := by omega)); (try (have := za0; have : ¬ w1.heap.size = w.heap.size + 1 + 1 := (by omega); have : ¬ w.heap.size + 1 + 1 = w1.heap.size := (by omega))); (try (have := za1; have : ¬ w1.heap.size + 1 = w.heap.size + 1 + 1 := (by omega); have : ¬ w.heap.size + 1 + 1 = w1.heap.size + 1 := (by omega))); (try (have := zb0; have : ¬ wA.heap.size = w.heap.size + 1 + 1 := (by omega); have : ¬ w.heap.size + 1 + 1 = wA.heap.size := (by omega))); (try (have := zb1; have : ¬ wA.heap.size + 1 = w.heap.size + 1 + 1 := (by omega); have : ¬ w.heap.size + 1 + 1 = wA.heap.size + 1 := (by omega))); clear hoB hbB))
    all_goals (go_wp2_with fail; go_meet)
    all_goals refine ⟨_, _, aA, cA, aB, cB, rfl, rfl, hide ?_⟩
    · exact sst_bb kR0 kR1 fR0 fR1 (by omega) (by omega) RA.out RB.out (by omega) (by omega) (by omega) (by omega) (by omega) (by omega) (bl_trans HB.out bB)
    · exact sst_bb2 kR0 kR1 fR0 fR1 (by omega) (by omega) RA.out RB.out (by omega) (by omega) (by omega) (by omega) (by omega) (by omega) (bl_trans HB.out bB)
    · exact sst_ab kR0 kR1 fR0 fR1 (by omega) (by omega) RA.out RB.out (by omega) (by omega) (by omega) (by omega) (by omega) (by omega) (bl_trans HB.out bB) Qb0 (by omega) (by omega) (by omega) (by omega)
    · exact sst_aa kR0 kR1 fR0 fR1 (by omega) (by omega) RA.out RB.out (by omega) (by omega) (by omega) (by omega) (by omega) (by omega) (bl_trans HB.out bB) Qb0 (by omega) (by omega) (by omega) (by omega) Qb1 (by omega) (by omega) (by omega) (by omega) (by omega)
    · exact sst_ba kR0 kR1 fR0 fR1 (by omega) (by omega) RA.out RB.out (by omega) (by omega) (by omega) (by omega) (by omega) (by omega) (bl_trans HB.out bB) Qb0 (by omega) (by omega) (by omega) (by omega)
    · exact sst_aa kR0 kR1 fR0 fR1 (by omega) (by omega) RA.out RB.out (by omega) (by omega) (by omega) (by omega) (by omega) (by omega) (bl_trans HB.out bB) Qb1 (by omega) (by omega) (by omega) (by omega) Qb0 (by omega) (by omega) (by omega) (by omega) (by omega)
    · exact sst_ab kR0 kR1 fR0 fR1 (by omega) (by omega) RA.out RB.out (by omega) (by omega) (by omega) (by omega) (by omega) (by omega) (bl_trans HB.out bB) Qa0 (by omega) (by omega) (by omega) (by omega)
    · exact sst_aa kR0 kR1 fR0 fR1 (by omega) (by omega) RA.out RB.out (by omega) (by omega) (by omega) (by omega) (by omega) (by omega) (bl_trans HB.out bB) Qa0 (by omega) (by omega) (by omega) (by omega) Qb0 (by omega) (by omega) (by omega) (by omega) (by omega)
    · exact sst_aa kR0 kR1 fR0 fR1 (by omega) (by omega) RA.out RB.out (by omega) (by omega) (by omega) (by omega) (by omega) (by omega) (bl_trans HB.out bB) Qa0 (by omega) (by omega) (by omega) (by omega) Qa1 (by omega) (by omega) (by omega) (by omega) (by omega)
    · exact sst_ba kR0 kR1 fR0 fR1 (by omega) (by omega) RA.out RB.out (by omega) (by omega) (by omega) (by omega) (by omega) (by omega) (bl_trans HB.out bB) Qa0 (by omega) (by omega) (by omega) (by omega)
    · exact sst_aa kR0 kR1 fR0 fR1 (by omega) (by omega) RA.out RB.out (by omega) (by omega) (by omega) (by omega) (by omega) (by omega) (bl_trans HB.out bB) Qb0 (by omega) (by omega) (by omega) (by omega) Qa0 (by omega) (by omega) (by omega) (by omega) (by omega)
    · exact sst_aa kR0 kR1 fR0 fR1 (by omega) (by omega) RA.out RB.out (by omega) (by omega) (by omega) (by omega) (by omega) (by omega) (bl_trans HB.out bB) Qa1 (by omega) (by omega) (by omega) (by omega) Qa0 (by omega) (by omega) (by omega) (by omega) (by omega)
  case rest =>
  obtain ⟨N, M, ap, cp, aq, cq, rfl, rfl, hG⟩ := hcut
  clear kA0 kA1 kB0 kB1 kR0 kR1 fR0 fR1 HA HBB HB
  have l1' : (lms (x.natAbs : Int)).length ≤ 100000 := by unfold lms; rw [Int.natAbs_natCast]; exact l1
  have l2' : (lms (y.natAbs : Int)).length ≤ 100000 := by unfold lms; rw [Int.natAbs_natCast]; exact l2
  go_wp2_with fail
  go_loopg [] y.natAbs (fun gk wr => ∃ (p q : Nat) (ap : Option Addr) (cp : Nat) (aq : Option Addr) (cq : Nat), (lms (p : Int)).length ≤ 100000 ∧ (lms (q : Int)).length ≤ 100000 ∧ Hid (gk = q) ∧ Hid (Nat.gcd p q = Int.gcd x y) ∧ Hid (SSt w wr N M (w.heap.size + 1 + 1) (p : Int) (q : Int) ap cp aq cq))
  case atStart => exact ⟨x.natAbs, y.natAbs, ap, cp, aq, cq, l1', l2', hide rfl, hide rfl, hG⟩
  case round =>
    clear hG l1' l2'
    obtain ⟨p, q, ap, cp, aq, cq, hp, hq, hgk, hgcd, hG⟩ := hrel
    obtain ⟨kA0, kA1, kB0, kB1, kR0, kR1, fA0, fA1, fB0, fB1, fR0, fR1, zN, zM, zR', hN, hM, hR, n1, n2, n3, oA, oB, bel⟩ := hG.out
    have HOA := hide oA
    have HOB := hide oB
    clear oA oB bel
    by_cases hq0 : q = 0
    · have hl : ¬ (0 : Int) < ((lms (q : Int)).length : Int) := by rw [hq0]; rw [show ((0 : Nat) : Int) = 0 from rfl, zero_lms]; simp
      have HE : Hid ((p : Int) = (Int.gcd x y : Int)) := hide (by rw [← hgcd.out, hq0, Nat.gcd_zero_right])
      clear hq0
      go_wp2
      refine bodyPost_ret (v := .agg #[.bool (sgn (p : Int)), .slice ap (lms (p : Int)).length cp]) (by simp [results, Tryz.results45, go_sem, kR0, kR1]) rfl ?_
      rw [← HE.out]
      exact ⟨_, rfl, hG.out.fin _ _⟩
    · have hl : (0 : Int) < ((lms (q : Int)).length : Int) := by
        have : (lms (q : Int)).length ≠ 0 := fun e => hq0 (by have := sgn_lms_nil e; omega)
        omega
      go_upto_region 3 with fail
      rename (0 : Nat) < _ => hl0
      clear hl hl0
      go_wp2_with fail
      refine (divS (.agg #[.bool (sgn (p : Int)), .slice ap (lms (p : Int)).length cp]) (.agg #[.bool (sgn (q : Int)), .slice aq (lms (q : Int)).length cq]) p q _ ⟨ap, cp, rfl, HOA.out.1⟩ ⟨aq, cq, rfl, HOB.out.1⟩ (by omega) hp hq).mono ?_
      rintro e w3 ⟨a1, c1, a2, c2, rfl, ho1, ho2, hb3⟩
      obtain ⟨r, hrr⟩ : ∃ r, p % q = r := ⟨_, rfl⟩
      have hr : ((p : Int) % (q : Int)) = (r : Int) := by rw [← hrr]; rfl
      have HRR := hide hrr
      rw [hr] at ho2 ⊢
      have hb4 := bl_trans hb3 (bl_alloc (bl_alloc (bl_refl w3) (Obj.cells #[Value.bool (sgn ((p : Int) / (q : Int))), Value.slice a1 (lms ((p : Int) / (q : Int))).length c1] 41)) (Obj.cells #[Value.bool (sgn (r : Int)), Value.slice a2 (lms (r : Int)).length c2] 41))
      have y3 := hb3.size
      have kS0 : ((w3.alloc (Obj.cells #[Value.bool (sgn ((p : Int) / (q : Int))), Value.slice a1 (lms ((p : Int) / (q : Int))).length c1] 41)).alloc (Obj.cells #[Value.bool (sgn (r : Int)), Value.slice a2 (lms (r : Int)).length c2] 41)).cell? ⟨w3.heap.size + 1, 0, none⟩ = some (Value.bool (sgn (r : Int))) := by go_simp
      have kS1 : ((w3.alloc (Obj.cells #[Value.bool (sgn ((p : Int) / (q : Int))), Value.slice a1 (lms ((p : Int) / (q : Int))).length c1] 41)).alloc (Obj.cells #[Value.bool (sgn (r : Int)), Value.slice a2 (lms (r : Int)).length c2] 41)).cell? ⟨w3.heap.size + 1, 1, none⟩ = some (Value.slice a2 (lms (r : Int)).length c2) := by go_simp
      have HO2 := hide ((ho2.below (bl_alloc (bl_alloc (bl_refl w3) (Obj.cells #[Value.bool (sgn ((p : Int) / (q : Int))), Value.slice a1 (lms ((p : Int) / (q : Int))).length c1] 41)) (Obj.cells #[Value.bool (sgn (r : Int)), Value.slice a2 (lms (r : Int)).length c2] 41))).lk (L := w.heap.size) (N := N) (M := M) (R := w.heap.size + 1 + 1) (by omega) zN zM zR')
      replace hG := hide (hG.out.below hb4)
      replace HOB := hide (HOB.out.below hb4)
      clear kA0 kA1 kB0 kB1 kR0 kR1 fA0 fA1 fB0 fB1 fR0 fR1 HOA ho1 ho2 hb3 hb4 hr hrr
      have e1 : ¬ N = w3.heap.size + 1 := by omega
      have e2 : ¬ w3.heap.size + 1 = N := by omega
      have e3 : ¬ M = w3.heap.size + 1 := by omega
      have e4 : ¬ w3.heap.size + 1 = M := by omega
      go_upto_region 4 with fail
      generalize ((w3.alloc (Obj.cells #[Value.bool (sgn ((p : Int) / (q : Int))), Value.slice a1 (lms ((p : Int) / (q : Int))).length c1] 41)).alloc (Obj.cells #[Value.bool (sgn (r : Int)), Value.slice a2 (lms (r : Int)).length c2] 41)) = w4 at *
      obtain ⟨kA0, kA1, kB0, kB1, kR0, kR1, fA0, fA1, fB0, fB1, fR0, fR1, zN, zM, zR', hN, hM, hR, n1, n2, n3, oA, oB, bel⟩ := hG.out
      clear oA oB bel
      have HL : Hid ((lms (r : Int)).length ≤ 100000) := hide (by rw [lms_nat'] at hp ⊢; rw [← HRR.out]; exact mod_len hp)
      have HGC : Hid (Nat.gcd q r = Int.gcd x y) := hide (by rw [← hgcd.out, ← HRR.out, Nat.gcd_comm, ← Nat.gcd_rec, Nat.gcd_comm])
      have HLT : Hid (r < gk) := hide (by rw [hgk.out, ← HRR.out]; exact Nat.mod_lt _ (by omega))
      have HFIN := hide (SSt.set2 (SSt.set1 hG.out (r := (q : Int)) HOB.out) (r := (r : Int)) ((HO2.out.set (p := ⟨N, 0, none⟩) (.inl rfl) (.bool (sgn (q : Int)))).set (p := ⟨N, 1, none⟩) (.inl rfl) (.slice aq (lms (q : Int)).length cq)))
      clear HO2 HOB hG hgcd hgk
      have n1' : ¬ M = N := fun e => n1 e.symm
      go_wp2_with fail
      go_roundg r
      all_goals first | exact HLT.out | exact ⟨q, r, _, _, _, _, hq, HL.out, hide rfl, HGC, HFIN⟩
end Go.Proofs.YteeifaleneneeaaGreatDoor

/- The walk of the specification's RatOk. -/
namespace Go.Proofs.YteeifaleneneeaaGreatDoor
open Go.RowKit
set_option linter.unusedVariables false

set_option maxHeartbeats 4000000 in
set_option maxRecDepth 20000 in
theorem RatOkQ (n : Bool) (xs : List Nat) (m : Bool) (ys : List Nat) (a : Option Addr) (c : Nat) (b : Option Addr) (d : Nat) (w : World) (s1 : Seg w a xs.length c xs) (s2 : Seg w b ys.length d ys) :
    Calls Tryz.prog 30 #[(.agg #[.bool n, .slice a xs.length c, .bool m, .slice b ys.length d])] w fun e w' => e = .returned (.bool (ratB n xs m ys)) ∧ Below w.heap.size w w' := by
  have H1 := hide s1
  have H2 := hide s2
  clear s1 s2
  have kA0 : (w.alloc (Obj.cells #[Value.bool n, Value.slice a xs.length c, Value.bool m, Value.slice b ys.length d] 43)).cell? ⟨w.heap.size, 0, none⟩ = some (Value.bool n) := by go_simp
  have kA1 : (w.alloc (Obj.cells #[Value.bool n, Value.slice a xs.length c, Value.bool m, Value.slice b ys.length d] 43)).cell? ⟨w.heap.size, 1, none⟩ = some (Value.slice a xs.length c) := by go_simp
  have kA2 : (w.alloc (Obj.cells #[Value.bool n, Value.slice a xs.length c, Value.bool m, Value.slice b ys.length d] 43)).cell? ⟨w.heap.size, 2, none⟩ = some (Value.bool m) := by go_simp
  have kA3 : (w.alloc (Obj.cells #[Value.bool n, Value.slice a xs.length c, Value.bool m, Value.slice b ys.length d] 43)).cell? ⟨w.heap.size, 3, none⟩ = some (Value.slice b ys.length d) := by go_simp
  have zA : w.heap.size < (w.alloc (Obj.cells #[Value.bool n, Value.slice a xs.length c, Value.bool m, Value.slice b ys.length d] 43)).heap.size := by simp only [World.size_alloc]; omega
  have HB := hide (bl_alloc (bl_refl w) (Obj.cells #[Value.bool n, Value.slice a xs.length c, Value.bool m, Value.slice b ys.length d] 43))
  replace H1 := hide (H1.out.below HB.out)
  replace H2 := hide (H2.out.below HB.out)
  have y0 : w.heap.size + 1 ≤ (w.alloc (Obj.cells #[Value.bool n, Value.slice a xs.length c, Value.bool m, Value.slice b ys.length d] 43)).heap.size := by simp only [World.size_alloc]; omega
  go_enter Tryz.func30, Tryz.ntmps30
  go_wp2_with fail
  generalize (w.alloc (Obj.cells #[Value.bool n, Value.slice a xs.length c, Value.bool m, Value.slice b ys.length d] 43)) = w1 at *
  refine (okS _ n xs _ ⟨a, c, rfl, H1.out⟩).mono ?_
  rintro e w2 ⟨rfl, hbw2⟩
  have yw2 := hbw2.size
  replace kA0 := (hbw2.cell (p := ⟨w.heap.size, 0, none⟩) zA).trans kA0
  replace kA1 := (hbw2.cell (p := ⟨w.heap.size, 1, none⟩) zA).trans kA1
  replace kA2 := (hbw2.cell (p := ⟨w.heap.size, 2, none⟩) zA).trans kA2
  replace kA3 := (hbw2.cell (p := ⟨w.heap.size, 3, none⟩) zA).trans kA3
  replace zA := Nat.lt_of_lt_of_le zA hbw2.size
  replace H1 := hide (H1.out.below hbw2)
  replace H2 := hide (H2.out.below hbw2)
  replace HB := hide (bl_trans HB.out hbw2)
  clear hbw2
  cases e1 : okB n xs with
  | false =>
    have HE : Hid (ratB n xs m ys = false) := hide (by unfold ratB; rw [e1]; rfl)
    clear e1
    go_wp2
    go_ret
    exact ⟨ret_bool HE.out.symm, HB.out⟩
  | true =>
  have E1 := hide e1
  clear e1
  go_wp2_with fail
  refine (okS _ m ys _ ⟨b, d, rfl, H2.out⟩).mono ?_
  rintro e w3 ⟨rfl, hbw3⟩
  have yw3 := hbw3.size
  replace kA0 := (hbw3.cell (p := ⟨w.heap.size, 0, none⟩) zA).trans kA0
  replace kA1 := (hbw3.cell (p := ⟨w.heap.size, 1, none⟩) zA).trans kA1
  replace kA2 := (hbw3.cell (p := ⟨w.heap.size, 2, none⟩) zA).trans kA2
  replace kA3 := (hbw3.cell (p := ⟨w.heap.size, 3, none⟩) zA).trans kA3
  replace zA := Nat.lt_of_lt_of_le zA hbw3.size
  replace H1 := hide (H1.out.below hbw3)
  replace H2 := hide (H2.out.below hbw3)
  replace HB := hide (bl_trans HB.out hbw3)
  clear hbw3
  cases e2 : okB m ys with
  | false =>
    have HE : Hid (ratB n xs m ys = false) := hide (by unfold ratB; rw [e2, Bool.and_false]; rfl)
    clear e2
    go_wp2
    go_ret
    exact ⟨ret_bool HE.out.symm, HB.out⟩
  | true =>
  have E2 := hide e2
  clear e2
  obtain ⟨x, rfl, rfl, hx⟩ := ok_num H1.out.2.2.2.1 E1.out
  obtain ⟨y, rfl, rfl, hy⟩ := ok_num H2.out.2.2.2.1 E2.out
  have HR : Hid (ratB (sgn x) (lms x) (sgn y) (lms y) = (decide (0 < y) && decide (Int.gcd x y = 1))) := hide (by unfold ratB; rw [E1.out, E2.out, nat_lms, nat_lms, mk_self, mk_self]; rfl)
  have lx : (lms x).length ≤ 40 := Num.limbs_len.2 hx
  have ly : (lms y).length ≤ 40 := Num.limbs_len.2 hy
  clear hx hy
  by_cases hy0 : 0 < y
  · have hs : sgn y = false := decide_eq_false (by omega)
    have hl : (((lms y).length : Int) == 0) = false := by rw [beq_eq_false_iff_ne]; intro e; have := sgn_lms_nil (z := y) (by omega); omega
    have HE : Hid (ratB (sgn x) (lms x) (sgn y) (lms y) = decide (Int.gcd x y = 1)) := hide (by rw [HR.out, decide_eq_true hy0, Bool.true_and])
    go_upto_region 3 with fail
    clear hs hl
    go_wp2_with fail
    refine (gcdS (.agg #[.bool (sgn x), .slice a (lms x).length c]) (.agg #[.bool (sgn y), .slice b (lms y).length d]) x y _ ⟨a, c, rfl, H1.out⟩ ⟨b, d, rfl, H2.out⟩ (by omega) (by omega)).mono ?_
    rintro e w4 ⟨v5, rfl, hn5, hbw4⟩
    have yw4 := hbw4.size
    replace kA0 := (hbw4.cell (p := ⟨w.heap.size, 0, none⟩) zA).trans kA0
    replace kA1 := (hbw4.cell (p := ⟨w.heap.size, 1, none⟩) zA).trans kA1
    replace kA2 := (hbw4.cell (p := ⟨w.heap.size, 2, none⟩) zA).trans kA2
    replace kA3 := (hbw4.cell (p := ⟨w.heap.size, 3, none⟩) zA).trans kA3
    replace zA := Nat.lt_of_lt_of_le zA hbw4.size
    replace H1 := hide (H1.out.below hbw4)
    replace H2 := hide (H2.out.below hbw4)
    replace HB := hide (bl_trans HB.out hbw4)
    obtain ⟨a5, c5, rfl, ho5⟩ := hn5
    have HG := hide ho5.1
    clear ho5
    clear hbw4
    go_upto_region 4 with fail
    have kQ0 : (w4.alloc (Obj.cells #[Value.bool (sgn (Int.gcd x y : Int)), Value.slice a5 (lms (Int.gcd x y : Int)).length c5] 41)).cell? ⟨w4.heap.size, 0, none⟩ = some (Value.bool (sgn (Int.gcd x y : Int))) := by go_simp
    have kQ1 : (w4.alloc (Obj.cells #[Value.bool (sgn (Int.gcd x y : Int)), Value.slice a5 (lms (Int.gcd x y : Int)).length c5] 41)).cell? ⟨w4.heap.size, 1, none⟩ = some (Value.slice a5 (lms (Int.gcd x y : Int)).length c5) := by go_simp
    have zQ : w4.heap.size < (w4.alloc (Obj.cells #[Value.bool (sgn (Int.gcd x y : Int)), Value.slice a5 (lms (Int.gcd x y : Int)).length c5] 41)).heap.size := by simp only [World.size_alloc]; omega
    have yw5 : w4.heap.size + 1 ≤ (w4.alloc (Obj.cells #[Value.bool (sgn (Int.gcd x y : Int)), Value.slice a5 (lms (Int.gcd x y : Int)).length c5] 41)).heap.size := by simp only [World.size_alloc]; omega
    have hbw5 := (bl_alloc (bl_refl w4) (Obj.cells #[Value.bool (sgn (Int.gcd x y : Int)), Value.slice a5 (lms (Int.gcd x y : Int)).length c5] 41))
    generalize (w4.alloc (Obj.cells #[Value.bool (sgn (Int.gcd x y : Int)), Value.slice a5 (lms (Int.gcd x y : Int)).length c5] 41)) = w5 at *
    replace kA0 := (hbw5.cell (p := ⟨w.heap.size, 0, none⟩) zA).trans kA0
    replace kA1 := (hbw5.cell (p := ⟨w.heap.size, 1, none⟩) zA).trans kA1
    replace kA2 := (hbw5.cell (p := ⟨w.heap.size, 2, none⟩) zA).trans kA2
    replace kA3 := (hbw5.cell (p := ⟨w.heap.size, 3, none⟩) zA).trans kA3
    replace zA := Nat.lt_of_lt_of_le zA hbw5.size
    replace H1 := hide (H1.out.below hbw5)
    replace H2 := hide (H2.out.below hbw5)
    replace HG := hide (HG.out.below hbw5)
    replace HB := hide (bl_trans HB.out hbw5)
    clear hbw5
    by_cases hg : Int.gcd x y = 1
    · rw [decide_eq_true hg] at HE
      have e1 : lms (Int.gcd x y : Int) = [1] := by rw [hg]; unfold lms; rw [show Int.natAbs ((1 : Nat) : Int) = 1 from rfl, Num.limbs_pos (by decide)]; simp [Num.limbs_zero]
      have hcap := HG.out.2.1
      have hcm := HG.out.2.2.1
      obtain ⟨g5, o5, rfl, hg5, hc5⟩ := seg_cell HG.out 0 (by rw [e1]; decide)
      have e2 : (lms (Int.gcd x y : Int))[0]'(by rw [e1]; decide) = 1 := by simp [e1]
      rw [e2, Nat.add_zero] at hc5
      have hl1 : (((lms (Int.gcd x y : Int)).length : Int) == 1) = true := by rw [e1]; rfl
      have hl2 : (0 : Int) < ((lms (Int.gcd x y : Int)).length : Int) := by rw [e1]; decide
      clear e1 e2 hg
      generalize (lms (Int.gcd x y : Int)).length = L at *
      generalize sgn (Int.gcd x y : Int) = G at *
      go_wp2
      go_ret
      exact ⟨ret_bool HE.out.symm, HB.out⟩
    · rw [decide_eq_false hg] at HE
      by_cases hlen : (lms (Int.gcd x y : Int)).length = 1
      · have hcap := HG.out.2.1
        have hcm := HG.out.2.2.1
        obtain ⟨g5, o5, rfl, hg5, hc5⟩ := seg_cell HG.out 0 (by omega)
        have hne : ((((lms (Int.gcd x y : Int))[0]'(by omega) : Nat) : Int) == 1) = false := by rw [beq_eq_false_iff_ne]; intro e; exact hg (by have := abs_one hlen (by omega); omega)
        rw [Nat.add_zero] at hc5
        generalize (lms (Int.gcd x y : Int))[0]'_ = l0 at *
        have hl1 : (((lms (Int.gcd x y : Int)).length : Int) == 1) = true := by rw [hlen]; rfl
        have hl2 : (0 : Int) < ((lms (Int.gcd x y : Int)).length : Int) := by omega
        clear hlen hg
        generalize (lms (Int.gcd x y : Int)).length = L at *
        generalize sgn (Int.gcd x y : Int) = G at *
        go_wp2
        go_ret
        exact ⟨ret_bool HE.out.symm, HB.out⟩
      · have hl1 : (((lms (Int.gcd x y : Int)).length : Int) == 1) = false := by rw [beq_eq_false_iff_ne]; omega
        clear hlen hg
        generalize (lms (Int.gcd x y : Int)).length = L at *
        generalize sgn (Int.gcd x y : Int) = G at *
        go_wp2
        go_ret
        exact ⟨ret_bool HE.out.symm, HB.out⟩
  · have HE : Hid (ratB (sgn x) (lms x) (sgn y) (lms y) = false) := hide (by rw [HR.out, decide_eq_false hy0]; rfl)
    by_cases hyn : y < 0
    · have hs : sgn y = true := decide_eq_true hyn
      go_wp2
      go_ret
      exact ⟨ret_bool HE.out.symm, HB.out⟩
    · have hs : sgn y = false := decide_eq_false hyn
      have hl : (((lms y).length : Int) == 0) = true := by rw [show y = 0 by omega, zero_lms]; rfl
      go_wp2
      go_ret
      exact ⟨ret_bool HE.out.symm, HB.out⟩

end Go.Proofs.YteeifaleneneeaaGreatDoor

/- The walks of both RatCmp. -/
namespace Go.Proofs.YteeifaleneneeaaGreatDoor
open Go.RowKit
set_option linter.unusedVariables false

/-- a right fraction as two numbers -/
theorem rat_num {n m : Bool} {xs ys : List Nat} (h1 : Num.Small xs) (h2 : Num.Small ys) (h : ratB n xs m ys = true) : ∃ x y : Int, n = sgn x ∧ xs = lms x ∧ m = sgn y ∧ ys = lms y ∧ x.natAbs < 4294967296 ^ 40 ∧ y.natAbs < 4294967296 ^ 40 ∧ 0 < y ∧ Int.gcd x y = 1 := by
  unfold ratB at h
  simp only [Bool.and_eq_true, decide_eq_true_eq] at h
  obtain ⟨x, rfl, rfl, hx⟩ := ok_num h1 h.1.1
  obtain ⟨y, rfl, rfl, hy⟩ := ok_num h2 h.1.2
  rw [nat_lms, nat_lms, mk_self, mk_self] at h
  exact ⟨x, y, rfl, rfl, rfl, rfl, hx, hy, h.2.1, h.2.2⟩
/-- the answer of RatCmp -/
def rcZ (n1 : Bool) (xs1 : List Nat) (m1 : Bool) (ys1 : List Nat) (n2 : Bool) (xs2 : List Nat) (m2 : Bool) (ys2 : List Nat) : Int :=
  if (ratB n1 xs1 m1 ys1 && ratB n2 xs2 m2 ys2) = true then cmpZ (mulZ (mk n1 (Num.nat xs1)) (mk m2 (Num.nat ys2))) (mulZ (mk n2 (Num.nat xs2)) (mk m1 (Num.nat ys1))) else 2

end Go.Proofs.YteeifaleneneeaaGreatDoor

/- The walk of the program's shortened. -/
namespace Go.Proofs.YteeifaleneneeaaGreatDoor
open Go.RowKit
set_option linter.unusedVariables false

/-- what two numbers share, with the sign of the second -/
def sgG (x y : Int) : Int := if y < 0 then -(Int.gcd x y : Int) else (Int.gcd x y : Int)
theorem limbs_mono {m n : Nat} (h : m ≤ n) : (Num.limbs m).length ≤ (Num.limbs n).length := Num.limbs_len.2 (Nat.lt_of_le_of_lt h (Num.limbs_len.1 (Nat.le_refl _)))
theorem sgG_facts {x y G : Int} (hy : y ≠ 0) (e : sgG x y = G) (l : (lms y).length ≤ 100000) : G ≠ 0 ∧ sgn y = sgn G ∧ lms ((Int.gcd x y : Nat) : Int) = lms G ∧ (lms G).length ≤ 100000 := by
  have hp : 0 < Int.gcd x y := Nat.pos_of_ne_zero (fun h => hy (Int.gcd_eq_zero_iff.1 h).2)
  have ha : G.natAbs = Int.gcd x y := by unfold sgG at e; split at e <;> omega
  have hle : Int.gcd x y ≤ y.natAbs := Nat.le_of_dvd (by omega) (Nat.gcd_dvd_right _ _)
  refine ⟨by omega, ?_, ?_, ?_⟩
  · unfold sgn; unfold sgG at e; split at e
    · rw [decide_eq_true (by omega), decide_eq_true (by omega)]
    · rw [decide_eq_false (by omega), decide_eq_false (by omega)]
  · unfold lms; rw [ha]; rfl
  · unfold lms; rw [ha]; exact Nat.le_trans (limbs_mono hle) l

theorem apart_two {W W' : World} {b n m c c' : Nat} {a a' : Option Addr} {xs ys : List Nat} (h : Own W b a n c xs) (h' : Own W' W.heap.size a' m c' ys) : Apart a a' := by
  rcases h.cases with ⟨rfl, _⟩ | ⟨g, rfl, _, h2⟩
  · exact Apart.none _
  · rcases h'.cases with ⟨rfl, _⟩ | ⟨g', rfl, h3, _⟩
    · exact Apart.none' _
    · exact Apart.blocks (by omega)

set_option maxHeartbeats 400000 in
theorem shortI' (x y : Int) (a1 : Option Addr) (c1 : Nat) (a2 : Option Addr) (c2 : Nat) (w : World) (s1 : Seg w a1 (lms x).length c1 (lms x)) (s2 : Seg w a2 (lms y).length c2 (lms y)) (hy : y ≠ 0) (l1 : (lms x).length ≤ 100000) (l2 : (lms y).length ≤ 100000) :
    Calls Tryz.prog 58 #[.agg #[Value.bool (sgn x), Value.slice a1 (lms x).length c1], .agg #[Value.bool (sgn y), Value.slice a2 (lms y).length c2]] w fun e w' => ∃ b1 e1 b2 e2, e = .returned (.agg #[.bool (sgn (x / sgG x y)), .slice b1 (lms (x / sgG x y)).length e1, .bool (sgn (y / sgG x y)), .slice b2 (lms (y / sgG x y)).length e2]) ∧ Own w' w.heap.size b1 (lms (x / sgG x y)).length e1 (lms (x / sgG x y)) ∧ Own w' w.heap.size b2 (lms (y / sgG x y)).length e2 (lms (y / sgG x y)) ∧ Apart b1 b2 ∧ Below w.heap.size w w' := by
  have ka0 : (((w.alloc (Obj.cells #[Value.bool (sgn x), Value.slice a1 (lms x).length c1] 41)).alloc (Obj.cells #[Value.bool (sgn y), Value.slice a2 (lms y).length c2] 41)).alloc (Obj.cells #[Value.bool false, Value.slice none 0 0, Value.bool false, Value.slice none 0 0] 43)).cell? ⟨w.heap.size, 0, none⟩ = some (Value.bool (sgn x)) := by go_simp
  have fa0 : (((w.alloc (Obj.cells #[Value.bool (sgn x), Value.slice a1 (lms x).length c1] 41)).alloc (Obj.cells #[Value.bool (sgn y), Value.slice a2 (lms y).length c2] 41)).alloc (Obj.cells #[Value.bool false, Value.slice none 0 0, Value.bool false, Value.slice none 0 0] 43)).frozen? ⟨w.heap.size, 0, none⟩ = false := by go_simp
  have ka1 : (((w.alloc (Obj.cells #[Value.bool (sgn x), Value.slice a1 (lms x).length c1] 41)).alloc (Obj.cells #[Value.bool (sgn y), Value.slice a2 (lms y).length c2] 41)).alloc (Obj.cells #[Value.bool false, Value.slice none 0 0, Value.bool false, Value.slice none 0 0] 43)).cell? ⟨w.heap.size, 1, none⟩ = some (Value.slice a1 (lms x).length c1) := by go_simp
  have fa1 : (((w.alloc (Obj.cells #[Value.bool (sgn x), Value.slice a1 (lms x).length c1] 41)).alloc (Obj.cells #[Value.bool (sgn y), Value.slice a2 (lms y).length c2] 41)).alloc (Obj.cells #[Value.bool false, Value.slice none 0 0, Value.bool false, Value.slice none 0 0] 43)).frozen? ⟨w.heap.size, 1, none⟩ = false := by go_simp
  have kb0 : (((w.alloc (Obj.cells #[Value.bool (sgn x), Value.slice a1 (lms x).length c1] 41)).alloc (Obj.cells #[Value.bool (sgn y), Value.slice a2 (lms y).length c2] 41)).alloc (Obj.cells #[Value.bool false, Value.slice none 0 0, Value.bool false, Value.slice none 0 0] 43)).cell? ⟨w.heap.size + 1, 0, none⟩ = some (Value.bool (sgn y)) := by go_simp
  have fb0 : (((w.alloc (Obj.cells #[Value.bool (sgn x), Value.slice a1 (lms x).length c1] 41)).alloc (Obj.cells #[Value.bool (sgn y), Value.slice a2 (lms y).length c2] 41)).alloc (Obj.cells #[Value.bool false, Value.slice none 0 0, Value.bool false, Value.slice none 0 0] 43)).frozen? ⟨w.heap.size + 1, 0, none⟩ = false := by go_simp
  have kb1 : (((w.alloc (Obj.cells #[Value.bool (sgn x), Value.slice a1 (lms x).length c1] 41)).alloc (Obj.cells #[Value.bool (sgn y), Value.slice a2 (lms y).length c2] 41)).alloc (Obj.cells #[Value.bool false, Value.slice none 0 0, Value.bool false, Value.slice none 0 0] 43)).cell? ⟨w.heap.size + 1, 1, none⟩ = some (Value.slice a2 (lms y).length c2) := by go_simp
  have fb1 : (((w.alloc (Obj.cells #[Value.bool (sgn x), Value.slice a1 (lms x).length c1] 41)).alloc (Obj.cells #[Value.bool (sgn y), Value.slice a2 (lms y).length c2] 41)).alloc (Obj.cells #[Value.bool false, Value.slice none 0 0, Value.bool false, Value.slice none 0 0] 43)).frozen? ⟨w.heap.size + 1, 1, none⟩ = false := by go_simp
  have kr0 : (((w.alloc (Obj.cells #[Value.bool (sgn x), Value.slice a1 (lms x).length c1] 41)).alloc (Obj.cells #[Value.bool (sgn y), Value.slice a2 (lms y).length c2] 41)).alloc (Obj.cells #[Value.bool false, Value.slice none 0 0, Value.bool false, Value.slice none 0 0] 43)).cell? ⟨w.heap.size + 1 + 1, 0, none⟩ = some (Value.bool false) := by go_simp
  have fr0 : (((w.alloc (Obj.cells #[Value.bool (sgn x), Value.slice a1 (lms x).length c1] 41)).alloc (Obj.cells #[Value.bool (sgn y), Value.slice a2 (lms y).length c2] 41)).alloc (Obj.cells #[Value.bool false, Value.slice none 0 0, Value.bool false, Value.slice none 0 0] 43)).frozen? ⟨w.heap.size + 1 + 1, 0, none⟩ = false := by go_simp
  have kr1 : (((w.alloc (Obj.cells #[Value.bool (sgn x), Value.slice a1 (lms x).length c1] 41)).alloc (Obj.cells #[Value.bool (sgn y), Value.slice a2 (lms y).length c2] 41)).alloc (Obj.cells #[Value.bool false, Value.slice none 0 0, Value.bool false, Value.slice none 0 0] 43)).cell? ⟨w.heap.size + 1 + 1, 1, none⟩ = some (Value.slice none 0 0) := by go_simp
  have fr1 : (((w.alloc (Obj.cells #[Value.bool (sgn x), Value.slice a1 (lms x).length c1] 41)).alloc (Obj.cells #[Value.bool (sgn y), Value.slice a2 (lms y).length c2] 41)).alloc (Obj.cells #[Value.bool false, Value.slice none 0 0, Value.bool false, Value.slice none 0 0] 43)).frozen? ⟨w.heap.size + 1 + 1, 1, none⟩ = false := by go_simp
  have kr2 : (((w.alloc (Obj.cells #[Value.bool (sgn x), Value.slice a1 (lms x).length c1] 41)).alloc (Obj.cells #[Value.bool (sgn y), Value.slice a2 (lms y).length c2] 41)).alloc (Obj.cells #[Value.bool false, Value.slice none 0 0, Value.bool false, Value.slice none 0 0] 43)).cell? ⟨w.heap.size + 1 + 1, 2, none⟩ = some (Value.bool false) := by go_simp
  have fr2 : (((w.alloc (Obj.cells #[Value.bool (sgn x), Value.slice a1 (lms x).length c1] 41)).alloc (Obj.cells #[Value.bool (sgn y), Value.slice a2 (lms y).length c2] 41)).alloc (Obj.cells #[Value.bool false, Value.slice none 0 0, Value.bool false, Value.slice none 0 0] 43)).frozen? ⟨w.heap.size + 1 + 1, 2, none⟩ = false := by go_simp
  have kr3 : (((w.alloc (Obj.cells #[Value.bool (sgn x), Value.slice a1 (lms x).length c1] 41)).alloc (Obj.cells #[Value.bool (sgn y), Value.slice a2 (lms y).length c2] 41)).alloc (Obj.cells #[Value.bool false, Value.slice none 0 0, Value.bool false, Value.slice none 0 0] 43)).cell? ⟨w.heap.size + 1 + 1, 3, none⟩ = some (Value.slice none 0 0) := by go_simp
  have fr3 : (((w.alloc (Obj.cells #[Value.bool (sgn x), Value.slice a1 (lms x).length c1] 41)).alloc (Obj.cells #[Value.bool (sgn y), Value.slice a2 (lms y).length c2] 41)).alloc (Obj.cells #[Value.bool false, Value.slice none 0 0, Value.bool false, Value.slice none 0 0] 43)).frozen? ⟨w.heap.size + 1 + 1, 3, none⟩ = false := by go_simp
  have zr : w.heap.size + 1 + 1 < (((w.alloc (Obj.cells #[Value.bool (sgn x), Value.slice a1 (lms x).length c1] 41)).alloc (Obj.cells #[Value.bool (sgn y), Value.slice a2 (lms y).length c2] 41)).alloc (Obj.cells #[Value.bool false, Value.slice none 0 0, Value.bool false, Value.slice none 0 0] 43)).heap.size := by simp only [World.size_alloc]; omega
  have HB := hide (bl_alloc (bl_alloc (bl_alloc (bl_refl w) (Obj.cells #[Value.bool (sgn x), Value.slice a1 (lms x).length c1] 41)) (Obj.cells #[Value.bool (sgn y), Value.slice a2 (lms y).length c2] 41)) (Obj.cells #[Value.bool false, Value.slice none 0 0, Value.bool false, Value.slice none 0 0] 43))
  have S1 := hide (s1.below HB.out)
  have S2 := hide (s2.below HB.out)
  have S20 := hide s2
  clear s1 s2
  obtain ⟨G, eG⟩ : ∃ G, sgG x y = G := ⟨_, rfl⟩
  obtain ⟨hG0, hGs, hGl, hGL⟩ := sgG_facts hy eG l2
  rw [eG]
  have HEG := hide eG
  have HGS := hide hGs
  have HGL := hide hGl
  clear eG hGs hGl
  go_enter Tryz.func58, Tryz.ntmps58
  go_wp2_with fail
  generalize (((w.alloc (Obj.cells #[Value.bool (sgn x), Value.slice a1 (lms x).length c1] 41)).alloc (Obj.cells #[Value.bool (sgn y), Value.slice a2 (lms y).length c2] 41)).alloc (Obj.cells #[Value.bool false, Value.slice none 0 0, Value.bool false, Value.slice none 0 0] 43)) = w1 at *
  refine (gcdI _ _ x y _ ⟨a1, c1, rfl, S1.out⟩ ⟨a2, c2, rfl, S2.out⟩ (by omega) (by omega)).mono ?_
  rintro e w2 ⟨v, rfl, ⟨ag, cg, rfl, hog⟩, hb⟩
  have z1 := zr
  replace ka0 := (hb.cell (p := ⟨w.heap.size, 0, none⟩) (by dsimp only; omega)).trans ka0
  replace fa0 := (hb.frozen (p := ⟨w.heap.size, 0, none⟩) (by dsimp only; omega)).trans fa0
  replace ka1 := (hb.cell (p := ⟨w.heap.size, 1, none⟩) (by dsimp only; omega)).trans ka1
  replace fa1 := (hb.frozen (p := ⟨w.heap.size, 1, none⟩) (by dsimp only; omega)).trans fa1
  replace kb0 := (hb.cell (p := ⟨w.heap.size + 1, 0, none⟩) (by dsimp only; omega)).trans kb0
  replace fb0 := (hb.frozen (p := ⟨w.heap.size + 1, 0, none⟩) (by dsimp only; omega)).trans fb0
  replace kb1 := (hb.cell (p := ⟨w.heap.size + 1, 1, none⟩) (by dsimp only; omega)).trans kb1
  replace fb1 := (hb.frozen (p := ⟨w.heap.size + 1, 1, none⟩) (by dsimp only; omega)).trans fb1
  replace kr0 := (hb.cell (p := ⟨w.heap.size + 1 + 1, 0, none⟩) (by dsimp only; omega)).trans kr0
  replace fr0 := (hb.frozen (p := ⟨w.heap.size + 1 + 1, 0, none⟩) (by dsimp only; omega)).trans fr0
  replace kr1 := (hb.cell (p := ⟨w.heap.size + 1 + 1, 1, none⟩) (by dsimp only; omega)).trans kr1
  replace fr1 := (hb.frozen (p := ⟨w.heap.size + 1 + 1, 1, none⟩) (by dsimp only; omega)).trans fr1
  replace kr2 := (hb.cell (p := ⟨w.heap.size + 1 + 1, 2, none⟩) (by dsimp only; omega)).trans kr2
  replace fr2 := (hb.frozen (p := ⟨w.heap.size + 1 + 1, 2, none⟩) (by dsimp only; omega)).trans fr2
  replace kr3 := (hb.cell (p := ⟨w.heap.size + 1 + 1, 3, none⟩) (by dsimp only; omega)).trans kr3
  replace fr3 := (hb.frozen (p := ⟨w.heap.size + 1 + 1, 3, none⟩) (by dsimp only; omega)).trans fr3
  replace zr := Nat.lt_of_lt_of_le zr hb.size
  replace HB := hide (bl_trans HB.out hb)
  replace S1 := hide (S1.out.below hb)
  replace S2 := hide (S2.out.below hb)
  clear hb
  have SG := hide hog.seg
  have OG : Hid (∀ g o s, ag = some ⟨g, o, s⟩ → w.heap.size + 1 + 1 < g) := hide (fun g o s e => by rcases hog.cases with ⟨h, _⟩ | ⟨g2, h, h1, _⟩ <;> rw [h] at e <;> cases e; omega)
  have y1 := zr
  clear hog
  have hA := bl_alloc (bl_refl w2) (Obj.cells #[Value.bool (sgn ((Int.gcd x y : Nat) : Int)), Value.slice ag (lms ((Int.gcd x y : Nat) : Int)).length cg] 41)
  have hC := bl_alloc (bl_refl w2) (Obj.cells #[Value.bool (sgn y), Value.slice ag (lms ((Int.gcd x y : Nat) : Int)).length cg] 41)
  have qb0 := (hA.cell (p := ⟨w.heap.size + 1, 0, none⟩) (by dsimp only; omega)).trans kb0
  have ma0 := (hC.cell (p := ⟨w.heap.size, 0, none⟩) (by dsimp only; omega)).trans ka0
  have ga0 := (hC.frozen (p := ⟨w.heap.size, 0, none⟩) (by dsimp only; omega)).trans fa0
  have ma1 := (hC.cell (p := ⟨w.heap.size, 1, none⟩) (by dsimp only; omega)).trans ka1
  have ga1 := (hC.frozen (p := ⟨w.heap.size, 1, none⟩) (by dsimp only; omega)).trans fa1
  have mb0 := (hC.cell (p := ⟨w.heap.size + 1, 0, none⟩) (by dsimp only; omega)).trans kb0
  have gb0 := (hC.frozen (p := ⟨w.heap.size + 1, 0, none⟩) (by dsimp only; omega)).trans fb0
  have mb1 := (hC.cell (p := ⟨w.heap.size + 1, 1, none⟩) (by dsimp only; omega)).trans kb1
  have gb1 := (hC.frozen (p := ⟨w.heap.size + 1, 1, none⟩) (by dsimp only; omega)).trans fb1
  have mr0 := (hC.cell (p := ⟨w.heap.size + 1 + 1, 0, none⟩) (by dsimp only; omega)).trans kr0
  have gr0 := (hC.frozen (p := ⟨w.heap.size + 1 + 1, 0, none⟩) (by dsimp only; omega)).trans fr0
  have mr1 := (hC.cell (p := ⟨w.heap.size + 1 + 1, 1, none⟩) (by dsimp only; omega)).trans kr1
  have gr1 := (hC.frozen (p := ⟨w.heap.size + 1 + 1, 1, none⟩) (by dsimp only; omega)).trans fr1
  have mr2 := (hC.cell (p := ⟨w.heap.size + 1 + 1, 2, none⟩) (by dsimp only; omega)).trans kr2
  have gr2 := (hC.frozen (p := ⟨w.heap.size + 1 + 1, 2, none⟩) (by dsimp only; omega)).trans fr2
  have mr3 := (hC.cell (p := ⟨w.heap.size + 1 + 1, 3, none⟩) (by dsimp only; omega)).trans kr3
  have gr3 := (hC.frozen (p := ⟨w.heap.size + 1 + 1, 3, none⟩) (by dsimp only; omega)).trans fr3
  have mg0 : (w2.alloc (Obj.cells #[Value.bool (sgn y), Value.slice ag (lms ((Int.gcd x y : Nat) : Int)).length cg] 41)).cell? ⟨w2.heap.size, 0, none⟩ = some (Value.bool (sgn y)) := by go_simp
  have mg1 : (w2.alloc (Obj.cells #[Value.bool (sgn y), Value.slice ag (lms ((Int.gcd x y : Nat) : Int)).length cg] 41)).cell? ⟨w2.heap.size, 1, none⟩ = some (Value.slice ag (lms ((Int.gcd x y : Nat) : Int)).length cg) := by go_simp
  have zg : w2.heap.size < (w2.alloc (Obj.cells #[Value.bool (sgn y), Value.slice ag (lms ((Int.gcd x y : Nat) : Int)).length cg] 41)).heap.size := by simp only [World.size_alloc]; omega
  have y2 := zr
  replace S1 := hide (S1.out.below hC)
  replace S2 := hide (S2.out.below hC)
  replace SG := hide (SG.out.below hC)
  replace HB := hide (bl_trans HB.out hC)
  replace zr := Nat.lt_of_lt_of_le zr hC.size
  clear hA hC
  clear ka0 fa0 ka1 fa1 kb0 fb0 kb1 fb1 kr0 fr0 kr1 fr1 kr2 fr2 kr3 fr3
  go_wp2_with fail
  clear qb0
  generalize w2.alloc (Obj.cells #[Value.bool (sgn y), Value.slice ag (lms ((Int.gcd x y : Nat) : Int)).length cg] 41) = w3 at *
  have HIG : Hid (∀ w', Below w3.heap.size w3 w' → Is w' (.agg #[Value.bool (sgn y), Value.slice ag (lms ((Int.gcd x y : Nat) : Int)).length cg]) G) := hide (fun w' hb => by refine ⟨ag, cg, ?_, ?_⟩; rw [HGS.out, HGL.out]; have := SG.out.below hb; rw [HGL.out] at this; exact this)
  refine (divI _ _ x G _ ⟨a1, c1, rfl, S1.out⟩ (HIG.out _ (bl_refl w3)) hG0 (by omega) (by omega)).mono ?_
  rintro e w5 ⟨a3, c3, a4, c4, rfl, ho3, -, -, hb⟩
  replace ma0 := (hb.cell (p := ⟨w.heap.size, 0, none⟩) (by dsimp only; omega)).trans ma0
  replace ga0 := (hb.frozen (p := ⟨w.heap.size, 0, none⟩) (by dsimp only; omega)).trans ga0
  replace ma1 := (hb.cell (p := ⟨w.heap.size, 1, none⟩) (by dsimp only; omega)).trans ma1
  replace ga1 := (hb.frozen (p := ⟨w.heap.size, 1, none⟩) (by dsimp only; omega)).trans ga1
  replace mb0 := (hb.cell (p := ⟨w.heap.size + 1, 0, none⟩) (by dsimp only; omega)).trans mb0
  replace gb0 := (hb.frozen (p := ⟨w.heap.size + 1, 0, none⟩) (by dsimp only; omega)).trans gb0
  replace mb1 := (hb.cell (p := ⟨w.heap.size + 1, 1, none⟩) (by dsimp only; omega)).trans mb1
  replace gb1 := (hb.frozen (p := ⟨w.heap.size + 1, 1, none⟩) (by dsimp only; omega)).trans gb1
  replace mr0 := (hb.cell (p := ⟨w.heap.size + 1 + 1, 0, none⟩) (by dsimp only; omega)).trans mr0
  replace gr0 := (hb.frozen (p := ⟨w.heap.size + 1 + 1, 0, none⟩) (by dsimp only; omega)).trans gr0
  replace mr1 := (hb.cell (p := ⟨w.heap.size + 1 + 1, 1, none⟩) (by dsimp only; omega)).trans mr1
  replace gr1 := (hb.frozen (p := ⟨w.heap.size + 1 + 1, 1, none⟩) (by dsimp only; omega)).trans gr1
  replace mr2 := (hb.cell (p := ⟨w.heap.size + 1 + 1, 2, none⟩) (by dsimp only; omega)).trans mr2
  replace gr2 := (hb.frozen (p := ⟨w.heap.size + 1 + 1, 2, none⟩) (by dsimp only; omega)).trans gr2
  replace mr3 := (hb.cell (p := ⟨w.heap.size + 1 + 1, 3, none⟩) (by dsimp only; omega)).trans mr3
  replace gr3 := (hb.frozen (p := ⟨w.heap.size + 1 + 1, 3, none⟩) (by dsimp only; omega)).trans gr3
  replace mg0 := (hb.cell (p := ⟨w2.heap.size, 0, none⟩) (by dsimp only; omega)).trans mg0
  replace mg1 := (hb.cell (p := ⟨w2.heap.size, 1, none⟩) (by dsimp only; omega)).trans mg1
  have h35 := hb.size
  have HL35 := hide hb
  replace S2 := hide (S2.out.below hb)
  replace HB := hide (bl_trans HB.out hb)
  have HO3 := hide ho3
  clear hb ho3 S1
  have : ¬ w.heap.size = w.heap.size + 1 := by omega
  have : ¬ w.heap.size = w.heap.size + 1 + 1 := by omega
  have : ¬ w.heap.size + 1 = w.heap.size + 1 + 1 := by omega
  have : ¬ w.heap.size = w2.heap.size := by omega
  have : ¬ w2.heap.size = w.heap.size := by omega
  have : ¬ w.heap.size + 1 = w2.heap.size := by omega
  have : ¬ w2.heap.size = w.heap.size + 1 := by omega
  have : ¬ w.heap.size + 1 + 1 = w2.heap.size := by omega
  have : ¬ w2.heap.size = w.heap.size + 1 + 1 := by omega
  generalize eX : x / G = X at *
  have EX := hide eX
  clear eX
  go_wp2_with fail
  have ca0 : ((w5.setCell ⟨w.heap.size, 0, none⟩ (Value.bool (sgn X))).setCell ⟨w.heap.size, 1, none⟩ (Value.slice a3 (lms X).length c3)).cell? ⟨w.heap.size, 0, none⟩ = some (Value.bool (sgn X)) := by go_simp
  have ca1 : ((w5.setCell ⟨w.heap.size, 0, none⟩ (Value.bool (sgn X))).setCell ⟨w.heap.size, 1, none⟩ (Value.slice a3 (lms X).length c3)).cell? ⟨w.heap.size, 1, none⟩ = some (Value.slice a3 (lms X).length c3) := by go_simp
  have cb0 : ((w5.setCell ⟨w.heap.size, 0, none⟩ (Value.bool (sgn X))).setCell ⟨w.heap.size, 1, none⟩ (Value.slice a3 (lms X).length c3)).cell? ⟨w.heap.size + 1, 0, none⟩ = some (Value.bool (sgn y)) := by go_simp
  have db0 : ((w5.setCell ⟨w.heap.size, 0, none⟩ (Value.bool (sgn X))).setCell ⟨w.heap.size, 1, none⟩ (Value.slice a3 (lms X).length c3)).frozen? ⟨w.heap.size + 1, 0, none⟩ = false := by go_simp
  have cb1 : ((w5.setCell ⟨w.heap.size, 0, none⟩ (Value.bool (sgn X))).setCell ⟨w.heap.size, 1, none⟩ (Value.slice a3 (lms X).length c3)).cell? ⟨w.heap.size + 1, 1, none⟩ = some (Value.slice a2 (lms y).length c2) := by go_simp
  have db1 : ((w5.setCell ⟨w.heap.size, 0, none⟩ (Value.bool (sgn X))).setCell ⟨w.heap.size, 1, none⟩ (Value.slice a3 (lms X).length c3)).frozen? ⟨w.heap.size + 1, 1, none⟩ = false := by go_simp
  have cr0 : ((w5.setCell ⟨w.heap.size, 0, none⟩ (Value.bool (sgn X))).setCell ⟨w.heap.size, 1, none⟩ (Value.slice a3 (lms X).length c3)).cell? ⟨w.heap.size + 1 + 1, 0, none⟩ = some (Value.bool false) := by go_simp
  have dr0 : ((w5.setCell ⟨w.heap.size, 0, none⟩ (Value.bool (sgn X))).setCell ⟨w.heap.size, 1, none⟩ (Value.slice a3 (lms X).length c3)).frozen? ⟨w.heap.size + 1 + 1, 0, none⟩ = false := by go_simp
  have cr1 : ((w5.setCell ⟨w.heap.size, 0, none⟩ (Value.bool (sgn X))).setCell ⟨w.heap.size, 1, none⟩ (Value.slice a3 (lms X).length c3)).cell? ⟨w.heap.size + 1 + 1, 1, none⟩ = some (Value.slice none 0 0) := by go_simp
  have dr1 : ((w5.setCell ⟨w.heap.size, 0, none⟩ (Value.bool (sgn X))).setCell ⟨w.heap.size, 1, none⟩ (Value.slice a3 (lms X).length c3)).frozen? ⟨w.heap.size + 1 + 1, 1, none⟩ = false := by go_simp
  have cr2 : ((w5.setCell ⟨w.heap.size, 0, none⟩ (Value.bool (sgn X))).setCell ⟨w.heap.size, 1, none⟩ (Value.slice a3 (lms X).length c3)).cell? ⟨w.heap.size + 1 + 1, 2, none⟩ = some (Value.bool false) := by go_simp
  have dr2 : ((w5.setCell ⟨w.heap.size, 0, none⟩ (Value.bool (sgn X))).setCell ⟨w.heap.size, 1, none⟩ (Value.slice a3 (lms X).length c3)).frozen? ⟨w.heap.size + 1 + 1, 2, none⟩ = false := by go_simp
  have cr3 : ((w5.setCell ⟨w.heap.size, 0, none⟩ (Value.bool (sgn X))).setCell ⟨w.heap.size, 1, none⟩ (Value.slice a3 (lms X).length c3)).cell? ⟨w.heap.size + 1 + 1, 3, none⟩ = some (Value.slice none 0 0) := by go_simp
  have dr3 : ((w5.setCell ⟨w.heap.size, 0, none⟩ (Value.bool (sgn X))).setCell ⟨w.heap.size, 1, none⟩ (Value.slice a3 (lms X).length c3)).frozen? ⟨w.heap.size + 1 + 1, 3, none⟩ = false := by go_simp
  have cg0 : ((w5.setCell ⟨w.heap.size, 0, none⟩ (Value.bool (sgn X))).setCell ⟨w.heap.size, 1, none⟩ (Value.slice a3 (lms X).length c3)).cell? ⟨w2.heap.size, 0, none⟩ = some (Value.bool (sgn y)) := by go_simp
  have cg1 : ((w5.setCell ⟨w.heap.size, 0, none⟩ (Value.bool (sgn X))).setCell ⟨w.heap.size, 1, none⟩ (Value.slice a3 (lms X).length c3)).cell? ⟨w2.heap.size, 1, none⟩ = some (Value.slice ag (lms ((Int.gcd x y : Nat) : Int)).length cg) := by go_simp
  have hz6 : ((w5.setCell ⟨w.heap.size, 0, none⟩ (Value.bool (sgn X))).setCell ⟨w.heap.size, 1, none⟩ (Value.slice a3 (lms X).length c3)).heap.size = w5.heap.size := by simp
  have HO6 : Hid (Own ((w5.setCell ⟨w.heap.size, 0, none⟩ (Value.bool (sgn X))).setCell ⟨w.heap.size, 1, none⟩ (Value.slice a3 (lms X).length c3)) w3.heap.size a3 (lms X).length c3 (lms X)) := hide ((HO3.out.setCell (p := ⟨w.heap.size, 0, none⟩) (by dsimp only; omega) _).setCell (p := ⟨w.heap.size, 1, none⟩) (by dsimp only; omega) _)
  have HB6 : Hid (Below w.heap.size w ((w5.setCell ⟨w.heap.size, 0, none⟩ (Value.bool (sgn X))).setCell ⟨w.heap.size, 1, none⟩ (Value.slice a3 (lms X).length c3))) := hide ((HB.out.setCell (p := ⟨w.heap.size, 0, none⟩) (Nat.le_refl _) _).setCell (p := ⟨w.heap.size, 1, none⟩) (Nat.le_refl _) _)
  have S26 : Hid (Seg ((w5.setCell ⟨w.heap.size, 0, none⟩ (Value.bool (sgn X))).setCell ⟨w.heap.size, 1, none⟩ (Value.slice a3 (lms X).length c3)) a2 (lms y).length c2 (lms y)) := hide ((S2.out.grownLow S20.out (grown_set _ ⟨w.heap.size, 0, none⟩ _) (fun k e => by cases e; exact Nat.le_refl _)).grownLow S20.out (grown_set _ ⟨w.heap.size, 1, none⟩ _) (fun k e => by cases e; exact Nat.le_refl _))
  have SG6 : Hid (Seg ((w5.setCell ⟨w.heap.size, 0, none⟩ (Value.bool (sgn X))).setCell ⟨w.heap.size, 1, none⟩ (Value.slice a3 (lms X).length c3)) ag (lms ((Int.gcd x y : Nat) : Int)).length cg (lms ((Int.gcd x y : Nat) : Int))) := hide (((SG.out.below HL35.out).setOff (p := ⟨w.heap.size, 0, none⟩) (fun _ g o s e => by have := OG.out g o s e; dsimp only; omega) _).setOff (p := ⟨w.heap.size, 1, none⟩) (fun _ g o s e => by have := OG.out g o s e; dsimp only; omega) _)
  clear HO3 HB S2 SG HIG HL35 ma0 ga0 ma1 ga1 mb0 gb0 mb1 gb1 mr0 gr0 mr1 gr1 mr2 gr2 mr3 gr3 mg0 mg1
  generalize ((w5.setCell ⟨w.heap.size, 0, none⟩ (Value.bool (sgn X))).setCell ⟨w.heap.size, 1, none⟩ (Value.slice a3 (lms X).length c3)) = w6 at *
  rw [hz6.symm] at h35
  clear hz6
  refine (divI _ _ y G _ ⟨a2, c2, rfl, S26.out⟩ ⟨ag, cg, by rw [HGS.out, HGL.out], by have := SG6.out; rw [HGL.out] at this; exact this⟩ hG0 (by omega) (by omega)).mono ?_
  rintro e w7 ⟨b3, e3, b4, e4, rfl, hq3, -, -, hb⟩
  replace ca0 := (hb.cell (p := ⟨w.heap.size, 0, none⟩) (by dsimp only; omega)).trans ca0
  replace ca1 := (hb.cell (p := ⟨w.heap.size, 1, none⟩) (by dsimp only; omega)).trans ca1
  replace cb0 := (hb.cell (p := ⟨w.heap.size + 1, 0, none⟩) (by dsimp only; omega)).trans cb0
  replace db0 := (hb.frozen (p := ⟨w.heap.size + 1, 0, none⟩) (by dsimp only; omega)).trans db0
  replace cb1 := (hb.cell (p := ⟨w.heap.size + 1, 1, none⟩) (by dsimp only; omega)).trans cb1
  replace db1 := (hb.frozen (p := ⟨w.heap.size + 1, 1, none⟩) (by dsimp only; omega)).trans db1
  replace cr0 := (hb.cell (p := ⟨w.heap.size + 1 + 1, 0, none⟩) (by dsimp only; omega)).trans cr0
  replace dr0 := (hb.frozen (p := ⟨w.heap.size + 1 + 1, 0, none⟩) (by dsimp only; omega)).trans dr0
  replace cr1 := (hb.cell (p := ⟨w.heap.size + 1 + 1, 1, none⟩) (by dsimp only; omega)).trans cr1
  replace dr1 := (hb.frozen (p := ⟨w.heap.size + 1 + 1, 1, none⟩) (by dsimp only; omega)).trans dr1
  replace cr2 := (hb.cell (p := ⟨w.heap.size + 1 + 1, 2, none⟩) (by dsimp only; omega)).trans cr2
  replace dr2 := (hb.frozen (p := ⟨w.heap.size + 1 + 1, 2, none⟩) (by dsimp only; omega)).trans dr2
  replace cr3 := (hb.cell (p := ⟨w.heap.size + 1 + 1, 3, none⟩) (by dsimp only; omega)).trans cr3
  replace dr3 := (hb.frozen (p := ⟨w.heap.size + 1 + 1, 3, none⟩) (by dsimp only; omega)).trans dr3
  have HAP := hide (apart_two HO6.out hq3)
  replace HO6 := hide (HO6.out.below hb)
  have HQ := hide (hq3.mono (base' := w3.heap.size) (by omega))
  replace HB6 := hide (bl_trans HB6.out hb)
  clear hb hq3 S26 SG6 cg0 cg1
  generalize eY : y / G = Y at *
  have EY := hide eY
  clear eY
  go_wp2
  rw [EX.out, EY.out]
  refine bodyPost_ret (v := .agg #[.bool (sgn X), .slice a3 (lms X).length c3, .bool (sgn Y), .slice b3 (lms Y).length e3]) (by simp [results, Tryz.results58, go_sem, *]) rfl ⟨a3, c3, b3, e3, rfl, ?_, ?_, HAP.out, ?_⟩
  · exact ((((((HO6.out.setCell (p := ⟨w.heap.size + 1, 0, none⟩) (by dsimp only; omega) _).setCell (p := ⟨w.heap.size + 1, 1, none⟩) (by dsimp only; omega) _).setCell (p := ⟨w.heap.size + 1 + 1, 0, none⟩) (by dsimp only; omega) _).setCell (p := ⟨w.heap.size + 1 + 1, 1, none⟩) (by dsimp only; omega) _).setCell (p := ⟨w.heap.size + 1 + 1, 2, none⟩) (by dsimp only; omega) _).setCell (p := ⟨w.heap.size + 1 + 1, 3, none⟩) (by dsimp only; omega) _).mono (by omega)
  · exact ((((((HQ.out.setCell (p := ⟨w.heap.size + 1, 0, none⟩) (by dsimp only; omega) _).setCell (p := ⟨w.heap.size + 1, 1, none⟩) (by dsimp only; omega) _).setCell (p := ⟨w.heap.size + 1 + 1, 0, none⟩) (by dsimp only; omega) _).setCell (p := ⟨w.heap.size + 1 + 1, 1, none⟩) (by dsimp only; omega) _).setCell (p := ⟨w.heap.size + 1 + 1, 2, none⟩) (by dsimp only; omega) _).setCell (p := ⟨w.heap.size + 1 + 1, 3, none⟩) (by dsimp only; omega) _).mono (by omega)
  · exact ((((((HB6.out.setCell (p := ⟨w.heap.size + 1, 0, none⟩) (by dsimp only; omega) _).setCell (p := ⟨w.heap.size + 1, 1, none⟩) (by dsimp only; omega) _).setCell (p := ⟨w.heap.size + 1 + 1, 0, none⟩) (by dsimp only; omega) _).setCell (p := ⟨w.heap.size + 1 + 1, 1, none⟩) (by dsimp only; omega) _).setCell (p := ⟨w.heap.size + 1 + 1, 2, none⟩) (by dsimp only; omega) _).setCell (p := ⟨w.heap.size + 1 + 1, 3, none⟩) (by dsimp only; omega) _)
end Go.Proofs.YteeifaleneneeaaGreatDoor

/- The walk of the specification's l03Make. -/
namespace Go.Proofs.YteeifaleneneeaaGreatDoor
open Go.RowKit
set_option linter.unusedVariables false

theorem fin_four {w w1 : World} {N b1 b2 n1 c1 n2 c2 : Nat} {a1 a2 : Option Addr} {xs1 xs2 : List Nat} (h1 : Own w1 b1 a1 n1 c1 xs1) (h2 : Own w1 b2 a2 n2 c2 xs2) (hN : N < b1) (hM : N < b2) (wN : w.heap.size ≤ N) (hb : Below w.heap.size w w1) (x y z t : Value) :
    Own ((((w1.setCell ⟨N, 0, none⟩ x).setCell ⟨N, 1, none⟩ y).setCell ⟨N, 2, none⟩ z).setCell ⟨N, 3, none⟩ t) w.heap.size a1 n1 c1 xs1 ∧ Own ((((w1.setCell ⟨N, 0, none⟩ x).setCell ⟨N, 1, none⟩ y).setCell ⟨N, 2, none⟩ z).setCell ⟨N, 3, none⟩ t) w.heap.size a2 n2 c2 xs2 ∧ Below w.heap.size w ((((w1.setCell ⟨N, 0, none⟩ x).setCell ⟨N, 1, none⟩ y).setCell ⟨N, 2, none⟩ z).setCell ⟨N, 3, none⟩ t) :=
  ⟨(((((h1).setCell (p := ⟨N, 0, none⟩) hN x).setCell (p := ⟨N, 1, none⟩) hN y).setCell (p := ⟨N, 2, none⟩) hN z).setCell (p := ⟨N, 3, none⟩) hN t).mono (by omega),
   (((((h2).setCell (p := ⟨N, 0, none⟩) hM x).setCell (p := ⟨N, 1, none⟩) hM y).setCell (p := ⟨N, 2, none⟩) hM z).setCell (p := ⟨N, 3, none⟩) hM t).mono (by omega),
   ((((hb).setCell (p := ⟨N, 0, none⟩) wN x).setCell (p := ⟨N, 1, none⟩) wN y).setCell (p := ⟨N, 2, none⟩) wN z).setCell (p := ⟨N, 3, none⟩) wN t⟩

set_option maxHeartbeats 600000 in
theorem makeRp (x y : Int) (a1 : Option Addr) (c1 : Nat) (a2 : Option Addr) (c2 : Nat) (w : World) (s1 : Seg w a1 (lms x).length c1 (lms x)) (s2 : Seg w a2 (lms y).length c2 (lms y)) (hy : y ≠ 0) (hn : ¬ y < 0) (l1 : (lms x).length ≤ 100000) (l2 : (lms y).length ≤ 100000) :
    Calls Tryz.prog 33 #[.agg #[Value.bool (sgn x), Value.slice a1 (lms x).length c1], .agg #[Value.bool (sgn y), Value.slice a2 (lms y).length c2]] w fun e w' => ∃ b1 e1 b2 e2, e = .returned (.agg #[.bool (sgn (x / sgG x y)), .slice b1 (lms (x / sgG x y)).length e1, .bool (sgn (y / sgG x y)), .slice b2 (lms (y / sgG x y)).length e2]) ∧ Own w' w.heap.size b1 (lms (x / sgG x y)).length e1 (lms (x / sgG x y)) ∧ Own w' w.heap.size b2 (lms (y / sgG x y)).length e2 (lms (y / sgG x y)) ∧ Apart b1 b2 ∧ Below w.heap.size w w' := by
  have ka0 : (((w.alloc (Obj.cells #[Value.bool (sgn x), Value.slice a1 (lms x).length c1] 41)).alloc (Obj.cells #[Value.bool (sgn y), Value.slice a2 (lms y).length c2] 41)).alloc (Obj.cells #[Value.bool false, Value.slice none 0 0, Value.bool false, Value.slice none 0 0] 43)).cell? ⟨w.heap.size, 0, none⟩ = some (Value.bool (sgn x)) := by go_simp
  have ka1 : (((w.alloc (Obj.cells #[Value.bool (sgn x), Value.slice a1 (lms x).length c1] 41)).alloc (Obj.cells #[Value.bool (sgn y), Value.slice a2 (lms y).length c2] 41)).alloc (Obj.cells #[Value.bool false, Value.slice none 0 0, Value.bool false, Value.slice none 0 0] 43)).cell? ⟨w.heap.size, 1, none⟩ = some (Value.slice a1 (lms x).length c1) := by go_simp
  have kb0 : (((w.alloc (Obj.cells #[Value.bool (sgn x), Value.slice a1 (lms x).length c1] 41)).alloc (Obj.cells #[Value.bool (sgn y), Value.slice a2 (lms y).length c2] 41)).alloc (Obj.cells #[Value.bool false, Value.slice none 0 0, Value.bool false, Value.slice none 0 0] 43)).cell? ⟨w.heap.size + 1, 0, none⟩ = some (Value.bool (sgn y)) := by go_simp
  have kb1 : (((w.alloc (Obj.cells #[Value.bool (sgn x), Value.slice a1 (lms x).length c1] 41)).alloc (Obj.cells #[Value.bool (sgn y), Value.slice a2 (lms y).length c2] 41)).alloc (Obj.cells #[Value.bool false, Value.slice none 0 0, Value.bool false, Value.slice none 0 0] 43)).cell? ⟨w.heap.size + 1, 1, none⟩ = some (Value.slice a2 (lms y).length c2) := by go_simp
  have kr0 : (((w.alloc (Obj.cells #[Value.bool (sgn x), Value.slice a1 (lms x).length c1] 41)).alloc (Obj.cells #[Value.bool (sgn y), Value.slice a2 (lms y).length c2] 41)).alloc (Obj.cells #[Value.bool false, Value.slice none 0 0, Value.bool false, Value.slice none 0 0] 43)).cell? ⟨w.heap.size + 1 + 1, 0, none⟩ = some (Value.bool false) := by go_simp
  have fr0 : (((w.alloc (Obj.cells #[Value.bool (sgn x), Value.slice a1 (lms x).length c1] 41)).alloc (Obj.cells #[Value.bool (sgn y), Value.slice a2 (lms y).length c2] 41)).alloc (Obj.cells #[Value.bool false, Value.slice none 0 0, Value.bool false, Value.slice none 0 0] 43)).frozen? ⟨w.heap.size + 1 + 1, 0, none⟩ = false := by go_simp
  have kr1 : (((w.alloc (Obj.cells #[Value.bool (sgn x), Value.slice a1 (lms x).length c1] 41)).alloc (Obj.cells #[Value.bool (sgn y), Value.slice a2 (lms y).length c2] 41)).alloc (Obj.cells #[Value.bool false, Value.slice none 0 0, Value.bool false, Value.slice none 0 0] 43)).cell? ⟨w.heap.size + 1 + 1, 1, none⟩ = some (Value.slice none 0 0) := by go_simp
  have fr1 : (((w.alloc (Obj.cells #[Value.bool (sgn x), Value.slice a1 (lms x).length c1] 41)).alloc (Obj.cells #[Value.bool (sgn y), Value.slice a2 (lms y).length c2] 41)).alloc (Obj.cells #[Value.bool false, Value.slice none 0 0, Value.bool false, Value.slice none 0 0] 43)).frozen? ⟨w.heap.size + 1 + 1, 1, none⟩ = false := by go_simp
  have kr2 : (((w.alloc (Obj.cells #[Value.bool (sgn x), Value.slice a1 (lms x).length c1] 41)).alloc (Obj.cells #[Value.bool (sgn y), Value.slice a2 (lms y).length c2] 41)).alloc (Obj.cells #[Value.bool false, Value.slice none 0 0, Value.bool false, Value.slice none 0 0] 43)).cell? ⟨w.heap.size + 1 + 1, 2, none⟩ = some (Value.bool false) := by go_simp
  have fr2 : (((w.alloc (Obj.cells #[Value.bool (sgn x), Value.slice a1 (lms x).length c1] 41)).alloc (Obj.cells #[Value.bool (sgn y), Value.slice a2 (lms y).length c2] 41)).alloc (Obj.cells #[Value.bool false, Value.slice none 0 0, Value.bool false, Value.slice none 0 0] 43)).frozen? ⟨w.heap.size + 1 + 1, 2, none⟩ = false := by go_simp
  have kr3 : (((w.alloc (Obj.cells #[Value.bool (sgn x), Value.slice a1 (lms x).length c1] 41)).alloc (Obj.cells #[Value.bool (sgn y), Value.slice a2 (lms y).length c2] 41)).alloc (Obj.cells #[Value.bool false, Value.slice none 0 0, Value.bool false, Value.slice none 0 0] 43)).cell? ⟨w.heap.size + 1 + 1, 3, none⟩ = some (Value.slice none 0 0) := by go_simp
  have fr3 : (((w.alloc (Obj.cells #[Value.bool (sgn x), Value.slice a1 (lms x).length c1] 41)).alloc (Obj.cells #[Value.bool (sgn y), Value.slice a2 (lms y).length c2] 41)).alloc (Obj.cells #[Value.bool false, Value.slice none 0 0, Value.bool false, Value.slice none 0 0] 43)).frozen? ⟨w.heap.size + 1 + 1, 3, none⟩ = false := by go_simp
  have zr : w.heap.size + 1 + 1 < (((w.alloc (Obj.cells #[Value.bool (sgn x), Value.slice a1 (lms x).length c1] 41)).alloc (Obj.cells #[Value.bool (sgn y), Value.slice a2 (lms y).length c2] 41)).alloc (Obj.cells #[Value.bool false, Value.slice none 0 0, Value.bool false, Value.slice none 0 0] 43)).heap.size := by simp only [World.size_alloc]; omega
  have HB := hide (bl_alloc (bl_alloc (bl_alloc (bl_refl w) (Obj.cells #[Value.bool (sgn x), Value.slice a1 (lms x).length c1] 41)) (Obj.cells #[Value.bool (sgn y), Value.slice a2 (lms y).length c2] 41)) (Obj.cells #[Value.bool false, Value.slice none 0 0, Value.bool false, Value.slice none 0 0] 43))
  have S1 := hide (s1.below HB.out)
  have S2 := hide (s2.below HB.out)
  have T1 := hide s1
  have T2 := hide s2
  clear s1 s2
  obtain ⟨hG0, hGs, hGl, hGL⟩ := sgG_facts hy (rfl : sgG x y = sgG x y) l2
  have hgL : (lms ((Int.gcd x y : Nat) : Int)).length ≤ 100000 := by rw [hGl]; exact hGL
  have eG : sgG x y = ((Int.gcd x y : Nat) : Int) := if_neg hn
  rw [eG] at hG0 hGL
  rw [eG]
  have hsy : sgn y = false := by unfold sgn; simp; omega
  have HSY := hide hsy
  clear eG hGs hGl hn hsy
  have HGC := hide (fun (w : World) h1 h2 => gcdS (.agg #[Value.bool (sgn x), Value.slice a1 (lms x).length c1]) (.agg #[Value.bool (sgn y), Value.slice a2 (lms y).length c2]) x y w h1 h2 l1 l2)
  generalize ((Int.gcd x y : Nat) : Int) = g at *
  go_enter Tryz.func33, Tryz.ntmps33
  go_wp2_with fail
  generalize (((w.alloc (Obj.cells #[Value.bool (sgn x), Value.slice a1 (lms x).length c1] 41)).alloc (Obj.cells #[Value.bool (sgn y), Value.slice a2 (lms y).length c2] 41)).alloc (Obj.cells #[Value.bool false, Value.slice none 0 0, Value.bool false, Value.slice none 0 0] 43)) = w1 at *
  refine (HGC.out _ ⟨a1, c1, rfl, S1.out⟩ ⟨a2, c2, rfl, S2.out⟩).mono ?_
  rintro e w2 ⟨v, rfl, ⟨ag, cg, rfl, hrg⟩, hb⟩
  replace ka0 := (hb.cell (p := ⟨w.heap.size, 0, none⟩) (by dsimp only; omega)).trans ka0
  replace ka1 := (hb.cell (p := ⟨w.heap.size, 1, none⟩) (by dsimp only; omega)).trans ka1
  replace kb0 := (hb.cell (p := ⟨w.heap.size + 1, 0, none⟩) (by dsimp only; omega)).trans kb0
  replace kb1 := (hb.cell (p := ⟨w.heap.size + 1, 1, none⟩) (by dsimp only; omega)).trans kb1
  replace kr0 := (hb.cell (p := ⟨w.heap.size + 1 + 1, 0, none⟩) (by dsimp only; omega)).trans kr0
  replace fr0 := (hb.frozen (p := ⟨w.heap.size + 1 + 1, 0, none⟩) (by dsimp only; omega)).trans fr0
  replace kr1 := (hb.cell (p := ⟨w.heap.size + 1 + 1, 1, none⟩) (by dsimp only; omega)).trans kr1
  replace fr1 := (hb.frozen (p := ⟨w.heap.size + 1 + 1, 1, none⟩) (by dsimp only; omega)).trans fr1
  replace kr2 := (hb.cell (p := ⟨w.heap.size + 1 + 1, 2, none⟩) (by dsimp only; omega)).trans kr2
  replace fr2 := (hb.frozen (p := ⟨w.heap.size + 1 + 1, 2, none⟩) (by dsimp only; omega)).trans fr2
  replace kr3 := (hb.cell (p := ⟨w.heap.size + 1 + 1, 3, none⟩) (by dsimp only; omega)).trans kr3
  replace fr3 := (hb.frozen (p := ⟨w.heap.size + 1 + 1, 3, none⟩) (by dsimp only; omega)).trans fr3
  replace S1 := hide (S1.out.below hb)
  replace S2 := hide (S2.out.below hb)
  replace zr := Nat.lt_of_lt_of_le zr hb.size
  replace HB := hide (bl_trans HB.out hb)
  clear hb
  have SG := hide hrg.1
  clear hrg HGC
  go_upto_region 2 with fail
  have yw3 : w2.heap.size + 1 ≤ (w2.alloc (Obj.cells #[Value.bool (sgn g), Value.slice ag (lms g).length cg] 41)).heap.size := by simp only [World.size_alloc]; omega
  have kg0 : (w2.alloc (Obj.cells #[Value.bool (sgn g), Value.slice ag (lms g).length cg] 41)).cell? ⟨w2.heap.size, 0, none⟩ = some (Value.bool (sgn g)) := by go_simp
  have fg0 : (w2.alloc (Obj.cells #[Value.bool (sgn g), Value.slice ag (lms g).length cg] 41)).frozen? ⟨w2.heap.size, 0, none⟩ = false := by go_simp
  have kg1 : (w2.alloc (Obj.cells #[Value.bool (sgn g), Value.slice ag (lms g).length cg] 41)).cell? ⟨w2.heap.size, 1, none⟩ = some (Value.slice ag (lms g).length cg) := by go_simp
  have fg1 : (w2.alloc (Obj.cells #[Value.bool (sgn g), Value.slice ag (lms g).length cg] 41)).frozen? ⟨w2.heap.size, 1, none⟩ = false := by go_simp
  have hbn := (bl_alloc (bl_refl w2) (Obj.cells #[Value.bool (sgn g), Value.slice ag (lms g).length cg] 41))
  have zw3 := zr
  replace ka0 := (hbn.cell (p := ⟨w.heap.size, 0, none⟩) (by dsimp only; omega)).trans ka0
  replace ka1 := (hbn.cell (p := ⟨w.heap.size, 1, none⟩) (by dsimp only; omega)).trans ka1
  replace kb0 := (hbn.cell (p := ⟨w.heap.size + 1, 0, none⟩) (by dsimp only; omega)).trans kb0
  replace kb1 := (hbn.cell (p := ⟨w.heap.size + 1, 1, none⟩) (by dsimp only; omega)).trans kb1
  replace kr0 := (hbn.cell (p := ⟨w.heap.size + 1 + 1, 0, none⟩) (by dsimp only; omega)).trans kr0
  replace fr0 := (hbn.frozen (p := ⟨w.heap.size + 1 + 1, 0, none⟩) (by dsimp only; omega)).trans fr0
  replace kr1 := (hbn.cell (p := ⟨w.heap.size + 1 + 1, 1, none⟩) (by dsimp only; omega)).trans kr1
  replace fr1 := (hbn.frozen (p := ⟨w.heap.size + 1 + 1, 1, none⟩) (by dsimp only; omega)).trans fr1
  replace kr2 := (hbn.cell (p := ⟨w.heap.size + 1 + 1, 2, none⟩) (by dsimp only; omega)).trans kr2
  replace fr2 := (hbn.frozen (p := ⟨w.heap.size + 1 + 1, 2, none⟩) (by dsimp only; omega)).trans fr2
  replace kr3 := (hbn.cell (p := ⟨w.heap.size + 1 + 1, 3, none⟩) (by dsimp only; omega)).trans kr3
  replace fr3 := (hbn.frozen (p := ⟨w.heap.size + 1 + 1, 3, none⟩) (by dsimp only; omega)).trans fr3
  replace S1 := hide (S1.out.below hbn)
  replace S2 := hide (S2.out.below hbn)
  replace SG := hide (SG.out.below hbn)
  replace zr := Nat.lt_of_lt_of_le zr hbn.size
  replace HB := hide (bl_trans HB.out hbn)
  clear hbn
  generalize (w2.alloc (Obj.cells #[Value.bool (sgn g), Value.slice ag (lms g).length cg] 41)) = w3 at *
  rw [HSY.out] at kb0
  go_wp2_with fail
  rw [← HSY.out] at kb0
  refine (divS (.agg #[.bool (sgn x), .slice a1 (lms x).length c1]) (.agg #[.bool (sgn g), .slice ag (lms g).length cg]) x g _ ⟨a1, c1, rfl, S1.out⟩ ⟨ag, cg, rfl, SG.out⟩ hG0 l1 hgL).mono ?_
  rintro e w4 ⟨aq1, cq1, ar1, cr1, rfl, ho1, hor1, hb⟩
  have yw4 := hb.size
  replace ka0 := (hb.cell (p := ⟨w.heap.size, 0, none⟩) (by dsimp only; omega)).trans ka0
  replace ka1 := (hb.cell (p := ⟨w.heap.size, 1, none⟩) (by dsimp only; omega)).trans ka1
  replace kb0 := (hb.cell (p := ⟨w.heap.size + 1, 0, none⟩) (by dsimp only; omega)).trans kb0
  replace kb1 := (hb.cell (p := ⟨w.heap.size + 1, 1, none⟩) (by dsimp only; omega)).trans kb1
  replace kr0 := (hb.cell (p := ⟨w.heap.size + 1 + 1, 0, none⟩) (by dsimp only; omega)).trans kr0
  replace fr0 := (hb.frozen (p := ⟨w.heap.size + 1 + 1, 0, none⟩) (by dsimp only; omega)).trans fr0
  replace kr1 := (hb.cell (p := ⟨w.heap.size + 1 + 1, 1, none⟩) (by dsimp only; omega)).trans kr1
  replace fr1 := (hb.frozen (p := ⟨w.heap.size + 1 + 1, 1, none⟩) (by dsimp only; omega)).trans fr1
  replace kr2 := (hb.cell (p := ⟨w.heap.size + 1 + 1, 2, none⟩) (by dsimp only; omega)).trans kr2
  replace fr2 := (hb.frozen (p := ⟨w.heap.size + 1 + 1, 2, none⟩) (by dsimp only; omega)).trans fr2
  replace kr3 := (hb.cell (p := ⟨w.heap.size + 1 + 1, 3, none⟩) (by dsimp only; omega)).trans kr3
  replace fr3 := (hb.frozen (p := ⟨w.heap.size + 1 + 1, 3, none⟩) (by dsimp only; omega)).trans fr3
  replace kg0 := (hb.cell (p := ⟨w2.heap.size, 0, none⟩) (by dsimp only; omega)).trans kg0
  replace fg0 := (hb.frozen (p := ⟨w2.heap.size, 0, none⟩) (by dsimp only; omega)).trans fg0
  replace kg1 := (hb.cell (p := ⟨w2.heap.size, 1, none⟩) (by dsimp only; omega)).trans kg1
  replace fg1 := (hb.frozen (p := ⟨w2.heap.size, 1, none⟩) (by dsimp only; omega)).trans fg1
  replace S1 := hide (S1.out.below hb)
  replace S2 := hide (S2.out.below hb)
  replace SG := hide (SG.out.below hb)
  replace zr := Nat.lt_of_lt_of_le zr hb.size
  replace HB := hide (bl_trans HB.out hb)
  clear hb
  clear hor1
  have O1 := hide ho1
  clear ho1
  go_upto_region 5 with fail
  have yw5 : w4.heap.size + 2 ≤ ((w4.alloc (Obj.cells #[Value.bool (sgn (x / g)), Value.slice aq1 (lms (x / g)).length cq1] 41)).alloc (Obj.cells #[Value.bool (sgn (x % g)), Value.slice ar1 (lms (x % g)).length cr1] 41)).heap.size := by simp only [World.size_alloc]; omega
  have kq10 : ((w4.alloc (Obj.cells #[Value.bool (sgn (x / g)), Value.slice aq1 (lms (x / g)).length cq1] 41)).alloc (Obj.cells #[Value.bool (sgn (x % g)), Value.slice ar1 (lms (x % g)).length cr1] 41)).cell? ⟨w4.heap.size, 0, none⟩ = some (Value.bool (sgn (x / g))) := by go_simp
  have kq11 : ((w4.alloc (Obj.cells #[Value.bool (sgn (x / g)), Value.slice aq1 (lms (x / g)).length cq1] 41)).alloc (Obj.cells #[Value.bool (sgn (x % g)), Value.slice ar1 (lms (x % g)).length cr1] 41)).cell? ⟨w4.heap.size, 1, none⟩ = some (Value.slice aq1 (lms (x / g)).length cq1) := by go_simp
  have hbn := (bl_alloc (bl_alloc (bl_refl w4) (Obj.cells #[Value.bool (sgn (x / g)), Value.slice aq1 (lms (x / g)).length cq1] 41)) (Obj.cells #[Value.bool (sgn (x % g)), Value.slice ar1 (lms (x % g)).length cr1] 41))
  have zw5 := zr
  replace ka0 := (hbn.cell (p := ⟨w.heap.size, 0, none⟩) (by dsimp only; omega)).trans ka0
  replace ka1 := (hbn.cell (p := ⟨w.heap.size, 1, none⟩) (by dsimp only; omega)).trans ka1
  replace kb0 := (hbn.cell (p := ⟨w.heap.size + 1, 0, none⟩) (by dsimp only; omega)).trans kb0
  replace kb1 := (hbn.cell (p := ⟨w.heap.size + 1, 1, none⟩) (by dsimp only; omega)).trans kb1
  replace kr0 := (hbn.cell (p := ⟨w.heap.size + 1 + 1, 0, none⟩) (by dsimp only; omega)).trans kr0
  replace fr0 := (hbn.frozen (p := ⟨w.heap.size + 1 + 1, 0, none⟩) (by dsimp only; omega)).trans fr0
  replace kr1 := (hbn.cell (p := ⟨w.heap.size + 1 + 1, 1, none⟩) (by dsimp only; omega)).trans kr1
  replace fr1 := (hbn.frozen (p := ⟨w.heap.size + 1 + 1, 1, none⟩) (by dsimp only; omega)).trans fr1
  replace kr2 := (hbn.cell (p := ⟨w.heap.size + 1 + 1, 2, none⟩) (by dsimp only; omega)).trans kr2
  replace fr2 := (hbn.frozen (p := ⟨w.heap.size + 1 + 1, 2, none⟩) (by dsimp only; omega)).trans fr2
  replace kr3 := (hbn.cell (p := ⟨w.heap.size + 1 + 1, 3, none⟩) (by dsimp only; omega)).trans kr3
  replace fr3 := (hbn.frozen (p := ⟨w.heap.size + 1 + 1, 3, none⟩) (by dsimp only; omega)).trans fr3
  replace kg0 := (hbn.cell (p := ⟨w2.heap.size, 0, none⟩) (by dsimp only; omega)).trans kg0
  replace fg0 := (hbn.frozen (p := ⟨w2.heap.size, 0, none⟩) (by dsimp only; omega)).trans fg0
  replace kg1 := (hbn.cell (p := ⟨w2.heap.size, 1, none⟩) (by dsimp only; omega)).trans kg1
  replace fg1 := (hbn.frozen (p := ⟨w2.heap.size, 1, none⟩) (by dsimp only; omega)).trans fg1
  replace S1 := hide (S1.out.below hbn)
  replace S2 := hide (S2.out.below hbn)
  replace SG := hide (SG.out.below hbn)
  replace O1 := hide (O1.out.below hbn)
  replace zr := Nat.lt_of_lt_of_le zr hbn.size
  replace HB := hide (bl_trans HB.out hbn)
  clear hbn
  generalize ((w4.alloc (Obj.cells #[Value.bool (sgn (x / g)), Value.slice aq1 (lms (x / g)).length cq1] 41)).alloc (Obj.cells #[Value.bool (sgn (x % g)), Value.slice ar1 (lms (x % g)).length cr1] 41)) = w5 at *
  go_wp2_with fail
  refine (divS (.agg #[.bool (sgn y), .slice a2 (lms y).length c2]) (.agg #[.bool (sgn g), .slice ag (lms g).length cg]) y g _ ⟨a2, c2, rfl, S2.out⟩ ⟨ag, cg, rfl, SG.out⟩ hG0 l2 hgL).mono ?_
  rintro e w6 ⟨aq2, cq2, ar2, cr2, rfl, ho2, hor2, hb⟩
  have HAP := hide (apart_two O1.out ho2)
  have yw6 := hb.size
  replace ka0 := (hb.cell (p := ⟨w.heap.size, 0, none⟩) (by dsimp only; omega)).trans ka0
  replace ka1 := (hb.cell (p := ⟨w.heap.size, 1, none⟩) (by dsimp only; omega)).trans ka1
  replace kb0 := (hb.cell (p := ⟨w.heap.size + 1, 0, none⟩) (by dsimp only; omega)).trans kb0
  replace kb1 := (hb.cell (p := ⟨w.heap.size + 1, 1, none⟩) (by dsimp only; omega)).trans kb1
  replace kr0 := (hb.cell (p := ⟨w.heap.size + 1 + 1, 0, none⟩) (by dsimp only; omega)).trans kr0
  replace fr0 := (hb.frozen (p := ⟨w.heap.size + 1 + 1, 0, none⟩) (by dsimp only; omega)).trans fr0
  replace kr1 := (hb.cell (p := ⟨w.heap.size + 1 + 1, 1, none⟩) (by dsimp only; omega)).trans kr1
  replace fr1 := (hb.frozen (p := ⟨w.heap.size + 1 + 1, 1, none⟩) (by dsimp only; omega)).trans fr1
  replace kr2 := (hb.cell (p := ⟨w.heap.size + 1 + 1, 2, none⟩) (by dsimp only; omega)).trans kr2
  replace fr2 := (hb.frozen (p := ⟨w.heap.size + 1 + 1, 2, none⟩) (by dsimp only; omega)).trans fr2
  replace kr3 := (hb.cell (p := ⟨w.heap.size + 1 + 1, 3, none⟩) (by dsimp only; omega)).trans kr3
  replace fr3 := (hb.frozen (p := ⟨w.heap.size + 1 + 1, 3, none⟩) (by dsimp only; omega)).trans fr3
  replace kg0 := (hb.cell (p := ⟨w2.heap.size, 0, none⟩) (by dsimp only; omega)).trans kg0
  replace fg0 := (hb.frozen (p := ⟨w2.heap.size, 0, none⟩) (by dsimp only; omega)).trans fg0
  replace kg1 := (hb.cell (p := ⟨w2.heap.size, 1, none⟩) (by dsimp only; omega)).trans kg1
  replace fg1 := (hb.frozen (p := ⟨w2.heap.size, 1, none⟩) (by dsimp only; omega)).trans fg1
  replace kq10 := (hb.cell (p := ⟨w4.heap.size, 0, none⟩) (by dsimp only; omega)).trans kq10
  replace kq11 := (hb.cell (p := ⟨w4.heap.size, 1, none⟩) (by dsimp only; omega)).trans kq11
  replace S1 := hide (S1.out.below hb)
  replace S2 := hide (S2.out.below hb)
  replace SG := hide (SG.out.below hb)
  replace O1 := hide (O1.out.below hb)
  replace zr := Nat.lt_of_lt_of_le zr hb.size
  replace HB := hide (bl_trans HB.out hb)
  clear hb
  clear hor2
  have O2 := hide ho2
  clear ho2
  go_upto_region 6 with fail
  have yw7 : w6.heap.size + 2 ≤ ((w6.alloc (Obj.cells #[Value.bool (sgn (y / g)), Value.slice aq2 (lms (y / g)).length cq2] 41)).alloc (Obj.cells #[Value.bool (sgn (y % g)), Value.slice ar2 (lms (y % g)).length cr2] 41)).heap.size := by simp only [World.size_alloc]; omega
  have kq20 : ((w6.alloc (Obj.cells #[Value.bool (sgn (y / g)), Value.slice aq2 (lms (y / g)).length cq2] 41)).alloc (Obj.cells #[Value.bool (sgn (y % g)), Value.slice ar2 (lms (y % g)).length cr2] 41)).cell? ⟨w6.heap.size, 0, none⟩ = some (Value.bool (sgn (y / g))) := by go_simp
  have kq21 : ((w6.alloc (Obj.cells #[Value.bool (sgn (y / g)), Value.slice aq2 (lms (y / g)).length cq2] 41)).alloc (Obj.cells #[Value.bool (sgn (y % g)), Value.slice ar2 (lms (y % g)).length cr2] 41)).cell? ⟨w6.heap.size, 1, none⟩ = some (Value.slice aq2 (lms (y / g)).length cq2) := by go_simp
  have hbn := (bl_alloc (bl_alloc (bl_refl w6) (Obj.cells #[Value.bool (sgn (y / g)), Value.slice aq2 (lms (y / g)).length cq2] 41)) (Obj.cells #[Value.bool (sgn (y % g)), Value.slice ar2 (lms (y % g)).length cr2] 41))
  have zw7 := zr
  replace ka0 := (hbn.cell (p := ⟨w.heap.size, 0, none⟩) (by dsimp only; omega)).trans ka0
  replace ka1 := (hbn.cell (p := ⟨w.heap.size, 1, none⟩) (by dsimp only; omega)).trans ka1
  replace kb0 := (hbn.cell (p := ⟨w.heap.size + 1, 0, none⟩) (by dsimp only; omega)).trans kb0
  replace kb1 := (hbn.cell (p := ⟨w.heap.size + 1, 1, none⟩) (by dsimp only; omega)).trans kb1
  replace kr0 := (hbn.cell (p := ⟨w.heap.size + 1 + 1, 0, none⟩) (by dsimp only; omega)).trans kr0
  replace fr0 := (hbn.frozen (p := ⟨w.heap.size + 1 + 1, 0, none⟩) (by dsimp only; omega)).trans fr0
  replace kr1 := (hbn.cell (p := ⟨w.heap.size + 1 + 1, 1, none⟩) (by dsimp only; omega)).trans kr1
  replace fr1 := (hbn.frozen (p := ⟨w.heap.size + 1 + 1, 1, none⟩) (by dsimp only; omega)).trans fr1
  replace kr2 := (hbn.cell (p := ⟨w.heap.size + 1 + 1, 2, none⟩) (by dsimp only; omega)).trans kr2
  replace fr2 := (hbn.frozen (p := ⟨w.heap.size + 1 + 1, 2, none⟩) (by dsimp only; omega)).trans fr2
  replace kr3 := (hbn.cell (p := ⟨w.heap.size + 1 + 1, 3, none⟩) (by dsimp only; omega)).trans kr3
  replace fr3 := (hbn.frozen (p := ⟨w.heap.size + 1 + 1, 3, none⟩) (by dsimp only; omega)).trans fr3
  replace kg0 := (hbn.cell (p := ⟨w2.heap.size, 0, none⟩) (by dsimp only; omega)).trans kg0
  replace fg0 := (hbn.frozen (p := ⟨w2.heap.size, 0, none⟩) (by dsimp only; omega)).trans fg0
  replace kg1 := (hbn.cell (p := ⟨w2.heap.size, 1, none⟩) (by dsimp only; omega)).trans kg1
  replace fg1 := (hbn.frozen (p := ⟨w2.heap.size, 1, none⟩) (by dsimp only; omega)).trans fg1
  replace kq10 := (hbn.cell (p := ⟨w4.heap.size, 0, none⟩) (by dsimp only; omega)).trans kq10
  replace kq11 := (hbn.cell (p := ⟨w4.heap.size, 1, none⟩) (by dsimp only; omega)).trans kq11
  replace S1 := hide (S1.out.below hbn)
  replace S2 := hide (S2.out.below hbn)
  replace SG := hide (SG.out.below hbn)
  replace O1 := hide (O1.out.below hbn)
  replace O2 := hide (O2.out.below hbn)
  replace zr := Nat.lt_of_lt_of_le zr hbn.size
  replace HB := hide (bl_trans HB.out hbn)
  clear hbn
  generalize ((w6.alloc (Obj.cells #[Value.bool (sgn (y / g)), Value.slice aq2 (lms (y / g)).length cq2] 41)).alloc (Obj.cells #[Value.bool (sgn (y % g)), Value.slice ar2 (lms (y % g)).length cr2] 41)) = w7 at *
  go_wp2_with fail
  refine bodyPost_ret (v := .agg #[.bool (sgn (x / g)), .slice aq1 (lms (x / g)).length cq1, .bool (sgn (y / g)), .slice aq2 (lms (y / g)).length cq2]) (by simp [results, Tryz.results33, go_sem, kr0, kr1, kr2, kr3]) rfl ?_
  obtain ⟨h1, h2, h3⟩ := fin_four (N := w.heap.size + 1 + 1) O1.out O2.out (by omega) (by omega) (by omega) HB.out (Value.bool (sgn (x / g))) (Value.slice aq1 (lms (x / g)).length cq1) (Value.bool (sgn (y / g))) (Value.slice aq2 (lms (y / g)).length cq2)
  exact ⟨aq1, cq1, aq2, cq2, rfl, h1, h2, HAP.out, h3⟩

set_option maxHeartbeats 600000 in
theorem makeRn (x y : Int) (a1 : Option Addr) (c1 : Nat) (a2 : Option Addr) (c2 : Nat) (w : World) (s1 : Seg w a1 (lms x).length c1 (lms x)) (s2 : Seg w a2 (lms y).length c2 (lms y)) (hy : y ≠ 0) (hn : y < 0) (l1 : (lms x).length ≤ 100000) (l2 : (lms y).length ≤ 100000) :
    Calls Tryz.prog 33 #[.agg #[Value.bool (sgn x), Value.slice a1 (lms x).length c1], .agg #[Value.bool (sgn y), Value.slice a2 (lms y).length c2]] w fun e w' => ∃ b1 e1 b2 e2, e = .returned (.agg #[.bool (sgn (x / sgG x y)), .slice b1 (lms (x / sgG x y)).length e1, .bool (sgn (y / sgG x y)), .slice b2 (lms (y / sgG x y)).length e2]) ∧ Own w' w.heap.size b1 (lms (x / sgG x y)).length e1 (lms (x / sgG x y)) ∧ Own w' w.heap.size b2 (lms (y / sgG x y)).length e2 (lms (y / sgG x y)) ∧ Apart b1 b2 ∧ Below w.heap.size w w' := by
  have ka0 : (((w.alloc (Obj.cells #[Value.bool (sgn x), Value.slice a1 (lms x).length c1] 41)).alloc (Obj.cells #[Value.bool (sgn y), Value.slice a2 (lms y).length c2] 41)).alloc (Obj.cells #[Value.bool false, Value.slice none 0 0, Value.bool false, Value.slice none 0 0] 43)).cell? ⟨w.heap.size, 0, none⟩ = some (Value.bool (sgn x)) := by go_simp
  have ka1 : (((w.alloc (Obj.cells #[Value.bool (sgn x), Value.slice a1 (lms x).length c1] 41)).alloc (Obj.cells #[Value.bool (sgn y), Value.slice a2 (lms y).length c2] 41)).alloc (Obj.cells #[Value.bool false, Value.slice none 0 0, Value.bool false, Value.slice none 0 0] 43)).cell? ⟨w.heap.size, 1, none⟩ = some (Value.slice a1 (lms x).length c1) := by go_simp
  have kb0 : (((w.alloc (Obj.cells #[Value.bool (sgn x), Value.slice a1 (lms x).length c1] 41)).alloc (Obj.cells #[Value.bool (sgn y), Value.slice a2 (lms y).length c2] 41)).alloc (Obj.cells #[Value.bool false, Value.slice none 0 0, Value.bool false, Value.slice none 0 0] 43)).cell? ⟨w.heap.size + 1, 0, none⟩ = some (Value.bool (sgn y)) := by go_simp
  have kb1 : (((w.alloc (Obj.cells #[Value.bool (sgn x), Value.slice a1 (lms x).length c1] 41)).alloc (Obj.cells #[Value.bool (sgn y), Value.slice a2 (lms y).length c2] 41)).alloc (Obj.cells #[Value.bool false, Value.slice none 0 0, Value.bool false, Value.slice none 0 0] 43)).cell? ⟨w.heap.size + 1, 1, none⟩ = some (Value.slice a2 (lms y).length c2) := by go_simp
  have kr0 : (((w.alloc (Obj.cells #[Value.bool (sgn x), Value.slice a1 (lms x).length c1] 41)).alloc (Obj.cells #[Value.bool (sgn y), Value.slice a2 (lms y).length c2] 41)).alloc (Obj.cells #[Value.bool false, Value.slice none 0 0, Value.bool false, Value.slice none 0 0] 43)).cell? ⟨w.heap.size + 1 + 1, 0, none⟩ = some (Value.bool false) := by go_simp
  have fr0 : (((w.alloc (Obj.cells #[Value.bool (sgn x), Value.slice a1 (lms x).length c1] 41)).alloc (Obj.cells #[Value.bool (sgn y), Value.slice a2 (lms y).length c2] 41)).alloc (Obj.cells #[Value.bool false, Value.slice none 0 0, Value.bool false, Value.slice none 0 0] 43)).frozen? ⟨w.heap.size + 1 + 1, 0, none⟩ = false := by go_simp
  have kr1 : (((w.alloc (Obj.cells #[Value.bool (sgn x), Value.slice a1 (lms x).length c1] 41)).alloc (Obj.cells #[Value.bool (sgn y), Value.slice a2 (lms y).length c2] 41)).alloc (Obj.cells #[Value.bool false, Value.slice none 0 0, Value.bool false, Value.slice none 0 0] 43)).cell? ⟨w.heap.size + 1 + 1, 1, none⟩ = some (Value.slice none 0 0) := by go_simp
  have fr1 : (((w.alloc (Obj.cells #[Value.bool (sgn x), Value.slice a1 (lms x).length c1] 41)).alloc (Obj.cells #[Value.bool (sgn y), Value.slice a2 (lms y).length c2] 41)).alloc (Obj.cells #[Value.bool false, Value.slice none 0 0, Value.bool false, Value.slice none 0 0] 43)).frozen? ⟨w.heap.size + 1 + 1, 1, none⟩ = false := by go_simp
  have kr2 : (((w.alloc (Obj.cells #[Value.bool (sgn x), Value.slice a1 (lms x).length c1] 41)).alloc (Obj.cells #[Value.bool (sgn y), Value.slice a2 (lms y).length c2] 41)).alloc (Obj.cells #[Value.bool false, Value.slice none 0 0, Value.bool false, Value.slice none 0 0] 43)).cell? ⟨w.heap.size + 1 + 1, 2, none⟩ = some (Value.bool false) := by go_simp
  have fr2 : (((w.alloc (Obj.cells #[Value.bool (sgn x), Value.slice a1 (lms x).length c1] 41)).alloc (Obj.cells #[Value.bool (sgn y), Value.slice a2 (lms y).length c2] 41)).alloc (Obj.cells #[Value.bool false, Value.slice none 0 0, Value.bool false, Value.slice none 0 0] 43)).frozen? ⟨w.heap.size + 1 + 1, 2, none⟩ = false := by go_simp
  have kr3 : (((w.alloc (Obj.cells #[Value.bool (sgn x), Value.slice a1 (lms x).length c1] 41)).alloc (Obj.cells #[Value.bool (sgn y), Value.slice a2 (lms y).length c2] 41)).alloc (Obj.cells #[Value.bool false, Value.slice none 0 0, Value.bool false, Value.slice none 0 0] 43)).cell? ⟨w.heap.size + 1 + 1, 3, none⟩ = some (Value.slice none 0 0) := by go_simp
  have fr3 : (((w.alloc (Obj.cells #[Value.bool (sgn x), Value.slice a1 (lms x).length c1] 41)).alloc (Obj.cells #[Value.bool (sgn y), Value.slice a2 (lms y).length c2] 41)).alloc (Obj.cells #[Value.bool false, Value.slice none 0 0, Value.bool false, Value.slice none 0 0] 43)).frozen? ⟨w.heap.size + 1 + 1, 3, none⟩ = false := by go_simp
  have zr : w.heap.size + 1 + 1 < (((w.alloc (Obj.cells #[Value.bool (sgn x), Value.slice a1 (lms x).length c1] 41)).alloc (Obj.cells #[Value.bool (sgn y), Value.slice a2 (lms y).length c2] 41)).alloc (Obj.cells #[Value.bool false, Value.slice none 0 0, Value.bool false, Value.slice none 0 0] 43)).heap.size := by simp only [World.size_alloc]; omega
  have HB := hide (bl_alloc (bl_alloc (bl_alloc (bl_refl w) (Obj.cells #[Value.bool (sgn x), Value.slice a1 (lms x).length c1] 41)) (Obj.cells #[Value.bool (sgn y), Value.slice a2 (lms y).length c2] 41)) (Obj.cells #[Value.bool false, Value.slice none 0 0, Value.bool false, Value.slice none 0 0] 43))
  have S1 := hide (s1.below HB.out)
  have S2 := hide (s2.below HB.out)
  have T1 := hide s1
  have T2 := hide s2
  clear s1 s2
  obtain ⟨hG0, hGs, hGl, hGL⟩ := sgG_facts hy (rfl : sgG x y = sgG x y) l2
  have hgL : (lms ((Int.gcd x y : Nat) : Int)).length ≤ 100000 := by rw [hGl]; exact hGL
  have eG : sgG x y = -((Int.gcd x y : Nat) : Int) := if_pos hn
  rw [eG] at hG0 hGL
  rw [eG]
  have hsy : sgn y = true := by unfold sgn; simp; omega
  have HSY := hide hsy
  clear eG hGs hGl hn hsy
  have HGC := hide (fun (w : World) h1 h2 => gcdS (.agg #[Value.bool (sgn x), Value.slice a1 (lms x).length c1]) (.agg #[Value.bool (sgn y), Value.slice a2 (lms y).length c2]) x y w h1 h2 l1 l2)
  generalize ((Int.gcd x y : Nat) : Int) = g at *
  go_enter Tryz.func33, Tryz.ntmps33
  go_wp2_with fail
  generalize (((w.alloc (Obj.cells #[Value.bool (sgn x), Value.slice a1 (lms x).length c1] 41)).alloc (Obj.cells #[Value.bool (sgn y), Value.slice a2 (lms y).length c2] 41)).alloc (Obj.cells #[Value.bool false, Value.slice none 0 0, Value.bool false, Value.slice none 0 0] 43)) = w1 at *
  refine (HGC.out _ ⟨a1, c1, rfl, S1.out⟩ ⟨a2, c2, rfl, S2.out⟩).mono ?_
  rintro e w2 ⟨v, rfl, ⟨ag, cg, rfl, hrg⟩, hb⟩
  replace ka0 := (hb.cell (p := ⟨w.heap.size, 0, none⟩) (by dsimp only; omega)).trans ka0
  replace ka1 := (hb.cell (p := ⟨w.heap.size, 1, none⟩) (by dsimp only; omega)).trans ka1
  replace kb0 := (hb.cell (p := ⟨w.heap.size + 1, 0, none⟩) (by dsimp only; omega)).trans kb0
  replace kb1 := (hb.cell (p := ⟨w.heap.size + 1, 1, none⟩) (by dsimp only; omega)).trans kb1
  replace kr0 := (hb.cell (p := ⟨w.heap.size + 1 + 1, 0, none⟩) (by dsimp only; omega)).trans kr0
  replace fr0 := (hb.frozen (p := ⟨w.heap.size + 1 + 1, 0, none⟩) (by dsimp only; omega)).trans fr0
  replace kr1 := (hb.cell (p := ⟨w.heap.size + 1 + 1, 1, none⟩) (by dsimp only; omega)).trans kr1
  replace fr1 := (hb.frozen (p := ⟨w.heap.size + 1 + 1, 1, none⟩) (by dsimp only; omega)).trans fr1
  replace kr2 := (hb.cell (p := ⟨w.heap.size + 1 + 1, 2, none⟩) (by dsimp only; omega)).trans kr2
  replace fr2 := (hb.frozen (p := ⟨w.heap.size + 1 + 1, 2, none⟩) (by dsimp only; omega)).trans fr2
  replace kr3 := (hb.cell (p := ⟨w.heap.size + 1 + 1, 3, none⟩) (by dsimp only; omega)).trans kr3
  replace fr3 := (hb.frozen (p := ⟨w.heap.size + 1 + 1, 3, none⟩) (by dsimp only; omega)).trans fr3
  replace S1 := hide (S1.out.below hb)
  replace S2 := hide (S2.out.below hb)
  replace zr := Nat.lt_of_lt_of_le zr hb.size
  replace HB := hide (bl_trans HB.out hb)
  clear hb
  have SG := hide hrg.1
  clear hrg HGC
  go_upto_region 2 with fail
  have yw3 : w2.heap.size + 1 ≤ (w2.alloc (Obj.cells #[Value.bool (sgn g), Value.slice ag (lms g).length cg] 41)).heap.size := by simp only [World.size_alloc]; omega
  have kg0 : (w2.alloc (Obj.cells #[Value.bool (sgn g), Value.slice ag (lms g).length cg] 41)).cell? ⟨w2.heap.size, 0, none⟩ = some (Value.bool (sgn g)) := by go_simp
  have fg0 : (w2.alloc (Obj.cells #[Value.bool (sgn g), Value.slice ag (lms g).length cg] 41)).frozen? ⟨w2.heap.size, 0, none⟩ = false := by go_simp
  have kg1 : (w2.alloc (Obj.cells #[Value.bool (sgn g), Value.slice ag (lms g).length cg] 41)).cell? ⟨w2.heap.size, 1, none⟩ = some (Value.slice ag (lms g).length cg) := by go_simp
  have fg1 : (w2.alloc (Obj.cells #[Value.bool (sgn g), Value.slice ag (lms g).length cg] 41)).frozen? ⟨w2.heap.size, 1, none⟩ = false := by go_simp
  have hbn := (bl_alloc (bl_refl w2) (Obj.cells #[Value.bool (sgn g), Value.slice ag (lms g).length cg] 41))
  have zw3 := zr
  replace ka0 := (hbn.cell (p := ⟨w.heap.size, 0, none⟩) (by dsimp only; omega)).trans ka0
  replace ka1 := (hbn.cell (p := ⟨w.heap.size, 1, none⟩) (by dsimp only; omega)).trans ka1
  replace kb0 := (hbn.cell (p := ⟨w.heap.size + 1, 0, none⟩) (by dsimp only; omega)).trans kb0
  replace kb1 := (hbn.cell (p := ⟨w.heap.size + 1, 1, none⟩) (by dsimp only; omega)).trans kb1
  replace kr0 := (hbn.cell (p := ⟨w.heap.size + 1 + 1, 0, none⟩) (by dsimp only; omega)).trans kr0
  replace fr0 := (hbn.frozen (p := ⟨w.heap.size + 1 + 1, 0, none⟩) (by dsimp only; omega)).trans fr0
  replace kr1 := (hbn.cell (p := ⟨w.heap.size + 1 + 1, 1, none⟩) (by dsimp only; omega)).trans kr1
  replace fr1 := (hbn.frozen (p := ⟨w.heap.size + 1 + 1, 1, none⟩) (by dsimp only; omega)).trans fr1
  replace kr2 := (hbn.cell (p := ⟨w.heap.size + 1 + 1, 2, none⟩) (by dsimp only; omega)).trans kr2
  replace fr2 := (hbn.frozen (p := ⟨w.heap.size + 1 + 1, 2, none⟩) (by dsimp only; omega)).trans fr2
  replace kr3 := (hbn.cell (p := ⟨w.heap.size + 1 + 1, 3, none⟩) (by dsimp only; omega)).trans kr3
  replace fr3 := (hbn.frozen (p := ⟨w.heap.size + 1 + 1, 3, none⟩) (by dsimp only; omega)).trans fr3
  replace S1 := hide (S1.out.below hbn)
  replace S2 := hide (S2.out.below hbn)
  replace SG := hide (SG.out.below hbn)
  replace zr := Nat.lt_of_lt_of_le zr hbn.size
  replace HB := hide (bl_trans HB.out hbn)
  clear hbn
  generalize (w2.alloc (Obj.cells #[Value.bool (sgn g), Value.slice ag (lms g).length cg] 41)) = w3 at *
  rw [HSY.out] at kb0
  go_wp2_with fail
  refine (negS (.agg #[.bool (sgn g), .slice ag (lms g).length cg]) g _ ⟨ag, cg, rfl, SG.out⟩ (by omega)).mono ?_
  rintro e w30 ⟨v, rfl, ⟨an, cn, rfl, hn⟩, hb⟩
  have yw30 := hb.size
  replace ka0 := (hb.cell (p := ⟨w.heap.size, 0, none⟩) (by dsimp only; omega)).trans ka0
  replace ka1 := (hb.cell (p := ⟨w.heap.size, 1, none⟩) (by dsimp only; omega)).trans ka1
  replace kb0 := (hb.cell (p := ⟨w.heap.size + 1, 0, none⟩) (by dsimp only; omega)).trans kb0
  replace kb1 := (hb.cell (p := ⟨w.heap.size + 1, 1, none⟩) (by dsimp only; omega)).trans kb1
  replace kr0 := (hb.cell (p := ⟨w.heap.size + 1 + 1, 0, none⟩) (by dsimp only; omega)).trans kr0
  replace fr0 := (hb.frozen (p := ⟨w.heap.size + 1 + 1, 0, none⟩) (by dsimp only; omega)).trans fr0
  replace kr1 := (hb.cell (p := ⟨w.heap.size + 1 + 1, 1, none⟩) (by dsimp only; omega)).trans kr1
  replace fr1 := (hb.frozen (p := ⟨w.heap.size + 1 + 1, 1, none⟩) (by dsimp only; omega)).trans fr1
  replace kr2 := (hb.cell (p := ⟨w.heap.size + 1 + 1, 2, none⟩) (by dsimp only; omega)).trans kr2
  replace fr2 := (hb.frozen (p := ⟨w.heap.size + 1 + 1, 2, none⟩) (by dsimp only; omega)).trans fr2
  replace kr3 := (hb.cell (p := ⟨w.heap.size + 1 + 1, 3, none⟩) (by dsimp only; omega)).trans kr3
  replace fr3 := (hb.frozen (p := ⟨w.heap.size + 1 + 1, 3, none⟩) (by dsimp only; omega)).trans fr3
  replace kg0 := (hb.cell (p := ⟨w2.heap.size, 0, none⟩) (by dsimp only; omega)).trans kg0
  replace fg0 := (hb.frozen (p := ⟨w2.heap.size, 0, none⟩) (by dsimp only; omega)).trans fg0
  replace kg1 := (hb.cell (p := ⟨w2.heap.size, 1, none⟩) (by dsimp only; omega)).trans kg1
  replace fg1 := (hb.frozen (p := ⟨w2.heap.size, 1, none⟩) (by dsimp only; omega)).trans fg1
  replace S1 := hide (S1.out.below hb)
  replace S2 := hide (S2.out.below hb)
  replace SG := hide (SG.out.below hb)
  replace zr := Nat.lt_of_lt_of_le zr hb.size
  replace HB := hide (bl_trans HB.out hb)
  clear hb
  clear SG
  have ON := hide hn
  clear hn
  go_upto_region 4 with fail
  replace ka0 := (cell_two (w := w30) (N := w2.heap.size) (x := (Value.bool (sgn (-g)))) (y := (Value.slice an (lms (-g)).length cn)) (p := ⟨w.heap.size, 0, none⟩) (by dsimp only; omega)).trans ka0
  replace ka1 := (cell_two (w := w30) (N := w2.heap.size) (x := (Value.bool (sgn (-g)))) (y := (Value.slice an (lms (-g)).length cn)) (p := ⟨w.heap.size, 1, none⟩) (by dsimp only; omega)).trans ka1
  replace kb0 := (cell_two (w := w30) (N := w2.heap.size) (x := (Value.bool (sgn (-g)))) (y := (Value.slice an (lms (-g)).length cn)) (p := ⟨w.heap.size + 1, 0, none⟩) (by dsimp only; omega)).trans kb0
  replace kb1 := (cell_two (w := w30) (N := w2.heap.size) (x := (Value.bool (sgn (-g)))) (y := (Value.slice an (lms (-g)).length cn)) (p := ⟨w.heap.size + 1, 1, none⟩) (by dsimp only; omega)).trans kb1
  replace kr0 := (cell_two (w := w30) (N := w2.heap.size) (x := (Value.bool (sgn (-g)))) (y := (Value.slice an (lms (-g)).length cn)) (p := ⟨w.heap.size + 1 + 1, 0, none⟩) (by dsimp only; omega)).trans kr0
  replace fr0 := (frozen_two (w := w30) (N := w2.heap.size) (x := (Value.bool (sgn (-g)))) (y := (Value.slice an (lms (-g)).length cn)) (p := ⟨w.heap.size + 1 + 1, 0, none⟩) (by dsimp only; omega)).trans fr0
  replace kr1 := (cell_two (w := w30) (N := w2.heap.size) (x := (Value.bool (sgn (-g)))) (y := (Value.slice an (lms (-g)).length cn)) (p := ⟨w.heap.size + 1 + 1, 1, none⟩) (by dsimp only; omega)).trans kr1
  replace fr1 := (frozen_two (w := w30) (N := w2.heap.size) (x := (Value.bool (sgn (-g)))) (y := (Value.slice an (lms (-g)).length cn)) (p := ⟨w.heap.size + 1 + 1, 1, none⟩) (by dsimp only; omega)).trans fr1
  replace kr2 := (cell_two (w := w30) (N := w2.heap.size) (x := (Value.bool (sgn (-g)))) (y := (Value.slice an (lms (-g)).length cn)) (p := ⟨w.heap.size + 1 + 1, 2, none⟩) (by dsimp only; omega)).trans kr2
  replace fr2 := (frozen_two (w := w30) (N := w2.heap.size) (x := (Value.bool (sgn (-g)))) (y := (Value.slice an (lms (-g)).length cn)) (p := ⟨w.heap.size + 1 + 1, 2, none⟩) (by dsimp only; omega)).trans fr2
  replace kr3 := (cell_two (w := w30) (N := w2.heap.size) (x := (Value.bool (sgn (-g)))) (y := (Value.slice an (lms (-g)).length cn)) (p := ⟨w.heap.size + 1 + 1, 3, none⟩) (by dsimp only; omega)).trans kr3
  replace fr3 := (frozen_two (w := w30) (N := w2.heap.size) (x := (Value.bool (sgn (-g)))) (y := (Value.slice an (lms (-g)).length cn)) (p := ⟨w.heap.size + 1 + 1, 3, none⟩) (by dsimp only; omega)).trans fr3
  have mg0 : ((w30.setCell ⟨w2.heap.size, 0, none⟩ (Value.bool (sgn (-g)))).setCell ⟨w2.heap.size, 1, none⟩ (Value.slice an (lms (-g)).length cn)).cell? ⟨w2.heap.size, 0, none⟩ = some (Value.bool (sgn (-g))) := by first | go_simp | simp [go_sem, kg0, kg1, fg0, fg1]
  have hg0 : ((w30.setCell ⟨w2.heap.size, 0, none⟩ (Value.bool (sgn (-g)))).setCell ⟨w2.heap.size, 1, none⟩ (Value.slice an (lms (-g)).length cn)).frozen? ⟨w2.heap.size, 0, none⟩ = false := by rw [World.frozen?_setCell, World.frozen?_setCell]; exact fg0
  have mg1 : ((w30.setCell ⟨w2.heap.size, 0, none⟩ (Value.bool (sgn (-g)))).setCell ⟨w2.heap.size, 1, none⟩ (Value.slice an (lms (-g)).length cn)).cell? ⟨w2.heap.size, 1, none⟩ = some (Value.slice an (lms (-g)).length cn) := by first | go_simp | simp [go_sem, kg0, kg1, fg0, fg1]
  have hg1 : ((w30.setCell ⟨w2.heap.size, 0, none⟩ (Value.bool (sgn (-g)))).setCell ⟨w2.heap.size, 1, none⟩ (Value.slice an (lms (-g)).length cn)).frozen? ⟨w2.heap.size, 1, none⟩ = false := by rw [World.frozen?_setCell, World.frozen?_setCell]; exact fg1
  clear kg0 kg1 fg0 fg1
  have kg0 := mg0
  clear mg0
  have kg1 := mg1
  clear mg1
  have fg0 := hg0
  clear hg0
  have fg1 := hg1
  clear hg1
  have yw31 : w30.heap.size ≤ ((w30.setCell ⟨w2.heap.size, 0, none⟩ (Value.bool (sgn (-g)))).setCell ⟨w2.heap.size, 1, none⟩ (Value.slice an (lms (-g)).length cn)).heap.size := by simp
  replace zr : w.heap.size + 1 + 1 < ((w30.setCell ⟨w2.heap.size, 0, none⟩ (Value.bool (sgn (-g)))).setCell ⟨w2.heap.size, 1, none⟩ (Value.slice an (lms (-g)).length cn)).heap.size := Nat.lt_of_lt_of_le zr yw31
  replace HB := hide ((HB.out.setCell (p := ⟨w2.heap.size, 0, none⟩) (by dsimp only; omega) (Value.bool (sgn (-g)))).setCell (p := ⟨w2.heap.size, 1, none⟩) (by dsimp only; omega) (Value.slice an (lms (-g)).length cn))
  replace S1 := hide (T1.out.below HB.out)
  replace S2 := hide (T2.out.below HB.out)
  have SG := hide ((ON.out.setCell (p := ⟨w2.heap.size, 0, none⟩) (by dsimp only; omega) (Value.bool (sgn (-g)))).setCell (p := ⟨w2.heap.size, 1, none⟩) (by dsimp only; omega) (Value.slice an (lms (-g)).length cn)).seg
  clear ON
  generalize ((w30.setCell ⟨w2.heap.size, 0, none⟩ (Value.bool (sgn (-g)))).setCell ⟨w2.heap.size, 1, none⟩ (Value.slice an (lms (-g)).length cn)) = w31 at *
  generalize hgh : -g = h at *
  have HGH := hide hgh
  clear hgh
  go_wp2_with fail
  rw [← HSY.out] at kb0
  refine (divS (.agg #[.bool (sgn x), .slice a1 (lms x).length c1]) (.agg #[.bool (sgn h), .slice an (lms h).length cn]) x h _ ⟨a1, c1, rfl, S1.out⟩ ⟨an, cn, rfl, SG.out⟩ hG0 l1 hGL).mono ?_
  rintro e w4 ⟨aq1, cq1, ar1, cr1, rfl, ho1, hor1, hb⟩
  have yw4 := hb.size
  replace ka0 := (hb.cell (p := ⟨w.heap.size, 0, none⟩) (by dsimp only; omega)).trans ka0
  replace ka1 := (hb.cell (p := ⟨w.heap.size, 1, none⟩) (by dsimp only; omega)).trans ka1
  replace kb0 := (hb.cell (p := ⟨w.heap.size + 1, 0, none⟩) (by dsimp only; omega)).trans kb0
  replace kb1 := (hb.cell (p := ⟨w.heap.size + 1, 1, none⟩) (by dsimp only; omega)).trans kb1
  replace kr0 := (hb.cell (p := ⟨w.heap.size + 1 + 1, 0, none⟩) (by dsimp only; omega)).trans kr0
  replace fr0 := (hb.frozen (p := ⟨w.heap.size + 1 + 1, 0, none⟩) (by dsimp only; omega)).trans fr0
  replace kr1 := (hb.cell (p := ⟨w.heap.size + 1 + 1, 1, none⟩) (by dsimp only; omega)).trans kr1
  replace fr1 := (hb.frozen (p := ⟨w.heap.size + 1 + 1, 1, none⟩) (by dsimp only; omega)).trans fr1
  replace kr2 := (hb.cell (p := ⟨w.heap.size + 1 + 1, 2, none⟩) (by dsimp only; omega)).trans kr2
  replace fr2 := (hb.frozen (p := ⟨w.heap.size + 1 + 1, 2, none⟩) (by dsimp only; omega)).trans fr2
  replace kr3 := (hb.cell (p := ⟨w.heap.size + 1 + 1, 3, none⟩) (by dsimp only; omega)).trans kr3
  replace fr3 := (hb.frozen (p := ⟨w.heap.size + 1 + 1, 3, none⟩) (by dsimp only; omega)).trans fr3
  replace kg0 := (hb.cell (p := ⟨w2.heap.size, 0, none⟩) (by dsimp only; omega)).trans kg0
  replace fg0 := (hb.frozen (p := ⟨w2.heap.size, 0, none⟩) (by dsimp only; omega)).trans fg0
  replace kg1 := (hb.cell (p := ⟨w2.heap.size, 1, none⟩) (by dsimp only; omega)).trans kg1
  replace fg1 := (hb.frozen (p := ⟨w2.heap.size, 1, none⟩) (by dsimp only; omega)).trans fg1
  replace S1 := hide (S1.out.below hb)
  replace S2 := hide (S2.out.below hb)
  replace SG := hide (SG.out.below hb)
  replace zr := Nat.lt_of_lt_of_le zr hb.size
  replace HB := hide (bl_trans HB.out hb)
  clear hb
  clear hor1
  have O1 := hide ho1
  clear ho1
  go_upto_region 5 with fail
  have yw5 : w4.heap.size + 2 ≤ ((w4.alloc (Obj.cells #[Value.bool (sgn (x / h)), Value.slice aq1 (lms (x / h)).length cq1] 41)).alloc (Obj.cells #[Value.bool (sgn (x % h)), Value.slice ar1 (lms (x % h)).length cr1] 41)).heap.size := by simp only [World.size_alloc]; omega
  have kq10 : ((w4.alloc (Obj.cells #[Value.bool (sgn (x / h)), Value.slice aq1 (lms (x / h)).length cq1] 41)).alloc (Obj.cells #[Value.bool (sgn (x % h)), Value.slice ar1 (lms (x % h)).length cr1] 41)).cell? ⟨w4.heap.size, 0, none⟩ = some (Value.bool (sgn (x / h))) := by go_simp
  have kq11 : ((w4.alloc (Obj.cells #[Value.bool (sgn (x / h)), Value.slice aq1 (lms (x / h)).length cq1] 41)).alloc (Obj.cells #[Value.bool (sgn (x % h)), Value.slice ar1 (lms (x % h)).length cr1] 41)).cell? ⟨w4.heap.size, 1, none⟩ = some (Value.slice aq1 (lms (x / h)).length cq1) := by go_simp
  have hbn := (bl_alloc (bl_alloc (bl_refl w4) (Obj.cells #[Value.bool (sgn (x / h)), Value.slice aq1 (lms (x / h)).length cq1] 41)) (Obj.cells #[Value.bool (sgn (x % h)), Value.slice ar1 (lms (x % h)).length cr1] 41))
  have zw5 := zr
  replace ka0 := (hbn.cell (p := ⟨w.heap.size, 0, none⟩) (by dsimp only; omega)).trans ka0
  replace ka1 := (hbn.cell (p := ⟨w.heap.size, 1, none⟩) (by dsimp only; omega)).trans ka1
  replace kb0 := (hbn.cell (p := ⟨w.heap.size + 1, 0, none⟩) (by dsimp only; omega)).trans kb0
  replace kb1 := (hbn.cell (p := ⟨w.heap.size + 1, 1, none⟩) (by dsimp only; omega)).trans kb1
  replace kr0 := (hbn.cell (p := ⟨w.heap.size + 1 + 1, 0, none⟩) (by dsimp only; omega)).trans kr0
  replace fr0 := (hbn.frozen (p := ⟨w.heap.size + 1 + 1, 0, none⟩) (by dsimp only; omega)).trans fr0
  replace kr1 := (hbn.cell (p := ⟨w.heap.size + 1 + 1, 1, none⟩) (by dsimp only; omega)).trans kr1
  replace fr1 := (hbn.frozen (p := ⟨w.heap.size + 1 + 1, 1, none⟩) (by dsimp only; omega)).trans fr1
  replace kr2 := (hbn.cell (p := ⟨w.heap.size + 1 + 1, 2, none⟩) (by dsimp only; omega)).trans kr2
  replace fr2 := (hbn.frozen (p := ⟨w.heap.size + 1 + 1, 2, none⟩) (by dsimp only; omega)).trans fr2
  replace kr3 := (hbn.cell (p := ⟨w.heap.size + 1 + 1, 3, none⟩) (by dsimp only; omega)).trans kr3
  replace fr3 := (hbn.frozen (p := ⟨w.heap.size + 1 + 1, 3, none⟩) (by dsimp only; omega)).trans fr3
  replace kg0 := (hbn.cell (p := ⟨w2.heap.size, 0, none⟩) (by dsimp only; omega)).trans kg0
  replace fg0 := (hbn.frozen (p := ⟨w2.heap.size, 0, none⟩) (by dsimp only; omega)).trans fg0
  replace kg1 := (hbn.cell (p := ⟨w2.heap.size, 1, none⟩) (by dsimp only; omega)).trans kg1
  replace fg1 := (hbn.frozen (p := ⟨w2.heap.size, 1, none⟩) (by dsimp only; omega)).trans fg1
  replace S1 := hide (S1.out.below hbn)
  replace S2 := hide (S2.out.below hbn)
  replace SG := hide (SG.out.below hbn)
  replace O1 := hide (O1.out.below hbn)
  replace zr := Nat.lt_of_lt_of_le zr hbn.size
  replace HB := hide (bl_trans HB.out hbn)
  clear hbn
  generalize ((w4.alloc (Obj.cells #[Value.bool (sgn (x / h)), Value.slice aq1 (lms (x / h)).length cq1] 41)).alloc (Obj.cells #[Value.bool (sgn (x % h)), Value.slice ar1 (lms (x % h)).length cr1] 41)) = w5 at *
  go_wp2_with fail
  refine (divS (.agg #[.bool (sgn y), .slice a2 (lms y).length c2]) (.agg #[.bool (sgn h), .slice an (lms h).length cn]) y h _ ⟨a2, c2, rfl, S2.out⟩ ⟨an, cn, rfl, SG.out⟩ hG0 l2 hGL).mono ?_
  rintro e w6 ⟨aq2, cq2, ar2, cr2, rfl, ho2, hor2, hb⟩
  have HAP := hide (apart_two O1.out ho2)
  have yw6 := hb.size
  replace ka0 := (hb.cell (p := ⟨w.heap.size, 0, none⟩) (by dsimp only; omega)).trans ka0
  replace ka1 := (hb.cell (p := ⟨w.heap.size, 1, none⟩) (by dsimp only; omega)).trans ka1
  replace kb0 := (hb.cell (p := ⟨w.heap.size + 1, 0, none⟩) (by dsimp only; omega)).trans kb0
  replace kb1 := (hb.cell (p := ⟨w.heap.size + 1, 1, none⟩) (by dsimp only; omega)).trans kb1
  replace kr0 := (hb.cell (p := ⟨w.heap.size + 1 + 1, 0, none⟩) (by dsimp only; omega)).trans kr0
  replace fr0 := (hb.frozen (p := ⟨w.heap.size + 1 + 1, 0, none⟩) (by dsimp only; omega)).trans fr0
  replace kr1 := (hb.cell (p := ⟨w.heap.size + 1 + 1, 1, none⟩) (by dsimp only; omega)).trans kr1
  replace fr1 := (hb.frozen (p := ⟨w.heap.size + 1 + 1, 1, none⟩) (by dsimp only; omega)).trans fr1
  replace kr2 := (hb.cell (p := ⟨w.heap.size + 1 + 1, 2, none⟩) (by dsimp only; omega)).trans kr2
  replace fr2 := (hb.frozen (p := ⟨w.heap.size + 1 + 1, 2, none⟩) (by dsimp only; omega)).trans fr2
  replace kr3 := (hb.cell (p := ⟨w.heap.size + 1 + 1, 3, none⟩) (by dsimp only; omega)).trans kr3
  replace fr3 := (hb.frozen (p := ⟨w.heap.size + 1 + 1, 3, none⟩) (by dsimp only; omega)).trans fr3
  replace kg0 := (hb.cell (p := ⟨w2.heap.size, 0, none⟩) (by dsimp only; omega)).trans kg0
  replace fg0 := (hb.frozen (p := ⟨w2.heap.size, 0, none⟩) (by dsimp only; omega)).trans fg0
  replace kg1 := (hb.cell (p := ⟨w2.heap.size, 1, none⟩) (by dsimp only; omega)).trans kg1
  replace fg1 := (hb.frozen (p := ⟨w2.heap.size, 1, none⟩) (by dsimp only; omega)).trans fg1
  replace kq10 := (hb.cell (p := ⟨w4.heap.size, 0, none⟩) (by dsimp only; omega)).trans kq10
  replace kq11 := (hb.cell (p := ⟨w4.heap.size, 1, none⟩) (by dsimp only; omega)).trans kq11
  replace S1 := hide (S1.out.below hb)
  replace S2 := hide (S2.out.below hb)
  replace SG := hide (SG.out.below hb)
  replace O1 := hide (O1.out.below hb)
  replace zr := Nat.lt_of_lt_of_le zr hb.size
  replace HB := hide (bl_trans HB.out hb)
  clear hb
  clear hor2
  have O2 := hide ho2
  clear ho2
  go_upto_region 6 with fail
  have yw7 : w6.heap.size + 2 ≤ ((w6.alloc (Obj.cells #[Value.bool (sgn (y / h)), Value.slice aq2 (lms (y / h)).length cq2] 41)).alloc (Obj.cells #[Value.bool (sgn (y % h)), Value.slice ar2 (lms (y % h)).length cr2] 41)).heap.size := by simp only [World.size_alloc]; omega
  have kq20 : ((w6.alloc (Obj.cells #[Value.bool (sgn (y / h)), Value.slice aq2 (lms (y / h)).length cq2] 41)).alloc (Obj.cells #[Value.bool (sgn (y % h)), Value.slice ar2 (lms (y % h)).length cr2] 41)).cell? ⟨w6.heap.size, 0, none⟩ = some (Value.bool (sgn (y / h))) := by go_simp
  have kq21 : ((w6.alloc (Obj.cells #[Value.bool (sgn (y / h)), Value.slice aq2 (lms (y / h)).length cq2] 41)).alloc (Obj.cells #[Value.bool (sgn (y % h)), Value.slice ar2 (lms (y % h)).length cr2] 41)).cell? ⟨w6.heap.size, 1, none⟩ = some (Value.slice aq2 (lms (y / h)).length cq2) := by go_simp
  have hbn := (bl_alloc (bl_alloc (bl_refl w6) (Obj.cells #[Value.bool (sgn (y / h)), Value.slice aq2 (lms (y / h)).length cq2] 41)) (Obj.cells #[Value.bool (sgn (y % h)), Value.slice ar2 (lms (y % h)).length cr2] 41))
  have zw7 := zr
  replace ka0 := (hbn.cell (p := ⟨w.heap.size, 0, none⟩) (by dsimp only; omega)).trans ka0
  replace ka1 := (hbn.cell (p := ⟨w.heap.size, 1, none⟩) (by dsimp only; omega)).trans ka1
  replace kb0 := (hbn.cell (p := ⟨w.heap.size + 1, 0, none⟩) (by dsimp only; omega)).trans kb0
  replace kb1 := (hbn.cell (p := ⟨w.heap.size + 1, 1, none⟩) (by dsimp only; omega)).trans kb1
  replace kr0 := (hbn.cell (p := ⟨w.heap.size + 1 + 1, 0, none⟩) (by dsimp only; omega)).trans kr0
  replace fr0 := (hbn.frozen (p := ⟨w.heap.size + 1 + 1, 0, none⟩) (by dsimp only; omega)).trans fr0
  replace kr1 := (hbn.cell (p := ⟨w.heap.size + 1 + 1, 1, none⟩) (by dsimp only; omega)).trans kr1
  replace fr1 := (hbn.frozen (p := ⟨w.heap.size + 1 + 1, 1, none⟩) (by dsimp only; omega)).trans fr1
  replace kr2 := (hbn.cell (p := ⟨w.heap.size + 1 + 1, 2, none⟩) (by dsimp only; omega)).trans kr2
  replace fr2 := (hbn.frozen (p := ⟨w.heap.size + 1 + 1, 2, none⟩) (by dsimp only; omega)).trans fr2
  replace kr3 := (hbn.cell (p := ⟨w.heap.size + 1 + 1, 3, none⟩) (by dsimp only; omega)).trans kr3
  replace fr3 := (hbn.frozen (p := ⟨w.heap.size + 1 + 1, 3, none⟩) (by dsimp only; omega)).trans fr3
  replace kg0 := (hbn.cell (p := ⟨w2.heap.size, 0, none⟩) (by dsimp only; omega)).trans kg0
  replace fg0 := (hbn.frozen (p := ⟨w2.heap.size, 0, none⟩) (by dsimp only; omega)).trans fg0
  replace kg1 := (hbn.cell (p := ⟨w2.heap.size, 1, none⟩) (by dsimp only; omega)).trans kg1
  replace fg1 := (hbn.frozen (p := ⟨w2.heap.size, 1, none⟩) (by dsimp only; omega)).trans fg1
  replace kq10 := (hbn.cell (p := ⟨w4.heap.size, 0, none⟩) (by dsimp only; omega)).trans kq10
  replace kq11 := (hbn.cell (p := ⟨w4.heap.size, 1, none⟩) (by dsimp only; omega)).trans kq11
  replace S1 := hide (S1.out.below hbn)
  replace S2 := hide (S2.out.below hbn)
  replace SG := hide (SG.out.below hbn)
  replace O1 := hide (O1.out.below hbn)
  replace O2 := hide (O2.out.below hbn)
  replace zr := Nat.lt_of_lt_of_le zr hbn.size
  replace HB := hide (bl_trans HB.out hbn)
  clear hbn
  generalize ((w6.alloc (Obj.cells #[Value.bool (sgn (y / h)), Value.slice aq2 (lms (y / h)).length cq2] 41)).alloc (Obj.cells #[Value.bool (sgn (y % h)), Value.slice ar2 (lms (y % h)).length cr2] 41)) = w7 at *
  go_wp2_with fail
  have hgh := HGH.out
  clear HGH
  subst hgh
  refine bodyPost_ret (v := .agg #[.bool (sgn (x / (-g))), .slice aq1 (lms (x / (-g))).length cq1, .bool (sgn (y / (-g))), .slice aq2 (lms (y / (-g))).length cq2]) (by simp [results, Tryz.results33, go_sem, kr0, kr1, kr2, kr3]) rfl ?_
  obtain ⟨h1, h2, h3⟩ := fin_four (N := w.heap.size + 1 + 1) O1.out O2.out (by omega) (by omega) (by omega) HB.out (Value.bool (sgn (x / (-g)))) (Value.slice aq1 (lms (x / (-g))).length cq1) (Value.bool (sgn (y / (-g)))) (Value.slice aq2 (lms (y / (-g))).length cq2)
  exact ⟨aq1, cq1, aq2, cq2, rfl, h1, h2, HAP.out, h3⟩

theorem makeR (x y : Int) (a1 : Option Addr) (c1 : Nat) (a2 : Option Addr) (c2 : Nat) (w : World) (s1 : Seg w a1 (lms x).length c1 (lms x)) (s2 : Seg w a2 (lms y).length c2 (lms y)) (hy : y ≠ 0) (l1 : (lms x).length ≤ 100000) (l2 : (lms y).length ≤ 100000) :
    Calls Tryz.prog 33 #[.agg #[Value.bool (sgn x), Value.slice a1 (lms x).length c1], .agg #[Value.bool (sgn y), Value.slice a2 (lms y).length c2]] w fun e w' => ∃ b1 e1 b2 e2, e = .returned (.agg #[.bool (sgn (x / sgG x y)), .slice b1 (lms (x / sgG x y)).length e1, .bool (sgn (y / sgG x y)), .slice b2 (lms (y / sgG x y)).length e2]) ∧ Own w' w.heap.size b1 (lms (x / sgG x y)).length e1 (lms (x / sgG x y)) ∧ Own w' w.heap.size b2 (lms (y / sgG x y)).length e2 (lms (y / sgG x y)) ∧ Apart b1 b2 ∧ Below w.heap.size w w' :=
  if hn : y < 0 then makeRn x y a1 c1 a2 c2 w s1 s2 hy hn l1 l2 else makeRp x y a1 c1 a2 c2 w s1 s2 hy hn l1 l2

end Go.Proofs.YteeifaleneneeaaGreatDoor

/- The walks of ifRight and l03Fit: a fraction where it fits. -/
namespace Go.Proofs.YteeifaleneneeaaGreatDoor
open Go.RowKit
set_option linter.unusedVariables false

/-- whether a fraction fits -/
def ftT (p q : Int) : Bool := fits p && fits q
/-- a fraction where it fits, else nothing -/
def ftV (p q : Int) (a : Option Addr) (c : Nat) (b : Option Addr) (d : Nat) : Value :=
  if ftT p q = true then .agg #[.bool (sgn p), .slice a (lms p).length c, .bool (sgn q), .slice b (lms q).length d] else .agg #[.bool false, .slice none 0 0, .bool false, .slice none 0 0]
theorem ok_fits (z : Int) : okB (sgn z) (lms z) = fits z := ok_of_num z
theorem set_four {w w1 : World} {N : Nat} (hN : w.heap.size ≤ N) (hb : Below w.heap.size w w1) (x y z t : Value) : Below w.heap.size w ((((w1.setCell ⟨N, 0, none⟩ x).setCell ⟨N, 1, none⟩ y).setCell ⟨N, 2, none⟩ z).setCell ⟨N, 3, none⟩ t) :=
  ((((hb).setCell (p := ⟨N, 0, none⟩) hN x).setCell (p := ⟨N, 1, none⟩) hN y).setCell (p := ⟨N, 2, none⟩) hN z).setCell (p := ⟨N, 3, none⟩) hN t

set_option maxHeartbeats 800000 in
theorem fitI (p q : Int) (a : Option Addr) (c : Nat) (b : Option Addr) (d : Nat) (w : World) (s1 : Seg w a (lms p).length c (lms p)) (s2 : Seg w b (lms q).length d (lms q)) :
    Calls Tryz.prog 59 #[Value.agg #[Value.bool (sgn p), Value.slice a (lms p).length c, Value.bool (sgn q), Value.slice b (lms q).length d]] w fun e w' => e = .returned (.tuple #[ftV p q a c b d, .bool (ftT p q)]) ∧ Below w.heap.size w w' := by
  have ka0 : ((w.alloc (Obj.cells #[Value.bool (sgn p), Value.slice a (lms p).length c, Value.bool (sgn q), Value.slice b (lms q).length d] 43)).alloc (Obj.cells #[Value.bool false, Value.slice none 0 0, Value.bool false, Value.slice none 0 0] 43)).cell? ⟨w.heap.size, 0, none⟩ = some (Value.bool (sgn p)) := by go_simp
  have ka1 : ((w.alloc (Obj.cells #[Value.bool (sgn p), Value.slice a (lms p).length c, Value.bool (sgn q), Value.slice b (lms q).length d] 43)).alloc (Obj.cells #[Value.bool false, Value.slice none 0 0, Value.bool false, Value.slice none 0 0] 43)).cell? ⟨w.heap.size, 1, none⟩ = some (Value.slice a (lms p).length c) := by go_simp
  have ka2 : ((w.alloc (Obj.cells #[Value.bool (sgn p), Value.slice a (lms p).length c, Value.bool (sgn q), Value.slice b (lms q).length d] 43)).alloc (Obj.cells #[Value.bool false, Value.slice none 0 0, Value.bool false, Value.slice none 0 0] 43)).cell? ⟨w.heap.size, 2, none⟩ = some (Value.bool (sgn q)) := by go_simp
  have ka3 : ((w.alloc (Obj.cells #[Value.bool (sgn p), Value.slice a (lms p).length c, Value.bool (sgn q), Value.slice b (lms q).length d] 43)).alloc (Obj.cells #[Value.bool false, Value.slice none 0 0, Value.bool false, Value.slice none 0 0] 43)).cell? ⟨w.heap.size, 3, none⟩ = some (Value.slice b (lms q).length d) := by go_simp
  have kr0 : ((w.alloc (Obj.cells #[Value.bool (sgn p), Value.slice a (lms p).length c, Value.bool (sgn q), Value.slice b (lms q).length d] 43)).alloc (Obj.cells #[Value.bool false, Value.slice none 0 0, Value.bool false, Value.slice none 0 0] 43)).cell? ⟨w.heap.size + 1, 0, none⟩ = some (Value.bool false) := by go_simp
  have fr0 : ((w.alloc (Obj.cells #[Value.bool (sgn p), Value.slice a (lms p).length c, Value.bool (sgn q), Value.slice b (lms q).length d] 43)).alloc (Obj.cells #[Value.bool false, Value.slice none 0 0, Value.bool false, Value.slice none 0 0] 43)).frozen? ⟨w.heap.size + 1, 0, none⟩ = false := by go_simp
  have kr1 : ((w.alloc (Obj.cells #[Value.bool (sgn p), Value.slice a (lms p).length c, Value.bool (sgn q), Value.slice b (lms q).length d] 43)).alloc (Obj.cells #[Value.bool false, Value.slice none 0 0, Value.bool false, Value.slice none 0 0] 43)).cell? ⟨w.heap.size + 1, 1, none⟩ = some (Value.slice none 0 0) := by go_simp
  have fr1 : ((w.alloc (Obj.cells #[Value.bool (sgn p), Value.slice a (lms p).length c, Value.bool (sgn q), Value.slice b (lms q).length d] 43)).alloc (Obj.cells #[Value.bool false, Value.slice none 0 0, Value.bool false, Value.slice none 0 0] 43)).frozen? ⟨w.heap.size + 1, 1, none⟩ = false := by go_simp
  have kr2 : ((w.alloc (Obj.cells #[Value.bool (sgn p), Value.slice a (lms p).length c, Value.bool (sgn q), Value.slice b (lms q).length d] 43)).alloc (Obj.cells #[Value.bool false, Value.slice none 0 0, Value.bool false, Value.slice none 0 0] 43)).cell? ⟨w.heap.size + 1, 2, none⟩ = some (Value.bool false) := by go_simp
  have fr2 : ((w.alloc (Obj.cells #[Value.bool (sgn p), Value.slice a (lms p).length c, Value.bool (sgn q), Value.slice b (lms q).length d] 43)).alloc (Obj.cells #[Value.bool false, Value.slice none 0 0, Value.bool false, Value.slice none 0 0] 43)).frozen? ⟨w.heap.size + 1, 2, none⟩ = false := by go_simp
  have kr3 : ((w.alloc (Obj.cells #[Value.bool (sgn p), Value.slice a (lms p).length c, Value.bool (sgn q), Value.slice b (lms q).length d] 43)).alloc (Obj.cells #[Value.bool false, Value.slice none 0 0, Value.bool false, Value.slice none 0 0] 43)).cell? ⟨w.heap.size + 1, 3, none⟩ = some (Value.slice none 0 0) := by go_simp
  have fr3 : ((w.alloc (Obj.cells #[Value.bool (sgn p), Value.slice a (lms p).length c, Value.bool (sgn q), Value.slice b (lms q).length d] 43)).alloc (Obj.cells #[Value.bool false, Value.slice none 0 0, Value.bool false, Value.slice none 0 0] 43)).frozen? ⟨w.heap.size + 1, 3, none⟩ = false := by go_simp
  have zr : w.heap.size + 1 < ((w.alloc (Obj.cells #[Value.bool (sgn p), Value.slice a (lms p).length c, Value.bool (sgn q), Value.slice b (lms q).length d] 43)).alloc (Obj.cells #[Value.bool false, Value.slice none 0 0, Value.bool false, Value.slice none 0 0] 43)).heap.size := by simp only [World.size_alloc]; omega
  have HB := hide (bl_alloc (bl_alloc (bl_refl w) (Obj.cells #[Value.bool (sgn p), Value.slice a (lms p).length c, Value.bool (sgn q), Value.slice b (lms q).length d] 43)) (Obj.cells #[Value.bool false, Value.slice none 0 0, Value.bool false, Value.slice none 0 0] 43))
  have S1 := hide (s1.below HB.out)
  have S2 := hide (s2.below HB.out)
  clear s1
  clear s2
  go_enter Tryz.func59, Tryz.ntmps59
  go_wp2_with fail
  generalize ((w.alloc (Obj.cells #[Value.bool (sgn p), Value.slice a (lms p).length c, Value.bool (sgn q), Value.slice b (lms q).length d] 43)).alloc (Obj.cells #[Value.bool false, Value.slice none 0 0, Value.bool false, Value.slice none 0 0] 43)) = w1 at *
  refine (okI _ (sgn p) (lms p) _ ⟨a, c, rfl, S1.out⟩).mono ?_
  rintro e w2 ⟨rfl, hb⟩
  have yw2 := hb.size
  replace ka0 := (hb.cell (p := ⟨w.heap.size, 0, none⟩) (by dsimp only; omega)).trans ka0
  replace ka1 := (hb.cell (p := ⟨w.heap.size, 1, none⟩) (by dsimp only; omega)).trans ka1
  replace ka2 := (hb.cell (p := ⟨w.heap.size, 2, none⟩) (by dsimp only; omega)).trans ka2
  replace ka3 := (hb.cell (p := ⟨w.heap.size, 3, none⟩) (by dsimp only; omega)).trans ka3
  replace kr0 := (hb.cell (p := ⟨w.heap.size + 1, 0, none⟩) (by dsimp only; omega)).trans kr0
  replace fr0 := (hb.frozen (p := ⟨w.heap.size + 1, 0, none⟩) (by dsimp only; omega)).trans fr0
  replace kr1 := (hb.cell (p := ⟨w.heap.size + 1, 1, none⟩) (by dsimp only; omega)).trans kr1
  replace fr1 := (hb.frozen (p := ⟨w.heap.size + 1, 1, none⟩) (by dsimp only; omega)).trans fr1
  replace kr2 := (hb.cell (p := ⟨w.heap.size + 1, 2, none⟩) (by dsimp only; omega)).trans kr2
  replace fr2 := (hb.frozen (p := ⟨w.heap.size + 1, 2, none⟩) (by dsimp only; omega)).trans fr2
  replace kr3 := (hb.cell (p := ⟨w.heap.size + 1, 3, none⟩) (by dsimp only; omega)).trans kr3
  replace fr3 := (hb.frozen (p := ⟨w.heap.size + 1, 3, none⟩) (by dsimp only; omega)).trans fr3
  replace S1 := hide (S1.out.below hb)
  replace S2 := hide (S2.out.below hb)
  replace zr := Nat.lt_of_lt_of_le zr hb.size
  replace HB := hide (bl_trans HB.out hb)
  clear hb
  rw [ok_fits]
  cases e1 : fits p with
  | false =>
    have HE : Hid (ftT p q = false) := hide (by unfold ftT; rw [e1]; rfl)
    clear e1
    go_wp2
    refine bodyPost_ret (v := (.tuple #[.agg #[.bool false, .slice none 0 0, .bool false, .slice none 0 0], .bool false])) (by simp [results, Tryz.results59, go_sem, kr0, kr1, kr2, kr3]) rfl ?_
    exact ⟨by unfold ftV; rw [HE.out]; rfl, by first | exact HB.out | exact set_four (N := w.heap.size + 1) (by omega) HB.out _ _ _ _⟩
  | true =>
  have E1 := hide e1
  clear e1
  go_wp2_with fail
  refine (okI _ (sgn q) (lms q) _ ⟨b, d, rfl, S2.out⟩).mono ?_
  rintro e w3 ⟨rfl, hb⟩
  have yw3 := hb.size
  replace ka0 := (hb.cell (p := ⟨w.heap.size, 0, none⟩) (by dsimp only; omega)).trans ka0
  replace ka1 := (hb.cell (p := ⟨w.heap.size, 1, none⟩) (by dsimp only; omega)).trans ka1
  replace ka2 := (hb.cell (p := ⟨w.heap.size, 2, none⟩) (by dsimp only; omega)).trans ka2
  replace ka3 := (hb.cell (p := ⟨w.heap.size, 3, none⟩) (by dsimp only; omega)).trans ka3
  replace kr0 := (hb.cell (p := ⟨w.heap.size + 1, 0, none⟩) (by dsimp only; omega)).trans kr0
  replace fr0 := (hb.frozen (p := ⟨w.heap.size + 1, 0, none⟩) (by dsimp only; omega)).trans fr0
  replace kr1 := (hb.cell (p := ⟨w.heap.size + 1, 1, none⟩) (by dsimp only; omega)).trans kr1
  replace fr1 := (hb.frozen (p := ⟨w.heap.size + 1, 1, none⟩) (by dsimp only; omega)).trans fr1
  replace kr2 := (hb.cell (p := ⟨w.heap.size + 1, 2, none⟩) (by dsimp only; omega)).trans kr2
  replace fr2 := (hb.frozen (p := ⟨w.heap.size + 1, 2, none⟩) (by dsimp only; omega)).trans fr2
  replace kr3 := (hb.cell (p := ⟨w.heap.size + 1, 3, none⟩) (by dsimp only; omega)).trans kr3
  replace fr3 := (hb.frozen (p := ⟨w.heap.size + 1, 3, none⟩) (by dsimp only; omega)).trans fr3
  replace S1 := hide (S1.out.below hb)
  replace S2 := hide (S2.out.below hb)
  replace zr := Nat.lt_of_lt_of_le zr hb.size
  replace HB := hide (bl_trans HB.out hb)
  clear hb
  rw [ok_fits]
  cases e2 : fits q with
  | false =>
    have HE : Hid (ftT p q = false) := hide (by unfold ftT; rw [e2, Bool.and_false])
    clear e2
    go_wp2
    refine bodyPost_ret (v := (.tuple #[.agg #[.bool false, .slice none 0 0, .bool false, .slice none 0 0], .bool false])) (by simp [results, Tryz.results59, go_sem, kr0, kr1, kr2, kr3]) rfl ?_
    exact ⟨by unfold ftV; rw [HE.out]; rfl, by first | exact HB.out | exact set_four (N := w.heap.size + 1) (by omega) HB.out _ _ _ _⟩
  | true =>
  have HE : Hid (ftT p q = true) := hide (by unfold ftT; rw [E1.out, e2]; rfl)
  clear e2
  go_wp2
  refine bodyPost_ret (v := (.tuple #[Value.agg #[Value.bool (sgn p), Value.slice a (lms p).length c, Value.bool (sgn q), Value.slice b (lms q).length d], .bool true])) (by simp [results, Tryz.results59, go_sem, kr0, kr1, kr2, kr3]) rfl ?_
  exact ⟨by unfold ftV; rw [HE.out]; rfl, by first | exact HB.out | exact set_four (N := w.heap.size + 1) (by omega) HB.out _ _ _ _⟩

end Go.Proofs.YteeifaleneneeaaGreatDoor

/- The walks of both MakeRat. -/
namespace Go.Proofs.YteeifaleneneeaaGreatDoor
open Go.RowKit
set_option linter.unusedVariables false

/-- whether there is an answer: what was asked ahead, a number to divide by, and what is left fits -/
def rtT (t : Bool) (x y : Int) : Bool := t && (decide (y ≠ 0) && ftT (x / sgG x y) (y / sgG x y))
def rtN (t : Bool) (x y : Int) : Int := if rtT t x y = true then x / sgG x y else 0
def rtD (t : Bool) (x y : Int) : Int := if rtT t x y = true then y / sgG x y else 0
/-- a fraction and a flag, in memory of their own -/
def RatAns (t : Bool) (x y : Int) (w w' : World) (e : Ending) : Prop :=
  ∃ a1 c1 a2 c2, e = .returned (.tuple #[.agg #[.bool (sgn (rtN t x y)), .slice a1 (lms (rtN t x y)).length c1, .bool (sgn (rtD t x y)), .slice a2 (lms (rtD t x y)).length c2], .bool (rtT t x y)]) ∧ Own w' w.heap.size a1 (lms (rtN t x y)).length c1 (lms (rtN t x y)) ∧ Own w' w.heap.size a2 (lms (rtD t x y)).length c2 (lms (rtD t x y)) ∧ Apart a1 a2 ∧ Below w.heap.size w w'
theorem ans_no {t : Bool} {x y : Int} {w w' : World} (h : rtT t x y = false) (hb : Below w.heap.size w w') : RatAns t x y w w' (.returned (.tuple #[.agg #[.bool false, .slice none 0 0, .bool false, .slice none 0 0], .bool false])) := by
  have h1 : rtN t x y = 0 := by unfold rtN; rw [h]; rfl
  have h2 : rtD t x y = 0 := by unfold rtD; rw [h]; rfl
  refine ⟨none, 0, none, 0, ?_, ?_, ?_, Apart.none _, hb⟩
  · rw [h1, h2, h, zero_sgn, zero_lms]; rfl
  · rw [h1, zero_lms]; exact Own.nil _ _
  · rw [h2, zero_lms]; exact Own.nil _ _
theorem ans_yes {t : Bool} {x y : Int} {w w' : World} {a1 a2 : Option Addr} {c1 c2 : Nat} (h : rtT t x y = true) (o1 : Own w' w.heap.size a1 (lms (x / sgG x y)).length c1 (lms (x / sgG x y))) (o2 : Own w' w.heap.size a2 (lms (y / sgG x y)).length c2 (lms (y / sgG x y))) (hap : Apart a1 a2) (hb : Below w.heap.size w w') :
    RatAns t x y w w' (.returned (.tuple #[.agg #[.bool (sgn (x / sgG x y)), .slice a1 (lms (x / sgG x y)).length c1, .bool (sgn (y / sgG x y)), .slice a2 (lms (y / sgG x y)).length c2], .bool true])) := by
  have h1 : rtN t x y = x / sgG x y := by unfold rtN; rw [h]; rfl
  have h2 : rtD t x y = y / sgG x y := by unfold rtD; rw [h]; rfl
  refine ⟨a1, c1, a2, c2, ?_, ?_, ?_, hap, hb⟩
  · rw [h1, h2, h]
  · rw [h1]; exact o1
  · rw [h2]; exact o2
theorem ans_ft {t : Bool} {x y : Int} (ht : t = true) (hy : y ≠ 0) : rtT t x y = ftT (x / sgG x y) (y / sgG x y) := by
  unfold rtT; rw [ht, decide_eq_true hy, Bool.true_and, Bool.true_and]
theorem rtN_len (t : Bool) (x y : Int) : (lms (rtN t x y)).length ≤ 40 := by
  unfold rtN
  by_cases h : rtT t x y = true
  · rw [if_pos h]; unfold rtT ftT fits at h; simp only [Bool.and_eq_true, decide_eq_true_eq] at h; exact Num.limbs_len.2 h.2.2.1
  · rw [if_neg h, zero_lms]; exact Nat.zero_le _
theorem rtD_len (t : Bool) (x y : Int) : (lms (rtD t x y)).length ≤ 40 := by
  unfold rtD
  by_cases h : rtT t x y = true
  · rw [if_pos h]; unfold rtT ftT fits at h; simp only [Bool.and_eq_true, decide_eq_true_eq] at h; exact Num.limbs_len.2 h.2.2.2
  · rw [if_neg h, zero_lms]; exact Nat.zero_le _
theorem ans_f {t : Bool} {x y : Int} (ht : t = false) : rtT t x y = false := by unfold rtT; rw [ht]; rfl
theorem ans_0 {t : Bool} {x y : Int} (hy : y = 0) : rtT t x y = false := by unfold rtT; rw [decide_eq_false (by omega), Bool.false_and, Bool.and_false]
theorem ftV_t {p q : Int} {a b : Option Addr} {c d : Nat} (h : ftT p q = true) : ftV p q a c b d = .agg #[.bool (sgn p), .slice a (lms p).length c, .bool (sgn q), .slice b (lms q).length d] := if_pos h
theorem ftV_f {p q : Int} {a b : Option Addr} {c d : Nat} (h : ftT p q = false) : ftV p q a c b d = .agg #[.bool false, .slice none 0 0, .bool false, .slice none 0 0] := if_neg (by rw [h]; decide)

set_option maxHeartbeats 1600000 in
theorem MakeRatP (n1 : Bool) (xs1 : List Nat) (n2 : Bool) (xs2 : List Nat) (a1 : Option Addr) (c1 : Nat) (a2 : Option Addr) (c2 : Nat) (w : World) (s1 : Seg w a1 xs1.length c1 xs1) (s2 : Seg w a2 xs2.length c2 xs2) :
    Calls Tryz.prog 39 #[Value.agg #[Value.bool n1, Value.slice a1 xs1.length c1], Value.agg #[Value.bool n2, Value.slice a2 xs2.length c2]] w fun e w' => RatAns (okB n1 xs1 && okB n2 xs2) (mk n1 (Num.nat xs1)) (mk n2 (Num.nat xs2)) w w' e := by
  have ka0 : (((w.alloc (Obj.cells #[Value.bool n1, Value.slice a1 xs1.length c1] 41)).alloc (Obj.cells #[Value.bool n2, Value.slice a2 xs2.length c2] 41)).alloc (Obj.cells #[Value.bool false, Value.slice none 0 0, Value.bool false, Value.slice none 0 0] 43)).cell? ⟨w.heap.size, 0, none⟩ = some (Value.bool n1) := by go_simp
  have ka1 : (((w.alloc (Obj.cells #[Value.bool n1, Value.slice a1 xs1.length c1] 41)).alloc (Obj.cells #[Value.bool n2, Value.slice a2 xs2.length c2] 41)).alloc (Obj.cells #[Value.bool false, Value.slice none 0 0, Value.bool false, Value.slice none 0 0] 43)).cell? ⟨w.heap.size, 1, none⟩ = some (Value.slice a1 xs1.length c1) := by go_simp
  have kb0 : (((w.alloc (Obj.cells #[Value.bool n1, Value.slice a1 xs1.length c1] 41)).alloc (Obj.cells #[Value.bool n2, Value.slice a2 xs2.length c2] 41)).alloc (Obj.cells #[Value.bool false, Value.slice none 0 0, Value.bool false, Value.slice none 0 0] 43)).cell? ⟨w.heap.size + 1, 0, none⟩ = some (Value.bool n2) := by go_simp
  have kb1 : (((w.alloc (Obj.cells #[Value.bool n1, Value.slice a1 xs1.length c1] 41)).alloc (Obj.cells #[Value.bool n2, Value.slice a2 xs2.length c2] 41)).alloc (Obj.cells #[Value.bool false, Value.slice none 0 0, Value.bool false, Value.slice none 0 0] 43)).cell? ⟨w.heap.size + 1, 1, none⟩ = some (Value.slice a2 xs2.length c2) := by go_simp
  have kr0 : (((w.alloc (Obj.cells #[Value.bool n1, Value.slice a1 xs1.length c1] 41)).alloc (Obj.cells #[Value.bool n2, Value.slice a2 xs2.length c2] 41)).alloc (Obj.cells #[Value.bool false, Value.slice none 0 0, Value.bool false, Value.slice none 0 0] 43)).cell? ⟨w.heap.size + 1 + 1, 0, none⟩ = some (Value.bool false) := by go_simp
  have fr0 : (((w.alloc (Obj.cells #[Value.bool n1, Value.slice a1 xs1.length c1] 41)).alloc (Obj.cells #[Value.bool n2, Value.slice a2 xs2.length c2] 41)).alloc (Obj.cells #[Value.bool false, Value.slice none 0 0, Value.bool false, Value.slice none 0 0] 43)).frozen? ⟨w.heap.size + 1 + 1, 0, none⟩ = false := by go_simp
  have kr1 : (((w.alloc (Obj.cells #[Value.bool n1, Value.slice a1 xs1.length c1] 41)).alloc (Obj.cells #[Value.bool n2, Value.slice a2 xs2.length c2] 41)).alloc (Obj.cells #[Value.bool false, Value.slice none 0 0, Value.bool false, Value.slice none 0 0] 43)).cell? ⟨w.heap.size + 1 + 1, 1, none⟩ = some (Value.slice none 0 0) := by go_simp
  have fr1 : (((w.alloc (Obj.cells #[Value.bool n1, Value.slice a1 xs1.length c1] 41)).alloc (Obj.cells #[Value.bool n2, Value.slice a2 xs2.length c2] 41)).alloc (Obj.cells #[Value.bool false, Value.slice none 0 0, Value.bool false, Value.slice none 0 0] 43)).frozen? ⟨w.heap.size + 1 + 1, 1, none⟩ = false := by go_simp
  have kr2 : (((w.alloc (Obj.cells #[Value.bool n1, Value.slice a1 xs1.length c1] 41)).alloc (Obj.cells #[Value.bool n2, Value.slice a2 xs2.length c2] 41)).alloc (Obj.cells #[Value.bool false, Value.slice none 0 0, Value.bool false, Value.slice none 0 0] 43)).cell? ⟨w.heap.size + 1 + 1, 2, none⟩ = some (Value.bool false) := by go_simp
  have fr2 : (((w.alloc (Obj.cells #[Value.bool n1, Value.slice a1 xs1.length c1] 41)).alloc (Obj.cells #[Value.bool n2, Value.slice a2 xs2.length c2] 41)).alloc (Obj.cells #[Value.bool false, Value.slice none 0 0, Value.bool false, Value.slice none 0 0] 43)).frozen? ⟨w.heap.size + 1 + 1, 2, none⟩ = false := by go_simp
  have kr3 : (((w.alloc (Obj.cells #[Value.bool n1, Value.slice a1 xs1.length c1] 41)).alloc (Obj.cells #[Value.bool n2, Value.slice a2 xs2.length c2] 41)).alloc (Obj.cells #[Value.bool false, Value.slice none 0 0, Value.bool false, Value.slice none 0 0] 43)).cell? ⟨w.heap.size + 1 + 1, 3, none⟩ = some (Value.slice none 0 0) := by go_simp
  have fr3 : (((w.alloc (Obj.cells #[Value.bool n1, Value.slice a1 xs1.length c1] 41)).alloc (Obj.cells #[Value.bool n2, Value.slice a2 xs2.length c2] 41)).alloc (Obj.cells #[Value.bool false, Value.slice none 0 0, Value.bool false, Value.slice none 0 0] 43)).frozen? ⟨w.heap.size + 1 + 1, 3, none⟩ = false := by go_simp
  have zr : w.heap.size + 1 + 1 < (((w.alloc (Obj.cells #[Value.bool n1, Value.slice a1 xs1.length c1] 41)).alloc (Obj.cells #[Value.bool n2, Value.slice a2 xs2.length c2] 41)).alloc (Obj.cells #[Value.bool false, Value.slice none 0 0, Value.bool false, Value.slice none 0 0] 43)).heap.size := by simp only [World.size_alloc]; omega
  have HB := hide (bl_alloc (bl_alloc (bl_alloc (bl_refl w) (Obj.cells #[Value.bool n1, Value.slice a1 xs1.length c1] 41)) (Obj.cells #[Value.bool n2, Value.slice a2 xs2.length c2] 41)) (Obj.cells #[Value.bool false, Value.slice none 0 0, Value.bool false, Value.slice none 0 0] 43))
  have S1 := hide (s1.below HB.out)
  have S2 := hide (s2.below HB.out)
  clear s1
  clear s2
  go_enter Tryz.func39, Tryz.ntmps39
  go_wp2_with fail
  generalize (((w.alloc (Obj.cells #[Value.bool n1, Value.slice a1 xs1.length c1] 41)).alloc (Obj.cells #[Value.bool n2, Value.slice a2 xs2.length c2] 41)).alloc (Obj.cells #[Value.bool false, Value.slice none 0 0, Value.bool false, Value.slice none 0 0] 43)) = w1 at *
  have z0 := zr
  refine (okI _ n1 xs1 _ ⟨a1, c1, rfl, S1.out⟩).mono ?_
  rintro e w2 ⟨rfl, hb⟩
  have yw2 := hb.size
  replace ka0 := (hb.cell (p := ⟨w.heap.size, 0, none⟩) (by dsimp only; omega)).trans ka0
  replace ka1 := (hb.cell (p := ⟨w.heap.size, 1, none⟩) (by dsimp only; omega)).trans ka1
  replace kb0 := (hb.cell (p := ⟨w.heap.size + 1, 0, none⟩) (by dsimp only; omega)).trans kb0
  replace kb1 := (hb.cell (p := ⟨w.heap.size + 1, 1, none⟩) (by dsimp only; omega)).trans kb1
  replace kr0 := (hb.cell (p := ⟨w.heap.size + 1 + 1, 0, none⟩) (by dsimp only; omega)).trans kr0
  replace fr0 := (hb.frozen (p := ⟨w.heap.size + 1 + 1, 0, none⟩) (by dsimp only; omega)).trans fr0
  replace kr1 := (hb.cell (p := ⟨w.heap.size + 1 + 1, 1, none⟩) (by dsimp only; omega)).trans kr1
  replace fr1 := (hb.frozen (p := ⟨w.heap.size + 1 + 1, 1, none⟩) (by dsimp only; omega)).trans fr1
  replace kr2 := (hb.cell (p := ⟨w.heap.size + 1 + 1, 2, none⟩) (by dsimp only; omega)).trans kr2
  replace fr2 := (hb.frozen (p := ⟨w.heap.size + 1 + 1, 2, none⟩) (by dsimp only; omega)).trans fr2
  replace kr3 := (hb.cell (p := ⟨w.heap.size + 1 + 1, 3, none⟩) (by dsimp only; omega)).trans kr3
  replace fr3 := (hb.frozen (p := ⟨w.heap.size + 1 + 1, 3, none⟩) (by dsimp only; omega)).trans fr3
  replace S1 := hide (S1.out.below hb)
  replace S2 := hide (S2.out.below hb)
  replace zr := Nat.lt_of_lt_of_le zr hb.size
  replace HB := hide (bl_trans HB.out hb)
  clear hb
  cases e1 : okB n1 xs1 with
  | false =>
    have E1 := hide e1
    clear e1
    have HE : Hid (rtT (okB n1 xs1 && okB n2 xs2) (mk n1 (Num.nat xs1)) (mk n2 (Num.nat xs2)) = false) := hide (ans_f (by rw [E1.out]; rfl))
    skip
    go_wp2
    refine bodyPost_ret (v := (.tuple #[.agg #[.bool false, .slice none 0 0, .bool false, .slice none 0 0], .bool false])) (by simp [results, Tryz.results39, go_sem, kr0, kr1, kr2, kr3]) rfl ?_
    exact ans_no HE.out (by first | exact HB.out | exact set_four (N := w.heap.size + 1 + 1) (by omega) HB.out _ _ _ _)
  | true =>
  have E1 := hide e1
  clear e1
  go_wp2_with fail
  refine (okI _ n2 xs2 _ ⟨a2, c2, rfl, S2.out⟩).mono ?_
  rintro e w3 ⟨rfl, hb⟩
  have yw3 := hb.size
  replace ka0 := (hb.cell (p := ⟨w.heap.size, 0, none⟩) (by dsimp only; omega)).trans ka0
  replace ka1 := (hb.cell (p := ⟨w.heap.size, 1, none⟩) (by dsimp only; omega)).trans ka1
  replace kb0 := (hb.cell (p := ⟨w.heap.size + 1, 0, none⟩) (by dsimp only; omega)).trans kb0
  replace kb1 := (hb.cell (p := ⟨w.heap.size + 1, 1, none⟩) (by dsimp only; omega)).trans kb1
  replace kr0 := (hb.cell (p := ⟨w.heap.size + 1 + 1, 0, none⟩) (by dsimp only; omega)).trans kr0
  replace fr0 := (hb.frozen (p := ⟨w.heap.size + 1 + 1, 0, none⟩) (by dsimp only; omega)).trans fr0
  replace kr1 := (hb.cell (p := ⟨w.heap.size + 1 + 1, 1, none⟩) (by dsimp only; omega)).trans kr1
  replace fr1 := (hb.frozen (p := ⟨w.heap.size + 1 + 1, 1, none⟩) (by dsimp only; omega)).trans fr1
  replace kr2 := (hb.cell (p := ⟨w.heap.size + 1 + 1, 2, none⟩) (by dsimp only; omega)).trans kr2
  replace fr2 := (hb.frozen (p := ⟨w.heap.size + 1 + 1, 2, none⟩) (by dsimp only; omega)).trans fr2
  replace kr3 := (hb.cell (p := ⟨w.heap.size + 1 + 1, 3, none⟩) (by dsimp only; omega)).trans kr3
  replace fr3 := (hb.frozen (p := ⟨w.heap.size + 1 + 1, 3, none⟩) (by dsimp only; omega)).trans fr3
  replace S1 := hide (S1.out.below hb)
  replace S2 := hide (S2.out.below hb)
  replace zr := Nat.lt_of_lt_of_le zr hb.size
  replace HB := hide (bl_trans HB.out hb)
  clear hb
  cases e2 : okB n2 xs2 with
  | false =>
    have E2 := hide e2
    clear e2
    have HE : Hid (rtT (okB n1 xs1 && okB n2 xs2) (mk n1 (Num.nat xs1)) (mk n2 (Num.nat xs2)) = false) := hide (ans_f (by rw [E2.out, Bool.and_false]))
    skip
    go_wp2
    refine bodyPost_ret (v := (.tuple #[.agg #[.bool false, .slice none 0 0, .bool false, .slice none 0 0], .bool false])) (by simp [results, Tryz.results39, go_sem, kr0, kr1, kr2, kr3]) rfl ?_
    exact ans_no HE.out (by first | exact HB.out | exact set_four (N := w.heap.size + 1 + 1) (by omega) HB.out _ _ _ _)
  | true =>
  have E2 := hide e2
  clear e2
  have HT : Hid ((okB n1 xs1 && okB n2 xs2) = true) := hide (by rw [E1.out, E2.out]; rfl)
  obtain ⟨x, rfl, rfl, hx⟩ := ok_num S1.out.2.2.2.1 E1.out
  obtain ⟨y, rfl, rfl, hy⟩ := ok_num S2.out.2.2.2.1 E2.out
  have l1 : (lms x).length ≤ 40 := Num.limbs_len.2 hx
  have l2 : (lms y).length ≤ 40 := Num.limbs_len.2 hy
  clear hx hy E1 E2
  go_wp2_with fail
  refine (noughtI _ (sgn y) (lms y) _ ⟨a2, c2, rfl, S2.out⟩).mono ?_
  rintro e w4 ⟨rfl, hb⟩
  have yw4 := hb.size
  replace ka0 := (hb.cell (p := ⟨w.heap.size, 0, none⟩) (by dsimp only; omega)).trans ka0
  replace ka1 := (hb.cell (p := ⟨w.heap.size, 1, none⟩) (by dsimp only; omega)).trans ka1
  replace kb0 := (hb.cell (p := ⟨w.heap.size + 1, 0, none⟩) (by dsimp only; omega)).trans kb0
  replace kb1 := (hb.cell (p := ⟨w.heap.size + 1, 1, none⟩) (by dsimp only; omega)).trans kb1
  replace kr0 := (hb.cell (p := ⟨w.heap.size + 1 + 1, 0, none⟩) (by dsimp only; omega)).trans kr0
  replace fr0 := (hb.frozen (p := ⟨w.heap.size + 1 + 1, 0, none⟩) (by dsimp only; omega)).trans fr0
  replace kr1 := (hb.cell (p := ⟨w.heap.size + 1 + 1, 1, none⟩) (by dsimp only; omega)).trans kr1
  replace fr1 := (hb.frozen (p := ⟨w.heap.size + 1 + 1, 1, none⟩) (by dsimp only; omega)).trans fr1
  replace kr2 := (hb.cell (p := ⟨w.heap.size + 1 + 1, 2, none⟩) (by dsimp only; omega)).trans kr2
  replace fr2 := (hb.frozen (p := ⟨w.heap.size + 1 + 1, 2, none⟩) (by dsimp only; omega)).trans fr2
  replace kr3 := (hb.cell (p := ⟨w.heap.size + 1 + 1, 3, none⟩) (by dsimp only; omega)).trans kr3
  replace fr3 := (hb.frozen (p := ⟨w.heap.size + 1 + 1, 3, none⟩) (by dsimp only; omega)).trans fr3
  replace S1 := hide (S1.out.below hb)
  replace S2 := hide (S2.out.below hb)
  replace zr := Nat.lt_of_lt_of_le zr hb.size
  replace HB := hide (bl_trans HB.out hb)
  clear hb
  rw [len_zero]
  by_cases hy : y = 0
  · skip
    rw [decide_eq_true hy]
    have HY := hide hy
    clear hy
    have HE : Hid (rtT (okB (sgn x) (lms x) && okB (sgn y) (lms y)) (x) (y) = false) := hide (ans_0 HY.out)
    skip
    go_wp2
    refine bodyPost_ret (v := (.tuple #[.agg #[.bool false, .slice none 0 0, .bool false, .slice none 0 0], .bool false])) (by simp [results, Tryz.results39, go_sem, kr0, kr1, kr2, kr3]) rfl ?_
    rw [nat_lms, nat_lms, mk_self, mk_self]
    exact ans_no HE.out (by first | exact HB.out | exact set_four (N := w.heap.size + 1 + 1) (by omega) HB.out _ _ _ _)
  rw [decide_eq_false hy]
  have HY := hide hy
  clear hy
  go_wp2_with fail
  refine (shortI' x y a1 c1 a2 c2 _ S1.out S2.out HY.out (by omega) (by omega)).mono ?_
  rintro e w5 ⟨b1, e1, b2, e2, rfl, ho1, ho2, hap, hb⟩
  have yw5 := hb.size
  replace ka0 := (hb.cell (p := ⟨w.heap.size, 0, none⟩) (by dsimp only; omega)).trans ka0
  replace ka1 := (hb.cell (p := ⟨w.heap.size, 1, none⟩) (by dsimp only; omega)).trans ka1
  replace kb0 := (hb.cell (p := ⟨w.heap.size + 1, 0, none⟩) (by dsimp only; omega)).trans kb0
  replace kb1 := (hb.cell (p := ⟨w.heap.size + 1, 1, none⟩) (by dsimp only; omega)).trans kb1
  replace kr0 := (hb.cell (p := ⟨w.heap.size + 1 + 1, 0, none⟩) (by dsimp only; omega)).trans kr0
  replace fr0 := (hb.frozen (p := ⟨w.heap.size + 1 + 1, 0, none⟩) (by dsimp only; omega)).trans fr0
  replace kr1 := (hb.cell (p := ⟨w.heap.size + 1 + 1, 1, none⟩) (by dsimp only; omega)).trans kr1
  replace fr1 := (hb.frozen (p := ⟨w.heap.size + 1 + 1, 1, none⟩) (by dsimp only; omega)).trans fr1
  replace kr2 := (hb.cell (p := ⟨w.heap.size + 1 + 1, 2, none⟩) (by dsimp only; omega)).trans kr2
  replace fr2 := (hb.frozen (p := ⟨w.heap.size + 1 + 1, 2, none⟩) (by dsimp only; omega)).trans fr2
  replace kr3 := (hb.cell (p := ⟨w.heap.size + 1 + 1, 3, none⟩) (by dsimp only; omega)).trans kr3
  replace fr3 := (hb.frozen (p := ⟨w.heap.size + 1 + 1, 3, none⟩) (by dsimp only; omega)).trans fr3
  replace S1 := hide (S1.out.below hb)
  replace S2 := hide (S2.out.below hb)
  replace zr := Nat.lt_of_lt_of_le zr hb.size
  replace HB := hide (bl_trans HB.out hb)
  clear hb
  have O1 := hide ho1
  have O2 := hide ho2
  have HAP := hide hap
  clear ho1 ho2 hap
  go_wp2_with fail
  refine (fitI (x / sgG x y) (y / sgG x y) b1 e1 b2 e2 _ O1.out.seg O2.out.seg).mono ?_
  rintro e w6 ⟨rfl, hb⟩
  have yw6 := hb.size
  replace ka0 := (hb.cell (p := ⟨w.heap.size, 0, none⟩) (by dsimp only; omega)).trans ka0
  replace ka1 := (hb.cell (p := ⟨w.heap.size, 1, none⟩) (by dsimp only; omega)).trans ka1
  replace kb0 := (hb.cell (p := ⟨w.heap.size + 1, 0, none⟩) (by dsimp only; omega)).trans kb0
  replace kb1 := (hb.cell (p := ⟨w.heap.size + 1, 1, none⟩) (by dsimp only; omega)).trans kb1
  replace kr0 := (hb.cell (p := ⟨w.heap.size + 1 + 1, 0, none⟩) (by dsimp only; omega)).trans kr0
  replace fr0 := (hb.frozen (p := ⟨w.heap.size + 1 + 1, 0, none⟩) (by dsimp only; omega)).trans fr0
  replace kr1 := (hb.cell (p := ⟨w.heap.size + 1 + 1, 1, none⟩) (by dsimp only; omega)).trans kr1
  replace fr1 := (hb.frozen (p := ⟨w.heap.size + 1 + 1, 1, none⟩) (by dsimp only; omega)).trans fr1
  replace kr2 := (hb.cell (p := ⟨w.heap.size + 1 + 1, 2, none⟩) (by dsimp only; omega)).trans kr2
  replace fr2 := (hb.frozen (p := ⟨w.heap.size + 1 + 1, 2, none⟩) (by dsimp only; omega)).trans fr2
  replace kr3 := (hb.cell (p := ⟨w.heap.size + 1 + 1, 3, none⟩) (by dsimp only; omega)).trans kr3
  replace fr3 := (hb.frozen (p := ⟨w.heap.size + 1 + 1, 3, none⟩) (by dsimp only; omega)).trans fr3
  replace S1 := hide (S1.out.below hb)
  replace S2 := hide (S2.out.below hb)
  replace O1 := hide (O1.out.below hb)
  replace O2 := hide (O2.out.below hb)
  replace zr := Nat.lt_of_lt_of_le zr hb.size
  replace HB := hide (bl_trans HB.out hb)
  clear hb
  cases e3 : ftT (x / sgG x y) (y / sgG x y) with
  | false =>
    rw [ftV_f e3]
    have HE := hide ((ans_ft HT.out HY.out).trans e3)
    clear e3
    go_wp2
    refine bodyPost_ret (v := (.tuple #[.agg #[.bool false, .slice none 0 0, .bool false, .slice none 0 0], .bool false])) (by simp [results, Tryz.results39, go_sem, kr0, kr1, kr2, kr3]) rfl ?_
    rw [nat_lms, nat_lms, mk_self, mk_self]
    exact ans_no HE.out (by first | exact HB.out | exact set_four (N := w.heap.size + 1 + 1) (by omega) HB.out _ _ _ _)
  | true =>
  rw [ftV_t e3]
  have HE := hide ((ans_ft HT.out HY.out).trans e3)
  clear e3
  go_wp2
  refine bodyPost_ret (v := (.tuple #[Value.agg #[Value.bool (sgn (x / sgG x y)), Value.slice b1 (lms (x / sgG x y)).length e1, Value.bool (sgn (y / sgG x y)), Value.slice b2 (lms (y / sgG x y)).length e2], .bool true])) (by simp [results, Tryz.results39, go_sem, kr0, kr1, kr2, kr3]) rfl ?_
  obtain ⟨h1, h2, h3⟩ := fin_four (N := w.heap.size + 1 + 1) O1.out O2.out (by omega) (by omega) (by omega) HB.out (Value.bool (sgn (x / sgG x y))) (Value.slice b1 (lms (x / sgG x y)).length e1) (Value.bool (sgn (y / sgG x y))) (Value.slice b2 (lms (y / sgG x y)).length e2)
  rw [nat_lms, nat_lms, mk_self, mk_self]
  exact ans_yes HE.out h1 h2 HAP.out h3

end Go.Proofs.YteeifaleneneeaaGreatDoor

/- A box of a fraction that a region makes at any place among its calls, and what the region leaves behind. -/
namespace Go.Proofs.YteeifaleneneeaaGreatDoor
open Go.RowKit
set_option linter.unusedVariables false

/-- a box of a fraction that nothing is stored in yet -/
def Zr4 (w : World) (N : Nat) : Prop := N < w.heap.size ∧ w.cell? ⟨N, 0, none⟩ = some (.bool false) ∧ w.cell? ⟨N, 1, none⟩ = some (.slice none 0 0) ∧ w.cell? ⟨N, 2, none⟩ = some (.bool false) ∧ w.cell? ⟨N, 3, none⟩ = some (.slice none 0 0) ∧ w.frozen? ⟨N, 0, none⟩ = false ∧ w.frozen? ⟨N, 1, none⟩ = false ∧ w.frozen? ⟨N, 2, none⟩ = false ∧ w.frozen? ⟨N, 3, none⟩ = false
theorem Zr4.below {w w' : World} {N : Nat} (h : Zr4 w N) (hb : Below w.heap.size w w') : Zr4 w' N := by
  obtain ⟨z, k0, k1, k2, k3, f0, f1, f2, f3⟩ := h
  exact ⟨Nat.lt_of_lt_of_le z hb.size, (hb.cell (p := ⟨N, 0, none⟩) z).trans k0, (hb.cell (p := ⟨N, 1, none⟩) z).trans k1, (hb.cell (p := ⟨N, 2, none⟩) z).trans k2, (hb.cell (p := ⟨N, 3, none⟩) z).trans k3, (hb.frozen (p := ⟨N, 0, none⟩) z).trans f0, (hb.frozen (p := ⟨N, 1, none⟩) z).trans f1, (hb.frozen (p := ⟨N, 2, none⟩) z).trans f2, (hb.frozen (p := ⟨N, 3, none⟩) z).trans f3⟩
theorem zr4_alloc (W : World) : Zr4 (W.alloc (Obj.cells #[Value.bool false, Value.slice none 0 0, Value.bool false, Value.slice none 0 0] 43)) W.heap.size :=
  ⟨by simp only [World.size_alloc]; omega, by go_simp, by go_simp, by go_simp, by go_simp, by go_simp, by go_simp, by go_simp, by go_simp⟩
theorem born4 {W w : World} (hb : Below (W.alloc (Obj.cells #[Value.bool false, Value.slice none 0 0, Value.bool false, Value.slice none 0 0] 43)).heap.size (W.alloc (Obj.cells #[Value.bool false, Value.slice none 0 0, Value.bool false, Value.slice none 0 0] 43)) w) : Zr4 w W.heap.size := (zr4_alloc W).below hb
theorem res4_b {W0 wC : World} {lo hi lo' hi' : Nat} {p q : Int} {a b : Option Addr} {c d : Nat} (h : RgS wC lo hi a (lms p).length c (lms p)) (h' : RgS wC lo' hi' b (lms q).length d (lms q)) (bC : Below W0.heap.size W0 wC) :
    W0.heap.size ≤ wC.heap.size ∧ wC.heap.size < (wC.alloc (Obj.cells #[Value.bool (sgn p), Value.slice a (lms p).length c, Value.bool (sgn q), Value.slice b (lms q).length d] 43)).heap.size ∧ (wC.alloc (Obj.cells #[Value.bool (sgn p), Value.slice a (lms p).length c, Value.bool (sgn q), Value.slice b (lms q).length d] 43)).cell? ⟨wC.heap.size, 0, none⟩ = some (Value.bool (sgn p)) ∧ (wC.alloc (Obj.cells #[Value.bool (sgn p), Value.slice a (lms p).length c, Value.bool (sgn q), Value.slice b (lms q).length d] 43)).cell? ⟨wC.heap.size, 1, none⟩ = some (Value.slice a (lms p).length c) ∧ (wC.alloc (Obj.cells #[Value.bool (sgn p), Value.slice a (lms p).length c, Value.bool (sgn q), Value.slice b (lms q).length d] 43)).cell? ⟨wC.heap.size, 2, none⟩ = some (Value.bool (sgn q)) ∧ (wC.alloc (Obj.cells #[Value.bool (sgn p), Value.slice a (lms p).length c, Value.bool (sgn q), Value.slice b (lms q).length d] 43)).cell? ⟨wC.heap.size, 3, none⟩ = some (Value.slice b (lms q).length d) ∧ Seg (wC.alloc (Obj.cells #[Value.bool (sgn p), Value.slice a (lms p).length c, Value.bool (sgn q), Value.slice b (lms q).length d] 43)) a (lms p).length c (lms p) ∧ Seg (wC.alloc (Obj.cells #[Value.bool (sgn p), Value.slice a (lms p).length c, Value.bool (sgn q), Value.slice b (lms q).length d] 43)) b (lms q).length d (lms q) ∧ Below W0.heap.size W0 (wC.alloc (Obj.cells #[Value.bool (sgn p), Value.slice a (lms p).length c, Value.bool (sgn q), Value.slice b (lms q).length d] 43)) :=
  ⟨bC.size, by simp only [World.size_alloc]; omega, by go_simp, by go_simp, by go_simp, by go_simp, h.1.below (bl_alloc (bl_refl wC) _), h'.1.below (bl_alloc (bl_refl wC) _), bl_alloc bC _⟩
theorem res4_a {W0 wC : World} {N lo hi lo' hi' : Nat} {p q : Int} {a b : Option Addr} {c d : Nat} (h : RgS wC lo hi a (lms p).length c (lms p)) (h' : RgS wC lo' hi' b (lms q).length d (lms q)) (bC : Below W0.heap.size W0 wC) (hz : Zr4 wC N) (hN : W0.heap.size ≤ N) (hp : N < lo ∨ hi ≤ N) (hp' : N < lo' ∨ hi' ≤ N) :
    W0.heap.size ≤ N ∧ N < ((((wC.setCell ⟨N, 0, none⟩ (Value.bool (sgn p))).setCell ⟨N, 1, none⟩ (Value.slice a (lms p).length c)).setCell ⟨N, 2, none⟩ (Value.bool (sgn q))).setCell ⟨N, 3, none⟩ (Value.slice b (lms q).length d)).heap.size ∧ ((((wC.setCell ⟨N, 0, none⟩ (Value.bool (sgn p))).setCell ⟨N, 1, none⟩ (Value.slice a (lms p).length c)).setCell ⟨N, 2, none⟩ (Value.bool (sgn q))).setCell ⟨N, 3, none⟩ (Value.slice b (lms q).length d)).cell? ⟨N, 0, none⟩ = some (Value.bool (sgn p)) ∧ ((((wC.setCell ⟨N, 0, none⟩ (Value.bool (sgn p))).setCell ⟨N, 1, none⟩ (Value.slice a (lms p).length c)).setCell ⟨N, 2, none⟩ (Value.bool (sgn q))).setCell ⟨N, 3, none⟩ (Value.slice b (lms q).length d)).cell? ⟨N, 1, none⟩ = some (Value.slice a (lms p).length c) ∧ ((((wC.setCell ⟨N, 0, none⟩ (Value.bool (sgn p))).setCell ⟨N, 1, none⟩ (Value.slice a (lms p).length c)).setCell ⟨N, 2, none⟩ (Value.bool (sgn q))).setCell ⟨N, 3, none⟩ (Value.slice b (lms q).length d)).cell? ⟨N, 2, none⟩ = some (Value.bool (sgn q)) ∧ ((((wC.setCell ⟨N, 0, none⟩ (Value.bool (sgn p))).setCell ⟨N, 1, none⟩ (Value.slice a (lms p).length c)).setCell ⟨N, 2, none⟩ (Value.bool (sgn q))).setCell ⟨N, 3, none⟩ (Value.slice b (lms q).length d)).cell? ⟨N, 3, none⟩ = some (Value.slice b (lms q).length d) ∧ Seg ((((wC.setCell ⟨N, 0, none⟩ (Value.bool (sgn p))).setCell ⟨N, 1, none⟩ (Value.slice a (lms p).length c)).setCell ⟨N, 2, none⟩ (Value.bool (sgn q))).setCell ⟨N, 3, none⟩ (Value.slice b (lms q).length d)) a (lms p).length c (lms p) ∧ Seg ((((wC.setCell ⟨N, 0, none⟩ (Value.bool (sgn p))).setCell ⟨N, 1, none⟩ (Value.slice a (lms p).length c)).setCell ⟨N, 2, none⟩ (Value.bool (sgn q))).setCell ⟨N, 3, none⟩ (Value.slice b (lms q).length d)) b (lms q).length d (lms q) ∧ Below W0.heap.size W0 ((((wC.setCell ⟨N, 0, none⟩ (Value.bool (sgn p))).setCell ⟨N, 1, none⟩ (Value.slice a (lms p).length c)).setCell ⟨N, 2, none⟩ (Value.bool (sgn q))).setCell ⟨N, 3, none⟩ (Value.slice b (lms q).length d)) := by
  obtain ⟨z, k0, k1, k2, k3, f0, f1, f2, f3⟩ := hz
  exact ⟨hN, by simp; omega, by go_simp, by go_simp, by go_simp, by go_simp, ((((h.set (p := ⟨N, 0, none⟩) hp _).set (p := ⟨N, 1, none⟩) hp _).set (p := ⟨N, 2, none⟩) hp _).set (p := ⟨N, 3, none⟩) hp _).1, ((((h'.set (p := ⟨N, 0, none⟩) hp' _).set (p := ⟨N, 1, none⟩) hp' _).set (p := ⟨N, 2, none⟩) hp' _).set (p := ⟨N, 3, none⟩) hp' _).1, set_four hN bC _ _ _ _⟩

end Go.Proofs.YteeifaleneneeaaGreatDoor
