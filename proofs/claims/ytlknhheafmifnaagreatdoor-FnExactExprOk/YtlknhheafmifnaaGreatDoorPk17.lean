/- My texts GcdI, RatOkI, GcdS, RatOkS, in this order. -/
import Derived.Test.YtlknhheafmifnaaGreatDoorPk16
import Derived.Test.YtlknhheafmifnaaGreatDoorPk02
import Derived.Deep.LoopGhost
import Derived.Deep.RegionWith
import Derived.Deep.DeepCutAuto
import Derived.Test.YtlknhheafmifnaaGreatDoorPk15
/- The walks of bigSize and bigGcd. -/
namespace Go.Proofs.YtlknhheafmifnaaGreatDoor
open Go.RowKit
set_option linter.unusedVariables false

set_option maxHeartbeats 2000000 in
set_option maxRecDepth 20000 in
theorem sizeI (v1 : Value) (x : Int) (w : World) (h1 : Is w v1 x) (l1 : (lms x).length ≤ 1048576) :
    Calls Tryz.prog 71 #[v1] w fun e w' => ∃ v, e = .returned v ∧ New w' w.heap.size v (x.natAbs : Int) ∧ Below w.heap.size w w' := by
  obtain ⟨a, ca, rfl, ha⟩ := h1
  have HA := hide ha
  clear ha
  have HM : Hid (mk false x.natAbs = (x.natAbs : Int)) := hide rfl
  have kA0 : ((w.alloc (Obj.cells #[Value.bool (sgn x), Value.slice a (lms x).length ca] 32)).alloc (Obj.cells #[Value.bool false, Value.slice none 0 0] 32)).cell? ⟨w.heap.size, 0, none⟩ = some (Value.bool (sgn x)) := by go_simp
  have kA1 : ((w.alloc (Obj.cells #[Value.bool (sgn x), Value.slice a (lms x).length ca] 32)).alloc (Obj.cells #[Value.bool false, Value.slice none 0 0] 32)).cell? ⟨w.heap.size, 1, none⟩ = some (Value.slice a (lms x).length ca) := by go_simp
  have zA : w.heap.size < ((w.alloc (Obj.cells #[Value.bool (sgn x), Value.slice a (lms x).length ca] 32)).alloc (Obj.cells #[Value.bool false, Value.slice none 0 0] 32)).heap.size := by simp only [World.size_alloc]; omega
  have kR0 : ((w.alloc (Obj.cells #[Value.bool (sgn x), Value.slice a (lms x).length ca] 32)).alloc (Obj.cells #[Value.bool false, Value.slice none 0 0] 32)).cell? ⟨w.heap.size + 1, 0, none⟩ = some (Value.bool false) := by go_simp
  have fR0 : ((w.alloc (Obj.cells #[Value.bool (sgn x), Value.slice a (lms x).length ca] 32)).alloc (Obj.cells #[Value.bool false, Value.slice none 0 0] 32)).frozen? ⟨w.heap.size + 1, 0, none⟩ = false := by go_simp
  have kR1 : ((w.alloc (Obj.cells #[Value.bool (sgn x), Value.slice a (lms x).length ca] 32)).alloc (Obj.cells #[Value.bool false, Value.slice none 0 0] 32)).cell? ⟨w.heap.size + 1, 1, none⟩ = some (Value.slice none 0 0) := by go_simp
  have fR1 : ((w.alloc (Obj.cells #[Value.bool (sgn x), Value.slice a (lms x).length ca] 32)).alloc (Obj.cells #[Value.bool false, Value.slice none 0 0] 32)).frozen? ⟨w.heap.size + 1, 1, none⟩ = false := by go_simp
  have zR : w.heap.size + 1 < ((w.alloc (Obj.cells #[Value.bool (sgn x), Value.slice a (lms x).length ca] 32)).alloc (Obj.cells #[Value.bool false, Value.slice none 0 0] 32)).heap.size := by simp only [World.size_alloc]; omega
  have HB := hide (bl_alloc (bl_alloc (bl_refl w) (Obj.cells #[Value.bool (sgn x), Value.slice a (lms x).length ca] 32)) (Obj.cells #[Value.bool false, Value.slice none 0 0] 32))
  replace HA := hide (HA.out.below HB.out)
  have y0 : w.heap.size + 2 ≤ ((w.alloc (Obj.cells #[Value.bool (sgn x), Value.slice a (lms x).length ca] 32)).alloc (Obj.cells #[Value.bool false, Value.slice none 0 0] 32)).heap.size := by simp only [World.size_alloc]; omega
  go_enter Tryz.func71, Tryz.ntmps71
  go_wp2_with fail
  generalize ((w.alloc (Obj.cells #[Value.bool (sgn x), Value.slice a (lms x).length ca] 32)).alloc (Obj.cells #[Value.bool false, Value.slice none 0 0] 32)) = w1 at *
  refine (cloneI a _ ca (lms x) _ HA.out l1).mono ?_
  rintro e w2 ⟨a2, c2, rfl, ho2, hbw2⟩
  have yw2 := hbw2.size
  replace kA0 := (hbw2.cell (p := ⟨w.heap.size, 0, none⟩) zA).trans kA0
  replace kA1 := (hbw2.cell (p := ⟨w.heap.size, 1, none⟩) zA).trans kA1
  replace zA := Nat.lt_of_lt_of_le zA hbw2.size
  replace kR0 := (hbw2.cell (p := ⟨w.heap.size + 1, 0, none⟩) zR).trans kR0
  replace fR0 := (hbw2.frozen (p := ⟨w.heap.size + 1, 0, none⟩) zR).trans fR0
  replace kR1 := (hbw2.cell (p := ⟨w.heap.size + 1, 1, none⟩) zR).trans kR1
  replace fR1 := (hbw2.frozen (p := ⟨w.heap.size + 1, 1, none⟩) zR).trans fR1
  replace zR := Nat.lt_of_lt_of_le zR hbw2.size
  replace HA := hide (HA.out.below hbw2)
  replace HB := hide (bl_trans HB.out hbw2)
  clear hbw2
  have HO := hide ho2
  clear ho2
  go_wp2_with fail
  refine bodyPost_ret (v := .agg #[.bool false, .slice a2 (lms x).length c2]) (by simp [results, Tryz.results71, go_sem, kR0, kR1]) rfl ?_
  have e1 : lms (x.natAbs : Int) = lms x := by unfold lms; rw [Int.natAbs_natCast]
  have e2 : sgn (x.natAbs : Int) = false := decide_eq_false (by omega)
  refine ⟨_, rfl, ⟨a2, c2, by rw [e1, e2], ?_⟩, ?_⟩
  · rw [e1]; exact ((HO.out.setCell (p := ⟨w.heap.size + 1, 0, none⟩) (by dsimp only; omega) _).setCell (p := ⟨w.heap.size + 1, 1, none⟩) (by dsimp only; omega) _).mono (by omega)
  · exact (HB.out.setCell (p := ⟨w.heap.size + 1, 0, none⟩) (by dsimp only; omega) _).setCell (p := ⟨w.heap.size + 1, 1, none⟩) (by dsimp only; omega) _

theorem lms_nat' (m : Nat) : lms (m : Int) = Num.limbs m := by unfold lms; rw [Int.natAbs_natCast]

set_option maxHeartbeats 4000000 in
set_option maxRecDepth 20000 in
theorem gcdI (v1 v2 : Value) (x y : Int) (w : World) (h1 : Is w v1 x) (h2 : Is w v2 y) (l1 : (lms x).length ≤ 400000) (l2 : (lms y).length ≤ 400000) :
    Calls Tryz.prog 60 #[v1, v2] w fun e w' => ∃ v, e = .returned v ∧ New w' w.heap.size v (Int.gcd x y : Int) ∧ Below w.heap.size w w' := by
  obtain ⟨a, ca, rfl, ha⟩ := h1
  obtain ⟨b, cb, rfl, hb⟩ := h2
  have HA := hide ha
  have HBB := hide hb
  clear ha hb
  have kA0 : (((w.alloc (Obj.cells #[Value.bool (sgn x), Value.slice a (lms x).length ca] 32)).alloc (Obj.cells #[Value.bool (sgn y), Value.slice b (lms y).length cb] 32)).alloc (Obj.cells #[Value.bool false, Value.slice none 0 0] 32)).cell? ⟨w.heap.size, 0, none⟩ = some (Value.bool (sgn x)) := by go_simp
  have fA0 : (((w.alloc (Obj.cells #[Value.bool (sgn x), Value.slice a (lms x).length ca] 32)).alloc (Obj.cells #[Value.bool (sgn y), Value.slice b (lms y).length cb] 32)).alloc (Obj.cells #[Value.bool false, Value.slice none 0 0] 32)).frozen? ⟨w.heap.size, 0, none⟩ = false := by go_simp
  have kA1 : (((w.alloc (Obj.cells #[Value.bool (sgn x), Value.slice a (lms x).length ca] 32)).alloc (Obj.cells #[Value.bool (sgn y), Value.slice b (lms y).length cb] 32)).alloc (Obj.cells #[Value.bool false, Value.slice none 0 0] 32)).cell? ⟨w.heap.size, 1, none⟩ = some (Value.slice a (lms x).length ca) := by go_simp
  have fA1 : (((w.alloc (Obj.cells #[Value.bool (sgn x), Value.slice a (lms x).length ca] 32)).alloc (Obj.cells #[Value.bool (sgn y), Value.slice b (lms y).length cb] 32)).alloc (Obj.cells #[Value.bool false, Value.slice none 0 0] 32)).frozen? ⟨w.heap.size, 1, none⟩ = false := by go_simp
  have zA : w.heap.size < (((w.alloc (Obj.cells #[Value.bool (sgn x), Value.slice a (lms x).length ca] 32)).alloc (Obj.cells #[Value.bool (sgn y), Value.slice b (lms y).length cb] 32)).alloc (Obj.cells #[Value.bool false, Value.slice none 0 0] 32)).heap.size := by simp only [World.size_alloc]; omega
  have kB0 : (((w.alloc (Obj.cells #[Value.bool (sgn x), Value.slice a (lms x).length ca] 32)).alloc (Obj.cells #[Value.bool (sgn y), Value.slice b (lms y).length cb] 32)).alloc (Obj.cells #[Value.bool false, Value.slice none 0 0] 32)).cell? ⟨w.heap.size + 1, 0, none⟩ = some (Value.bool (sgn y)) := by go_simp
  have fB0 : (((w.alloc (Obj.cells #[Value.bool (sgn x), Value.slice a (lms x).length ca] 32)).alloc (Obj.cells #[Value.bool (sgn y), Value.slice b (lms y).length cb] 32)).alloc (Obj.cells #[Value.bool false, Value.slice none 0 0] 32)).frozen? ⟨w.heap.size + 1, 0, none⟩ = false := by go_simp
  have kB1 : (((w.alloc (Obj.cells #[Value.bool (sgn x), Value.slice a (lms x).length ca] 32)).alloc (Obj.cells #[Value.bool (sgn y), Value.slice b (lms y).length cb] 32)).alloc (Obj.cells #[Value.bool false, Value.slice none 0 0] 32)).cell? ⟨w.heap.size + 1, 1, none⟩ = some (Value.slice b (lms y).length cb) := by go_simp
  have fB1 : (((w.alloc (Obj.cells #[Value.bool (sgn x), Value.slice a (lms x).length ca] 32)).alloc (Obj.cells #[Value.bool (sgn y), Value.slice b (lms y).length cb] 32)).alloc (Obj.cells #[Value.bool false, Value.slice none 0 0] 32)).frozen? ⟨w.heap.size + 1, 1, none⟩ = false := by go_simp
  have zB : w.heap.size + 1 < (((w.alloc (Obj.cells #[Value.bool (sgn x), Value.slice a (lms x).length ca] 32)).alloc (Obj.cells #[Value.bool (sgn y), Value.slice b (lms y).length cb] 32)).alloc (Obj.cells #[Value.bool false, Value.slice none 0 0] 32)).heap.size := by simp only [World.size_alloc]; omega
  have kR0 : (((w.alloc (Obj.cells #[Value.bool (sgn x), Value.slice a (lms x).length ca] 32)).alloc (Obj.cells #[Value.bool (sgn y), Value.slice b (lms y).length cb] 32)).alloc (Obj.cells #[Value.bool false, Value.slice none 0 0] 32)).cell? ⟨w.heap.size + 1 + 1, 0, none⟩ = some (Value.bool false) := by go_simp
  have fR0 : (((w.alloc (Obj.cells #[Value.bool (sgn x), Value.slice a (lms x).length ca] 32)).alloc (Obj.cells #[Value.bool (sgn y), Value.slice b (lms y).length cb] 32)).alloc (Obj.cells #[Value.bool false, Value.slice none 0 0] 32)).frozen? ⟨w.heap.size + 1 + 1, 0, none⟩ = false := by go_simp
  have kR1 : (((w.alloc (Obj.cells #[Value.bool (sgn x), Value.slice a (lms x).length ca] 32)).alloc (Obj.cells #[Value.bool (sgn y), Value.slice b (lms y).length cb] 32)).alloc (Obj.cells #[Value.bool false, Value.slice none 0 0] 32)).cell? ⟨w.heap.size + 1 + 1, 1, none⟩ = some (Value.slice none 0 0) := by go_simp
  have fR1 : (((w.alloc (Obj.cells #[Value.bool (sgn x), Value.slice a (lms x).length ca] 32)).alloc (Obj.cells #[Value.bool (sgn y), Value.slice b (lms y).length cb] 32)).alloc (Obj.cells #[Value.bool false, Value.slice none 0 0] 32)).frozen? ⟨w.heap.size + 1 + 1, 1, none⟩ = false := by go_simp
  have zR : w.heap.size + 1 + 1 < (((w.alloc (Obj.cells #[Value.bool (sgn x), Value.slice a (lms x).length ca] 32)).alloc (Obj.cells #[Value.bool (sgn y), Value.slice b (lms y).length cb] 32)).alloc (Obj.cells #[Value.bool false, Value.slice none 0 0] 32)).heap.size := by simp only [World.size_alloc]; omega
  have HB := hide (bl_alloc (bl_alloc (bl_alloc (bl_refl w) (Obj.cells #[Value.bool (sgn x), Value.slice a (lms x).length ca] 32)) (Obj.cells #[Value.bool (sgn y), Value.slice b (lms y).length cb] 32)) (Obj.cells #[Value.bool false, Value.slice none 0 0] 32))
  replace HA := hide (HA.out.below HB.out)
  replace HBB := hide (HBB.out.below HB.out)
  have y0 : w.heap.size + 3 ≤ (((w.alloc (Obj.cells #[Value.bool (sgn x), Value.slice a (lms x).length ca] 32)).alloc (Obj.cells #[Value.bool (sgn y), Value.slice b (lms y).length cb] 32)).alloc (Obj.cells #[Value.bool false, Value.slice none 0 0] 32)).heap.size := by simp only [World.size_alloc]; omega
  go_enter Tryz.func60, Tryz.ntmps60
  go_upto_region 1 with fail
  generalize (((w.alloc (Obj.cells #[Value.bool (sgn x), Value.slice a (lms x).length ca] 32)).alloc (Obj.cells #[Value.bool (sgn y), Value.slice b (lms y).length cb] 32)).alloc (Obj.cells #[Value.bool false, Value.slice none 0 0] 32)) = w1 at *
  go_cut [] (fun wc => ∃ ap cp aq cq, Hid (GSt w wc (w.heap.size) (w.heap.size + 1) (w.heap.size + 1 + 1) w1.heap.size (x.natAbs : Int) (y.natAbs : Int) ap cp aq cq))
  case first =>
    have qA0 := kA0
    have qA1 := kA1
    have qB0 := kB0
    have qB1 := kB1
    have qR0 := kR0
    have qR1 := kR1
    go_region_with (first
      | (go_at_call_of 71 (Value.agg #[Value.bool (sgn x), Value.slice a (lms x).length ca]); refine (sizeI (Value.agg #[Value.bool (sgn x), Value.slice a (lms x).length ca]) x _ ⟨a, ca, rfl, HA.out.below (bl_refl w1).drew⟩ (by omega)).mono ?_; rintro e wA ⟨vA, rfl, hnA, hbA⟩; have bA : Below w1.heap.size w1 wA := (bl_refl w1).drew.trans hbA; have yA := bA.size; have kA0 := (bA.cell (p := ⟨w.heap.size, 0, none⟩) zA).trans kA0; have kA1 := (bA.cell (p := ⟨w.heap.size, 1, none⟩) zA).trans kA1; have kB0 := (bA.cell (p := ⟨w.heap.size + 1, 0, none⟩) zB).trans kB0; have kB1 := (bA.cell (p := ⟨w.heap.size + 1, 1, none⟩) zB).trans kB1)
      | (go_at_call_of 71 (Value.agg #[Value.bool (sgn y), Value.slice b (lms y).length cb]); refine (sizeI (Value.agg #[Value.bool (sgn y), Value.slice b (lms y).length cb]) y _ ⟨b, cb, rfl, HBB.out.below bA⟩ (by omega)).mono ?_; rintro e wB ⟨vB, rfl, hnB, hbB⟩; have bB : Below w1.heap.size w1 wB := bl_trans bA hbB; have yB := hbB.size; obtain ⟨aA, cA, rfl, hoA⟩ := hnA; obtain ⟨aB, cB, rfl, hoB⟩ := hnB; have OA := hide ((hoA.below hbB).mono (base' := w1.heap.size) (by first | exact Nat.le_refl _ | (rw [World.size_drew]))); have OB := hide (hoB.mono (base' := w1.heap.size) yA); have kA0 := (bB.cell (p := ⟨w.heap.size, 0, none⟩) zA).trans qA0; have kA1 := (bB.cell (p := ⟨w.heap.size, 1, none⟩) zA).trans qA1; have kB0 := (bB.cell (p := ⟨w.heap.size + 1, 0, none⟩) zB).trans qB0; have kB1 := (bB.cell (p := ⟨w.heap.size + 1, 1, none⟩) zB).trans qB1; have kR0 := (bB.cell (p := ⟨w.heap.size + 1 + 1, 0, none⟩) zR).trans qR0; have kR1 := (bB.cell (p := ⟨w.heap.size + 1 + 1, 1, none⟩) zR).trans qR1; have fA0 := (bB.frozen (p := ⟨w.heap.size, 0, none⟩) zA).trans fA0; have fA1 := (bB.frozen (p := ⟨w.heap.size, 1, none⟩) zA).trans fA1; have fB0 := (bB.frozen (p := ⟨w.heap.size + 1, 0, none⟩) zB).trans fB0; have fB1 := (bB.frozen (p := ⟨w.heap.size + 1, 1, none⟩) zB).trans fB1; have fR0 := (bB.frozen (p := ⟨w.heap.size + 1 + 1, 0, none⟩) zR).trans fR0; have fR1 := (bB.frozen (p := ⟨w.heap.size + 1 + 1, 1, none⟩) zR).trans fR1; clear hoA hoB hbA hbB))
    all_goals (go_wp2_with fail; go_meet)
    all_goals exact ⟨aA, cA, aB, cB, hide (gst_init kA0 kA1 kB0 kB1 kR0 kR1 fA0 fA1 fB0 fB1 fR0 fR1 (by omega) (by omega) (by omega) (by omega) OA.out OB.out (bl_trans HB.out bB) (by omega) (by omega) (by omega) (by omega) (by omega))⟩
  case rest =>
  obtain ⟨ap, cp, aq, cq, hG⟩ := hcut
  clear kA0 kA1 kB0 kB1 kR0 kR1 fA0 fA1 fB0 fB1 fR0 fR1 HA HBB HB
  have l1' : (lms (x.natAbs : Int)).length ≤ 400000 := by unfold lms; rw [Int.natAbs_natCast]; exact l1
  have l2' : (lms (y.natAbs : Int)).length ≤ 400000 := by unfold lms; rw [Int.natAbs_natCast]; exact l2
  go_wp2_with fail
  go_loopg [] y.natAbs (fun gk wr => ∃ (p q : Nat) (ap : Option Addr) (cp : Nat) (aq : Option Addr) (cq : Nat), (lms (p : Int)).length ≤ 400000 ∧ (lms (q : Int)).length ≤ 400000 ∧ Hid (gk = q) ∧ Hid (Nat.gcd p q = Int.gcd x y) ∧ Hid (GSt w wr (w.heap.size) (w.heap.size + 1) (w.heap.size + 1 + 1) w1.heap.size (p : Int) (q : Int) ap cp aq cq))
  case atStart => exact ⟨x.natAbs, y.natAbs, ap, cp, aq, cq, l1', l2', hide rfl, hide rfl, hG⟩
  case round =>
    clear hG l1' l2'
    obtain ⟨p, q, ap, cp, aq, cq, hp, hq, hgk, hgcd, hG⟩ := hrel
    obtain ⟨kA0, kA1, kB0, kB1, kR0, kR1, fA0, fA1, fB0, fB1, fR0, fR1, zN, zM, zR, zB, oA, oB, bel⟩ := hG.out
    have HOA := hide oA
    have HOB := hide oB
    clear oA oB bel
    go_wp2_with fail
    refine (noughtI _ (sgn (q : Int)) (lms (q : Int)) _ ⟨aq, cq, rfl, HOB.out.seg⟩).mono ?_
    rintro e w2 ⟨rfl, hb2⟩
    rw [len_zero]
    replace hG := hide (hG.out.below hb2)
    clear kA0 kA1 kB0 kB1 kR0 kR1 fA0 fA1 fB0 fB1 fR0 fR1 zB HOA HOB
    obtain ⟨kA0, kA1, kB0, kB1, kR0, kR1, fA0, fA1, fB0, fB1, fR0, fR1, -, -, -, zB, oA, oB, bel⟩ := hG.out
    have HOA := hide oA
    have HOB := hide oB
    have y2 := hb2.size
    clear oA oB bel hb2
    by_cases hq0 : q = 0
    · rw [decide_eq_true (by omega)]
      have HE : Hid ((p : Int) = (Int.gcd x y : Int)) := hide (by rw [← hgcd.out, hq0, Nat.gcd_zero_right])
      go_wp2
      refine bodyPost_ret (v := .agg #[.bool (sgn (p : Int)), .slice ap (lms (p : Int)).length cp]) (by simp [results, Tryz.results60, go_sem, kR0, kR1]) rfl ?_
      rw [← HE.out]
      exact ⟨_, rfl, hG.out.fin (by omega) _ _⟩
    · rw [decide_eq_false (by omega)]
      go_wp2_with fail
      refine (divI (.agg #[.bool (sgn (p : Int)), .slice ap (lms (p : Int)).length cp]) (.agg #[.bool (sgn (q : Int)), .slice aq (lms (q : Int)).length cq]) p q _ ⟨ap, cp, rfl, HOA.out.seg⟩ ⟨aq, cq, rfl, HOB.out.seg⟩ (by omega) hp hq).mono ?_
      rintro e w3 ⟨a1, c1, a2, c2, rfl, ho1, ho2, hap, hb3⟩
      obtain ⟨r, hrr⟩ : ∃ r, p % q = r := ⟨_, rfl⟩
      have hr : ((p : Int) % (q : Int)) = (r : Int) := by rw [← hrr]; rfl
      have HRR := hide hrr
      rw [hr] at ho2 ⊢
      have y3 := hb3.size
      replace hG := hide (hG.out.below hb3)
      have z3 := hG.out.zB
      have HO2 := hide (ho2.mono (base' := w1.heap.size) (by omega))
      clear kA0 kA1 kB0 kB1 kR0 kR1 fA0 fA1 fB0 fB1 fR0 fR1 zB HOA HOB ho1 ho2 hap hb3 hr hrr
      go_upto_region 4 with fail
      have hb4 := bl_alloc (bl_alloc (bl_refl w3) (Obj.cells #[Value.bool (sgn ((p : Int) / (q : Int))), Value.slice a1 (lms ((p : Int) / (q : Int))).length c1] 32)) (Obj.cells #[Value.bool (sgn (r : Int)), Value.slice a2 (lms (r : Int)).length c2] 32)
      have kS0 : ((w3.alloc (Obj.cells #[Value.bool (sgn ((p : Int) / (q : Int))), Value.slice a1 (lms ((p : Int) / (q : Int))).length c1] 32)).alloc (Obj.cells #[Value.bool (sgn (r : Int)), Value.slice a2 (lms (r : Int)).length c2] 32)).cell? ⟨w3.heap.size + 1, 0, none⟩ = some (Value.bool (sgn (r : Int))) := by go_simp
      have kS1 : ((w3.alloc (Obj.cells #[Value.bool (sgn ((p : Int) / (q : Int))), Value.slice a1 (lms ((p : Int) / (q : Int))).length c1] 32)).alloc (Obj.cells #[Value.bool (sgn (r : Int)), Value.slice a2 (lms (r : Int)).length c2] 32)).cell? ⟨w3.heap.size + 1, 1, none⟩ = some (Value.slice a2 (lms (r : Int)).length c2) := by go_simp
      have y4 : w3.heap.size + 2 ≤ ((w3.alloc (Obj.cells #[Value.bool (sgn ((p : Int) / (q : Int))), Value.slice a1 (lms ((p : Int) / (q : Int))).length c1] 32)).alloc (Obj.cells #[Value.bool (sgn (r : Int)), Value.slice a2 (lms (r : Int)).length c2] 32)).heap.size := by simp only [World.size_alloc]; omega
      generalize ((w3.alloc (Obj.cells #[Value.bool (sgn ((p : Int) / (q : Int))), Value.slice a1 (lms ((p : Int) / (q : Int))).length c1] 32)).alloc (Obj.cells #[Value.bool (sgn (r : Int)), Value.slice a2 (lms (r : Int)).length c2] 32)) = w4 at *
      replace hG := hide (hG.out.below hb4)
      replace HO2 := hide (HO2.out.below hb4)
      clear hb4
      obtain ⟨kA0, kA1, kB0, kB1, kR0, kR1, fA0, fA1, fB0, fB1, fR0, fR1, -, -, -, zB4, oA, oB, bel⟩ := hG.out
      have HOB := hide oB
      clear oA oB bel
      have HL : Hid ((lms (r : Int)).length ≤ 400000) := hide (by rw [lms_nat'] at hp ⊢; rw [← HRR.out]; exact mod_len hp)
      have HGC : Hid (Nat.gcd q r = Int.gcd x y) := hide (by rw [← hgcd.out, ← HRR.out, Nat.gcd_comm, ← Nat.gcd_rec, Nat.gcd_comm])
      have HLT : Hid (r < gk) := hide (by rw [hgk.out, ← HRR.out]; exact Nat.mod_lt _ (by omega))
      have HFIN := hide (GSt.set2 (GSt.set1 (hG.out.below (bl_refl w4).drew) (r := (q : Int)) (HOB.out.below (bl_refl w4).drew) (by omega) (by omega) (by omega)) (r := (r : Int)) (((HO2.out.below (bl_refl w4).drew).setCell (p := ⟨w.heap.size, 0, none⟩) (by dsimp only; omega) (.bool (sgn (q : Int)))).setCell (p := ⟨w.heap.size, 1, none⟩) (by dsimp only; omega) (.slice aq (lms (q : Int)).length cq)) (by omega) (by omega) (by omega))
      clear HO2 HOB hG hgcd hgk
      have e1 : ¬ w.heap.size = w3.heap.size + 1 := by omega
      have e2 : ¬ w3.heap.size + 1 = w.heap.size := by omega
      have e3 : ¬ w.heap.size = w3.heap.size := by omega
      have e4 : ¬ w3.heap.size = w.heap.size := by omega
      go_region
      all_goals go_wp2_with fail
      all_goals go_roundg r
      all_goals first | exact HLT.out | exact ⟨q, r, _, _, _, _, hq, HL.out, hide rfl, HGC, HFIN⟩

end Go.Proofs.YtlknhheafmifnaaGreatDoor

/- The walks of isOne, the method right and RatOk of the program. -/
namespace Go.Proofs.YtlknhheafmifnaaGreatDoor
open Go.RowKit
set_option linter.unusedVariables false

theorem cmp_one (x : Int) : (cmpZ x 1 == 0) = decide (x = 1) := by
  unfold cmpZ
  by_cases h : x < 1
  · simp [h]; omega
  · by_cases h2 : 1 < x
    · simp [h, h2]; omega
    · have : x = 1 := by omega
      simp [this]

set_option maxHeartbeats 4000000 in
set_option maxRecDepth 20000 in
theorem isOneI (v1 : Value) (x : Int) (w : World) (h1 : Is w v1 x) :
    Calls Tryz.prog 59 #[v1] w fun e w' => e = .returned (.bool (decide (x = 1))) ∧ Below w.heap.size w w' := by
  obtain ⟨a, ca, rfl, ha⟩ := h1
  have HA := hide ha
  clear ha
  have HE := hide (cmp_one x)
  have kA0 : (w.alloc (Obj.cells #[Value.bool (sgn x), Value.slice a (lms x).length ca] 32)).cell? ⟨w.heap.size, 0, none⟩ = some (Value.bool (sgn x)) := by go_simp
  have kA1 : (w.alloc (Obj.cells #[Value.bool (sgn x), Value.slice a (lms x).length ca] 32)).cell? ⟨w.heap.size, 1, none⟩ = some (Value.slice a (lms x).length ca) := by go_simp
  have zA : w.heap.size < (w.alloc (Obj.cells #[Value.bool (sgn x), Value.slice a (lms x).length ca] 32)).heap.size := by simp only [World.size_alloc]; omega
  have HB := hide (bl_alloc (bl_refl w) (Obj.cells #[Value.bool (sgn x), Value.slice a (lms x).length ca] 32))
  replace HA := hide (HA.out.below HB.out)
  have y0 : w.heap.size + 1 ≤ (w.alloc (Obj.cells #[Value.bool (sgn x), Value.slice a (lms x).length ca] 32)).heap.size := by simp only [World.size_alloc]; omega
  go_enter Tryz.func59, Tryz.ntmps59
  go_wp2_with fail
  generalize (w.alloc (Obj.cells #[Value.bool (sgn x), Value.slice a (lms x).length ca] 32)) = w1 at *
  go_region_held3 (fun w' => w'.cell? ⟨w.heap.size, 0, none⟩ = some (Value.bool (sgn x)) ∧ w'.cell? ⟨w.heap.size, 1, none⟩ = some (Value.slice a (lms x).length ca))
    (first
      | exact ⟨(by (try rw [World.cell?_drew]); first | with_reducible assumption), (by (try rw [World.cell?_drew]); first | with_reducible assumption)⟩)
    (first
      | (go_at_call 70; refine (fromI 1 _ (by decide) (by decide)).mono ?_; rintro e w2 ⟨v1, rfl, hn1, hbw2r⟩; have hbw2 : Below w1.heap.size w1 w2 := (bl_refl w1).drew.trans hbw2r; have yw2 := hbw2.size; have kA0 := (hbw2r.cell (p := ⟨w.heap.size, 0, none⟩) (by dsimp only; rw [World.size_drew]; omega)).trans kA0; have kA1 := (hbw2r.cell (p := ⟨w.heap.size, 1, none⟩) (by dsimp only; rw [World.size_drew]; omega)).trans kA1)
      | (go_at_call 69; refine (cmpBI (.agg #[.bool (sgn x), .slice a (lms x).length ca]) v1 x 1 _ ⟨a, ca, rfl, HA.out.below (hbw2)⟩ hn1.is).mono ?_; rintro e w3 ⟨rfl, hbw3r⟩; have hbw3 : Below w1.heap.size w1 w3 := bl_trans hbw2 hbw3r; have yw3 := hbw3.size; have kA0 := (hbw3r.cell (p := ⟨w.heap.size, 0, none⟩) (by dsimp only; omega)).trans kA0; have kA1 := (hbw3r.cell (p := ⟨w.heap.size, 1, none⟩) (by dsimp only; omega)).trans kA1))
  have HB2 := hide (bl_trans HB.out hbw3)
  go_wp2
  go_ret
  exact ⟨ret_bool HE.out, HB2.out⟩

def ratB (n : Bool) (xs : List Nat) (m : Bool) (ys : List Nat) : Bool := okB n xs && okB m ys && (decide (0 < mk m (Num.nat ys)) && decide (Int.gcd (mk n (Num.nat xs)) (mk m (Num.nat ys)) = 1))

set_option maxHeartbeats 4000000 in
set_option maxRecDepth 20000 in
theorem rightI (n : Bool) (xs : List Nat) (m : Bool) (ys : List Nat) (a : Option Addr) (c : Nat) (b : Option Addr) (d : Nat) (w : World) (s1 : Seg w a xs.length c xs) (s2 : Seg w b ys.length d ys) :
    Calls Tryz.prog 45 #[(.agg #[.bool n, .slice a xs.length c, .bool m, .slice b ys.length d])] w fun e w' => e = .returned (.bool (ratB n xs m ys)) ∧ Below w.heap.size w w' := by
  have H1 := hide s1
  have H2 := hide s2
  clear s1 s2
  have kA0 : (w.alloc (Obj.cells #[Value.bool n, Value.slice a xs.length c, Value.bool m, Value.slice b ys.length d] 34)).cell? ⟨w.heap.size, 0, none⟩ = some (Value.bool n) := by go_simp
  have kA1 : (w.alloc (Obj.cells #[Value.bool n, Value.slice a xs.length c, Value.bool m, Value.slice b ys.length d] 34)).cell? ⟨w.heap.size, 1, none⟩ = some (Value.slice a xs.length c) := by go_simp
  have kA2 : (w.alloc (Obj.cells #[Value.bool n, Value.slice a xs.length c, Value.bool m, Value.slice b ys.length d] 34)).cell? ⟨w.heap.size, 2, none⟩ = some (Value.bool m) := by go_simp
  have kA3 : (w.alloc (Obj.cells #[Value.bool n, Value.slice a xs.length c, Value.bool m, Value.slice b ys.length d] 34)).cell? ⟨w.heap.size, 3, none⟩ = some (Value.slice b ys.length d) := by go_simp
  have zA : w.heap.size < (w.alloc (Obj.cells #[Value.bool n, Value.slice a xs.length c, Value.bool m, Value.slice b ys.length d] 34)).heap.size := by simp only [World.size_alloc]; omega
  have HB := hide (bl_alloc (bl_refl w) (Obj.cells #[Value.bool n, Value.slice a xs.length c, Value.bool m, Value.slice b ys.length d] 34))
  replace H1 := hide (H1.out.below HB.out)
  replace H2 := hide (H2.out.below HB.out)
  have y0 : w.heap.size + 1 ≤ (w.alloc (Obj.cells #[Value.bool n, Value.slice a xs.length c, Value.bool m, Value.slice b ys.length d] 34)).heap.size := by simp only [World.size_alloc]; omega
  go_enter Tryz.func45, Tryz.ntmps45
  go_wp2_with fail
  generalize (w.alloc (Obj.cells #[Value.bool n, Value.slice a xs.length c, Value.bool m, Value.slice b ys.length d] 34)) = w1 at *
  refine (okI _ n xs _ ⟨a, c, rfl, H1.out⟩).mono ?_
  rintro e w2 ⟨rfl, hbw2⟩
  have yw2 := hbw2.size
  replace kA0 := (hbw2.cell (p := ⟨w.heap.size, 0, none⟩) zA).trans kA0
  replace kA1 := (hbw2.cell (p := ⟨w.heap.size, 1, none⟩) zA).trans kA1
  replace kA2 := (hbw2.cell (p := ⟨w.heap.size, 2, none⟩) zA).trans kA2
  replace kA3 := (hbw2.cell (p := ⟨w.heap.size, 3, none⟩) zA).trans kA3
  replace zA := Nat.lt_of_lt_of_le zA hbw2.size
  replace H1 := hide (H1.out.below hbw2)
  replace H2 := hide (H2.out.below hbw2)
  replace HB := hide (bl_trans HB.out hbw2)
  clear hbw2
  cases e1 : okB n xs with
  | false =>
    have HE : Hid (ratB n xs m ys = false) := hide (by unfold ratB; rw [e1]; rfl)
    clear e1
    go_wp2
    go_ret
    exact ⟨ret_bool HE.out.symm, HB.out⟩
  | true =>
  have E1 := hide e1
  clear e1
  go_wp2_with fail
  refine (okI _ m ys _ ⟨b, d, rfl, H2.out⟩).mono ?_
  rintro e w3 ⟨rfl, hbw3⟩
  have yw3 := hbw3.size
  replace kA0 := (hbw3.cell (p := ⟨w.heap.size, 0, none⟩) zA).trans kA0
  replace kA1 := (hbw3.cell (p := ⟨w.heap.size, 1, none⟩) zA).trans kA1
  replace kA2 := (hbw3.cell (p := ⟨w.heap.size, 2, none⟩) zA).trans kA2
  replace kA3 := (hbw3.cell (p := ⟨w.heap.size, 3, none⟩) zA).trans kA3
  replace zA := Nat.lt_of_lt_of_le zA hbw3.size
  replace H1 := hide (H1.out.below hbw3)
  replace H2 := hide (H2.out.below hbw3)
  replace HB := hide (bl_trans HB.out hbw3)
  clear hbw3
  cases e2 : okB m ys with
  | false =>
    have HE : Hid (ratB n xs m ys = false) := hide (by unfold ratB; rw [e2, Bool.and_false]; rfl)
    clear e2
    go_wp2
    go_ret
    exact ⟨ret_bool HE.out.symm, HB.out⟩
  | true =>
  have E2 := hide e2
  clear e2
  obtain ⟨x, rfl, rfl, hx⟩ := ok_num H1.out.2.2.2.1 E1.out
  obtain ⟨y, rfl, rfl, hy⟩ := ok_num H2.out.2.2.2.1 E2.out
  have HR : Hid (ratB (sgn x) (lms x) (sgn y) (lms y) = (decide (0 < y) && decide (Int.gcd x y = 1))) := hide (by unfold ratB; rw [E1.out, E2.out, nat_lms, nat_lms, mk_self, mk_self]; rfl)
  have lx : (lms x).length ≤ 40 := Num.limbs_len.2 hx
  have ly : (lms y).length ≤ 40 := Num.limbs_len.2 hy
  clear hx hy
  go_wp2_with fail
  refine (signI _ y _ ⟨b, d, rfl, H2.out⟩).mono ?_
  rintro e w4 ⟨rfl, hbw4⟩
  have yw4 := hbw4.size
  replace kA0 := (hbw4.cell (p := ⟨w.heap.size, 0, none⟩) zA).trans kA0
  replace kA1 := (hbw4.cell (p := ⟨w.heap.size, 1, none⟩) zA).trans kA1
  replace kA2 := (hbw4.cell (p := ⟨w.heap.size, 2, none⟩) zA).trans kA2
  replace kA3 := (hbw4.cell (p := ⟨w.heap.size, 3, none⟩) zA).trans kA3
  replace zA := Nat.lt_of_lt_of_le zA hbw4.size
  replace H1 := hide (H1.out.below hbw4)
  replace H2 := hide (H2.out.below hbw4)
  replace HB := hide (bl_trans HB.out hbw4)
  clear hbw4
  by_cases hy0 : 0 < y
  · have hs : (0 : Int) < Int.sign y := by rw [Int.sign_eq_one_of_pos hy0]; decide
    generalize Int.sign y = sy at *
    go_wp2_with fail
    refine (gcdI _ _ x y _ ⟨a, c, rfl, H1.out⟩ ⟨b, d, rfl, H2.out⟩ (by omega) (by omega)).mono ?_
    rintro e w5 ⟨v5, rfl, hn5, hbw5⟩
    have yw5 := hbw5.size
    replace kA0 := (hbw5.cell (p := ⟨w.heap.size, 0, none⟩) zA).trans kA0
    replace kA1 := (hbw5.cell (p := ⟨w.heap.size, 1, none⟩) zA).trans kA1
    replace kA2 := (hbw5.cell (p := ⟨w.heap.size, 2, none⟩) zA).trans kA2
    replace kA3 := (hbw5.cell (p := ⟨w.heap.size, 3, none⟩) zA).trans kA3
    replace zA := Nat.lt_of_lt_of_le zA hbw5.size
    replace H1 := hide (H1.out.below hbw5)
    replace H2 := hide (H2.out.below hbw5)
    replace HB := hide (bl_trans HB.out hbw5)
    have HN := hide hn5.is
    obtain ⟨a5, c5, rfl, ho5⟩ := hn5
    clear ho5
    clear hbw5
    go_wp2_with fail
    refine (isOneI _ (Int.gcd x y : Int) _ HN.out).mono ?_
    rintro e w6 ⟨rfl, hbw6⟩
    have yw6 := hbw6.size
    replace kA0 := (hbw6.cell (p := ⟨w.heap.size, 0, none⟩) zA).trans kA0
    replace kA1 := (hbw6.cell (p := ⟨w.heap.size, 1, none⟩) zA).trans kA1
    replace kA2 := (hbw6.cell (p := ⟨w.heap.size, 2, none⟩) zA).trans kA2
    replace kA3 := (hbw6.cell (p := ⟨w.heap.size, 3, none⟩) zA).trans kA3
    replace zA := Nat.lt_of_lt_of_le zA hbw6.size
    replace H1 := hide (H1.out.below hbw6)
    replace H2 := hide (H2.out.below hbw6)
    replace HN := hide (HN.out.below hbw6)
    replace HB := hide (bl_trans HB.out hbw6)
    clear hbw6
    have HE : Hid (ratB (sgn x) (lms x) (sgn y) (lms y) = decide ((Int.gcd x y : Int) = 1)) := hide (by rw [HR.out, decide_eq_true hy0, Bool.true_and]; exact decide_eq_decide.2 (by omega))
    generalize decide ((Int.gcd x y : Int) = 1) = t at *
    go_wp2
    go_ret
    exact ⟨ret_bool HE.out.symm, HB.out⟩
  · have hs : ¬ (0 : Int) < Int.sign y := by have := Int.sign_nonpos_iff.2 (show y ≤ 0 by omega); omega
    generalize Int.sign y = sy at *
    have HE : Hid (ratB (sgn x) (lms x) (sgn y) (lms y) = false) := hide (by rw [HR.out, decide_eq_false hy0]; rfl)
    go_wp2
    go_ret
    exact ⟨ret_bool HE.out.symm, HB.out⟩

end Go.Proofs.YtlknhheafmifnaaGreatDoor

/- The walk of l02Gcd. -/
namespace Go.Proofs.YtlknhheafmifnaaGreatDoor
open Go.RowKit
set_option linter.unusedVariables false

theorem mk_nat_lms (x : Int) : mk false (Num.nat (lms x)) = (x.natAbs : Int) := by rw [nat_lms]; rfl
theorem OwnR.below {W W' : World} {lo hi : Nat} {a : Option Addr} {n cap : Nat} {xs : List Nat} (h : OwnR W lo hi a n cap xs) (hb : Below W.heap.size W W') : OwnR W' lo hi a n cap xs := ⟨h.1.below hb, h.2⟩

set_option maxHeartbeats 8000000 in
set_option maxRecDepth 20000 in
theorem gcdS (v1 v2 : Value) (x y : Int) (w : World) (h1 : Is w v1 x) (h2 : Is w v2 y) (l1 : (lms x).length ≤ 100000) (l2 : (lms y).length ≤ 100000) :
    Calls Tryz.prog 53 #[v1, v2] w fun e w' => ∃ v, e = .returned v ∧ IsB w' w.heap.size v (Int.gcd x y : Int) ∧ Below w.heap.size w w' := by
  obtain ⟨a, ca, rfl, ha⟩ := h1
  obtain ⟨b, cb, rfl, hb⟩ := h2
  have HA := hide ha
  have HBB := hide hb
  clear ha hb
  have kA0 : (((w.alloc (Obj.cells #[Value.bool (sgn x), Value.slice a (lms x).length ca] 32)).alloc (Obj.cells #[Value.bool (sgn y), Value.slice b (lms y).length cb] 32)).alloc (Obj.cells #[Value.bool false, Value.slice none 0 0] 32)).cell? ⟨w.heap.size, 0, none⟩ = some (Value.bool (sgn x)) := by go_simp
  have kA1 : (((w.alloc (Obj.cells #[Value.bool (sgn x), Value.slice a (lms x).length ca] 32)).alloc (Obj.cells #[Value.bool (sgn y), Value.slice b (lms y).length cb] 32)).alloc (Obj.cells #[Value.bool false, Value.slice none 0 0] 32)).cell? ⟨w.heap.size, 1, none⟩ = some (Value.slice a (lms x).length ca) := by go_simp
  have zA : w.heap.size < (((w.alloc (Obj.cells #[Value.bool (sgn x), Value.slice a (lms x).length ca] 32)).alloc (Obj.cells #[Value.bool (sgn y), Value.slice b (lms y).length cb] 32)).alloc (Obj.cells #[Value.bool false, Value.slice none 0 0] 32)).heap.size := by simp only [World.size_alloc]; omega
  have kB0 : (((w.alloc (Obj.cells #[Value.bool (sgn x), Value.slice a (lms x).length ca] 32)).alloc (Obj.cells #[Value.bool (sgn y), Value.slice b (lms y).length cb] 32)).alloc (Obj.cells #[Value.bool false, Value.slice none 0 0] 32)).cell? ⟨w.heap.size + 1, 0, none⟩ = some (Value.bool (sgn y)) := by go_simp
  have kB1 : (((w.alloc (Obj.cells #[Value.bool (sgn x), Value.slice a (lms x).length ca] 32)).alloc (Obj.cells #[Value.bool (sgn y), Value.slice b (lms y).length cb] 32)).alloc (Obj.cells #[Value.bool false, Value.slice none 0 0] 32)).cell? ⟨w.heap.size + 1, 1, none⟩ = some (Value.slice b (lms y).length cb) := by go_simp
  have zB : w.heap.size + 1 < (((w.alloc (Obj.cells #[Value.bool (sgn x), Value.slice a (lms x).length ca] 32)).alloc (Obj.cells #[Value.bool (sgn y), Value.slice b (lms y).length cb] 32)).alloc (Obj.cells #[Value.bool false, Value.slice none 0 0] 32)).heap.size := by simp only [World.size_alloc]; omega
  have kR0 : (((w.alloc (Obj.cells #[Value.bool (sgn x), Value.slice a (lms x).length ca] 32)).alloc (Obj.cells #[Value.bool (sgn y), Value.slice b (lms y).length cb] 32)).alloc (Obj.cells #[Value.bool false, Value.slice none 0 0] 32)).cell? ⟨w.heap.size + 1 + 1, 0, none⟩ = some (Value.bool false) := by go_simp
  have fR0 : (((w.alloc (Obj.cells #[Value.bool (sgn x), Value.slice a (lms x).length ca] 32)).alloc (Obj.cells #[Value.bool (sgn y), Value.slice b (lms y).length cb] 32)).alloc (Obj.cells #[Value.bool false, Value.slice none 0 0] 32)).frozen? ⟨w.heap.size + 1 + 1, 0, none⟩ = false := by go_simp
  have kR1 : (((w.alloc (Obj.cells #[Value.bool (sgn x), Value.slice a (lms x).length ca] 32)).alloc (Obj.cells #[Value.bool (sgn y), Value.slice b (lms y).length cb] 32)).alloc (Obj.cells #[Value.bool false, Value.slice none 0 0] 32)).cell? ⟨w.heap.size + 1 + 1, 1, none⟩ = some (Value.slice none 0 0) := by go_simp
  have fR1 : (((w.alloc (Obj.cells #[Value.bool (sgn x), Value.slice a (lms x).length ca] 32)).alloc (Obj.cells #[Value.bool (sgn y), Value.slice b (lms y).length cb] 32)).alloc (Obj.cells #[Value.bool false, Value.slice none 0 0] 32)).frozen? ⟨w.heap.size + 1 + 1, 1, none⟩ = false := by go_simp
  have zR : w.heap.size + 1 + 1 < (((w.alloc (Obj.cells #[Value.bool (sgn x), Value.slice a (lms x).length ca] 32)).alloc (Obj.cells #[Value.bool (sgn y), Value.slice b (lms y).length cb] 32)).alloc (Obj.cells #[Value.bool false, Value.slice none 0 0] 32)).heap.size := by simp only [World.size_alloc]; omega
  have HB := hide (bl_alloc (bl_alloc (bl_alloc (bl_refl w) (Obj.cells #[Value.bool (sgn x), Value.slice a (lms x).length ca] 32)) (Obj.cells #[Value.bool (sgn y), Value.slice b (lms y).length cb] 32)) (Obj.cells #[Value.bool false, Value.slice none 0 0] 32))
  replace HA := hide (HA.out.below HB.out)
  replace HBB := hide (HBB.out.below HB.out)
  have y0 : w.heap.size + 3 ≤ (((w.alloc (Obj.cells #[Value.bool (sgn x), Value.slice a (lms x).length ca] 32)).alloc (Obj.cells #[Value.bool (sgn y), Value.slice b (lms y).length cb] 32)).alloc (Obj.cells #[Value.bool false, Value.slice none 0 0] 32)).heap.size := by simp only [World.size_alloc]; omega
  go_enter Tryz.func53, Tryz.ntmps53
  go_upto_region 1 with fail
  generalize (((w.alloc (Obj.cells #[Value.bool (sgn x), Value.slice a (lms x).length ca] 32)).alloc (Obj.cells #[Value.bool (sgn y), Value.slice b (lms y).length cb] 32)).alloc (Obj.cells #[Value.bool false, Value.slice none 0 0] 32)) = w1 at *
  go_cut [5, 6] (fun s5 s6 wc => ∃ (N M : Nat) (ap : Option Addr) (cp : Nat) (aq : Option Addr) (cq : Nat), s5 = .pointer (some ⟨N, 0, none⟩) ∧ s6 = .pointer (some ⟨M, 0, none⟩) ∧ Hid (SSt w wc N M (w.heap.size + 1 + 1) (x.natAbs : Int) (y.natAbs : Int) ap cp aq cq))
  case first =>
    have KP : Hid (∀ w', Below w1.heap.size w1 w' → (w'.cell? ⟨w.heap.size, 1, none⟩ = some (Value.slice a (lms x).length ca) ∧ w'.cell? ⟨w.heap.size + 1, 1, none⟩ = some (Value.slice b (lms y).length cb) ∧ Hid (Below w1.heap.size w1 w'))) := hide (fun w' hb => ⟨(hb.cell (p := ⟨w.heap.size, 1, none⟩) zA).trans kA1, (hb.cell (p := ⟨w.heap.size + 1, 1, none⟩) zB).trans kB1, hb⟩)
    have TT := trivial
    go_region_held3 (fun w' => w'.cell? ⟨w.heap.size, 1, none⟩ = some (Value.slice a (lms x).length ca) ∧ w'.cell? ⟨w.heap.size + 1, 1, none⟩ = some (Value.slice b (lms y).length cb) ∧ Hid (Below w1.heap.size w1 w'))
      (first | exact KP.out _ (bl_refl w1).drew | exact KP.out _ bB | exact KP.out _ bA | exact KP.out _ (by repeat first | exact bB | exact bA | exact (bl_refl w1).drew | exact bl_refl w1 | refine bl_alloc ?_ _ | refine bl_trans ?_ (bl_refl _).drew | refine Below.setCell ?_ (by first | omega | (dsimp only; omega) | (dsimp only; rw [World.size_drew]; omega)) _))
      (first
        | (go_at_call 65; (fail_if_success have := armA); refine (makeS false a _ ca (lms x) _ (HA.out.below (Hid.out (And.right (And.right (by assumption))))) (by omega)).mono ?_; rintro e wA ⟨vA, rfl, hnA, hbA⟩; have bA : Below w1.heap.size w1 wA := bl_trans (Hid.out (And.right (And.right (by assumption)))) hbA; have yA := bA.size; rw [mk_nat_lms] at hnA; obtain ⟨aA, cA, rfl, hoA⟩ := hnA; have RA := hide hoA.range; (try simp only [World.size_drew] at RA); (try simp only [World.size_alloc] at RA); (first | (have HZa0 := hide (show Zr wA w1.heap.size from (born2 hbA).1); have HZa1 := hide (show Zr wA (w1.heap.size + 1) from (born2 hbA).2)) | (have HZa0 := hide (show Zr wA w1.heap.size from (born2 (bl_trans (bl_refl ((w1.alloc (Obj.cells #[Value.bool false, Value.slice none 0 0] 32)).alloc (Obj.cells #[Value.bool false, Value.slice none 0 0] 32))).drew hbA)).1); have HZa1 := hide (show Zr wA (w1.heap.size + 1) from (born2 (bl_trans (bl_refl ((w1.alloc (Obj.cells #[Value.bool false, Value.slice none 0 0] 32)).alloc (Obj.cells #[Value.bool false, Value.slice none 0 0] 32))).drew hbA)).2)) | have HZa0 := hide (show Zr wA w1.heap.size from born1 hbA) | have HZa0 := hide (show Zr wA w1.heap.size from born1 (bl_trans (bl_refl (w1.alloc (Obj.cells #[Value.bool false, Value.slice none 0 0] 32))).drew hbA)) | skip); (try have zza0 := HZa0.out.1); (try have zza1 := HZa1.out.1); have armA := TT; clear hoA hbA)
        | (go_at_call 65; have := armA; refine (makeS false b _ cb (lms y) _ (HBB.out.below (Hid.out (And.right (And.right (by assumption))))) (by omega)).mono ?_; rintro e wB ⟨vB, rfl, hnB, hbB⟩; have bB : Below w1.heap.size w1 wB := bl_trans (Hid.out (And.right (And.right (by assumption)))) hbB; have bAB : Below wA.heap.size wA wB := (by first | exact hbB | exact bl_one hbB | exact bl_two hbB); have yB := bAB.size; rw [mk_nat_lms] at hnB; obtain ⟨aB, cB, rfl, hoB⟩ := hnB; have RB := hide hoB.range; (try simp only [World.size_drew] at RB); (try simp only [World.size_alloc] at RB); replace RA := hide (RA.out.below bAB); (try replace HZa0 := hide (HZa0.out.below bAB)); (try replace HZa1 := hide (HZa1.out.below bAB)); (first | (have HZb0 := hide (show Zr wB wA.heap.size from (born2 hbB).1); have HZb1 := hide (show Zr wB (wA.heap.size + 1) from (born2 hbB).2)) | (have HZb0 := hide (show Zr wB wA.heap.size from (born2 (bl_trans (bl_refl ((wA.alloc (Obj.cells #[Value.bool false, Value.slice none 0 0] 32)).alloc (Obj.cells #[Value.bool false, Value.slice none 0 0] 32))).drew hbB)).1); have HZb1 := hide (show Zr wB (wA.heap.size + 1) from (born2 (bl_trans (bl_refl ((wA.alloc (Obj.cells #[Value.bool false, Value.slice none 0 0] 32)).alloc (Obj.cells #[Value.bool false, Value.slice none 0 0] 32))).drew hbB)).2)) | have HZb0 := hide (show Zr wB wA.heap.size from born1 hbB) | have HZb0 := hide (show Zr wB wA.heap.size from born1 (bl_trans (bl_refl (wA.alloc (Obj.cells #[Value.bool false, Value.slice none 0 0] 32))).drew hbB)) | skip); (try have Qa0 := HZa0.out); (try have Qa1 := HZa1.out); (try obtain ⟨za0, ka0_0, ka0_1, fa0_0, fa0_1⟩ := HZa0.out); (try obtain ⟨za1, ka1_0, ka1_1, fa1_0, fa1_1⟩ := HZa1.out); (try have Qb0 := HZb0.out); (try have Qb1 := HZb1.out); (try obtain ⟨zb0, kb0_0, kb0_1, fb0_0, fb0_1⟩ := HZb0.out); (try obtain ⟨zb1, kb1_0, kb1_1, fb1_0, fb1_1⟩ := HZb1.out); have kR0 := (bB.cell (p := ⟨w.heap.size + 1 + 1, 0, none⟩) zR).trans kR0; have kR1 := (bB.cell (p := ⟨w.heap.size + 1 + 1, 1, none⟩) zR).trans kR1; have fR0 := (bB.frozen (p := ⟨w.heap.size + 1 + 1, 0, none⟩) zR).trans fR0; have fR1 := (bB.frozen (p := ⟨w.heap.size + 1 + 1, 1, none⟩) zR).trans fR1; (try have := Nat.ne_of_lt za0); (try have := Nat.ne_of_lt za1); (try have := Nat.ne_of_lt zb0); (try have := Nat.ne_of_lt zb1); (try (have := za0; have := zb0; have : ¬ w1.heap.size = wA.heap.size := by omega)); (try (have := za0; have := zb1; have : ¬ w1.heap.size = wA.heap.size + 1 := by omega)); (try (have := za1; have := zb0; have : ¬ w1.heap.size + 1 = wA.heap.size := by omega)); (try (have := za1; have := zb1; have : ¬ w1.heap.size + 1 = wA.heap.size + 1 := by omega)); (try (have := zb0; have := za0; have : ¬ wA.heap.size = w1.heap.size := by omega)); (try (have := zb0; have := za1; have : ¬ wA.heap.size = w1.heap.size + 1 := by omega)); (try (have := zb1; have := za0; have : ¬ wA.heap.size + 1 = w1.heap.size := by omega)); (try (have := zb1; have := za1; have : ¬ wA.heap.size + 1 = w1.heap.size + 1 := by omega)); (try (have := za0; have : ¬ w1.heap.size = w.heap.size + 1 + 1 := (by omega); have : ¬ w.heap.size + 1 + 1 = w1.heap.size := (by omega))); (try (have := za1; have : ¬ w1.heap.size + 1 = w.heap.size + 1 + 1 := (by omega); have : ¬ w.heap.size + 1 + 1 = w1.heap.size + 1 := (by omega))); (try (have := zb0; have : ¬ wA.heap.size = w.heap.size + 1 + 1 := (by omega); have : ¬ w.heap.size + 1 + 1 = wA.heap.size := (by omega))); (try (have := zb1; have : ¬ wA.heap.size + 1 = w.heap.size + 1 + 1 := (by omega); have : ¬ w.heap.size + 1 + 1 = wA.heap.size + 1 := (by omega))); clear hoB hbB))
    all_goals (go_wp2_with fail; go_meet)
    all_goals refine ⟨_, _, aA, cA, aB, cB, rfl, rfl, hide ?_⟩
    · exact sst_bb kR0 kR1 fR0 fR1 (by omega) (by omega) RA.out RB.out (by omega) (by omega) (by omega) (by omega) (by omega) (by omega) (bl_trans HB.out bB)
    · exact sst_bb2 kR0 kR1 fR0 fR1 (by omega) (by omega) RA.out RB.out (by omega) (by omega) (by omega) (by omega) (by omega) (by omega) (bl_trans HB.out bB)
    · exact sst_ab kR0 kR1 fR0 fR1 (by omega) (by omega) RA.out RB.out (by omega) (by omega) (by omega) (by omega) (by omega) (by omega) (bl_trans HB.out bB) Qb0 (by omega) (by omega) (by omega) (by omega)
    · exact sst_aa kR0 kR1 fR0 fR1 (by omega) (by omega) RA.out RB.out (by omega) (by omega) (by omega) (by omega) (by omega) (by omega) (bl_trans HB.out bB) Qb0 (by omega) (by omega) (by omega) (by omega) Qb1 (by omega) (by omega) (by omega) (by omega) (by omega)
    · exact sst_ba kR0 kR1 fR0 fR1 (by omega) (by omega) RA.out RB.out (by omega) (by omega) (by omega) (by omega) (by omega) (by omega) (bl_trans HB.out bB) Qb0 (by omega) (by omega) (by omega) (by omega)
    · exact sst_aa kR0 kR1 fR0 fR1 (by omega) (by omega) RA.out RB.out (by omega) (by omega) (by omega) (by omega) (by omega) (by omega) (bl_trans HB.out bB) Qb1 (by omega) (by omega) (by omega) (by omega) Qb0 (by omega) (by omega) (by omega) (by omega) (by omega)
    · exact sst_ab kR0 kR1 fR0 fR1 (by omega) (by omega) RA.out RB.out (by omega) (by omega) (by omega) (by omega) (by omega) (by omega) (bl_trans HB.out bB) Qa0 (by omega) (by omega) (by omega) (by omega)
    · exact sst_aa kR0 kR1 fR0 fR1 (by omega) (by omega) RA.out RB.out (by omega) (by omega) (by omega) (by omega) (by omega) (by omega) (bl_trans HB.out bB) Qa0 (by omega) (by omega) (by omega) (by omega) Qb0 (by omega) (by omega) (by omega) (by omega) (by omega)
    · exact sst_aa kR0 kR1 fR0 fR1 (by omega) (by omega) RA.out RB.out (by omega) (by omega) (by omega) (by omega) (by omega) (by omega) (bl_trans HB.out bB) Qa0 (by omega) (by omega) (by omega) (by omega) Qa1 (by omega) (by omega) (by omega) (by omega) (by omega)
    · exact sst_ba kR0 kR1 fR0 fR1 (by omega) (by omega) RA.out RB.out (by omega) (by omega) (by omega) (by omega) (by omega) (by omega) (bl_trans HB.out bB) Qa0 (by omega) (by omega) (by omega) (by omega)
    · exact sst_aa kR0 kR1 fR0 fR1 (by omega) (by omega) RA.out RB.out (by omega) (by omega) (by omega) (by omega) (by omega) (by omega) (bl_trans HB.out bB) Qb0 (by omega) (by omega) (by omega) (by omega) Qa0 (by omega) (by omega) (by omega) (by omega) (by omega)
    · exact sst_aa kR0 kR1 fR0 fR1 (by omega) (by omega) RA.out RB.out (by omega) (by omega) (by omega) (by omega) (by omega) (by omega) (bl_trans HB.out bB) Qa1 (by omega) (by omega) (by omega) (by omega) Qa0 (by omega) (by omega) (by omega) (by omega) (by omega)
  case rest =>
  obtain ⟨N, M, ap, cp, aq, cq, rfl, rfl, hG⟩ := hcut
  clear kA0 kA1 kB0 kB1 kR0 kR1 fR0 fR1 HA HBB HB
  have l1' : (lms (x.natAbs : Int)).length ≤ 100000 := by unfold lms; rw [Int.natAbs_natCast]; exact l1
  have l2' : (lms (y.natAbs : Int)).length ≤ 100000 := by unfold lms; rw [Int.natAbs_natCast]; exact l2
  go_wp2_with fail
  go_loopg [] y.natAbs (fun gk wr => ∃ (p q : Nat) (ap : Option Addr) (cp : Nat) (aq : Option Addr) (cq : Nat), (lms (p : Int)).length ≤ 100000 ∧ (lms (q : Int)).length ≤ 100000 ∧ Hid (gk = q) ∧ Hid (Nat.gcd p q = Int.gcd x y) ∧ Hid (SSt w wr N M (w.heap.size + 1 + 1) (p : Int) (q : Int) ap cp aq cq))
  case atStart => exact ⟨x.natAbs, y.natAbs, ap, cp, aq, cq, l1', l2', hide rfl, hide rfl, hG⟩
  case round =>
    clear hG l1' l2'
    obtain ⟨p, q, ap, cp, aq, cq, hp, hq, hgk, hgcd, hG⟩ := hrel
    obtain ⟨kA0, kA1, kB0, kB1, kR0, kR1, fA0, fA1, fB0, fB1, fR0, fR1, zN, zM, zR', hN, hM, hR, n1, n2, n3, oA, oB, bel⟩ := hG.out
    have HOA := hide oA
    have HOB := hide oB
    clear oA oB bel
    by_cases hq0 : q = 0
    · have hl : ¬ (0 : Int) < ((lms (q : Int)).length : Int) := by rw [hq0]; rw [show ((0 : Nat) : Int) = 0 from rfl, zero_lms]; simp
      have HE : Hid ((p : Int) = (Int.gcd x y : Int)) := hide (by rw [← hgcd.out, hq0, Nat.gcd_zero_right])
      clear hq0
      go_wp2
      refine bodyPost_ret (v := .agg #[.bool (sgn (p : Int)), .slice ap (lms (p : Int)).length cp]) (by simp [results, Tryz.results53, go_sem, kR0, kR1]) rfl ?_
      rw [← HE.out]
      exact ⟨_, rfl, hG.out.fin _ _⟩
    · have hl : (0 : Int) < ((lms (q : Int)).length : Int) := by
        have : (lms (q : Int)).length ≠ 0 := fun e => hq0 (by have := sgn_lms_nil e; omega)
        omega
      go_upto_region 3 with fail
      rename (0 : Nat) < _ => hl0
      clear hl hl0
      go_wp2_with fail
      refine (divS (.agg #[.bool (sgn (p : Int)), .slice ap (lms (p : Int)).length cp]) (.agg #[.bool (sgn (q : Int)), .slice aq (lms (q : Int)).length cq]) p q _ ⟨ap, cp, rfl, HOA.out.1⟩ ⟨aq, cq, rfl, HOB.out.1⟩ (by omega) hp hq).mono ?_
      rintro e w3 ⟨a1, c1, a2, c2, rfl, ho1, ho2, hb3⟩
      obtain ⟨r, hrr⟩ : ∃ r, p % q = r := ⟨_, rfl⟩
      have hr : ((p : Int) % (q : Int)) = (r : Int) := by rw [← hrr]; rfl
      have HRR := hide hrr
      rw [hr] at ho2 ⊢
      have hb4 := bl_trans hb3 (bl_alloc (bl_alloc (bl_refl w3) (Obj.cells #[Value.bool (sgn ((p : Int) / (q : Int))), Value.slice a1 (lms ((p : Int) / (q : Int))).length c1] 32)) (Obj.cells #[Value.bool (sgn (r : Int)), Value.slice a2 (lms (r : Int)).length c2] 32))
      have y3 := hb3.size
      have kS0 : ((w3.alloc (Obj.cells #[Value.bool (sgn ((p : Int) / (q : Int))), Value.slice a1 (lms ((p : Int) / (q : Int))).length c1] 32)).alloc (Obj.cells #[Value.bool (sgn (r : Int)), Value.slice a2 (lms (r : Int)).length c2] 32)).cell? ⟨w3.heap.size + 1, 0, none⟩ = some (Value.bool (sgn (r : Int))) := by go_simp
      have kS1 : ((w3.alloc (Obj.cells #[Value.bool (sgn ((p : Int) / (q : Int))), Value.slice a1 (lms ((p : Int) / (q : Int))).length c1] 32)).alloc (Obj.cells #[Value.bool (sgn (r : Int)), Value.slice a2 (lms (r : Int)).length c2] 32)).cell? ⟨w3.heap.size + 1, 1, none⟩ = some (Value.slice a2 (lms (r : Int)).length c2) := by go_simp
      have HO2 := hide ((ho2.below (bl_alloc (bl_alloc (bl_refl w3) (Obj.cells #[Value.bool (sgn ((p : Int) / (q : Int))), Value.slice a1 (lms ((p : Int) / (q : Int))).length c1] 32)) (Obj.cells #[Value.bool (sgn (r : Int)), Value.slice a2 (lms (r : Int)).length c2] 32))).lk (L := w.heap.size) (N := N) (M := M) (R := w.heap.size + 1 + 1) (by omega) zN zM zR')
      replace hG := hide (hG.out.below hb4)
      replace HOB := hide (HOB.out.below hb4)
      clear kA0 kA1 kB0 kB1 kR0 kR1 fA0 fA1 fB0 fB1 fR0 fR1 HOA ho1 ho2 hb3 hb4 hr hrr
      have e1 : ¬ N = w3.heap.size + 1 := by omega
      have e2 : ¬ w3.heap.size + 1 = N := by omega
      have e3 : ¬ M = w3.heap.size + 1 := by omega
      have e4 : ¬ w3.heap.size + 1 = M := by omega
      go_upto_region 4 with fail
      generalize ((w3.alloc (Obj.cells #[Value.bool (sgn ((p : Int) / (q : Int))), Value.slice a1 (lms ((p : Int) / (q : Int))).length c1] 32)).alloc (Obj.cells #[Value.bool (sgn (r : Int)), Value.slice a2 (lms (r : Int)).length c2] 32)) = w4 at *
      obtain ⟨kA0, kA1, kB0, kB1, kR0, kR1, fA0, fA1, fB0, fB1, fR0, fR1, zN, zM, zR', hN, hM, hR, n1, n2, n3, oA, oB, bel⟩ := hG.out
      clear oA oB bel
      have HL : Hid ((lms (r : Int)).length ≤ 100000) := hide (by rw [lms_nat'] at hp ⊢; rw [← HRR.out]; exact mod_len hp)
      have HGC : Hid (Nat.gcd q r = Int.gcd x y) := hide (by rw [← hgcd.out, ← HRR.out, Nat.gcd_comm, ← Nat.gcd_rec, Nat.gcd_comm])
      have HLT : Hid (r < gk) := hide (by rw [hgk.out, ← HRR.out]; exact Nat.mod_lt _ (by omega))
      have HFIN := hide (SSt.set2 (SSt.set1 hG.out (r := (q : Int)) HOB.out) (r := (r : Int)) ((HO2.out.set (p := ⟨N, 0, none⟩) (.inl rfl) (.bool (sgn (q : Int)))).set (p := ⟨N, 1, none⟩) (.inl rfl) (.slice aq (lms (q : Int)).length cq)))
      clear HO2 HOB hG hgcd hgk
      have n1' : ¬ M = N := fun e => n1 e.symm
      go_wp2_with fail
      go_roundg r
      all_goals first | exact HLT.out | exact ⟨q, r, _, _, _, _, hq, HL.out, hide rfl, HGC, HFIN⟩
end Go.Proofs.YtlknhheafmifnaaGreatDoor

/- The walk of the specification's RatOk. -/
namespace Go.Proofs.YtlknhheafmifnaaGreatDoor
open Go.RowKit
set_option linter.unusedVariables false

set_option maxHeartbeats 4000000 in
set_option maxRecDepth 20000 in
theorem RatOkQ (n : Bool) (xs : List Nat) (m : Bool) (ys : List Nat) (a : Option Addr) (c : Nat) (b : Option Addr) (d : Nat) (w : World) (s1 : Seg w a xs.length c xs) (s2 : Seg w b ys.length d ys) :
    Calls Tryz.prog 39 #[(.agg #[.bool n, .slice a xs.length c, .bool m, .slice b ys.length d])] w fun e w' => e = .returned (.bool (ratB n xs m ys)) ∧ Below w.heap.size w w' := by
  have H1 := hide s1
  have H2 := hide s2
  clear s1 s2
  have kA0 : (w.alloc (Obj.cells #[Value.bool n, Value.slice a xs.length c, Value.bool m, Value.slice b ys.length d] 34)).cell? ⟨w.heap.size, 0, none⟩ = some (Value.bool n) := by go_simp
  have kA1 : (w.alloc (Obj.cells #[Value.bool n, Value.slice a xs.length c, Value.bool m, Value.slice b ys.length d] 34)).cell? ⟨w.heap.size, 1, none⟩ = some (Value.slice a xs.length c) := by go_simp
  have kA2 : (w.alloc (Obj.cells #[Value.bool n, Value.slice a xs.length c, Value.bool m, Value.slice b ys.length d] 34)).cell? ⟨w.heap.size, 2, none⟩ = some (Value.bool m) := by go_simp
  have kA3 : (w.alloc (Obj.cells #[Value.bool n, Value.slice a xs.length c, Value.bool m, Value.slice b ys.length d] 34)).cell? ⟨w.heap.size, 3, none⟩ = some (Value.slice b ys.length d) := by go_simp
  have zA : w.heap.size < (w.alloc (Obj.cells #[Value.bool n, Value.slice a xs.length c, Value.bool m, Value.slice b ys.length d] 34)).heap.size := by simp only [World.size_alloc]; omega
  have HB := hide (bl_alloc (bl_refl w) (Obj.cells #[Value.bool n, Value.slice a xs.length c, Value.bool m, Value.slice b ys.length d] 34))
  replace H1 := hide (H1.out.below HB.out)
  replace H2 := hide (H2.out.below HB.out)
  have y0 : w.heap.size + 1 ≤ (w.alloc (Obj.cells #[Value.bool n, Value.slice a xs.length c, Value.bool m, Value.slice b ys.length d] 34)).heap.size := by simp only [World.size_alloc]; omega
  go_enter Tryz.func39, Tryz.ntmps39
  go_wp2_with fail
  generalize (w.alloc (Obj.cells #[Value.bool n, Value.slice a xs.length c, Value.bool m, Value.slice b ys.length d] 34)) = w1 at *
  refine (okS _ n xs _ ⟨a, c, rfl, H1.out⟩).mono ?_
  rintro e w2 ⟨rfl, hbw2⟩
  have yw2 := hbw2.size
  replace kA0 := (hbw2.cell (p := ⟨w.heap.size, 0, none⟩) zA).trans kA0
  replace kA1 := (hbw2.cell (p := ⟨w.heap.size, 1, none⟩) zA).trans kA1
  replace kA2 := (hbw2.cell (p := ⟨w.heap.size, 2, none⟩) zA).trans kA2
  replace kA3 := (hbw2.cell (p := ⟨w.heap.size, 3, none⟩) zA).trans kA3
  replace zA := Nat.lt_of_lt_of_le zA hbw2.size
  replace H1 := hide (H1.out.below hbw2)
  replace H2 := hide (H2.out.below hbw2)
  replace HB := hide (bl_trans HB.out hbw2)
  clear hbw2
  cases e1 : okB n xs with
  | false =>
    have HE : Hid (ratB n xs m ys = false) := hide (by unfold ratB; rw [e1]; rfl)
    clear e1
    go_wp2
    go_ret
    exact ⟨ret_bool HE.out.symm, HB.out⟩
  | true =>
  have E1 := hide e1
  clear e1
  go_wp2_with fail
  refine (okS _ m ys _ ⟨b, d, rfl, H2.out⟩).mono ?_
  rintro e w3 ⟨rfl, hbw3⟩
  have yw3 := hbw3.size
  replace kA0 := (hbw3.cell (p := ⟨w.heap.size, 0, none⟩) zA).trans kA0
  replace kA1 := (hbw3.cell (p := ⟨w.heap.size, 1, none⟩) zA).trans kA1
  replace kA2 := (hbw3.cell (p := ⟨w.heap.size, 2, none⟩) zA).trans kA2
  replace kA3 := (hbw3.cell (p := ⟨w.heap.size, 3, none⟩) zA).trans kA3
  replace zA := Nat.lt_of_lt_of_le zA hbw3.size
  replace H1 := hide (H1.out.below hbw3)
  replace H2 := hide (H2.out.below hbw3)
  replace HB := hide (bl_trans HB.out hbw3)
  clear hbw3
  cases e2 : okB m ys with
  | false =>
    have HE : Hid (ratB n xs m ys = false) := hide (by unfold ratB; rw [e2, Bool.and_false]; rfl)
    clear e2
    go_wp2
    go_ret
    exact ⟨ret_bool HE.out.symm, HB.out⟩
  | true =>
  have E2 := hide e2
  clear e2
  obtain ⟨x, rfl, rfl, hx⟩ := ok_num H1.out.2.2.2.1 E1.out
  obtain ⟨y, rfl, rfl, hy⟩ := ok_num H2.out.2.2.2.1 E2.out
  have HR : Hid (ratB (sgn x) (lms x) (sgn y) (lms y) = (decide (0 < y) && decide (Int.gcd x y = 1))) := hide (by unfold ratB; rw [E1.out, E2.out, nat_lms, nat_lms, mk_self, mk_self]; rfl)
  have lx : (lms x).length ≤ 40 := Num.limbs_len.2 hx
  have ly : (lms y).length ≤ 40 := Num.limbs_len.2 hy
  clear hx hy
  by_cases hy0 : 0 < y
  · have hs : sgn y = false := decide_eq_false (by omega)
    have hl : (((lms y).length : Int) == 0) = false := by rw [beq_eq_false_iff_ne]; intro e; have := sgn_lms_nil (z := y) (by omega); omega
    have HE : Hid (ratB (sgn x) (lms x) (sgn y) (lms y) = decide (Int.gcd x y = 1)) := hide (by rw [HR.out, decide_eq_true hy0, Bool.true_and])
    go_upto_region 3 with fail
    clear hs hl
    go_wp2_with fail
    refine (gcdS (.agg #[.bool (sgn x), .slice a (lms x).length c]) (.agg #[.bool (sgn y), .slice b (lms y).length d]) x y _ ⟨a, c, rfl, H1.out⟩ ⟨b, d, rfl, H2.out⟩ (by omega) (by omega)).mono ?_
    rintro e w4 ⟨v5, rfl, hn5, hbw4⟩
    have yw4 := hbw4.size
    replace kA0 := (hbw4.cell (p := ⟨w.heap.size, 0, none⟩) zA).trans kA0
    replace kA1 := (hbw4.cell (p := ⟨w.heap.size, 1, none⟩) zA).trans kA1
    replace kA2 := (hbw4.cell (p := ⟨w.heap.size, 2, none⟩) zA).trans kA2
    replace kA3 := (hbw4.cell (p := ⟨w.heap.size, 3, none⟩) zA).trans kA3
    replace zA := Nat.lt_of_lt_of_le zA hbw4.size
    replace H1 := hide (H1.out.below hbw4)
    replace H2 := hide (H2.out.below hbw4)
    replace HB := hide (bl_trans HB.out hbw4)
    obtain ⟨a5, c5, rfl, ho5⟩ := hn5
    have HG := hide ho5.1
    clear ho5
    clear hbw4
    go_upto_region 4 with fail
    have kQ0 : (w4.alloc (Obj.cells #[Value.bool (sgn (Int.gcd x y : Int)), Value.slice a5 (lms (Int.gcd x y : Int)).length c5] 32)).cell? ⟨w4.heap.size, 0, none⟩ = some (Value.bool (sgn (Int.gcd x y : Int))) := by go_simp
    have kQ1 : (w4.alloc (Obj.cells #[Value.bool (sgn (Int.gcd x y : Int)), Value.slice a5 (lms (Int.gcd x y : Int)).length c5] 32)).cell? ⟨w4.heap.size, 1, none⟩ = some (Value.slice a5 (lms (Int.gcd x y : Int)).length c5) := by go_simp
    have zQ : w4.heap.size < (w4.alloc (Obj.cells #[Value.bool (sgn (Int.gcd x y : Int)), Value.slice a5 (lms (Int.gcd x y : Int)).length c5] 32)).heap.size := by simp only [World.size_alloc]; omega
    have yw5 : w4.heap.size + 1 ≤ (w4.alloc (Obj.cells #[Value.bool (sgn (Int.gcd x y : Int)), Value.slice a5 (lms (Int.gcd x y : Int)).length c5] 32)).heap.size := by simp only [World.size_alloc]; omega
    have hbw5 := (bl_alloc (bl_refl w4) (Obj.cells #[Value.bool (sgn (Int.gcd x y : Int)), Value.slice a5 (lms (Int.gcd x y : Int)).length c5] 32))
    generalize (w4.alloc (Obj.cells #[Value.bool (sgn (Int.gcd x y : Int)), Value.slice a5 (lms (Int.gcd x y : Int)).length c5] 32)) = w5 at *
    replace kA0 := (hbw5.cell (p := ⟨w.heap.size, 0, none⟩) zA).trans kA0
    replace kA1 := (hbw5.cell (p := ⟨w.heap.size, 1, none⟩) zA).trans kA1
    replace kA2 := (hbw5.cell (p := ⟨w.heap.size, 2, none⟩) zA).trans kA2
    replace kA3 := (hbw5.cell (p := ⟨w.heap.size, 3, none⟩) zA).trans kA3
    replace zA := Nat.lt_of_lt_of_le zA hbw5.size
    replace H1 := hide (H1.out.below hbw5)
    replace H2 := hide (H2.out.below hbw5)
    replace HG := hide (HG.out.below hbw5)
    replace HB := hide (bl_trans HB.out hbw5)
    clear hbw5
    by_cases hg : Int.gcd x y = 1
    · rw [decide_eq_true hg] at HE
      have e1 : lms (Int.gcd x y : Int) = [1] := by rw [hg]; unfold lms; rw [show Int.natAbs ((1 : Nat) : Int) = 1 from rfl, Num.limbs_pos (by decide)]; simp [Num.limbs_zero]
      have hcap := HG.out.2.1
      have hcm := HG.out.2.2.1
      obtain ⟨g5, o5, rfl, hg5, hc5⟩ := seg_cell HG.out 0 (by rw [e1]; decide)
      have e2 : (lms (Int.gcd x y : Int))[0]'(by rw [e1]; decide) = 1 := by simp [e1]
      rw [e2, Nat.add_zero] at hc5
      have hl1 : (((lms (Int.gcd x y : Int)).length : Int) == 1) = true := by rw [e1]; rfl
      have hl2 : (0 : Int) < ((lms (Int.gcd x y : Int)).length : Int) := by rw [e1]; decide
      clear e1 e2 hg
      generalize (lms (Int.gcd x y : Int)).length = L at *
      generalize sgn (Int.gcd x y : Int) = G at *
      go_wp2
      go_ret
      exact ⟨ret_bool HE.out.symm, HB.out⟩
    · rw [decide_eq_false hg] at HE
      by_cases hlen : (lms (Int.gcd x y : Int)).length = 1
      · have hcap := HG.out.2.1
        have hcm := HG.out.2.2.1
        obtain ⟨g5, o5, rfl, hg5, hc5⟩ := seg_cell HG.out 0 (by omega)
        have hne : ((((lms (Int.gcd x y : Int))[0]'(by omega) : Nat) : Int) == 1) = false := by rw [beq_eq_false_iff_ne]; intro e; exact hg (by have := abs_one hlen (by omega); omega)
        rw [Nat.add_zero] at hc5
        generalize (lms (Int.gcd x y : Int))[0]'_ = l0 at *
        have hl1 : (((lms (Int.gcd x y : Int)).length : Int) == 1) = true := by rw [hlen]; rfl
        have hl2 : (0 : Int) < ((lms (Int.gcd x y : Int)).length : Int) := by omega
        clear hlen hg
        generalize (lms (Int.gcd x y : Int)).length = L at *
        generalize sgn (Int.gcd x y : Int) = G at *
        go_wp2
        go_ret
        exact ⟨ret_bool HE.out.symm, HB.out⟩
      · have hl1 : (((lms (Int.gcd x y : Int)).length : Int) == 1) = false := by rw [beq_eq_false_iff_ne]; omega
        clear hlen hg
        generalize (lms (Int.gcd x y : Int)).length = L at *
        generalize sgn (Int.gcd x y : Int) = G at *
        go_wp2
        go_ret
        exact ⟨ret_bool HE.out.symm, HB.out⟩
  · have HE : Hid (ratB (sgn x) (lms x) (sgn y) (lms y) = false) := hide (by rw [HR.out, decide_eq_false hy0]; rfl)
    by_cases hyn : y < 0
    · have hs : sgn y = true := decide_eq_true hyn
      go_wp2
      go_ret
      exact ⟨ret_bool HE.out.symm, HB.out⟩
    · have hs : sgn y = false := decide_eq_false hyn
      have hl : (((lms y).length : Int) == 0) = true := by rw [show y = 0 by omega, zero_lms]; rfl
      go_wp2
      go_ret
      exact ⟨ret_bool HE.out.symm, HB.out⟩

end Go.Proofs.YtlknhheafmifnaaGreatDoor
