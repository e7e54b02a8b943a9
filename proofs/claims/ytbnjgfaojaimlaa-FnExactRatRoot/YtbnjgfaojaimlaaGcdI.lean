/- The walks of bigSize and bigGcd. -/
import Derived.Test.YtbnjgfaojaimlaaGSt
import Derived.Test.YtbnjgfaojaimlaaPk02
import Derived.Deep.LoopGhost
import Derived.Deep.RegionWith
import Derived.Deep.DeepCutAuto
namespace Go.Proofs.Ytbnjgfaojaimlaa
open Go.RowKit
set_option linter.unusedVariables false

set_option maxHeartbeats 2000000 in
set_option maxRecDepth 20000 in
theorem sizeI (v1 : Value) (x : Int) (w : World) (h1 : Is w v1 x) (l1 : (lms x).length ≤ 1048576) :
    Calls Try.prog 69 #[v1] w fun e w' => ∃ v, e = .returned v ∧ New w' w.heap.size v (x.natAbs : Int) ∧ Below w.heap.size w w' := by
  obtain ⟨a, ca, rfl, ha⟩ := h1
  have HA := hide ha
  clear ha
  have HM : Hid (mk false x.natAbs = (x.natAbs : Int)) := hide rfl
  have kA0 : ((w.alloc (Obj.cells #[Value.bool (sgn x), Value.slice a (lms x).length ca] 26)).alloc (Obj.cells #[Value.bool false, Value.slice none 0 0] 26)).cell? ⟨w.heap.size, 0, none⟩ = some (Value.bool (sgn x)) := by go_simp
  have kA1 : ((w.alloc (Obj.cells #[Value.bool (sgn x), Value.slice a (lms x).length ca] 26)).alloc (Obj.cells #[Value.bool false, Value.slice none 0 0] 26)).cell? ⟨w.heap.size, 1, none⟩ = some (Value.slice a (lms x).length ca) := by go_simp
  have zA : w.heap.size < ((w.alloc (Obj.cells #[Value.bool (sgn x), Value.slice a (lms x).length ca] 26)).alloc (Obj.cells #[Value.bool false, Value.slice none 0 0] 26)).heap.size := by simp only [World.size_alloc]; omega
  have kR0 : ((w.alloc (Obj.cells #[Value.bool (sgn x), Value.slice a (lms x).length ca] 26)).alloc (Obj.cells #[Value.bool false, Value.slice none 0 0] 26)).cell? ⟨w.heap.size + 1, 0, none⟩ = some (Value.bool false) := by go_simp
  have fR0 : ((w.alloc (Obj.cells #[Value.bool (sgn x), Value.slice a (lms x).length ca] 26)).alloc (Obj.cells #[Value.bool false, Value.slice none 0 0] 26)).frozen? ⟨w.heap.size + 1, 0, none⟩ = false := by go_simp
  have kR1 : ((w.alloc (Obj.cells #[Value.bool (sgn x), Value.slice a (lms x).length ca] 26)).alloc (Obj.cells #[Value.bool false, Value.slice none 0 0] 26)).cell? ⟨w.heap.size + 1, 1, none⟩ = some (Value.slice none 0 0) := by go_simp
  have fR1 : ((w.alloc (Obj.cells #[Value.bool (sgn x), Value.slice a (lms x).length ca] 26)).alloc (Obj.cells #[Value.bool false, Value.slice none 0 0] 26)).frozen? ⟨w.heap.size + 1, 1, none⟩ = false := by go_simp
  have zR : w.heap.size + 1 < ((w.alloc (Obj.cells #[Value.bool (sgn x), Value.slice a (lms x).length ca] 26)).alloc (Obj.cells #[Value.bool false, Value.slice none 0 0] 26)).heap.size := by simp only [World.size_alloc]; omega
  have HB := hide (bl_alloc (bl_alloc (bl_refl w) (Obj.cells #[Value.bool (sgn x), Value.slice a (lms x).length ca] 26)) (Obj.cells #[Value.bool false, Value.slice none 0 0] 26))
  replace HA := hide (HA.out.below HB.out)
  have y0 : w.heap.size + 2 ≤ ((w.alloc (Obj.cells #[Value.bool (sgn x), Value.slice a (lms x).length ca] 26)).alloc (Obj.cells #[Value.bool false, Value.slice none 0 0] 26)).heap.size := by simp only [World.size_alloc]; omega
  go_enter Try.func69, Try.ntmps69
  go_wp2_with fail
  generalize ((w.alloc (Obj.cells #[Value.bool (sgn x), Value.slice a (lms x).length ca] 26)).alloc (Obj.cells #[Value.bool false, Value.slice none 0 0] 26)) = w1 at *
  refine (cloneI a _ ca (lms x) _ HA.out l1).mono ?_
  rintro e w2 ⟨a2, c2, rfl, ho2, hbw2⟩
  have yw2 := hbw2.size
  replace kA0 := (hbw2.cell (p := ⟨w.heap.size, 0, none⟩) zA).trans kA0
  replace kA1 := (hbw2.cell (p := ⟨w.heap.size, 1, none⟩) zA).trans kA1
  replace zA := Nat.lt_of_lt_of_le zA hbw2.size
  replace kR0 := (hbw2.cell (p := ⟨w.heap.size + 1, 0, none⟩) zR).trans kR0
  replace fR0 := (hbw2.frozen (p := ⟨w.heap.size + 1, 0, none⟩) zR).trans fR0
  replace kR1 := (hbw2.cell (p := ⟨w.heap.size + 1, 1, none⟩) zR).trans kR1
  replace fR1 := (hbw2.frozen (p := ⟨w.heap.size + 1, 1, none⟩) zR).trans fR1
  replace zR := Nat.lt_of_lt_of_le zR hbw2.size
  replace HA := hide (HA.out.below hbw2)
  replace HB := hide (bl_trans HB.out hbw2)
  clear hbw2
  have HO := hide ho2
  clear ho2
  go_wp2_with fail
  refine bodyPost_ret (v := .agg #[.bool false, .slice a2 (lms x).length c2]) (by simp [results, Try.results69, go_sem, kR0, kR1]) rfl ?_
  have e1 : lms (x.natAbs : Int) = lms x := by unfold lms; rw [Int.natAbs_natCast]
  have e2 : sgn (x.natAbs : Int) = false := decide_eq_false (by omega)
  refine ⟨_, rfl, ⟨a2, c2, by rw [e1, e2], ?_⟩, ?_⟩
  · rw [e1]; exact ((HO.out.setCell (p := ⟨w.heap.size + 1, 0, none⟩) (by dsimp only; omega) _).setCell (p := ⟨w.heap.size + 1, 1, none⟩) (by dsimp only; omega) _).mono (by omega)
  · exact (HB.out.setCell (p := ⟨w.heap.size + 1, 0, none⟩) (by dsimp only; omega) _).setCell (p := ⟨w.heap.size + 1, 1, none⟩) (by dsimp only; omega) _

theorem lms_nat' (m : Nat) : lms (m : Int) = Num.limbs m := by unfold lms; rw [Int.natAbs_natCast]

set_option maxHeartbeats 4000000 in
set_option maxRecDepth 20000 in
theorem gcdI (v1 v2 : Value) (x y : Int) (w : World) (h1 : Is w v1 x) (h2 : Is w v2 y) (l1 : (lms x).length ≤ 400000) (l2 : (lms y).length ≤ 400000) :
    Calls Try.prog 55 #[v1, v2] w fun e w' => ∃ v, e = .returned v ∧ New w' w.heap.size v (Int.gcd x y : Int) ∧ Below w.heap.size w w' := by
  obtain ⟨a, ca, rfl, ha⟩ := h1
  obtain ⟨b, cb, rfl, hb⟩ := h2
  have HA := hide ha
  have HBB := hide hb
  clear ha hb
  have kA0 : (((w.alloc (Obj.cells #[Value.bool (sgn x), Value.slice a (lms x).length ca] 26)).alloc (Obj.cells #[Value.bool (sgn y), Value.slice b (lms y).length cb] 26)).alloc (Obj.cells #[Value.bool false, Value.slice none 0 0] 26)).cell? ⟨w.heap.size, 0, none⟩ = some (Value.bool (sgn x)) := by go_simp
  have fA0 : (((w.alloc (Obj.cells #[Value.bool (sgn x), Value.slice a (lms x).length ca] 26)).alloc (Obj.cells #[Value.bool (sgn y), Value.slice b (lms y).length cb] 26)).alloc (Obj.cells #[Value.bool false, Value.slice none 0 0] 26)).frozen? ⟨w.heap.size, 0, none⟩ = false := by go_simp
  have kA1 : (((w.alloc (Obj.cells #[Value.bool (sgn x), Value.slice a (lms x).length ca] 26)).alloc (Obj.cells #[Value.bool (sgn y), Value.slice b (lms y).length cb] 26)).alloc (Obj.cells #[Value.bool false, Value.slice none 0 0] 26)).cell? ⟨w.heap.size, 1, none⟩ = some (Value.slice a (lms x).length ca) := by go_simp
  have fA1 : (((w.alloc (Obj.cells #[Value.bool (sgn x), Value.slice a (lms x).length ca] 26)).alloc (Obj.cells #[Value.bool (sgn y), Value.slice b (lms y).length cb] 26)).alloc (Obj.cells #[Value.bool false, Value.slice none 0 0] 26)).frozen? ⟨w.heap.size, 1, none⟩ = false := by go_simp
  have zA : w.heap.size < (((w.alloc (Obj.cells #[Value.bool (sgn x), Value.slice a (lms x).length ca] 26)).alloc (Obj.cells #[Value.bool (sgn y), Value.slice b (lms y).length cb] 26)).alloc (Obj.cells #[Value.bool false, Value.slice none 0 0] 26)).heap.size := by simp only [World.size_alloc]; omega
  have kB0 : (((w.alloc (Obj.cells #[Value.bool (sgn x), Value.slice a (lms x).length ca] 26)).alloc (Obj.cells #[Value.bool (sgn y), Value.slice b (lms y).length cb] 26)).alloc (Obj.cells #[Value.bool false, Value.slice none 0 0] 26)).cell? ⟨w.heap.size + 1, 0, none⟩ = some (Value.bool (sgn y)) := by go_simp
  have fB0 : (((w.alloc (Obj.cells #[Value.bool (sgn x), Value.slice a (lms x).length ca] 26)).alloc (Obj.cells #[Value.bool (sgn y), Value.slice b (lms y).length cb] 26)).alloc (Obj.cells #[Value.bool false, Value.slice none 0 0] 26)).frozen? ⟨w.heap.size + 1, 0, none⟩ = false := by go_simp
  have kB1 : (((w.alloc (Obj.cells #[Value.bool (sgn x), Value.slice a (lms x).length ca] 26)).alloc (Obj.cells #[Value.bool (sgn y), Value.slice b (lms y).length cb] 26)).alloc (Obj.cells #[Value.bool false, Value.slice none 0 0] 26)).cell? ⟨w.heap.size + 1, 1, none⟩ = some (Value.slice b (lms y).length cb) := by go_simp
  have fB1 : (((w.alloc (Obj.cells #[Value.bool (sgn x), Value.slice a (lms x).length ca] 26)).alloc (Obj.cells #[Value.bool (sgn y), Value.slice b (lms y).length cb] 26)).alloc (Obj.cells #[Value.bool false, Value.slice none 0 0] 26)).frozen? ⟨w.heap.size + 1, 1, none⟩ = false := by go_simp
  have zB : w.heap.size + 1 < (((w.alloc (Obj.cells #[Value.bool (sgn x), Value.slice a (lms x).length ca] 26)).alloc (Obj.cells #[Value.bool (sgn y), Value.slice b (lms y).length cb] 26)).alloc (Obj.cells #[Value.bool false, Value.slice none 0 0] 26)).heap.size := by simp only [World.size_alloc]; omega
  have kR0 : (((w.alloc (Obj.cells #[Value.bool (sgn x), Value.slice a (lms x).length ca] 26)).alloc (Obj.cells #[Value.bool (sgn y), Value.slice b (lms y).length cb] 26)).alloc (Obj.cells #[Value.bool false, Value.slice none 0 0] 26)).cell? ⟨w.heap.size + 1 + 1, 0, none⟩ = some (Value.bool false) := by go_simp
  have fR0 : (((w.alloc (Obj.cells #[Value.bool (sgn x), Value.slice a (lms x).length ca] 26)).alloc (Obj.cells #[Value.bool (sgn y), Value.slice b (lms y).length cb] 26)).alloc (Obj.cells #[Value.bool false, Value.slice none 0 0] 26)).frozen? ⟨w.heap.size + 1 + 1, 0, none⟩ = false := by go_simp
  have kR1 : (((w.alloc (Obj.cells #[Value.bool (sgn x), Value.slice a (lms x).length ca] 26)).alloc (Obj.cells #[Value.bool (sgn y), Value.slice b (lms y).length cb] 26)).alloc (Obj.cells #[Value.bool false, Value.slice none 0 0] 26)).cell? ⟨w.heap.size + 1 + 1, 1, none⟩ = some (Value.slice none 0 0) := by go_simp
  have fR1 : (((w.alloc (Obj.cells #[Value.bool (sgn x), Value.slice a (lms x).length ca] 26)).alloc (Obj.cells #[Value.bool (sgn y), Value.slice b (lms y).length cb] 26)).alloc (Obj.cells #[Value.bool false, Value.slice none 0 0] 26)).frozen? ⟨w.heap.size + 1 + 1, 1, none⟩ = false := by go_simp
  have zR : w.heap.size + 1 + 1 < (((w.alloc (Obj.cells #[Value.bool (sgn x), Value.slice a (lms x).length ca] 26)).alloc (Obj.cells #[Value.bool (sgn y), Value.slice b (lms y).length cb] 26)).alloc (Obj.cells #[Value.bool false, Value.slice none 0 0] 26)).heap.size := by simp only [World.size_alloc]; omega
  have HB := hide (bl_alloc (bl_alloc (bl_alloc (bl_refl w) (Obj.cells #[Value.bool (sgn x), Value.slice a (lms x).length ca] 26)) (Obj.cells #[Value.bool (sgn y), Value.slice b (lms y).length cb] 26)) (Obj.cells #[Value.bool false, Value.slice none 0 0] 26))
  replace HA := hide (HA.out.below HB.out)
  replace HBB := hide (HBB.out.below HB.out)
  have y0 : w.heap.size + 3 ≤ (((w.alloc (Obj.cells #[Value.bool (sgn x), Value.slice a (lms x).length ca] 26)).alloc (Obj.cells #[Value.bool (sgn y), Value.slice b (lms y).length cb] 26)).alloc (Obj.cells #[Value.bool false, Value.slice none 0 0] 26)).heap.size := by simp only [World.size_alloc]; omega
  go_enter Try.func55, Try.ntmps55
  go_upto_region 1 with fail
  generalize (((w.alloc (Obj.cells #[Value.bool (sgn x), Value.slice a (lms x).length ca] 26)).alloc (Obj.cells #[Value.bool (sgn y), Value.slice b (lms y).length cb] 26)).alloc (Obj.cells #[Value.bool false, Value.slice none 0 0] 26)) = w1 at *
  go_cut [] (fun wc => ∃ ap cp aq cq, Hid (GSt w wc (w.heap.size) (w.heap.size + 1) (w.heap.size + 1 + 1) w1.heap.size (x.natAbs : Int) (y.natAbs : Int) ap cp aq cq))
  case first =>
    have qA0 := kA0
    have qA1 := kA1
    have qB0 := kB0
    have qB1 := kB1
    have qR0 := kR0
    have qR1 := kR1
    go_region_with (first
      | (go_at_call_of 69 (Value.agg #[Value.bool (sgn x), Value.slice a (lms x).length ca]); refine (sizeI (Value.agg #[Value.bool (sgn x), Value.slice a (lms x).length ca]) x _ ⟨a, ca, rfl, HA.out.below (bl_refl w1).drew⟩ (by omega)).mono ?_; rintro e wA ⟨vA, rfl, hnA, hbA⟩; have bA : Below w1.heap.size w1 wA := (bl_refl w1).drew.trans hbA; have yA := bA.size; have kA0 := (bA.cell (p := ⟨w.heap.size, 0, none⟩) zA).trans kA0; have kA1 := (bA.cell (p := ⟨w.heap.size, 1, none⟩) zA).trans kA1; have kB0 := (bA.cell (p := ⟨w.heap.size + 1, 0, none⟩) zB).trans kB0; have kB1 := (bA.cell (p := ⟨w.heap.size + 1, 1, none⟩) zB).trans kB1)
      | (go_at_call_of 69 (Value.agg #[Value.bool (sgn y), Value.slice b (lms y).length cb]); refine (sizeI (Value.agg #[Value.bool (sgn y), Value.slice b (lms y).length cb]) y _ ⟨b, cb, rfl, HBB.out.below bA⟩ (by omega)).mono ?_; rintro e wB ⟨vB, rfl, hnB, hbB⟩; have bB : Below w1.heap.size w1 wB := bl_trans bA hbB; have yB := hbB.size; obtain ⟨aA, cA, rfl, hoA⟩ := hnA; obtain ⟨aB, cB, rfl, hoB⟩ := hnB; have OA := hide ((hoA.below hbB).mono (base' := w1.heap.size) (by first | exact Nat.le_refl _ | (rw [World.size_drew]))); have OB := hide (hoB.mono (base' := w1.heap.size) yA); have kA0 := (bB.cell (p := ⟨w.heap.size, 0, none⟩) zA).trans qA0; have kA1 := (bB.cell (p := ⟨w.heap.size, 1, none⟩) zA).trans qA1; have kB0 := (bB.cell (p := ⟨w.heap.size + 1, 0, none⟩) zB).trans qB0; have kB1 := (bB.cell (p := ⟨w.heap.size + 1, 1, none⟩) zB).trans qB1; have kR0 := (bB.cell (p := ⟨w.heap.size + 1 + 1, 0, none⟩) zR).trans qR0; have kR1 := (bB.cell (p := ⟨w.heap.size + 1 + 1, 1, none⟩) zR).trans qR1; have fA0 := (bB.frozen (p := ⟨w.heap.size, 0, none⟩) zA).trans fA0; have fA1 := (bB.frozen (p := ⟨w.heap.size, 1, none⟩) zA).trans fA1; have fB0 := (bB.frozen (p := ⟨w.heap.size + 1, 0, none⟩) zB).trans fB0; have fB1 := (bB.frozen (p := ⟨w.heap.size + 1, 1, none⟩) zB).trans fB1; have fR0 := (bB.frozen (p := ⟨w.heap.size + 1 + 1, 0, none⟩) zR).trans fR0; have fR1 := (bB.frozen (p := ⟨w.heap.size + 1 + 1, 1, none⟩) zR).trans fR1; clear hoA hoB hbA hbB))
    all_goals (go_wp2_with fail; go_meet)
    all_goals exact ⟨aA, cA, aB, cB, hide (gst_init kA0 kA1 kB0 kB1 kR0 kR1 fA0 fA1 fB0 fB1 fR0 fR1 (by omega) (by omega) (by omega) (by omega) OA.out OB.out (bl_trans HB.out bB) (by omega) (by omega) (by omega) (by omega) (by omega))⟩
  case rest =>
  obtain ⟨ap, cp, aq, cq, hG⟩ := hcut
  clear kA0 kA1 kB0 kB1 kR0 kR1 fA0 fA1 fB0 fB1 fR0 fR1 HA HBB HB
  have l1' : (lms (x.natAbs : Int)).length ≤ 400000 := by unfold lms; rw [Int.natAbs_natCast]; exact l1
  have l2' : (lms (y.natAbs : Int)).length ≤ 400000 := by unfold lms; rw [Int.natAbs_natCast]; exact l2
  go_wp2_with fail
  go_loopg [] y.natAbs (fun gk wr => ∃ (p q : Nat) (ap : Option Addr) (cp : Nat) (aq : Option Addr) (cq : Nat), (lms (p : Int)).length ≤ 400000 ∧ (lms (q : Int)).length ≤ 400000 ∧ Hid (gk = q) ∧ Hid (Nat.gcd p q = Int.gcd x y) ∧ Hid (GSt w wr (w.heap.size) (w.heap.size + 1) (w.heap.size + 1 + 1) w1.heap.size (p : Int) (q : Int) ap cp aq cq))
  case atStart => exact ⟨x.natAbs, y.natAbs, ap, cp, aq, cq, l1', l2', hide rfl, hide rfl, hG⟩
  case round =>
    clear hG l1' l2'
    obtain ⟨p, q, ap, cp, aq, cq, hp, hq, hgk, hgcd, hG⟩ := hrel
    obtain ⟨kA0, kA1, kB0, kB1, kR0, kR1, fA0, fA1, fB0, fB1, fR0, fR1, zN, zM, zR, zB, oA, oB, bel⟩ := hG.out
    have HOA := hide oA
    have HOB := hide oB
    clear oA oB bel
    go_wp2_with fail
    refine (noughtI _ (sgn (q : Int)) (lms (q : Int)) _ ⟨aq, cq, rfl, HOB.out.seg⟩).mono ?_
    rintro e w2 ⟨rfl, hb2⟩
    rw [len_zero]
    replace hG := hide (hG.out.below hb2)
    clear kA0 kA1 kB0 kB1 kR0 kR1 fA0 fA1 fB0 fB1 fR0 fR1 zB HOA HOB
    obtain ⟨kA0, kA1, kB0, kB1, kR0, kR1, fA0, fA1, fB0, fB1, fR0, fR1, -, -, -, zB, oA, oB, bel⟩ := hG.out
    have HOA := hide oA
    have HOB := hide oB
    have y2 := hb2.size
    clear oA oB bel hb2
    by_cases hq0 : q = 0
    · rw [decide_eq_true (by omega)]
      have HE : Hid ((p : Int) = (Int.gcd x y : Int)) := hide (by rw [← hgcd.out, hq0, Nat.gcd_zero_right])
      go_wp2
      refine bodyPost_ret (v := .agg #[.bool (sgn (p : Int)), .slice ap (lms (p : Int)).length cp]) (by simp [results, Try.results55, go_sem, kR0, kR1]) rfl ?_
      rw [← HE.out]
      exact ⟨_, rfl, hG.out.fin (by omega) _ _⟩
    · rw [decide_eq_false (by omega)]
      go_wp2_with fail
      refine (divI (.agg #[.bool (sgn (p : Int)), .slice ap (lms (p : Int)).length cp]) (.agg #[.bool (sgn (q : Int)), .slice aq (lms (q : Int)).length cq]) p q _ ⟨ap, cp, rfl, HOA.out.seg⟩ ⟨aq, cq, rfl, HOB.out.seg⟩ (by omega) hp hq).mono ?_
      rintro e w3 ⟨a1, c1, a2, c2, rfl, ho1, ho2, hap, hb3⟩
      obtain ⟨r, hrr⟩ : ∃ r, p % q = r := ⟨_, rfl⟩
      have hr : ((p : Int) % (q : Int)) = (r : Int) := by rw [← hrr]; rfl
      have HRR := hide hrr
      rw [hr] at ho2 ⊢
      have y3 := hb3.size
      replace hG := hide (hG.out.below hb3)
      have z3 := hG.out.zB
      have HO2 := hide (ho2.mono (base' := w1.heap.size) (by omega))
      clear kA0 kA1 kB0 kB1 kR0 kR1 fA0 fA1 fB0 fB1 fR0 fR1 zB HOA HOB ho1 ho2 hap hb3 hr hrr
      go_upto_region 4 with fail
      have hb4 := bl_alloc (bl_alloc (bl_refl w3) (Obj.cells #[Value.bool (sgn ((p : Int) / (q : Int))), Value.slice a1 (lms ((p : Int) / (q : Int))).length c1] 26)) (Obj.cells #[Value.bool (sgn (r : Int)), Value.slice a2 (lms (r : Int)).length c2] 26)
      have kS0 : ((w3.alloc (Obj.cells #[Value.bool (sgn ((p : Int) / (q : Int))), Value.slice a1 (lms ((p : Int) / (q : Int))).length c1] 26)).alloc (Obj.cells #[Value.bool (sgn (r : Int)), Value.slice a2 (lms (r : Int)).length c2] 26)).cell? ⟨w3.heap.size + 1, 0, none⟩ = some (Value.bool (sgn (r : Int))) := by go_simp
      have kS1 : ((w3.alloc (Obj.cells #[Value.bool (sgn ((p : Int) / (q : Int))), Value.slice a1 (lms ((p : Int) / (q : Int))).length c1] 26)).alloc (Obj.cells #[Value.bool (sgn (r : Int)), Value.slice a2 (lms (r : Int)).length c2] 26)).cell? ⟨w3.heap.size + 1, 1, none⟩ = some (Value.slice a2 (lms (r : Int)).length c2) := by go_simp
      have y4 : w3.heap.size + 2 ≤ ((w3.alloc (Obj.cells #[Value.bool (sgn ((p : Int) / (q : Int))), Value.slice a1 (lms ((p : Int) / (q : Int))).length c1] 26)).alloc (Obj.cells #[Value.bool (sgn (r : Int)), Value.slice a2 (lms (r : Int)).length c2] 26)).heap.size := by simp only [World.size_alloc]; omega
      generalize ((w3.alloc (Obj.cells #[Value.bool (sgn ((p : Int) / (q : Int))), Value.slice a1 (lms ((p : Int) / (q : Int))).length c1] 26)).alloc (Obj.cells #[Value.bool (sgn (r : Int)), Value.slice a2 (lms (r : Int)).length c2] 26)) = w4 at *
      replace hG := hide (hG.out.below hb4)
      replace HO2 := hide (HO2.out.below hb4)
      clear hb4
      obtain ⟨kA0, kA1, kB0, kB1, kR0, kR1, fA0, fA1, fB0, fB1, fR0, fR1, -, -, -, zB4, oA, oB, bel⟩ := hG.out
      have HOB := hide oB
      clear oA oB bel
      have HL : Hid ((lms (r : Int)).length ≤ 400000) := hide (by rw [lms_nat'] at hp ⊢; rw [← HRR.out]; exact mod_len hp)
      have HGC : Hid (Nat.gcd q r = Int.gcd x y) := hide (by rw [← hgcd.out, ← HRR.out, Nat.gcd_comm, ← Nat.gcd_rec, Nat.gcd_comm])
      have HLT : Hid (r < gk) := hide (by rw [hgk.out, ← HRR.out]; exact Nat.mod_lt _ (by omega))
      have HFIN := hide (GSt.set2 (GSt.set1 (hG.out.below (bl_refl w4).drew) (r := (q : Int)) (HOB.out.below (bl_refl w4).drew) (by omega) (by omega) (by omega)) (r := (r : Int)) (((HO2.out.below (bl_refl w4).drew).setCell (p := ⟨w.heap.size, 0, none⟩) (by dsimp only; omega) (.bool (sgn (q : Int)))).setCell (p := ⟨w.heap.size, 1, none⟩) (by dsimp only; omega) (.slice aq (lms (q : Int)).length cq)) (by omega) (by omega) (by omega))
      clear HO2 HOB hG hgcd hgk
      have e1 : ¬ w.heap.size = w3.heap.size + 1 := by omega
      have e2 : ¬ w3.heap.size + 1 = w.heap.size := by omega
      have e3 : ¬ w.heap.size = w3.heap.size := by omega
      have e4 : ¬ w3.heap.size = w.heap.size := by omega
      go_region
      all_goals go_wp2_with fail
      all_goals go_roundg r
      all_goals first | exact HLT.out | exact ⟨q, r, _, _, _, _, hq, HL.out, hide rfl, HGC, HFIN⟩

end Go.Proofs.Ytbnjgfaojaimlaa
