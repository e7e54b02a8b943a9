/- The walk of l02Gcd. -/
import Derived.Test.YtbnjgfaojaimlaaSSt
import Derived.Test.YtbnjgfaojaimlaaGcdI
namespace Go.Proofs.Ytbnjgfaojaimlaa
open Go.RowKit
set_option linter.unusedVariables false

theorem mk_nat_lms (x : Int) : mk false (Num.nat (lms x)) = (x.natAbs : Int) := by rw [nat_lms]; rfl
theorem OwnR.below {W W' : World} {lo hi : Nat} {a : Option Addr} {n cap : Nat} {xs : List Nat} (h : OwnR W lo hi a n cap xs) (hb : Below W.heap.size W W') : OwnR W' lo hi a n cap xs := ⟨h.1.below hb, h.2⟩

set_option maxHeartbeats 8000000 in
set_option maxRecDepth 20000 in
theorem gcdS (v1 v2 : Value) (x y : Int) (w : World) (h1 : Is w v1 x) (h2 : Is w v2 y) (l1 : (lms x).length ≤ 100000) (l2 : (lms y).length ≤ 100000) :
    Calls Try.prog 53 #[v1, v2] w fun e w' => ∃ v, e = .returned v ∧ IsB w' w.heap.size v (Int.gcd x y : Int) ∧ Below w.heap.size w w' := by
  obtain ⟨a, ca, rfl, ha⟩ := h1
  obtain ⟨b, cb, rfl, hb⟩ := h2
  have HA := hide ha
  have HBB := hide hb
  clear ha hb
  have kA0 : (((w.alloc (Obj.cells #[Value.bool (sgn x), Value.slice a (lms x).length ca] 26)).alloc (Obj.cells #[Value.bool (sgn y), Value.slice b (lms y).length cb] 26)).alloc (Obj.cells #[Value.bool false, Value.slice none 0 0] 26)).cell? ⟨w.heap.size, 0, none⟩ = some (Value.bool (sgn x)) := by go_simp
  have kA1 : (((w.alloc (Obj.cells #[Value.bool (sgn x), Value.slice a (lms x).length ca] 26)).alloc (Obj.cells #[Value.bool (sgn y), Value.slice b (lms y).length cb] 26)).alloc (Obj.cells #[Value.bool false, Value.slice none 0 0] 26)).cell? ⟨w.heap.size, 1, none⟩ = some (Value.slice a (lms x).length ca) := by go_simp
  have zA : w.heap.size < (((w.alloc (Obj.cells #[Value.bool (sgn x), Value.slice a (lms x).length ca] 26)).alloc (Obj.cells #[Value.bool (sgn y), Value.slice b (lms y).length cb] 26)).alloc (Obj.cells #[Value.bool false, Value.slice none 0 0] 26)).heap.size := by simp only [World.size_alloc]; omega
  have kB0 : (((w.alloc (Obj.cells #[Value.bool (sgn x), Value.slice a (lms x).length ca] 26)).alloc (Obj.cells #[Value.bool (sgn y), Value.slice b (lms y).length cb] 26)).alloc (Obj.cells #[Value.bool false, Value.slice none 0 0] 26)).cell? ⟨w.heap.size + 1, 0, none⟩ = some (Value.bool (sgn y)) := by go_simp
  have kB1 : (((w.alloc (Obj.cells #[Value.bool (sgn x), Value.slice a (lms x).length ca] 26)).alloc (Obj.cells #[Value.bool (sgn y), Value.slice b (lms y).length cb] 26)).alloc (Obj.cells #[Value.bool false, Value.slice none 0 0] 26)).cell? ⟨w.heap.size + 1, 1, none⟩ = some (Value.slice b (lms y).length cb) := by go_simp
  have zB : w.heap.size + 1 < (((w.alloc (Obj.cells #[Value.bool (sgn x), Value.slice a (lms x).length ca] 26)).alloc (Obj.cells #[Value.bool (sgn y), Value.slice b (lms y).length cb] 26)).alloc (Obj.cells #[Value.bool false, Value.slice none 0 0] 26)).heap.size := by simp only [World.size_alloc]; omega
  have kR0 : (((w.alloc (Obj.cells #[Value.bool (sgn x), Value.slice a (lms x).length ca] 26)).alloc (Obj.cells #[Value.bool (sgn y), Value.slice b (lms y).length cb] 26)).alloc (Obj.cells #[Value.bool false, Value.slice none 0 0] 26)).cell? ⟨w.heap.size + 1 + 1, 0, none⟩ = some (Value.bool false) := by go_simp
  have fR0 : (((w.alloc (Obj.cells #[Value.bool (sgn x), Value.slice a (lms x).length ca] 26)).alloc (Obj.cells #[Value.bool (sgn y), Value.slice b (lms y).length cb] 26)).alloc (Obj.cells #[Value.bool false, Value.slice none 0 0] 26)).frozen? ⟨w.heap.size + 1 + 1, 0, none⟩ = false := by go_simp
  have kR1 : (((w.alloc (Obj.cells #[Value.bool (sgn x), Value.slice a (lms x).length ca] 26)).alloc (Obj.cells #[Value.bool (sgn y), Value.slice b (lms y).length cb] 26)).alloc (Obj.cells #[Value.bool false, Value.slice none 0 0] 26)).cell? ⟨w.heap.size + 1 + 1, 1, none⟩ = some (Value.slice none 0 0) := by go_simp
  have fR1 : (((w.alloc (Obj.cells #[Value.bool (sgn x), Value.slice a (lms x).length ca] 26)).alloc (Obj.cells #[Value.bool (sgn y), Value.slice b (lms y).length cb] 26)).alloc (Obj.cells #[Value.bool false, Value.slice none 0 0] 26)).frozen? ⟨w.heap.size + 1 + 1, 1, none⟩ = false := by go_simp
  have zR : w.heap.size + 1 + 1 < (((w.alloc (Obj.cells #[Value.bool (sgn x), Value.slice a (lms x).length ca] 26)).alloc (Obj.cells #[Value.bool (sgn y), Value.slice b (lms y).length cb] 26)).alloc (Obj.cells #[Value.bool false, Value.slice none 0 0] 26)).heap.size := by simp only [World.size_alloc]; omega
  have HB := hide (bl_alloc (bl_alloc (bl_alloc (bl_refl w) (Obj.cells #[Value.bool (sgn x), Value.slice a (lms x).length ca] 26)) (Obj.cells #[Value.bool (sgn y), Value.slice b (lms y).length cb] 26)) (Obj.cells #[Value.bool false, Value.slice none 0 0] 26))
  replace HA := hide (HA.out.below HB.out)
  replace HBB := hide (HBB.out.below HB.out)
  have y0 : w.heap.size + 3 ≤ (((w.alloc (Obj.cells #[Value.bool (sgn x), Value.slice a (lms x).length ca] 26)).alloc (Obj.cells #[Value.bool (sgn y), Value.slice b (lms y).length cb] 26)).alloc (Obj.cells #[Value.bool false, Value.slice none 0 0] 26)).heap.size := by simp only [World.size_alloc]; omega
  go_enter Try.func53, Try.ntmps53
  go_upto_region 1 with fail
  generalize (((w.alloc (Obj.cells #[Value.bool (sgn x), Value.slice a (lms x).length ca] 26)).alloc (Obj.cells #[Value.bool (sgn y), Value.slice b (lms y).length cb] 26)).alloc (Obj.cells #[Value.bool false, Value.slice none 0 0] 26)) = w1 at *
  go_cut [5, 6] (fun s5 s6 wc => ∃ (N M : Nat) (ap : Option Addr) (cp : Nat) (aq : Option Addr) (cq : Nat), s5 = .pointer (some ⟨N, 0, none⟩) ∧ s6 = .pointer (some ⟨M, 0, none⟩) ∧ Hid (SSt w wc N M (w.heap.size + 1 + 1) (x.natAbs : Int) (y.natAbs : Int) ap cp aq cq))
  case first =>
    have KP : Hid (∀ w', Below w1.heap.size w1 w' → (w'.cell? ⟨w.heap.size, 1, none⟩ = some (Value.slice a (lms x).length ca) ∧ w'.cell? ⟨w.heap.size + 1, 1, none⟩ = some (Value.slice b (lms y).length cb) ∧ Hid (Below w1.heap.size w1 w'))) := hide (fun w' hb => ⟨(hb.cell (p := ⟨w.heap.size, 1, none⟩) zA).trans kA1, (hb.cell (p := ⟨w.heap.size + 1, 1, none⟩) zB).trans kB1, hb⟩)
    have TT := trivial
    go_region_held3 (fun w' => w'.cell? ⟨w.heap.size, 1, none⟩ = some (Value.slice a (lms x).length ca) ∧ w'.cell? ⟨w.heap.size + 1, 1, none⟩ = some (Value.slice b (lms y).length cb) ∧ Hid (Below w1.heap.size w1 w'))
      (first | exact KP.out _ (bl_refl w1).drew | exact KP.out _ bB | exact KP.out _ bA | exact KP.out _ (by repeat first | exact bB | exact bA | exact (bl_refl w1).drew | exact bl_refl w1 | refine bl_alloc ?_ _ | refine bl_trans ?_ (bl_refl _).drew | refine Below.setCell ?_ (by first | omega | (dsimp only; omega) | (dsimp only; rw [World.size_drew]; omega)) _))
      (first
        | (go_at_call 41; (fail_if_success have := armA); refine (makeS false a _ ca (lms x) _ (HA.out.below (Hid.out (And.right (And.right (by assumption))))) (by omega)).mono ?_; rintro e wA ⟨vA, rfl, hnA, hbA⟩; have bA : Below w1.heap.size w1 wA := bl_trans (Hid.out (And.right (And.right (by assumption)))) hbA; have yA := bA.size; rw [mk_nat_lms] at hnA; obtain ⟨aA, cA, rfl, hoA⟩ := hnA; have RA := hide hoA.range; (try simp only [World.size_drew] at RA); (try simp only [World.size_alloc] at RA); (first | (have HZa0 := hide (show Zr wA w1.heap.size from (born2 hbA).1); have HZa1 := hide (show Zr wA (w1.heap.size + 1) from (born2 hbA).2)) | (have HZa0 := hide (show Zr wA w1.heap.size from (born2 (bl_trans (bl_refl ((w1.alloc (Obj.cells #[Value.bool false, Value.slice none 0 0] 26)).alloc (Obj.cells #[Value.bool false, Value.slice none 0 0] 26))).drew hbA)).1); have HZa1 := hide (show Zr wA (w1.heap.size + 1) from (born2 (bl_trans (bl_refl ((w1.alloc (Obj.cells #[Value.bool false, Value.slice none 0 0] 26)).alloc (Obj.cells #[Value.bool false, Value.slice none 0 0] 26))).drew hbA)).2)) | have HZa0 := hide (show Zr wA w1.heap.size from born1 hbA) | have HZa0 := hide (show Zr wA w1.heap.size from born1 (bl_trans (bl_refl (w1.alloc (Obj.cells #[Value.bool false, Value.slice none 0 0] 26))).drew hbA)) | skip); (try have zza0 := HZa0.out.1); (try have zza1 := HZa1.out.1); have armA := TT; clear hoA hbA)
        | (go_at_call 41; have := armA; refine (makeS false b _ cb (lms y) _ (HBB.out.below (Hid.out (And.right (And.right (by assumption))))) (by omega)).mono ?_; rintro e wB ⟨vB, rfl, hnB, hbB⟩; have bB : Below w1.heap.size w1 wB := bl_trans (Hid.out (And.right (And.right (by assumption)))) hbB; have bAB : Below wA.heap.size wA wB := (by first | exact hbB | exact bl_one hbB | exact bl_two hbB); have yB := bAB.size; rw [mk_nat_lms] at hnB; obtain ⟨aB, cB, rfl, hoB⟩ := hnB; have RB := hide hoB.range; (try simp only [World.size_drew] at RB); (try simp only [World.size_alloc] at RB); replace RA := hide (RA.out.below bAB); (try replace HZa0 := hide (HZa0.out.below bAB)); (try replace HZa1 := hide (HZa1.out.below bAB)); (first | (have HZb0 := hide (show Zr wB wA.heap.size from (born2 hbB).1); have HZb1 := hide (show Zr wB (wA.heap.size + 1) from (born2 hbB).2)) | (have HZb0 := hide (show Zr wB wA.heap.size from (born2 (bl_trans (bl_refl ((wA.alloc (Obj.cells #[Value.bool false, Value.slice none 0 0] 26)).alloc (Obj.cells #[Value.bool false, Value.slice none 0 0] 26))).drew hbB)).1); have HZb1 := hide (show Zr wB (wA.heap.size + 1) from (born2 (bl_trans (bl_refl ((wA.alloc (Obj.cells #[Value.bool false, Value.slice none 0 0] 26)).alloc (Obj.cells #[Value.bool false, Value.slice none 0 0] 26))).drew hbB)).2)) | have HZb0 := hide (show Zr wB wA.heap.size from born1 hbB) | have HZb0 := hide (show Zr wB wA.heap.size from born1 (bl_trans (bl_refl (wA.alloc (Obj.cells #[Value.bool false, Value.slice none 0 0] 26))).drew hbB)) | skip); (try have Qa0 := HZa0.out); (try have Qa1 := HZa1.out); (try obtain ⟨za0, ka0_0, ka0_1, fa0_0, fa0_1⟩ := HZa0.out); (try obtain ⟨za1, ka1_0, ka1_1, fa1_0, fa1_1⟩ := HZa1.out); (try have Qb0 := HZb0.out); (try have Qb1 := HZb1.out); (try obtain ⟨zb0, kb0_0, kb0_1, fb0_0, fb0_1⟩ := HZb0.out); (try obtain ⟨zb1, kb1_0, kb1_1, fb1_0, fb1_1⟩ := HZb1.out); have kR0 := (bB.cell (p := ⟨w.heap.size + 1 + 1, 0, none⟩) zR).trans kR0; have kR1 := (bB.cell (p := ⟨w.heap.size + 1 + 1, 1, none⟩) zR).trans kR1; have fR0 := (bB.frozen (p := ⟨w.heap.size + 1 + 1, 0, none⟩) zR).trans fR0; have fR1 := (bB.frozen (p := ⟨w.heap.size + 1 + 1, 1, none⟩) zR).trans fR1; (try have := Nat.ne_of_lt za0); (try have := Nat.ne_of_lt za1); (try have := Nat.ne_of_lt zb0); (try have := Nat.ne_of_lt zb1); (try (have := za0; have := zb0; have : ¬ w1.heap.size = wA.heap.size := by omega)); (try (have := za0; have := zb1; have : ¬ w1.heap.size = wA.heap.size + 1 := by omega)); (try (have := za1; have := zb0; have : ¬ w1.heap.size + 1 = wA.heap.size := by omega)); (try (have := za1; have := zb1; have : ¬ w1.heap.size + 1 = wA.heap.size + 1 := by omega)); (try (have := zb0; have := za0; have : ¬ wA.heap.size = w1.heap.size := by omega)); (try (have := zb0; have := za1; have : ¬ wA.heap.size = w1.heap.size + 1 := by omega)); (try (have := zb1; have := za0; have : ¬ wA.heap.size + 1 = w1.heap.size := by omega)); (try (have := zb1; have := za1; have : ¬ wA.heap.size + 1 = w1.heap.size + 1 := by omega)); (try (have := za0; have : ¬ w1.heap.size = w.heap.size + 1 + 1 := (by omega); have : ¬ w.heap.size + 1 + 1 = w1.heap.size := (by omega))); (try (have := za1; have : ¬ w1.heap.size + 1 = w.heap.size + 1 + 1 := (by omega); have : ¬ w.heap.size + 1 + 1 = w1.heap.size + 1 := (by omega))); (try (have := zb0; have : ¬ wA.heap.size = w.heap.size + 1 + 1 := (by omega); have : ¬ w.heap.size + 1 + 1 = wA.heap.size := (by omega))); (try (have := zb1; have : ¬ wA.heap.size + 1 = w.heap.size + 1 + 1 := (by omega); have : ¬ w.heap.size + 1 + 1 = wA.heap.size + 1 := (by omega))); clear hoB hbB))
    all_goals (go_wp2_with fail; go_meet)
    all_goals refine ⟨_, _, aA, cA, aB, cB, rfl, rfl, hide ?_⟩
    · exact sst_bb kR0 kR1 fR0 fR1 (by omega) (by omega) RA.out RB.out (by omega) (by omega) (by omega) (by omega) (by omega) (by omega) (bl_trans HB.out bB)
    · exact sst_bb2 kR0 kR1 fR0 fR1 (by omega) (by omega) RA.out RB.out (by omega) (by omega) (by omega) (by omega) (by omega) (by omega) (bl_trans HB.out bB)
    · exact sst_ab kR0 kR1 fR0 fR1 (by omega) (by omega) RA.out RB.out (by omega) (by omega) (by omega) (by omega) (by omega) (by omega) (bl_trans HB.out bB) Qb0 (by omega) (by omega) (by omega) (by omega)
    · exact sst_aa kR0 kR1 fR0 fR1 (by omega) (by omega) RA.out RB.out (by omega) (by omega) (by omega) (by omega) (by omega) (by omega) (bl_trans HB.out bB) Qb0 (by omega) (by omega) (by omega) (by omega) Qb1 (by omega) (by omega) (by omega) (by omega) (by omega)
    · exact sst_ba kR0 kR1 fR0 fR1 (by omega) (by omega) RA.out RB.out (by omega) (by omega) (by omega) (by omega) (by omega) (by omega) (bl_trans HB.out bB) Qb0 (by omega) (by omega) (by omega) (by omega)
    · exact sst_aa kR0 kR1 fR0 fR1 (by omega) (by omega) RA.out RB.out (by omega) (by omega) (by omega) (by omega) (by omega) (by omega) (bl_trans HB.out bB) Qb1 (by omega) (by omega) (by omega) (by omega) Qb0 (by omega) (by omega) (by omega) (by omega) (by omega)
    · exact sst_ab kR0 kR1 fR0 fR1 (by omega) (by omega) RA.out RB.out (by omega) (by omega) (by omega) (by omega) (by omega) (by omega) (bl_trans HB.out bB) Qa0 (by omega) (by omega) (by omega) (by omega)
    · exact sst_aa kR0 kR1 fR0 fR1 (by omega) (by omega) RA.out RB.out (by omega) (by omega) (by omega) (by omega) (by omega) (by omega) (bl_trans HB.out bB) Qa0 (by omega) (by omega) (by omega) (by omega) Qb0 (by omega) (by omega) (by omega) (by omega) (by omega)
    · exact sst_aa kR0 kR1 fR0 fR1 (by omega) (by omega) RA.out RB.out (by omega) (by omega) (by omega) (by omega) (by omega) (by omega) (bl_trans HB.out bB) Qa0 (by omega) (by omega) (by omega) (by omega) Qa1 (by omega) (by omega) (by omega) (by omega) (by omega)
    · exact sst_ba kR0 kR1 fR0 fR1 (by omega) (by omega) RA.out RB.out (by omega) (by omega) (by omega) (by omega) (by omega) (by omega) (bl_trans HB.out bB) Qa0 (by omega) (by omega) (by omega) (by omega)
    · exact sst_aa kR0 kR1 fR0 fR1 (by omega) (by omega) RA.out RB.out (by omega) (by omega) (by omega) (by omega) (by omega) (by omega) (bl_trans HB.out bB) Qb0 (by omega) (by omega) (by omega) (by omega) Qa0 (by omega) (by omega) (by omega) (by omega) (by omega)
    · exact sst_aa kR0 kR1 fR0 fR1 (by omega) (by omega) RA.out RB.out (by omega) (by omega) (by omega) (by omega) (by omega) (by omega) (bl_trans HB.out bB) Qa1 (by omega) (by omega) (by omega) (by omega) Qa0 (by omega) (by omega) (by omega) (by omega) (by omega)
  case rest =>
  obtain ⟨N, M, ap, cp, aq, cq, rfl, rfl, hG⟩ := hcut
  clear kA0 kA1 kB0 kB1 kR0 kR1 fR0 fR1 HA HBB HB
  have l1' : (lms (x.natAbs : Int)).length ≤ 100000 := by unfold lms; rw [Int.natAbs_natCast]; exact l1
  have l2' : (lms (y.natAbs : Int)).length ≤ 100000 := by unfold lms; rw [Int.natAbs_natCast]; exact l2
  go_wp2_with fail
  go_loopg [] y.natAbs (fun gk wr => ∃ (p q : Nat) (ap : Option Addr) (cp : Nat) (aq : Option Addr) (cq : Nat), (lms (p : Int)).length ≤ 100000 ∧ (lms (q : Int)).length ≤ 100000 ∧ Hid (gk = q) ∧ Hid (Nat.gcd p q = Int.gcd x y) ∧ Hid (SSt w wr N M (w.heap.size + 1 + 1) (p : Int) (q : Int) ap cp aq cq))
  case atStart => exact ⟨x.natAbs, y.natAbs, ap, cp, aq, cq, l1', l2', hide rfl, hide rfl, hG⟩
  case round =>
    clear hG l1' l2'
    obtain ⟨p, q, ap, cp, aq, cq, hp, hq, hgk, hgcd, hG⟩ := hrel
    obtain ⟨kA0, kA1, kB0, kB1, kR0, kR1, fA0, fA1, fB0, fB1, fR0, fR1, zN, zM, zR', hN, hM, hR, n1, n2, n3, oA, oB, bel⟩ := hG.out
    have HOA := hide oA
    have HOB := hide oB
    clear oA oB bel
    by_cases hq0 : q = 0
    · have hl : ¬ (0 : Int) < ((lms (q : Int)).length : Int) := by rw [hq0]; rw [show ((0 : Nat) : Int) = 0 from rfl, zero_lms]; simp
      have HE : Hid ((p : Int) = (Int.gcd x y : Int)) := hide (by rw [← hgcd.out, hq0, Nat.gcd_zero_right])
      clear hq0
      go_wp2
      refine bodyPost_ret (v := .agg #[.bool (sgn (p : Int)), .slice ap (lms (p : Int)).length cp]) (by simp [results, Try.results53, go_sem, kR0, kR1]) rfl ?_
      rw [← HE.out]
      exact ⟨_, rfl, hG.out.fin _ _⟩
    · have hl : (0 : Int) < ((lms (q : Int)).length : Int) := by
        have : (lms (q : Int)).length ≠ 0 := fun e => hq0 (by have := sgn_lms_nil e; omega)
        omega
      go_upto_region 3 with fail
      rename (0 : Nat) < _ => hl0
      clear hl hl0
      go_wp2_with fail
      refine (divS (.agg #[.bool (sgn (p : Int)), .slice ap (lms (p : Int)).length cp]) (.agg #[.bool (sgn (q : Int)), .slice aq (lms (q : Int)).length cq]) p q _ ⟨ap, cp, rfl, HOA.out.1⟩ ⟨aq, cq, rfl, HOB.out.1⟩ (by omega) hp hq).mono ?_
      rintro e w3 ⟨a1, c1, a2, c2, rfl, ho1, ho2, hb3⟩
      obtain ⟨r, hrr⟩ : ∃ r, p % q = r := ⟨_, rfl⟩
      have hr : ((p : Int) % (q : Int)) = (r : Int) := by rw [← hrr]; rfl
      have HRR := hide hrr
      rw [hr] at ho2 ⊢
      have hb4 := bl_trans hb3 (bl_alloc (bl_alloc (bl_refl w3) (Obj.cells #[Value.bool (sgn ((p : Int) / (q : Int))), Value.slice a1 (lms ((p : Int) / (q : Int))).length c1] 26)) (Obj.cells #[Value.bool (sgn (r : Int)), Value.slice a2 (lms (r : Int)).length c2] 26))
      have y3 := hb3.size
      have kS0 : ((w3.alloc (Obj.cells #[Value.bool (sgn ((p : Int) / (q : Int))), Value.slice a1 (lms ((p : Int) / (q : Int))).length c1] 26)).alloc (Obj.cells #[Value.bool (sgn (r : Int)), Value.slice a2 (lms (r : Int)).length c2] 26)).cell? ⟨w3.heap.size + 1, 0, none⟩ = some (Value.bool (sgn (r : Int))) := by go_simp
      have kS1 : ((w3.alloc (Obj.cells #[Value.bool (sgn ((p : Int) / (q : Int))), Value.slice a1 (lms ((p : Int) / (q : Int))).length c1] 26)).alloc (Obj.cells #[Value.bool (sgn (r : Int)), Value.slice a2 (lms (r : Int)).length c2] 26)).cell? ⟨w3.heap.size + 1, 1, none⟩ = some (Value.slice a2 (lms (r : Int)).length c2) := by go_simp
      have HO2 := hide ((ho2.below (bl_alloc (bl_alloc (bl_refl w3) (Obj.cells #[Value.bool (sgn ((p : Int) / (q : Int))), Value.slice a1 (lms ((p : Int) / (q : Int))).length c1] 26)) (Obj.cells #[Value.bool (sgn (r : Int)), Value.slice a2 (lms (r : Int)).length c2] 26))).lk (L := w.heap.size) (N := N) (M := M) (R := w.heap.size + 1 + 1) (by omega) zN zM zR')
      replace hG := hide (hG.out.below hb4)
      replace HOB := hide (HOB.out.below hb4)
      clear kA0 kA1 kB0 kB1 kR0 kR1 fA0 fA1 fB0 fB1 fR0 fR1 HOA ho1 ho2 hb3 hb4 hr hrr
      have e1 : ¬ N = w3.heap.size + 1 := by omega
      have e2 : ¬ w3.heap.size + 1 = N := by omega
      have e3 : ¬ M = w3.heap.size + 1 := by omega
      have e4 : ¬ w3.heap.size + 1 = M := by omega
      go_upto_region 4 with fail
      generalize ((w3.alloc (Obj.cells #[Value.bool (sgn ((p : Int) / (q : Int))), Value.slice a1 (lms ((p : Int) / (q : Int))).length c1] 26)).alloc (Obj.cells #[Value.bool (sgn (r : Int)), Value.slice a2 (lms (r : Int)).length c2] 26)) = w4 at *
      obtain ⟨kA0, kA1, kB0, kB1, kR0, kR1, fA0, fA1, fB0, fB1, fR0, fR1, zN, zM, zR', hN, hM, hR, n1, n2, n3, oA, oB, bel⟩ := hG.out
      clear oA oB bel
      have HL : Hid ((lms (r : Int)).length ≤ 100000) := hide (by rw [lms_nat'] at hp ⊢; rw [← HRR.out]; exact mod_len hp)
      have HGC : Hid (Nat.gcd q r = Int.gcd x y) := hide (by rw [← hgcd.out, ← HRR.out, Nat.gcd_comm, ← Nat.gcd_rec, Nat.gcd_comm])
      have HLT : Hid (r < gk) := hide (by rw [hgk.out, ← HRR.out]; exact Nat.mod_lt _ (by omega))
      have HFIN := hide (SSt.set2 (SSt.set1 hG.out (r := (q : Int)) HOB.out) (r := (r : Int)) ((HO2.out.set (p := ⟨N, 0, none⟩) (.inl rfl) (.bool (sgn (q : Int)))).set (p := ⟨N, 1, none⟩) (.inl rfl) (.slice aq (lms (q : Int)).length cq)))
      clear HO2 HOB hG hgcd hgk
      have n1' : ¬ M = N := fun e => n1 e.symm
      go_wp2_with fail
      go_roundg r
      all_goals first | exact HLT.out | exact ⟨q, r, _, _, _, _, hq, HL.out, hide rfl, HGC, HFIN⟩
end Go.Proofs.Ytbnjgfaojaimlaa
