/- The walk of bigRoot: Newton's steps. -/
import Derived.Test.YthjapjbiclkhcaaPk14
import Derived.Test.YthjapjbiclkhcaaPk15
namespace Go.Proofs.Ythjapjbiclkhcaa
open Go.RowKit
set_option linter.unusedVariables false

set_option maxHeartbeats 8000000 in
set_option maxRecDepth 20000 in
theorem rootI (x K : Nat) (a : Option Addr) (c : Nat) (w : World) (s1 : Seg w a (lms (x : Int)).length c (lms (x : Int))) (hK : K ≤ 63) (hx : x < 4294967296 ^ 40) :
    Calls Try.prog 31 #[Value.agg #[Value.bool (sgn (x : Int)), Value.slice a (lms (x : Int)).length c], .int .i64 ((K : Int) + 1)] w fun e w' => ∃ v r, e = .returned v ∧ New w' w.heap.size v ((r : Nat) : Int) ∧ Root (K + 1) x r ∧ Below w.heap.size w w' := by
  have l1 : (lms (x : Int)).length ≤ 40 := Num.limbs_len.2 (by rw [Int.natAbs_natCast]; exact hx)
  have HX := hide hx
  clear hx
  obtain ⟨T, hT⟩ := top_ex
  have HTOP := hide hT
  clear hT
  have HSA := hide (fun (h0 : 0 < (lms (x : Int)).length) (g o : Nat) (s : Option Nat) (e : a = some ⟨g, o, s⟩) => s1.lt h0 e)
  have ka0 : ((w.alloc (Obj.cells #[Value.bool (sgn (x : Int)), Value.slice a (lms (x : Int)).length c] 26)).alloc (Obj.cells #[Value.bool false, Value.slice none 0 0] 26)).cell? ⟨w.heap.size, 0, none⟩ = some (Value.bool (sgn (x : Int))) := by go_simp
  have ka1 : ((w.alloc (Obj.cells #[Value.bool (sgn (x : Int)), Value.slice a (lms (x : Int)).length c] 26)).alloc (Obj.cells #[Value.bool false, Value.slice none 0 0] 26)).cell? ⟨w.heap.size, 1, none⟩ = some (Value.slice a (lms (x : Int)).length c) := by go_simp
  have kr0 : ((w.alloc (Obj.cells #[Value.bool (sgn (x : Int)), Value.slice a (lms (x : Int)).length c] 26)).alloc (Obj.cells #[Value.bool false, Value.slice none 0 0] 26)).cell? ⟨w.heap.size + 1, 0, none⟩ = some (Value.bool false) := by go_simp
  have fr0 : ((w.alloc (Obj.cells #[Value.bool (sgn (x : Int)), Value.slice a (lms (x : Int)).length c] 26)).alloc (Obj.cells #[Value.bool false, Value.slice none 0 0] 26)).frozen? ⟨w.heap.size + 1, 0, none⟩ = false := by go_simp
  have kr1 : ((w.alloc (Obj.cells #[Value.bool (sgn (x : Int)), Value.slice a (lms (x : Int)).length c] 26)).alloc (Obj.cells #[Value.bool false, Value.slice none 0 0] 26)).cell? ⟨w.heap.size + 1, 1, none⟩ = some (Value.slice none 0 0) := by go_simp
  have fr1 : ((w.alloc (Obj.cells #[Value.bool (sgn (x : Int)), Value.slice a (lms (x : Int)).length c] 26)).alloc (Obj.cells #[Value.bool false, Value.slice none 0 0] 26)).frozen? ⟨w.heap.size + 1, 1, none⟩ = false := by go_simp
  have zr : w.heap.size + 1 < ((w.alloc (Obj.cells #[Value.bool (sgn (x : Int)), Value.slice a (lms (x : Int)).length c] 26)).alloc (Obj.cells #[Value.bool false, Value.slice none 0 0] 26)).heap.size := by simp only [World.size_alloc]; omega
  have HB := hide (bl_alloc (bl_alloc (bl_refl w) (Obj.cells #[Value.bool (sgn (x : Int)), Value.slice a (lms (x : Int)).length c] 26)) (Obj.cells #[Value.bool false, Value.slice none 0 0] 26))
  have S1 := hide (s1.below HB.out)
  clear s1
  go_enter Try.func31, Try.ntmps31
  go_wp2_with fail
  generalize ((w.alloc (Obj.cells #[Value.bool (sgn (x : Int)), Value.slice a (lms (x : Int)).length c] 26)).alloc (Obj.cells #[Value.bool false, Value.slice none 0 0] 26)) = w1 at *
  have z0 := zr
  refine (noughtI _ (sgn (x : Int)) (lms (x : Int)) _ ⟨a, c, rfl, S1.out⟩).mono ?_
  rintro e w2 ⟨rfl, hb⟩
  have yw2 := hb.size
  replace ka0 := (hb.cell (p := ⟨w.heap.size, 0, none⟩) (by dsimp only; omega)).trans ka0
  replace ka1 := (hb.cell (p := ⟨w.heap.size, 1, none⟩) (by dsimp only; omega)).trans ka1
  replace kr0 := (hb.cell (p := ⟨w.heap.size + 1, 0, none⟩) (by dsimp only; omega)).trans kr0
  replace fr0 := (hb.frozen (p := ⟨w.heap.size + 1, 0, none⟩) (by dsimp only; omega)).trans fr0
  replace kr1 := (hb.cell (p := ⟨w.heap.size + 1, 1, none⟩) (by dsimp only; omega)).trans kr1
  replace fr1 := (hb.frozen (p := ⟨w.heap.size + 1, 1, none⟩) (by dsimp only; omega)).trans fr1
  replace S1 := hide (S1.out.below hb)
  replace zr := Nat.lt_of_lt_of_le zr hb.size
  replace HB := hide (bl_trans HB.out hb)
  clear hb
  rw [len_zero]
  by_cases h0 : x = 0
  · skip
    rw [decide_eq_true (by omega)]
    go_wp2
    refine bodyPost_ret (v := (.agg #[.bool false, .slice none 0 0])) (by simp [results, Try.results31, go_sem, kr0, kr1]) rfl ?_
    exact ⟨_, 0, rfl, new_zero _ _, ⟨by rw [Nat.zero_pow (by omega)]; exact Nat.zero_le _, by rw [h0]; exact Nat.pow_pos (by decide)⟩, (by first | exact HB.out | exact (HB.out.setCell (p := ⟨w.heap.size + 1, 0, none⟩) (by dsimp only; omega) _).setCell (p := ⟨w.heap.size + 1, 1, none⟩) (by dsimp only; omega) _)⟩
  rw [decide_eq_false (by omega)]
  obtain ⟨B, hB1, hB2, hB3, hB4⟩ := bits_nat h0 HX.out
  obtain ⟨Q, hQ⟩ : ∃ Q, (B + (K + 1) - 1) / (K + 1) = Q := ⟨_, rfl⟩
  have hQ2 : Q ≤ 1280 := by rw [← hQ]; exact Nat.le_trans (Nat.div_le_of_le_mul (m := B + (K + 1) - 1) (k := K + 1) (n := B) (by have := Nat.mul_le_mul (Nat.le_refl K) hB3; have e := Nat.mul_comm K B; first | (rw [Nat.add_mul]; omega) | (rw [Nat.mul_add]; omega))) hB4
  have HQ : Hid (((B : Int) + K) / ((K : Int) + 1) = (Q : Int)) := hide (by rw [← hQ]; show _ = (((B + (K + 1) - 1) / (K + 1) : Nat) : Int); rw [Int.natCast_ediv, show ((B + (K + 1) - 1 : Nat) : Int) = (B : Int) + K by omega, show ((K + 1 : Nat) : Int) = (K : Int) + 1 by omega])
  obtain ⟨z, hz⟩ := root_ex (K + 1) x (by omega)
  have HZ : Hid (z ≤ 2 ^ Q) := hide (hQ ▸ newton_start (by omega) hB2 hz.1)
  have HR := hide hz
  clear hz hQ
  have HB1 := hide hB1
  have bb0 : (0 : Int) ≤ bitsN (lms (x : Int)) := by rw [hB1]; omega
  have bb1 : bitsN (lms (x : Int)) ≤ 1280 := by rw [hB1]; omega
  have wr1 : IntKind.i64.wrap (bitsN (lms (x : Int)) + ((K : Int) + 1)) = bitsN (lms (x : Int)) + ((K : Int) + 1) := by rw [IntKind.wrap_i64]; omega
  have HQ2 : Hid ((bitsN (lms (x : Int)) + ((K : Int) + 1) - 1) / ((K : Int) + 1) = (Q : Int)) := hide (by rw [hB1, ← HQ.out]; congr 1; omega)
  have wr2 : IntKind.i64.wrap (bitsN (lms (x : Int)) + ((K : Int) + 1) - 1) = bitsN (lms (x : Int)) + ((K : Int) + 1) - 1 := by rw [IntKind.wrap_i64]; omega
  have hk1 : ¬ ((K : Int) + 1 = 0) := by omega
  have hk2 : ((K : Int) + 1 == 0) = false := by rw [beq_eq_false_iff_ne]; omega
  have wr3 : IntKind.i64.wrap ((bitsN (lms (x : Int)) + ((K : Int) + 1) - 1).tdiv ((K : Int) + 1)) = (Q : Int) := by rw [Int.tdiv_eq_ediv_of_nonneg (by omega), HQ2.out, IntKind.wrap_i64]; omega
  clear hB1
  have HB2 := hide hB2
  clear hB2
  go_upto_region 1 with fail
  go_cut [5] (fun s0 wc => ∃ (N0 : Nat) (aC : Option Addr) (cC : Nat), s0 = .pointer (some ⟨N0, 0, none⟩) ∧ Hid (w2.heap.size ≤ N0 ∧ N0 < wc.heap.size ∧ wc.cell? ⟨N0, 0, none⟩ = some (Value.bool (sgn ((2 ^ Q : Nat) : Int))) ∧ wc.cell? ⟨N0, 1, none⟩ = some (Value.slice aC (lms ((2 ^ Q : Nat) : Int)).length cC) ∧ wc.frozen? ⟨N0, 0, none⟩ = false ∧ wc.frozen? ⟨N0, 1, none⟩ = false ∧ Own wc w2.heap.size aC (lms ((2 ^ Q : Nat) : Int)).length cC (lms ((2 ^ Q : Nat) : Int)) ∧ Below w2.heap.size w2 wc))
  case first =>
    have KP : Hid (∀ w', Below w2.heap.size w2 w' → (w'.cell? ⟨w.heap.size, 0, none⟩ = some (Value.bool (sgn (x : Int))) ∧ w'.cell? ⟨w.heap.size, 1, none⟩ = some (Value.slice a (lms (x : Int)).length c) ∧ Hid (Below w2.heap.size w2 w'))) := hide (fun w' hb => ⟨(hb.cell (p := ⟨w.heap.size, 0, none⟩) (by dsimp only; omega)).trans ka0, (hb.cell (p := ⟨w.heap.size, 1, none⟩) (by dsimp only; omega)).trans ka1, hide hb⟩)
    go_region_held3 (fun w' => w'.cell? ⟨w.heap.size, 0, none⟩ = some (Value.bool (sgn (x : Int))) ∧ w'.cell? ⟨w.heap.size, 1, none⟩ = some (Value.slice a (lms (x : Int)).length c) ∧ Hid (Below w2.heap.size w2 w'))
      (first | with_reducible exact KP.out _ (bl_refl w2).drew | with_reducible exact KP.out _ bC | with_reducible exact KP.out _ bB | with_reducible exact KP.out _ bA | exact KP.out _ (by repeat first | with_reducible exact bC | with_reducible exact bB | with_reducible exact bA | with_reducible exact (bl_refl w2).drew | with_reducible exact bl_refl w2 | refine bl_alloc ?_ _ | refine bl_trans ?_ (bl_refl _).drew | refine Below.setCell ?_ (by first | omega | (dsimp only; omega) | (dsimp only; rw [World.size_drew]; omega)) _))
      (first
        | (go_at_call 58; refine (fromI 2 _ (by decide) (by decide)).mono ?_; rintro e wA ⟨_, rfl, ⟨uA, vA, rfl, hoA⟩, hbA⟩; have bA : Below w2.heap.size w2 wA := bl_trans (Hid.out (And.right (And.right (by assumption)))) hbA; have yA := bA.size; have HXA := hide hoA.seg; clear hoA; (first | have HZa0 := hide (show Zr wA w2.heap.size from born1 hbA) | have HZa0 := hide (show Zr wA w2.heap.size from born1 (bl_trans (bl_refl (w2.alloc (Obj.cells #[Value.bool false, Value.slice none 0 0] 26))).drew hbA)) | skip); (try have zza0 := HZa0.out.1); clear hbA)
        | (go_at_call 34; refine (bitsI _ (sgn (x : Int)) (lms (x : Int)) _ ⟨a, c, rfl, S1.out.below (Hid.out (And.right (And.right (by assumption))))⟩ (by omega)).mono ?_; rintro e wB ⟨rfl, hbB⟩; have bB : Below w2.heap.size w2 wB := bl_trans (Hid.out (And.right (And.right (by assumption)))) hbB; have bAB : Below wA.heap.size wA wB := (by first | exact hbB | exact bl_one hbB | exact bl_two hbB); have yB := bAB.size; replace HXA := hide (HXA.out.below bAB); (try replace HZa0 := hide (HZa0.out.below bAB)); (first | have HZb0 := hide (show Zr wB wA.heap.size from born1 hbB) | have HZb0 := hide (show Zr wB wA.heap.size from born1 (bl_trans (bl_refl (wA.alloc (Obj.cells #[Value.bool false, Value.slice none 0 0] 26))).drew hbB)) | skip); (try have zzb0 := HZb0.out.1); clear hbB)
        | (go_at_call 33; refine (pow2I _ Q _ ⟨uA, vA, rfl, HXA.out.below (by first | exact bl_refl _ | exact bl_alloc (bl_refl _) _ | exact bl_alloc (bl_alloc (bl_refl _) _) _)⟩ (by omega)).mono ?_; rintro e wC ⟨_, rfl, ⟨aC, cC, rfl, hoC⟩, hbC⟩; have bBC : Below wB.heap.size wB wC := (by first | exact hbC | exact bl_one hbC | exact bl_two hbC); have bC : Below w2.heap.size w2 wC := bl_trans bB bBC; have yC := bBC.size; have HOC := hide hoC; clear hoC; (try replace HZa0 := hide (HZa0.out.below bBC)); (try replace HZb0 := hide (HZb0.out.below bBC)); (first | have HZc0 := hide (show Zr wC wB.heap.size from born1 hbC) | have HZc0 := hide (show Zr wC wB.heap.size from born1 (bl_trans (bl_refl (wB.alloc (Obj.cells #[Value.bool false, Value.slice none 0 0] 26))).drew hbC)) | skip); (try have Qa0 := HZa0.out); (try obtain ⟨za0, ka0_0, ka0_1, fa0_0, fa0_1⟩ := HZa0.out); (try have Qb0 := HZb0.out); (try obtain ⟨zb0, kb0_0, kb0_1, fb0_0, fb0_1⟩ := HZb0.out); (try have Qc0 := HZc0.out); (try obtain ⟨zc0, kc0_0, kc0_1, fc0_0, fc0_1⟩ := HZc0.out); (try simp only [World.size_drew] at HOC); (try simp only [World.size_alloc] at HOC); clear hbC))
    all_goals (go_wp2_with fail; go_meet)
    · exact ⟨_, aC, cC, rfl, hide (tresf_b HOC.out (by omega) bC)⟩
    · exact ⟨_, aC, cC, rfl, hide (tresf_a HOC.out (by omega) bC Qc0 (by omega) (by omega))⟩
    · exact ⟨_, aC, cC, rfl, hide (tresf_a HOC.out (by omega) bC Qb0 (by omega) (by omega))⟩
    · exact ⟨_, aC, cC, rfl, hide (tresf_a HOC.out (by omega) bC Qa0 (by omega) (by omega))⟩
  case rest =>
  obtain ⟨Nv, av, cv, rfl, hres⟩ := hcut
  obtain ⟨nv, mv, kv0, kv1, fv0, fv1, gv, hb⟩ := hres.out
  clear hres
  rename World => w3
  have yw3 := hb.size
  (try replace HBW := hide (bl_trans HBW.out hb))
  replace ka0 := (hb.cell (p := ⟨w.heap.size, 0, none⟩) (by dsimp only; omega)).trans ka0
  replace ka1 := (hb.cell (p := ⟨w.heap.size, 1, none⟩) (by dsimp only; omega)).trans ka1
  replace kr0 := (hb.cell (p := ⟨w.heap.size + 1, 0, none⟩) (by dsimp only; omega)).trans kr0
  replace fr0 := (hb.frozen (p := ⟨w.heap.size + 1, 0, none⟩) (by dsimp only; omega)).trans fr0
  replace kr1 := (hb.cell (p := ⟨w.heap.size + 1, 1, none⟩) (by dsimp only; omega)).trans kr1
  replace fr1 := (hb.frozen (p := ⟨w.heap.size + 1, 1, none⟩) (by dsimp only; omega)).trans fr1
  replace S1 := hide (S1.out.below hb)
  replace zr := Nat.lt_of_lt_of_le zr hb.size
  replace HB := hide (bl_trans HB.out hb)
  clear hb
  have Ov := hide gv
  clear gv
  clear wr1 wr2 wr3 hk1 hk2 bb0 bb1
  go_wp2_with fail
  have HV2 := hide (show w.heap.size + 2 ≤ Nv by omega)
  have HVB := hide nv
  go_loopg [] (2 ^ Q) (fun gk wr => ∃ (p : Nat) (ap : Option Addr) (cp : Nat), Hid (gk = p) ∧ Hid (0 < p ∧ z ≤ p ∧ p ≤ T) ∧ Hid (Seg wr a (lms (x : Int)).length c (lms (x : Int))) ∧ Hid (PSt w wr w2.heap.size Nv (x : Int) (p : Int) a c ap cp))
  case atStart => exact ⟨2 ^ Q, av, cv, hide rfl, hide ⟨Nat.pow_pos (by decide), HZ.out, top_pow HTOP.out hQ2⟩, S1, hide ⟨ka0, ka1, kr0, kr1, fr0, fr1, kv0, kv1, fv0, fv1, mv, Ov.out, HB.out⟩⟩
  case round =>
    clear ka0 ka1 kr0 kr1 fr0 fr1 kv0 kv1 fv0 fv1 Ov HB S1 zr HZ
    obtain ⟨p, ap, cp, hgk, hp, S1, hP⟩ := hrel
    obtain ⟨ka0, ka1, kr0, kr1, fr0, fr1, kv0, kv1, fv0, fv1, zr, own, bel⟩ := hP.out
    have Ov := hide own
    have HB := hide bel
    have HPw := hP
    have S1w := S1
    have Ovw := Ov
    clear own bel hP
    go_wp2_with fail
    have HLp : Hid ((lms ((p ^ K : Nat) : Int)).length ≤ 250000) := hide (len_top HTOP.out hp.out.2.2 (by omega))
    obtain ⟨P, hPe⟩ : ∃ P, p ^ K = P := ⟨_, rfl⟩
    rw [hPe] at HLp
    have HPE := hide hPe
    have HP0 : Hid (0 < P) := hide (hPe ▸ Nat.pow_pos hp.out.1)
    clear hPe
    obtain ⟨D, hD⟩ : ∃ D, x / P = D := ⟨_, rfl⟩
    obtain ⟨M, hM⟩ : ∃ M, x % P = M := ⟨_, rfl⟩
    have HD := hide hD
    have HM := hide hM
    clear hD hM
    go_cut [6, 7] (fun s6 s7 wc => ∃ (N0 M0 : Nat) (aD : Option Addr) (cD : Nat) (aM : Option Addr) (cM : Nat), s6 = .pointer (some ⟨N0, 0, none⟩) ∧ s7 = .pointer (some ⟨M0, 0, none⟩) ∧ Hid (wr.heap.size ≤ N0 ∧ N0 < wc.heap.size ∧ wc.cell? ⟨N0, 0, none⟩ = some (Value.bool (sgn (D : Int))) ∧ wc.cell? ⟨N0, 1, none⟩ = some (Value.slice aD (lms (D : Int)).length cD) ∧ wr.heap.size ≤ M0 ∧ M0 < wc.heap.size ∧ wc.cell? ⟨M0, 0, none⟩ = some (Value.bool (sgn (M : Int))) ∧ wc.cell? ⟨M0, 1, none⟩ = some (Value.slice aM (lms (M : Int)).length cM) ∧ Seg wc aD (lms (D : Int)).length cD (lms (D : Int)) ∧ Seg wc aM (lms (M : Int)).length cM (lms (M : Int)) ∧ Below wr.heap.size wr wc))
    case first =>
      have KP : Hid (∀ w', Below wr.heap.size wr w' → (w'.cell? ⟨w.heap.size, 0, none⟩ = some (Value.bool (sgn (x : Int))) ∧ w'.cell? ⟨w.heap.size, 1, none⟩ = some (Value.slice a (lms (x : Int)).length c) ∧ w'.cell? ⟨Nv, 0, none⟩ = some (Value.bool (sgn (p : Int))) ∧ w'.cell? ⟨Nv, 1, none⟩ = some (Value.slice ap (lms (p : Int)).length cp) ∧ Hid (Below wr.heap.size wr w'))) := hide (fun w' hb => ⟨(hb.cell (p := ⟨w.heap.size, 0, none⟩) (by dsimp only; omega)).trans ka0, (hb.cell (p := ⟨w.heap.size, 1, none⟩) (by dsimp only; omega)).trans ka1, (hb.cell (p := ⟨Nv, 0, none⟩) (by dsimp only; omega)).trans kv0, (hb.cell (p := ⟨Nv, 1, none⟩) (by dsimp only; omega)).trans kv1, hide hb⟩)
      have hkw : IntKind.i64.wrap (K : Int) = (K : Int) := by rw [IntKind.wrap_i64]; omega
      go_region_held3 (fun w' => w'.cell? ⟨w.heap.size, 0, none⟩ = some (Value.bool (sgn (x : Int))) ∧ w'.cell? ⟨w.heap.size, 1, none⟩ = some (Value.slice a (lms (x : Int)).length c) ∧ w'.cell? ⟨Nv, 0, none⟩ = some (Value.bool (sgn (p : Int))) ∧ w'.cell? ⟨Nv, 1, none⟩ = some (Value.slice ap (lms (p : Int)).length cp) ∧ Hid (Below wr.heap.size wr w'))
        (first | with_reducible exact KP.out _ (bl_refl wr).drew | with_reducible exact KP.out _ bB | with_reducible exact KP.out _ bA | exact KP.out _ (by repeat first | with_reducible exact bB | with_reducible exact bA | with_reducible exact (bl_refl wr).drew | with_reducible exact bl_refl wr | refine bl_alloc ?_ _ | refine bl_trans ?_ (bl_refl _).drew | refine Below.setCell ?_ (by first | omega | (dsimp only; omega) | (dsimp only; rw [World.size_drew]; omega)) _))
        (first
          | (go_at_call 59; refine (divD _ _ x P D M _ HD.out HM.out ⟨a, c, rfl, S1.out.below (Hid.out (And.right (And.right (And.right (And.right (by assumption))))))⟩ ⟨uA, vA, rfl, HPA.out.below (by first | exact bl_refl _ | exact bl_alloc (bl_refl _) _ | exact bl_alloc (bl_alloc (bl_refl _) _) _)⟩ HP0.out (by omega) (Nat.le_trans HLp.out (by decide))).mono ?_; rintro e wB ⟨aD, cD, aM, cM, rfl, ho1, ho2, hap, hbB⟩; have bAB : Below wA.heap.size wA wB := (by first | exact hbB | exact bl_one hbB | exact bl_two hbB); have bB : Below wr.heap.size wr wB := bl_trans bA bAB; have yB := bAB.size; have RD := hide ho1.rgs; have RM := hide ho2.rgs; (try simp only [World.size_drew] at RD RM); (try simp only [World.size_alloc] at RD RM); (try replace HZa0 := hide (HZa0.out.below bAB)); (try replace HZa1 := hide (HZa1.out.below bAB)); (first | (have HZb0 := hide (show Zr wB wA.heap.size from (born2 (W := wA) hbB).1); have HZb1 := hide (show Zr wB (wA.heap.size + 1) from (born2 (W := wA) hbB).2)) | have HZb0 := hide (show Zr wB wA.heap.size from born1 (W := wA) hbB) | (have HZb0 := hide (show Zr wB wA.heap.size from (born2 (W := wA) (bl_trans (bl_refl ((wA.alloc (Obj.cells #[Value.bool false, Value.slice none 0 0] 26)).alloc (Obj.cells #[Value.bool false, Value.slice none 0 0] 26))).drew hbB)).1); have HZb1 := hide (show Zr wB (wA.heap.size + 1) from (born2 (W := wA) (bl_trans (bl_refl ((wA.alloc (Obj.cells #[Value.bool false, Value.slice none 0 0] 26)).alloc (Obj.cells #[Value.bool false, Value.slice none 0 0] 26))).drew hbB)).2)) | have HZb0 := hide (show Zr wB wA.heap.size from born1 (W := wA) (bl_trans (bl_refl (wA.alloc (Obj.cells #[Value.bool false, Value.slice none 0 0] 26))).drew hbB)) | (have HZb0 := hide (show Zr wB wA.heap.size from (born2 (W := wA) (bl_trans (bl_refl ((wA.alloc (Obj.cells #[Value.bool false, Value.slice none 0 0] 26)).alloc (Obj.cells #[Value.bool false, Value.slice none 0 0] 26))).drew.drew hbB)).1); have HZb1 := hide (show Zr wB (wA.heap.size + 1) from (born2 (W := wA) (bl_trans (bl_refl ((wA.alloc (Obj.cells #[Value.bool false, Value.slice none 0 0] 26)).alloc (Obj.cells #[Value.bool false, Value.slice none 0 0] 26))).drew.drew hbB)).2)) | have HZb0 := hide (show Zr wB wA.heap.size from born1 (W := wA) (bl_trans (bl_refl (wA.alloc (Obj.cells #[Value.bool false, Value.slice none 0 0] 26))).drew.drew hbB)) | (have HZb0 := hide (show Zr wB wA.heap.size from (born2 (W := wA.drew) hbB).1); have HZb1 := hide (show Zr wB (wA.heap.size + 1) from (born2 (W := wA.drew) hbB).2)) | have HZb0 := hide (show Zr wB wA.heap.size from born1 (W := wA.drew) hbB) | (have HZb0 := hide (show Zr wB wA.heap.size from (born2 (W := wA.drew) (bl_trans (bl_refl ((wA.drew.alloc (Obj.cells #[Value.bool false, Value.slice none 0 0] 26)).alloc (Obj.cells #[Value.bool false, Value.slice none 0 0] 26))).drew hbB)).1); have HZb1 := hide (show Zr wB (wA.heap.size + 1) from (born2 (W := wA.drew) (bl_trans (bl_refl ((wA.drew.alloc (Obj.cells #[Value.bool false, Value.slice none 0 0] 26)).alloc (Obj.cells #[Value.bool false, Value.slice none 0 0] 26))).drew hbB)).2)) | have HZb0 := hide (show Zr wB wA.heap.size from born1 (W := wA.drew) (bl_trans (bl_refl (wA.drew.alloc (Obj.cells #[Value.bool false, Value.slice none 0 0] 26))).drew hbB)) | (have HZb0 := hide (show Zr wB wA.heap.size from (born2 (W := wA.drew) (bl_trans (bl_refl ((wA.drew.alloc (Obj.cells #[Value.bool false, Value.slice none 0 0] 26)).alloc (Obj.cells #[Value.bool false, Value.slice none 0 0] 26))).drew.drew hbB)).1); have HZb1 := hide (show Zr wB (wA.heap.size + 1) from (born2 (W := wA.drew) (bl_trans (bl_refl ((wA.drew.alloc (Obj.cells #[Value.bool false, Value.slice none 0 0] 26)).alloc (Obj.cells #[Value.bool false, Value.slice none 0 0] 26))).drew.drew hbB)).2)) | have HZb0 := hide (show Zr wB wA.heap.size from born1 (W := wA.drew) (bl_trans (bl_refl (wA.drew.alloc (Obj.cells #[Value.bool false, Value.slice none 0 0] 26))).drew.drew hbB)) | (have HZb0 := hide (show Zr wB wA.heap.size from (born2 (W := wA.drew.drew) hbB).1); have HZb1 := hide (show Zr wB (wA.heap.size + 1) from (born2 (W := wA.drew.drew) hbB).2)) | have HZb0 := hide (show Zr wB wA.heap.size from born1 (W := wA.drew.drew) hbB) | (have HZb0 := hide (show Zr wB wA.heap.size from (born2 (W := wA.drew.drew) (bl_trans (bl_refl ((wA.drew.drew.alloc (Obj.cells #[Value.bool false, Value.slice none 0 0] 26)).alloc (Obj.cells #[Value.bool false, Value.slice none 0 0] 26))).drew hbB)).1); have HZb1 := hide (show Zr wB (wA.heap.size + 1) from (born2 (W := wA.drew.drew) (bl_trans (bl_refl ((wA.drew.drew.alloc (Obj.cells #[Value.bool false, Value.slice none 0 0] 26)).alloc (Obj.cells #[Value.bool false, Value.slice none 0 0] 26))).drew hbB)).2)) | have HZb0 := hide (show Zr wB wA.heap.size from born1 (W := wA.drew.drew) (bl_trans (bl_refl (wA.drew.drew.alloc (Obj.cells #[Value.bool false, Value.slice none 0 0] 26))).drew hbB)) | (have HZb0 := hide (show Zr wB wA.heap.size from (born2 (W := wA.drew.drew) (bl_trans (bl_refl ((wA.drew.drew.alloc (Obj.cells #[Value.bool false, Value.slice none 0 0] 26)).alloc (Obj.cells #[Value.bool false, Value.slice none 0 0] 26))).drew.drew hbB)).1); have HZb1 := hide (show Zr wB (wA.heap.size + 1) from (born2 (W := wA.drew.drew) (bl_trans (bl_refl ((wA.drew.drew.alloc (Obj.cells #[Value.bool false, Value.slice none 0 0] 26)).alloc (Obj.cells #[Value.bool false, Value.slice none 0 0] 26))).drew.drew hbB)).2)) | have HZb0 := hide (show Zr wB wA.heap.size from born1 (W := wA.drew.drew) (bl_trans (bl_refl (wA.drew.drew.alloc (Obj.cells #[Value.bool false, Value.slice none 0 0] 26))).drew.drew hbB)) | skip); (try have Qa0 := HZa0.out); (try have Qa1 := HZa1.out); (try obtain ⟨za0, ka0_0, ka0_1, fa0_0, fa0_1⟩ := HZa0.out); (try obtain ⟨za1, ka1_0, ka1_1, fa1_0, fa1_1⟩ := HZa1.out); (try have Qb0 := HZb0.out); (try have Qb1 := HZb1.out); (try obtain ⟨zb0, kb0_0, kb0_1, fb0_0, fb0_1⟩ := HZb0.out); (try obtain ⟨zb1, kb1_0, kb1_1, fb1_0, fb1_1⟩ := HZb1.out); clear ho1 ho2 hap hbB)
          | (go_at_call 33; refine (powTP T _ p K P _ HPE.out HTOP.out ⟨ap, cp, rfl, Ov.out.seg.below (Hid.out (And.right (And.right (And.right (And.right (by assumption))))))⟩ hp.out.2.2 (by omega)).mono ?_; rintro e wA ⟨_, rfl, ⟨uA, vA, rfl, hoA⟩, hbA⟩; have bA : Below wr.heap.size wr wA := bl_trans (Hid.out (And.right (And.right (And.right (And.right (by assumption)))))) hbA; have yA := bA.size; have HPA := hide hoA.seg; (first | (have HZa0 := hide (show Zr wA wr.heap.size from (born2 (W := wr) hbA).1); have HZa1 := hide (show Zr wA (wr.heap.size + 1) from (born2 (W := wr) hbA).2)) | have HZa0 := hide (show Zr wA wr.heap.size from born1 (W := wr) hbA) | (have HZa0 := hide (show Zr wA wr.heap.size from (born2 (W := wr) (bl_trans (bl_refl ((wr.alloc (Obj.cells #[Value.bool false, Value.slice none 0 0] 26)).alloc (Obj.cells #[Value.bool false, Value.slice none 0 0] 26))).drew hbA)).1); have HZa1 := hide (show Zr wA (wr.heap.size + 1) from (born2 (W := wr) (bl_trans (bl_refl ((wr.alloc (Obj.cells #[Value.bool false, Value.slice none 0 0] 26)).alloc (Obj.cells #[Value.bool false, Value.slice none 0 0] 26))).drew hbA)).2)) | have HZa0 := hide (show Zr wA wr.heap.size from born1 (W := wr) (bl_trans (bl_refl (wr.alloc (Obj.cells #[Value.bool false, Value.slice none 0 0] 26))).drew hbA)) | (have HZa0 := hide (show Zr wA wr.heap.size from (born2 (W := wr) (bl_trans (bl_refl ((wr.alloc (Obj.cells #[Value.bool false, Value.slice none 0 0] 26)).alloc (Obj.cells #[Value.bool false, Value.slice none 0 0] 26))).drew.drew hbA)).1); have HZa1 := hide (show Zr wA (wr.heap.size + 1) from (born2 (W := wr) (bl_trans (bl_refl ((wr.alloc (Obj.cells #[Value.bool false, Value.slice none 0 0] 26)).alloc (Obj.cells #[Value.bool false, Value.slice none 0 0] 26))).drew.drew hbA)).2)) | have HZa0 := hide (show Zr wA wr.heap.size from born1 (W := wr) (bl_trans (bl_refl (wr.alloc (Obj.cells #[Value.bool false, Value.slice none 0 0] 26))).drew.drew hbA)) | (have HZa0 := hide (show Zr wA wr.heap.size from (born2 (W := wr.drew) hbA).1); have HZa1 := hide (show Zr wA (wr.heap.size + 1) from (born2 (W := wr.drew) hbA).2)) | have HZa0 := hide (show Zr wA wr.heap.size from born1 (W := wr.drew) hbA) | (have HZa0 := hide (show Zr wA wr.heap.size from (born2 (W := wr.drew) (bl_trans (bl_refl ((wr.drew.alloc (Obj.cells #[Value.bool false, Value.slice none 0 0] 26)).alloc (Obj.cells #[Value.bool false, Value.slice none 0 0] 26))).drew hbA)).1); have HZa1 := hide (show Zr wA (wr.heap.size + 1) from (born2 (W := wr.drew) (bl_trans (bl_refl ((wr.drew.alloc (Obj.cells #[Value.bool false, Value.slice none 0 0] 26)).alloc (Obj.cells #[Value.bool false, Value.slice none 0 0] 26))).drew hbA)).2)) | have HZa0 := hide (show Zr wA wr.heap.size from born1 (W := wr.drew) (bl_trans (bl_refl (wr.drew.alloc (Obj.cells #[Value.bool false, Value.slice none 0 0] 26))).drew hbA)) | (have HZa0 := hide (show Zr wA wr.heap.size from (born2 (W := wr.drew) (bl_trans (bl_refl ((wr.drew.alloc (Obj.cells #[Value.bool false, Value.slice none 0 0] 26)).alloc (Obj.cells #[Value.bool false, Value.slice none 0 0] 26))).drew.drew hbA)).1); have HZa1 := hide (show Zr wA (wr.heap.size + 1) from (born2 (W := wr.drew) (bl_trans (bl_refl ((wr.drew.alloc (Obj.cells #[Value.bool false, Value.slice none 0 0] 26)).alloc (Obj.cells #[Value.bool false, Value.slice none 0 0] 26))).drew.drew hbA)).2)) | have HZa0 := hide (show Zr wA wr.heap.size from born1 (W := wr.drew) (bl_trans (bl_refl (wr.drew.alloc (Obj.cells #[Value.bool false, Value.slice none 0 0] 26))).drew.drew hbA)) | (have HZa0 := hide (show Zr wA wr.heap.size from (born2 (W := wr.drew.drew) hbA).1); have HZa1 := hide (show Zr wA (wr.heap.size + 1) from (born2 (W := wr.drew.drew) hbA).2)) | have HZa0 := hide (show Zr wA wr.heap.size from born1 (W := wr.drew.drew) hbA) | (have HZa0 := hide (show Zr wA wr.heap.size from (born2 (W := wr.drew.drew) (bl_trans (bl_refl ((wr.drew.drew.alloc (Obj.cells #[Value.bool false, Value.slice none 0 0] 26)).alloc (Obj.cells #[Value.bool false, Value.slice none 0 0] 26))).drew hbA)).1); have HZa1 := hide (show Zr wA (wr.heap.size + 1) from (born2 (W := wr.drew.drew) (bl_trans (bl_refl ((wr.drew.drew.alloc (Obj.cells #[Value.bool false, Value.slice none 0 0] 26)).alloc (Obj.cells #[Value.bool false, Value.slice none 0 0] 26))).drew hbA)).2)) | have HZa0 := hide (show Zr wA wr.heap.size from born1 (W := wr.drew.drew) (bl_trans (bl_refl (wr.drew.drew.alloc (Obj.cells #[Value.bool false, Value.slice none 0 0] 26))).drew hbA)) | (have HZa0 := hide (show Zr wA wr.heap.size from (born2 (W := wr.drew.drew) (bl_trans (bl_refl ((wr.drew.drew.alloc (Obj.cells #[Value.bool false, Value.slice none 0 0] 26)).alloc (Obj.cells #[Value.bool false, Value.slice none 0 0] 26))).drew.drew hbA)).1); have HZa1 := hide (show Zr wA (wr.heap.size + 1) from (born2 (W := wr.drew.drew) (bl_trans (bl_refl ((wr.drew.drew.alloc (Obj.cells #[Value.bool false, Value.slice none 0 0] 26)).alloc (Obj.cells #[Value.bool false, Value.slice none 0 0] 26))).drew.drew hbA)).2)) | have HZa0 := hide (show Zr wA wr.heap.size from born1 (W := wr.drew.drew) (bl_trans (bl_refl (wr.drew.drew.alloc (Obj.cells #[Value.bool false, Value.slice none 0 0] 26))).drew.drew hbA)) | skip); (try have zza0 := HZa0.out.1); (try have zza1 := HZa1.out.1); clear hoA hbA))
      all_goals (go_wp2_with fail; go_meet)
      all_goals refine ⟨_, _, aD, cD, aM, cM, rfl, rfl, hide ?_⟩
      · exact res2_bb RD.out RM.out (by omega) (by omega) bB
      · exact res2_bb2 RD.out RM.out (by omega) (by omega) bB
      · exact res2_ab RD.out RM.out (by omega) (by omega) bB Qb0 (by omega) (by omega) (by omega)
      · exact res2_aa RD.out RM.out (by omega) (by omega) bB Qb0 (by omega) (by omega) (by omega) Qb1 (by omega) (by omega) (by omega) (by omega)
      · exact res2_ba RD.out RM.out (by omega) (by omega) bB Qb0 (by omega) (by omega) (by omega)
      · exact res2_aa RD.out RM.out (by omega) (by omega) bB Qb1 (by omega) (by omega) (by omega) Qb0 (by omega) (by omega) (by omega) (by omega)
      · exact res2_ab RD.out RM.out (by omega) (by omega) bB Qa0 (by omega) (by omega) (by omega)
      · exact res2_aa RD.out RM.out (by omega) (by omega) bB Qa0 (by omega) (by omega) (by omega) Qb0 (by omega) (by omega) (by omega) (by omega)
      · exact res2_aa RD.out RM.out (by omega) (by omega) bB Qa0 (by omega) (by omega) (by omega) Qa1 (by omega) (by omega) (by omega) (by omega)
      · exact res2_ba RD.out RM.out (by omega) (by omega) bB Qa0 (by omega) (by omega) (by omega)
      · exact res2_aa RD.out RM.out (by omega) (by omega) bB Qb0 (by omega) (by omega) (by omega) Qa0 (by omega) (by omega) (by omega) (by omega)
      · exact res2_aa RD.out RM.out (by omega) (by omega) bB Qa1 (by omega) (by omega) (by omega) Qa0 (by omega) (by omega) (by omega) (by omega)
    case rest =>
      obtain ⟨N6, M7, aD, cD, aM, cM, rfl, rfl, hres⟩ := hcut
      obtain ⟨nD, mD, kd0, kd1, -, -, -, -, gD, -, hb⟩ := hres.out
      clear hres
      rename World => w20
      have yw20 := hb.size
      have HBW := hide hb
      replace ka0 := (hb.cell (p := ⟨w.heap.size, 0, none⟩) (by dsimp only; omega)).trans ka0
      replace ka1 := (hb.cell (p := ⟨w.heap.size, 1, none⟩) (by dsimp only; omega)).trans ka1
      replace kr0 := (hb.cell (p := ⟨w.heap.size + 1, 0, none⟩) (by dsimp only; omega)).trans kr0
      replace fr0 := (hb.frozen (p := ⟨w.heap.size + 1, 0, none⟩) (by dsimp only; omega)).trans fr0
      replace kr1 := (hb.cell (p := ⟨w.heap.size + 1, 1, none⟩) (by dsimp only; omega)).trans kr1
      replace fr1 := (hb.frozen (p := ⟨w.heap.size + 1, 1, none⟩) (by dsimp only; omega)).trans fr1
      replace kv0 := (hb.cell (p := ⟨Nv, 0, none⟩) (by dsimp only; omega)).trans kv0
      replace fv0 := (hb.frozen (p := ⟨Nv, 0, none⟩) (by dsimp only; omega)).trans fv0
      replace kv1 := (hb.cell (p := ⟨Nv, 1, none⟩) (by dsimp only; omega)).trans kv1
      replace fv1 := (hb.frozen (p := ⟨Nv, 1, none⟩) (by dsimp only; omega)).trans fv1
      replace S1 := hide (S1.out.below hb)
      replace Ov := hide (Ov.out.below hb)
      replace zr := Nat.lt_of_lt_of_le zr hb.size
      replace HB := hide (bl_trans HB.out hb)
      clear hb
      have SD := hide gD
      clear gD
      go_wp2_with fail
      obtain ⟨R1, hR1⟩ : ∃ R1, p * K = R1 := ⟨_, rfl⟩
      obtain ⟨R2, hR2⟩ : ∃ R2, R1 + D = R2 := ⟨_, rfl⟩
      have hDx : D ≤ x := by rw [← HD.out]; exact Nat.div_le_self _ _
      have lR1 : (lms (R1 : Int)).length ≤ 250000 := by rw [← hR1]; exact len_mulT HTOP.out hp.out.2.2 (by omega)
      have lR2 : (lms (R2 : Int)).length ≤ 250000 := by rw [← hR2, ← hR1]; exact len_sumT HTOP.out hp.out.2.2 (by omega) hDx HX.out
      have lD : (lms (D : Int)).length ≤ 250000 := len_le hDx (Nat.le_trans l1 (by decide))
      have lp := len_top1 HTOP.out hp.out.2.2
      have lK := len_int (K := K) (by omega)
      have LL := hide (And.intro lR1 (And.intro lR2 (And.intro lD (And.intro lp lK))))
      have HR1 := hide hR1
      have HR2 := hide hR2
      clear hR1 hR2 hDx lR1 lR2 lD lp lK
      have hkw : IntKind.i64.wrap (K : Int) = (K : Int) := by rw [IntKind.wrap_i64]; omega
      go_cut [8] (fun s0 wc => ∃ (N0 : Nat) (aC : Option Addr) (cC : Nat), s0 = .pointer (some ⟨N0, 0, none⟩) ∧ Hid (w20.heap.size ≤ N0 ∧ N0 < wc.heap.size ∧ wc.cell? ⟨N0, 0, none⟩ = some (Value.bool (sgn (R2 : Int))) ∧ wc.cell? ⟨N0, 1, none⟩ = some (Value.slice aC (lms (R2 : Int)).length cC) ∧ wc.frozen? ⟨N0, 0, none⟩ = false ∧ wc.frozen? ⟨N0, 1, none⟩ = false ∧ Own wc w20.heap.size aC (lms (R2 : Int)).length cC (lms (R2 : Int)) ∧ Below w20.heap.size w20 wc))
      case first =>
        have KP : Hid (∀ w', Below w20.heap.size w20 w' → (w'.cell? ⟨Nv, 0, none⟩ = some (Value.bool (sgn (p : Int))) ∧ w'.cell? ⟨Nv, 1, none⟩ = some (Value.slice ap (lms (p : Int)).length cp) ∧ w'.cell? ⟨N6, 0, none⟩ = some (Value.bool (sgn (D : Int))) ∧ w'.cell? ⟨N6, 1, none⟩ = some (Value.slice aD (lms (D : Int)).length cD) ∧ Hid (Below w20.heap.size w20 w'))) := hide (fun w' hb => ⟨(hb.cell (p := ⟨Nv, 0, none⟩) (by dsimp only; omega)).trans kv0, (hb.cell (p := ⟨Nv, 1, none⟩) (by dsimp only; omega)).trans kv1, (hb.cell (p := ⟨N6, 0, none⟩) (by dsimp only; omega)).trans kd0, (hb.cell (p := ⟨N6, 1, none⟩) (by dsimp only; omega)).trans kd1, hide hb⟩)
        go_region_held3 (fun w' => w'.cell? ⟨Nv, 0, none⟩ = some (Value.bool (sgn (p : Int))) ∧ w'.cell? ⟨Nv, 1, none⟩ = some (Value.slice ap (lms (p : Int)).length cp) ∧ w'.cell? ⟨N6, 0, none⟩ = some (Value.bool (sgn (D : Int))) ∧ w'.cell? ⟨N6, 1, none⟩ = some (Value.slice aD (lms (D : Int)).length cD) ∧ Hid (Below w20.heap.size w20 w'))
          (first | with_reducible exact KP.out _ (bl_refl w20).drew | with_reducible exact KP.out _ bC | with_reducible exact KP.out _ bB | with_reducible exact KP.out _ bA | exact KP.out _ (by repeat first | with_reducible exact bC | with_reducible exact bB | with_reducible exact bA | with_reducible exact (bl_refl w20).drew | with_reducible exact bl_refl w20 | refine bl_alloc ?_ _ | refine bl_trans ?_ (bl_refl _).drew | refine Below.setCell ?_ (by first | omega | (dsimp only; omega) | (dsimp only; rw [World.size_drew]; omega)) _))
          (first
            | (go_at_call 58; refine (fromI (K : Int) _ (by omega) (by omega)).mono ?_; rintro e wA ⟨_, rfl, ⟨uA, vA, rfl, hoA⟩, hbA⟩; have bA : Below w20.heap.size w20 wA := bl_trans (Hid.out (And.right (And.right (And.right (And.right (by assumption)))))) hbA; have yA := bA.size; have HXA := hide hoA.seg; clear hoA; (first | have HZa0 := hide (show Zr wA w20.heap.size from born1 (W := w20) hbA) | have HZa0 := hide (show Zr wA w20.heap.size from born1 (W := w20) (bl_trans (bl_refl (w20.alloc (Obj.cells #[Value.bool false, Value.slice none 0 0] 26))).drew hbA)) | have HZa0 := hide (show Zr wA w20.heap.size from born1 (W := w20) (bl_trans (bl_refl (w20.alloc (Obj.cells #[Value.bool false, Value.slice none 0 0] 26))).drew.drew hbA)) | have HZa0 := hide (show Zr wA w20.heap.size from born1 (W := w20.drew) hbA) | have HZa0 := hide (show Zr wA w20.heap.size from born1 (W := w20.drew) (bl_trans (bl_refl (w20.drew.alloc (Obj.cells #[Value.bool false, Value.slice none 0 0] 26))).drew hbA)) | have HZa0 := hide (show Zr wA w20.heap.size from born1 (W := w20.drew) (bl_trans (bl_refl (w20.drew.alloc (Obj.cells #[Value.bool false, Value.slice none 0 0] 26))).drew.drew hbA)) | have HZa0 := hide (show Zr wA w20.heap.size from born1 (W := w20.drew.drew) hbA) | have HZa0 := hide (show Zr wA w20.heap.size from born1 (W := w20.drew.drew) (bl_trans (bl_refl (w20.drew.drew.alloc (Obj.cells #[Value.bool false, Value.slice none 0 0] 26))).drew hbA)) | have HZa0 := hide (show Zr wA w20.heap.size from born1 (W := w20.drew.drew) (bl_trans (bl_refl (w20.drew.drew.alloc (Obj.cells #[Value.bool false, Value.slice none 0 0] 26))).drew.drew hbA)) | skip); (try have zza0 := HZa0.out.1); clear hbA)
            | (go_at_call 60; refine (prodP _ _ p K R1 _ HR1.out ⟨ap, cp, rfl, Ov.out.seg.below (Hid.out (And.right (And.right (And.right (And.right (by assumption))))))⟩ ⟨uA, vA, rfl, HXA.out.below (by first | exact bl_refl _ | exact bl_alloc (bl_refl _) _ | exact bl_alloc (bl_alloc (bl_refl _) _) _)⟩ (Nat.le_trans LL.out.2.2.2.1 (by decide)) LL.out.2.2.2.2).mono ?_; rintro e wB ⟨_, rfl, ⟨uB, vB, rfl, hoB⟩, hbB⟩; have bB : Below w20.heap.size w20 wB := bl_trans (Hid.out (And.right (And.right (And.right (And.right (by assumption)))))) hbB; have bAB : Below wA.heap.size wA wB := (by first | exact hbB | exact bl_one hbB | exact bl_two hbB); have yB := bAB.size; have HXB := hide hoB.seg; clear hoB; (try replace HZa0 := hide (HZa0.out.below bAB)); (first | have HZb0 := hide (show Zr wB wA.heap.size from born1 (W := wA) hbB) | have HZb0 := hide (show Zr wB wA.heap.size from born1 (W := wA) (bl_trans (bl_refl (wA.alloc (Obj.cells #[Value.bool false, Value.slice none 0 0] 26))).drew hbB)) | have HZb0 := hide (show Zr wB wA.heap.size from born1 (W := wA) (bl_trans (bl_refl (wA.alloc (Obj.cells #[Value.bool false, Value.slice none 0 0] 26))).drew.drew hbB)) | have HZb0 := hide (show Zr wB wA.heap.size from born1 (W := wA.drew) hbB) | have HZb0 := hide (show Zr wB wA.heap.size from born1 (W := wA.drew) (bl_trans (bl_refl (wA.drew.alloc (Obj.cells #[Value.bool false, Value.slice none 0 0] 26))).drew hbB)) | have HZb0 := hide (show Zr wB wA.heap.size from born1 (W := wA.drew) (bl_trans (bl_refl (wA.drew.alloc (Obj.cells #[Value.bool false, Value.slice none 0 0] 26))).drew.drew hbB)) | have HZb0 := hide (show Zr wB wA.heap.size from born1 (W := wA.drew.drew) hbB) | have HZb0 := hide (show Zr wB wA.heap.size from born1 (W := wA.drew.drew) (bl_trans (bl_refl (wA.drew.drew.alloc (Obj.cells #[Value.bool false, Value.slice none 0 0] 26))).drew hbB)) | have HZb0 := hide (show Zr wB wA.heap.size from born1 (W := wA.drew.drew) (bl_trans (bl_refl (wA.drew.drew.alloc (Obj.cells #[Value.bool false, Value.slice none 0 0] 26))).drew.drew hbB)) | skip); (try have zzb0 := HZb0.out.1); clear hbB)
            | (go_at_call 36; refine (sumP _ _ R1 D R2 _ HR2.out ⟨uB, vB, rfl, HXB.out.below (by first | exact bl_refl _ | exact bl_alloc (bl_refl _) _ | exact bl_alloc (bl_alloc (bl_refl _) _) _)⟩ ⟨aD, cD, rfl, SD.out.below (Hid.out (And.right (And.right (And.right (And.right (by assumption))))))⟩ (Nat.le_trans LL.out.1 (by decide)) (Nat.le_trans LL.out.2.2.1 (by decide))).mono ?_; rintro e wC ⟨_, rfl, ⟨aC, cC, rfl, hoC⟩, hbC⟩; have bBC : Below wB.heap.size wB wC := (by first | exact hbC | exact bl_one hbC | exact bl_two hbC); have bC : Below w20.heap.size w20 wC := bl_trans bB bBC; have yC := bBC.size; have HOC := hide hoC; clear hoC; (try replace HZa0 := hide (HZa0.out.below bBC)); (try replace HZb0 := hide (HZb0.out.below bBC)); (first | have HZc0 := hide (show Zr wC wB.heap.size from born1 (W := wB) hbC) | have HZc0 := hide (show Zr wC wB.heap.size from born1 (W := wB) (bl_trans (bl_refl (wB.alloc (Obj.cells #[Value.bool false, Value.slice none 0 0] 26))).drew hbC)) | have HZc0 := hide (show Zr wC wB.heap.size from born1 (W := wB) (bl_trans (bl_refl (wB.alloc (Obj.cells #[Value.bool false, Value.slice none 0 0] 26))).drew.drew hbC)) | have HZc0 := hide (show Zr wC wB.heap.size from born1 (W := wB.drew) hbC) | have HZc0 := hide (show Zr wC wB.heap.size from born1 (W := wB.drew) (bl_trans (bl_refl (wB.drew.alloc (Obj.cells #[Value.bool false, Value.slice none 0 0] 26))).drew hbC)) | have HZc0 := hide (show Zr wC wB.heap.size from born1 (W := wB.drew) (bl_trans (bl_refl (wB.drew.alloc (Obj.cells #[Value.bool false, Value.slice none 0 0] 26))).drew.drew hbC)) | have HZc0 := hide (show Zr wC wB.heap.size from born1 (W := wB.drew.drew) hbC) | have HZc0 := hide (show Zr wC wB.heap.size from born1 (W := wB.drew.drew) (bl_trans (bl_refl (wB.drew.drew.alloc (Obj.cells #[Value.bool false, Value.slice none 0 0] 26))).drew hbC)) | have HZc0 := hide (show Zr wC wB.heap.size from born1 (W := wB.drew.drew) (bl_trans (bl_refl (wB.drew.drew.alloc (Obj.cells #[Value.bool false, Value.slice none 0 0] 26))).drew.drew hbC)) | skip); (try have Qa0 := HZa0.out); (try obtain ⟨za0, ka0_0, ka0_1, fa0_0, fa0_1⟩ := HZa0.out); (try have Qb0 := HZb0.out); (try obtain ⟨zb0, kb0_0, kb0_1, fb0_0, fb0_1⟩ := HZb0.out); (try have Qc0 := HZc0.out); (try obtain ⟨zc0, kc0_0, kc0_1, fc0_0, fc0_1⟩ := HZc0.out); (try simp only [World.size_drew] at HOC); (try simp only [World.size_alloc] at HOC); clear hbC))
        all_goals (go_wp2_with fail; go_meet)
        · exact ⟨_, aC, cC, rfl, hide (tresf_b HOC.out (by omega) bC)⟩
        · exact ⟨_, aC, cC, rfl, hide (tresf_a HOC.out (by omega) bC Qc0 (by omega) (by omega))⟩
        · exact ⟨_, aC, cC, rfl, hide (tresf_a HOC.out (by omega) bC Qb0 (by omega) (by omega))⟩
        · exact ⟨_, aC, cC, rfl, hide (tresf_a HOC.out (by omega) bC Qa0 (by omega) (by omega))⟩
      case rest =>
      obtain ⟨Nn, an, cn, rfl, hres⟩ := hcut
      obtain ⟨nn, mn, kn0, kn1, fn0, fn1, gn, hb⟩ := hres.out
      clear hres
      rename World => w21
      have yw21 := hb.size
      (try replace HBW := hide (bl_trans HBW.out hb))
      replace ka0 := (hb.cell (p := ⟨w.heap.size, 0, none⟩) (by dsimp only; omega)).trans ka0
      replace ka1 := (hb.cell (p := ⟨w.heap.size, 1, none⟩) (by dsimp only; omega)).trans ka1
      replace kr0 := (hb.cell (p := ⟨w.heap.size + 1, 0, none⟩) (by dsimp only; omega)).trans kr0
      replace fr0 := (hb.frozen (p := ⟨w.heap.size + 1, 0, none⟩) (by dsimp only; omega)).trans fr0
      replace kr1 := (hb.cell (p := ⟨w.heap.size + 1, 1, none⟩) (by dsimp only; omega)).trans kr1
      replace fr1 := (hb.frozen (p := ⟨w.heap.size + 1, 1, none⟩) (by dsimp only; omega)).trans fr1
      replace kv0 := (hb.cell (p := ⟨Nv, 0, none⟩) (by dsimp only; omega)).trans kv0
      replace fv0 := (hb.frozen (p := ⟨Nv, 0, none⟩) (by dsimp only; omega)).trans fv0
      replace kv1 := (hb.cell (p := ⟨Nv, 1, none⟩) (by dsimp only; omega)).trans kv1
      replace fv1 := (hb.frozen (p := ⟨Nv, 1, none⟩) (by dsimp only; omega)).trans fv1
      replace kd0 := (hb.cell (p := ⟨N6, 0, none⟩) (by dsimp only; omega)).trans kd0
      replace kd1 := (hb.cell (p := ⟨N6, 1, none⟩) (by dsimp only; omega)).trans kd1
      replace S1 := hide (S1.out.below hb)
      replace Ov := hide (Ov.out.below hb)
      replace SD := hide (SD.out.below hb)
      replace zr := Nat.lt_of_lt_of_le zr hb.size
      replace HB := hide (bl_trans HB.out hb)
      clear hb
      have On := hide gn
      clear gn
      clear hkw
      go_wp2_with fail
      obtain ⟨R3, hR3⟩ : ∃ R3, R2 / (K + 1) = R3 := ⟨_, rfl⟩
      obtain ⟨R4, hR4⟩ : ∃ R4, R2 % (K + 1) = R4 := ⟨_, rfl⟩
      have HR3 := hide hR3
      have HR4 := hide hR4
      clear hR3 hR4
      have lK1 := len_int (K := K + 1) (by omega)
      have LK1 := hide lK1
      clear lK1
      have zn : wr.heap.size ≤ Nn := by omega
      have zn2 : Nn < w21.heap.size := mn
      go_cut [] (fun wc => ∃ (aE : Option Addr) (cE : Nat), Hid (wc.cell? ⟨Nn, 0, none⟩ = some (Value.bool (sgn (R3 : Int))) ∧ wc.cell? ⟨Nn, 1, none⟩ = some (Value.slice aE (lms (R3 : Int)).length cE) ∧ Own wc wr.heap.size aE (lms (R3 : Int)).length cE (lms (R3 : Int)) ∧ Nn < wc.heap.size ∧ Below wr.heap.size wr wc))
      case first =>
        go_region_with (first | (go_at_call 58; refine (fromI ((K : Int) + 1) _ (by omega) (by omega)).mono ?_; rintro e wA ⟨_, rfl, ⟨uA, vA, rfl, hoA⟩, hbA⟩; have hbA3 : Below w21.heap.size w21 wA := (by first | exact hbA | exact (bl_refl w21).drew.trans hbA); have yA := hbA3.size; have HXA := hide hoA.seg; replace kn0 := (hbA3.cell (p := ⟨Nn, 0, none⟩) (by dsimp only; omega)).trans kn0; replace kn1 := (hbA3.cell (p := ⟨Nn, 1, none⟩) (by dsimp only; omega)).trans kn1; replace fn0 := (hbA3.frozen (p := ⟨Nn, 0, none⟩) (by dsimp only; omega)).trans fn0; replace fn1 := (hbA3.frozen (p := ⟨Nn, 1, none⟩) (by dsimp only; omega)).trans fn1; have On2 := hide (On.out.below hbA3); clear hoA hbA) | (go_at_call 59; refine (divD _ _ R2 (K + 1) R3 R4 _ HR3.out HR4.out ⟨an, cn, rfl, On2.out.seg⟩ ⟨uA, vA, rfl, HXA.out⟩ (by omega) (Nat.le_trans LL.out.2.1 (by decide)) LK1.out).mono ?_; rintro e wB ⟨aE, cE, aF, cF, rfl, ho1, ho2, -, hbB⟩; have yB := hbB.size; replace kn0 := (hbB.cell (p := ⟨Nn, 0, none⟩) (by dsimp only; omega)).trans kn0; replace kn1 := (hbB.cell (p := ⟨Nn, 1, none⟩) (by dsimp only; omega)).trans kn1; replace fn0 := (hbB.frozen (p := ⟨Nn, 0, none⟩) (by dsimp only; omega)).trans fn0; replace fn1 := (hbB.frozen (p := ⟨Nn, 1, none⟩) (by dsimp only; omega)).trans fn1; have OE := hide ho1; clear ho1 ho2))
        all_goals (go_wp2_with fail; go_meet)
        all_goals exact ⟨aE, cE, hide ⟨by go_simp, by go_simp, (((OE.out).setCell (p := ⟨Nn, 0, none⟩) (by dsimp only; omega) _).setCell (p := ⟨Nn, 1, none⟩) (by dsimp only; omega) _).mono (by omega), by simp only [World.size_setCell]; omega, (((HBW.out.trans (hbA3.mono (by omega))).trans (hbB.mono (by omega))).setCell (p := ⟨Nn, 0, none⟩) (by dsimp only; omega) _).setCell (p := ⟨Nn, 1, none⟩) (by dsimp only; omega) _⟩⟩
      case rest =>
        obtain ⟨aE, cE, hres⟩ := hcut
        obtain ⟨kn0', kn1', gE, mE, hb⟩ := hres.out
        clear hres kn0 kn1 fn0 fn1 On ka0 ka1 kr0 kr1 fr0 fr1 kv0 kv1 fv0 fv1 kd0 kd1 SD Ov S1 HB zr
        rename World => w8
        have OE := hide gE
        clear gE
        have HP := HPw.out
        have hzv := HP.zV
        have kv0 := (hb.cell (p := ⟨Nv, 0, none⟩) hzv).trans HP.kV0
        have kv1 := (hb.cell (p := ⟨Nv, 1, none⟩) hzv).trans HP.kV1
        have Ov := hide (Ovw.out.below hb)
        have hz2 := HP.bel.size
        have fv0 := (hb.frozen (p := ⟨Nv, 0, none⟩) hzv).trans HP.fV0
        have fv1 := (hb.frozen (p := ⟨Nv, 1, none⟩) hzv).trans HP.fV1
        have HB8 := hide hb
        clear hb
        go_wp2_with fail
        have kr0 := (HB8.out.cell (p := ⟨w.heap.size + 1, 0, none⟩) (by dsimp only; omega)).trans HP.kR0
        have kr1 := (HB8.out.cell (p := ⟨w.heap.size + 1, 1, none⟩) (by dsimp only; omega)).trans HP.kR1
        have fr0 := (HB8.out.frozen (p := ⟨w.heap.size + 1, 0, none⟩) (by dsimp only; omega)).trans HP.fR0
        have fr1 := (HB8.out.frozen (p := ⟨w.heap.size + 1, 1, none⟩) (by dsimp only; omega)).trans HP.fR1
        have HBL := hide (bl_trans HP.bel HB8.out)
        have hzN := HB8.out.size
        refine (cmpBI _ _ (R3 : Int) (p : Int) _ ⟨aE, cE, rfl, OE.out.seg⟩ ⟨ap, cp, rfl, Ov.out.seg⟩).mono ?_
        rintro e w9 ⟨rfl, hb9⟩
        replace kv0 := (hb9.cell (p := ⟨Nv, 0, none⟩) (by dsimp only; omega)).trans kv0
        replace kv1 := (hb9.cell (p := ⟨Nv, 1, none⟩) (by dsimp only; omega)).trans kv1
        replace kr0 := (hb9.cell (p := ⟨w.heap.size + 1, 0, none⟩) (by dsimp only; omega)).trans kr0
        replace kr1 := (hb9.cell (p := ⟨w.heap.size + 1, 1, none⟩) (by dsimp only; omega)).trans kr1
        replace kn0' := (hb9.cell (p := ⟨Nn, 0, none⟩) (by dsimp only; omega)).trans kn0'
        replace kn1' := (hb9.cell (p := ⟨Nn, 1, none⟩) (by dsimp only; omega)).trans kn1'
        replace fv0 := (hb9.frozen (p := ⟨Nv, 0, none⟩) (by dsimp only; omega)).trans fv0
        replace fv1 := (hb9.frozen (p := ⟨Nv, 1, none⟩) (by dsimp only; omega)).trans fv1
        replace fr0 := (hb9.frozen (p := ⟨w.heap.size + 1, 0, none⟩) (by dsimp only; omega)).trans fr0
        replace fr1 := (hb9.frozen (p := ⟨w.heap.size + 1, 1, none⟩) (by dsimp only; omega)).trans fr1
        replace OE := hide (OE.out.below hb9)
        replace Ov := hide (Ov.out.below hb9)
        replace HB8 := hide (bl_trans HB8.out hb9)
        replace HBL := hide (bl_trans HBL.out hb9)
        have yw9 := hb9.size
        clear hb9
        have hR : R3 = (p * K + x / p ^ K) / (K + 1) := by rw [HPE.out, HD.out, HR1.out, HR2.out, HR3.out]
        have HRR := hide hR
        clear hR
        by_cases hcmp : p ≤ R3
        · have hc1 : (0 : Int) ≤ cmpZ (R3 : Int) (p : Int) := by
            rcases Nat.lt_or_eq_of_le hcmp with h | h
            · rw [cmp_gt (by omega)]; decide
            · rw [cmp_eq (by omega)]; decide
          have hpz : p = z := newton_root hp.out.1 HR.out hp.out.2.1 (by rw [← HRR.out]; exact hcmp)
          have HRz : Hid (Root (K + 1) x p) := hide (by rw [hpz]; exact HR.out)
          clear hpz
          generalize cmpZ (R3 : Int) (p : Int) = cc at *
          go_wp2
          refine bodyPost_ret (v := Value.agg #[Value.bool (sgn (p : Int)), Value.slice ap (lms (p : Int)).length cp]) (by simp [results, Try.results31, go_sem, kr0, kr1]) rfl ?_
          exact ⟨_, p, rfl, ⟨ap, cp, rfl, ((Ov.out.setCell (p := ⟨w.heap.size + 1, 0, none⟩) (by dsimp only; omega) _).setCell (p := ⟨w.heap.size + 1, 1, none⟩) (by dsimp only; omega) _).mono (by omega)⟩, HRz.out, ((HBL.out.setCell (p := ⟨w.heap.size + 1, 0, none⟩) (by dsimp only; omega) _).setCell (p := ⟨w.heap.size + 1, 1, none⟩) (by dsimp only; omega) _)⟩
        · have hc1 : ¬ (0 : Int) ≤ cmpZ (R3 : Int) (p : Int) := by rw [cmp_lt (by omega)]; decide
          have hc2 : cmpZ (R3 : Int) (p : Int) < 0 := by omega
          have hx0 : 0 < z := by
            rcases Nat.eq_zero_or_pos z with e | e
            · have := HR.out.2; rw [e, Nat.zero_add, Nat.one_pow] at this; omega
            · exact e
          have hzl : z ≤ R3 := by rw [HRR.out]; exact newton_low hp.out.1 HR.out.1
          have HZL := hide (show 0 < R3 ∧ z ≤ R3 ∧ R3 ≤ T from ⟨by omega, hzl, by have := hp.out.2.2; omega⟩)
          have HLT : Hid (R3 < gk) := hide (by rw [hgk.out]; omega)
          clear hx0 hzl
          have HV3 := hide (show w2.heap.size ≤ wr.heap.size by have := HPw.out.zV; have := HVB.out; omega)
          have HST := hide (PSt.store HPw.out HB8.out OE.out HV2.out HV3.out)
          have S9 := hide ((S1w.out.below HB8.out))
          have SX : Hid (∀ (W : World) (v u : Value), W = (w9.setCell ⟨Nv, 0, none⟩ v).setCell ⟨Nv, 1, none⟩ u → Seg W a (lms (x : Int)).length c (lms (x : Int))) := hide (fun W v u e => by subst e; exact (S9.out.setOff (p := ⟨Nv, 0, none⟩) (fun h0 g o s e => by have := HSA.out h0 g o s e; have := HV2.out; dsimp only; omega) v).setOff (p := ⟨Nv, 1, none⟩) (fun h0 g o s e => by have := HSA.out h0 g o s e; have := HV2.out; dsimp only; omega) u)
          generalize cmpZ (R3 : Int) (p : Int) = cc at *
          go_wp2
          go_roundg R3
          all_goals first | exact HLT.out | exact ⟨R3, aE, cE, hide rfl, HZL, hide (SX.out _ _ _ rfl), HST⟩


end Go.Proofs.Ythjapjbiclkhcaa
