/- l02Power of a number of up to 60 limbs. -/
import Derived.Test.YthjapjbiclkhcaaPk11
namespace Go.Proofs.Ythjapjbiclkhcaa
open Go.RowKit
set_option linter.unusedVariables false

theorem pow_next60 {z : Int} {k : Nat} (h1 : (lms (z ^ k)).length ≤ 40) (h2 : (lms z).length ≤ 60) : (lms (z ^ (k + 1))).length ≤ 100 := by
  have e1 := Num.limbs_len.1 h1
  have e2 := Num.limbs_len.1 h2
  have : (z ^ (k + 1)).natAbs < 4294967296 ^ (40 + 60) := by
    rw [Int.pow_succ, Int.natAbs_mul, Nat.pow_add]
    exact Nat.mul_lt_mul'' e1 e2
  exact Nat.le_trans (Num.limbs_len.2 this) (by decide)
set_option maxHeartbeats 40000000 in
set_option maxRecDepth 20000 in
theorem powS60 (v1 : Value) (z : Int) (n : Nat) (w : World) (h1 : Is w v1 z) (hn : n ≤ 1000) (hx : (lms z).length ≤ 60) :
    Calls Try.prog 24 #[v1, .int .i64 n] w fun e w' => ∃ v q, e = .returned v ∧ New w' w.heap.size v q ∧ PowLike z n q ∧ Below w.heap.size w w' := by
  obtain ⟨a, ca, rfl, ha⟩ := h1
  have h40 : (lms z).length ≤ 60 := hx
  have hca := ha.2.1
  have hcm := ha.2.2.1
  have HA := hide ha
  clear ha
  have HZ := hide (bl_alloc (bl_alloc (bl_refl w) (Obj.cells #[Value.bool (sgn z), Value.slice a (lms z).length ca] 26)) (Obj.cells #[Value.bool false, Value.slice none 0 0] 26))
  have kA0 : ((w.alloc (Obj.cells #[Value.bool (sgn z), Value.slice a (lms z).length ca] 26)).alloc (Obj.cells #[Value.bool false, Value.slice none 0 0] 26)).cell? ⟨w.heap.size, 0, none⟩ = some (.bool (sgn z)) := by go_simp
  have kA1 : ((w.alloc (Obj.cells #[Value.bool (sgn z), Value.slice a (lms z).length ca] 26)).alloc (Obj.cells #[Value.bool false, Value.slice none 0 0] 26)).cell? ⟨w.heap.size, 1, none⟩ = some (.slice a (lms z).length ca) := by go_simp
  have kR0 : ((w.alloc (Obj.cells #[Value.bool (sgn z), Value.slice a (lms z).length ca] 26)).alloc (Obj.cells #[Value.bool false, Value.slice none 0 0] 26)).cell? ⟨w.heap.size + 1, 0, none⟩ = some (.bool false) := by go_simp
  have kR1 : ((w.alloc (Obj.cells #[Value.bool (sgn z), Value.slice a (lms z).length ca] 26)).alloc (Obj.cells #[Value.bool false, Value.slice none 0 0] 26)).cell? ⟨w.heap.size + 1, 1, none⟩ = some (.slice none 0 0) := by go_simp
  have fR0 : ((w.alloc (Obj.cells #[Value.bool (sgn z), Value.slice a (lms z).length ca] 26)).alloc (Obj.cells #[Value.bool false, Value.slice none 0 0] 26)).frozen? ⟨w.heap.size + 1, 0, none⟩ = false := by go_simp
  have fR1 : ((w.alloc (Obj.cells #[Value.bool (sgn z), Value.slice a (lms z).length ca] 26)).alloc (Obj.cells #[Value.bool false, Value.slice none 0 0] 26)).frozen? ⟨w.heap.size + 1, 1, none⟩ = false := by go_simp
  have zz : w.heap.size + 2 = ((w.alloc (Obj.cells #[Value.bool (sgn z), Value.slice a (lms z).length ca] 26)).alloc (Obj.cells #[Value.bool false, Value.slice none 0 0] 26)).heap.size := by simp only [World.size_alloc]
  go_enter Try.func24, Try.ntmps24
  go_upto_region 1 with fail
  generalize (w.alloc (Obj.cells #[Value.bool (sgn z), Value.slice a (lms z).length ca] 26)).alloc (Obj.cells #[Value.bool false, Value.slice none 0 0] 26) = w1 at *
  have HA1 := hide (HA.out.below HZ.out)
  by_cases hone : z.natAbs = 1
  · have hL := lms_one hone
    have hl1 : (lms z).length = 1 := by rw [hL]; rfl
    obtain ⟨g, o, rfl, hg, hc⟩ := seg_cell HA1.out 0 (by omega)
    have hx0 : (lms z)[0]'(by omega) = 1 := by simp [hL]
    rw [Nat.add_zero, hx0] at hc
    have HE : Hid (mk (sgn z && decide (n % 2 = 1)) (Num.nat (lms z)) = z ^ n) := hide (by rw [nat_lms, hone]; exact one_pow_abs hone n)
    have hr : ((n : Int) % 2 == 1) = decide (n % 2 = 1) := by
      by_cases h : n % 2 = 1
      · rw [decide_eq_true h, beq_iff_eq]; omega
      · rw [decide_eq_false h, beq_eq_false_iff_ne]; omega
    have HR := hide hr
    have HL1 := hide hl1
    clear hL hx0 hr hl1
    have hl1' : ((lms z).length : Int) = 1 := by have := HL1.out; omega
    cases hsz : sgn z with
    | false =>
      rw [hsz] at kA0 HE
      rw [Bool.false_and] at HE
      clear hsz
      go_wp2_with fail
      refine (makeS false _ _ ca (lms z) _ HA1.out (by omega)).mono ?_
      rintro e w2 ⟨v2, rfl, hn2, hb2⟩
      rw [HE.out] at hn2
      obtain ⟨k0, k1, f0, f1⟩ := box_keep (N := w.heap.size + 1) hb2 (by omega) kR0 kR1 fR0 fR1
      have HF := hide (fun p r => fin_box (N := w.heap.size + 1) (x := p) (y := r) hn2 (by omega) (by omega) (bl_trans HZ.out hb2))
      obtain ⟨a2, c2, rfl, ho2⟩ := hn2
      clear hb2 ho2 kR0 kR1 fR0 fR1 kA0 kA1 HA HA1 HE
      go_wp2
      refine bodyPost_ret (v := .agg #[.bool (sgn (z ^ n)), .slice a2 (lms (z ^ n)).length c2]) (by simp [results, Try.results24, go_sem, *]) rfl ?_
      exact ⟨_, z ^ n, rfl, (HF.out _ _).1, .inl rfl, (HF.out _ _).2⟩
    | true =>
      rw [hsz] at kA0 HE
      rw [Bool.true_and] at HE
      clear hsz
      go_wp2_with fail
      rw [HR.out]
      refine (makeS (decide (n % 2 = 1)) _ _ ca (lms z) _ HA1.out (by omega)).mono ?_
      rintro e w2 ⟨v2, rfl, hn2, hb2⟩
      rw [HE.out] at hn2
      obtain ⟨k0, k1, f0, f1⟩ := box_keep (N := w.heap.size + 1) hb2 (by omega) kR0 kR1 fR0 fR1
      have HF := hide (fun p r => fin_box (N := w.heap.size + 1) (x := p) (y := r) hn2 (by omega) (by omega) (bl_trans HZ.out hb2))
      obtain ⟨a2, c2, rfl, ho2⟩ := hn2
      clear hb2 ho2 kR0 kR1 fR0 fR1 kA0 kA1 HA HA1 HE
      go_wp2
      refine bodyPost_ret (v := .agg #[.bool (sgn (z ^ n)), .slice a2 (lms (z ^ n)).length c2]) (by simp [results, Try.results24, go_sem, *]) rfl ?_
      exact ⟨_, z ^ n, rfl, (HF.out _ _).1, .inl rfl, (HF.out _ _).2⟩
  · by_cases hl1 : (lms z).length = 1
    · obtain ⟨g, o, rfl, hg, hc⟩ := seg_cell HA1.out 0 (by omega)
      have hx0 : (lms z)[0]'(by omega) ≠ 1 := fun e => hone (abs_one hl1 e)
      rw [Nat.add_zero] at hc
      have hx1 : (((lms z)[0]'(by omega) : Nat) : Int) ≠ 1 := by omega
      have hx2 : ((((lms z)[0]'(by omega) : Nat) : Int) == 1) = false := by rw [beq_eq_false_iff_ne]; exact hx1
      have hz0 : ∀ k, k < n → z ≠ 0 := fun _ _ e => by subst e; rw [zero_lms] at hl1; simp at hl1
      have hl1' : ((lms z).length : Int) = 1 := by omega
      generalize (lms z)[0]'_ = l0 at *
      have hl0' : (((lms z).length : Int) == 0) = false := by rw [beq_eq_false_iff_ne]; omega
      have HL0 := hide hl0'
      clear hx0 hx1 hl0'
      go_upto_region 3 with fail
      have hl0' := HL0.out
      clear hc hx2 hl1' hl1 HL0
      go_wp2_with fail
      refine (fromS 1 _ (by decide) (by decide)).mono ?_
      rintro e w2 ⟨v2, rfl, ⟨a2, c2, rfl, ho2⟩, hb2⟩
      have q2 := hb2.size
      have hP : PSt w (w2.alloc (Obj.cells #[Value.bool (sgn 1), Value.slice a2 (lms 1).length c2] 26)) w1.heap.size w2.heap.size z 1 (some ⟨g, o, none⟩) ca a2 c2 := by
        have hbl := bl_trans hb2 (bl_alloc (bl_refl w2) (Obj.cells #[Value.bool (sgn 1), Value.slice a2 (lms 1).length c2] 26))
        exact ⟨(hbl.cell (p := ⟨w.heap.size, 0, none⟩) (by dsimp only; omega)).trans kA0, (hbl.cell (p := ⟨w.heap.size, 1, none⟩) (by dsimp only; omega)).trans kA1, (hbl.cell (p := ⟨w.heap.size + 1, 0, none⟩) (by dsimp only; omega)).trans kR0, (hbl.cell (p := ⟨w.heap.size + 1, 1, none⟩) (by dsimp only; omega)).trans kR1, (hbl.frozen (p := ⟨w.heap.size + 1, 0, none⟩) (by dsimp only; omega)).trans fR0, (hbl.frozen (p := ⟨w.heap.size + 1, 1, none⟩) (by dsimp only; omega)).trans fR1, by go_simp, by go_simp, by go_simp, by go_simp, by simp only [World.size_alloc]; omega, ho2.below (bl_alloc (bl_refl w2) _), bl_trans HZ.out hbl⟩
      have HP := hide hP
      have hVw : w.heap.size + 2 ≤ w2.heap.size := by omega
      have hBW : w1.heap.size ≤ w2.heap.size := q2
      clear hP kA0 kA1 kR0 kR1 fR0 fR1 ho2 hb2
      go_wp2_with fail
      go_loopw [6] (fun i wr => ∃ (k : Nat) (av : Option Addr) (cv : Nat), k ≤ n ∧ i = .int .i64 k ∧ (lms (z ^ k)).length ≤ 100 ∧ Hid (PSt w wr w1.heap.size w2.heap.size z (z ^ k) (some ⟨g, o, none⟩) ca av cv)) (fun i _ => n - (intOf i).toNat)
      case atStart =>
        refine ⟨0, a2, c2, Nat.zero_le _, rfl, ?_, ?_⟩
        · rw [Int.pow_zero, lms_one rfl]; decide
        · rw [Int.pow_zero]; exact HP
      case round =>
        obtain ⟨k, av, cv, hk, rfl, hl, hP⟩ := hrel
        obtain ⟨kA0, kA1, kR0, kR1, fR0, fR1, kV0, kV1, fV0, fV1, zV, own, bel⟩ := hP.out
        have HO := hide own
        have HB := hide bel
        clear own bel
        by_cases hlt : k < n
        · have hlt' : (k : Int) < (n : Int) := by omega
          by_cases h41 : (lms (z ^ k)).length ≤ 40
          · have h41' : ((lms (z ^ k)).length : Int) ≤ 40 := by omega
            have HNL : Hid ((lms (z ^ (k + 1))).length ≤ 100) := hide (pow_next60 h41 h40)
            go_wp2_with fail
            refine (mulS (.agg #[.bool (sgn (z ^ k)), .slice av (lms (z ^ k)).length cv]) (.agg #[.bool (sgn z), .slice (some ⟨g, o, none⟩) (lms z).length ca]) (z ^ k) z _ ⟨av, cv, rfl, HO.out.seg⟩ ⟨some ⟨g, o, none⟩, ca, rfl, HA.out.below HB.out⟩ (by omega) (by omega)).mono ?_
            rintro e w8 ⟨v8, rfl, hn8, hb8⟩
            rw [← Int.pow_succ] at hn8
            obtain ⟨a8, c8, rfl, ho8⟩ := hn8
            have HP8 := hide (hP.out.store hb8 ho8 hVw (by have := zV; omega))
            have v0 := (hb8.cell (p := ⟨w2.heap.size, 0, none⟩) zV).trans kV0
            have v1 := (hb8.cell (p := ⟨w2.heap.size, 1, none⟩) zV).trans kV1
            have g0 := (hb8.frozen (p := ⟨w2.heap.size, 0, none⟩) zV).trans fV0
            have g1 := (hb8.frozen (p := ⟨w2.heap.size, 1, none⟩) zV).trans fV1
            clear hb8 ho8 kA0 kA1 kR0 kR1 fR0 fR1 kV0 kV1 fV0 fV1 HO HB hP
            go_wp2
            exact ⟨⟨k + 1, a8, c8, by omega, by go_num, HNL.out, HP8⟩, by simp [intOf]; omega⟩
          · have h41' : (40 : Int) < ((lms (z ^ k)).length : Int) := by omega
            have HPL : Hid (PowLike z n (z ^ k)) := hide (pow_over (hz0 k hlt) (by omega) hlt)
            go_wp2
            refine bodyPost_ret (v := .agg #[.bool (sgn (z ^ k)), .slice av (lms (z ^ k)).length cv]) (by simp [results, Try.results24, go_sem, kR0, kR1]) rfl ?_
            refine ⟨_, z ^ k, rfl, ⟨av, cv, rfl, ?_⟩, HPL.out, ?_⟩
            · exact ((HO.out.setCell (p := ⟨w.heap.size + 1, 0, none⟩) (by dsimp only; omega) _).setCell (p := ⟨w.heap.size + 1, 1, none⟩) (by dsimp only; omega) _).mono (by omega)
            · exact (HB.out.setCell (p := ⟨w.heap.size + 1, 0, none⟩) (by dsimp only; omega) _).setCell (p := ⟨w.heap.size + 1, 1, none⟩) (by dsimp only; omega) _
        · have HPL : Hid (PowLike z n (z ^ k)) := hide (by obtain rfl : k = n := by omega
                                                           exact .inl rfl)
          have hge : (n : Int) ≤ (k : Int) := by omega
          go_wp2
          refine bodyPost_ret (v := .agg #[.bool (sgn (z ^ k)), .slice av (lms (z ^ k)).length cv]) (by simp [results, Try.results24, go_sem, kR0, kR1]) rfl ?_
          refine ⟨_, z ^ k, rfl, ⟨av, cv, rfl, ?_⟩, HPL.out, ?_⟩
          · exact ((HO.out.setCell (p := ⟨w.heap.size + 1, 0, none⟩) (by dsimp only; omega) _).setCell (p := ⟨w.heap.size + 1, 1, none⟩) (by dsimp only; omega) _).mono (by omega)
          · exact (HB.out.setCell (p := ⟨w.heap.size + 1, 0, none⟩) (by dsimp only; omega) _).setCell (p := ⟨w.heap.size + 1, 1, none⟩) (by dsimp only; omega) _
    · have hl1' : (((lms z).length : Int) == 1) = false := by rw [beq_eq_false_iff_ne]; omega
      by_cases hl0 : (lms z).length = 0
      · have hl0' : (((lms z).length : Int) == 0) = true := by rw [beq_iff_eq]; omega
        have HZ0 := hide (sgn_lms_nil hl0)
        clear hl0
        by_cases hn0 : n = 0
        · have hn0' : ¬ (0 : Int) < (n : Int) := by omega
          have hz0 : ∀ k, k < n → z ≠ 0 := fun k hk => by omega
          clear hn0
          go_upto_region 5 with fail
          clear hn0' hl0' hl1'
          go_wp2_with fail
          refine (fromS 1 _ (by decide) (by decide)).mono ?_
          rintro e w2 ⟨v2, rfl, ⟨a2, c2, rfl, ho2⟩, hb2⟩
          have q2 := hb2.size
          have hP : PSt w (w2.alloc (Obj.cells #[Value.bool (sgn 1), Value.slice a2 (lms 1).length c2] 26)) w1.heap.size w2.heap.size z 1 a ca a2 c2 := by
            have hbl := bl_trans hb2 (bl_alloc (bl_refl w2) (Obj.cells #[Value.bool (sgn 1), Value.slice a2 (lms 1).length c2] 26))
            exact ⟨(hbl.cell (p := ⟨w.heap.size, 0, none⟩) (by dsimp only; omega)).trans kA0, (hbl.cell (p := ⟨w.heap.size, 1, none⟩) (by dsimp only; omega)).trans kA1, (hbl.cell (p := ⟨w.heap.size + 1, 0, none⟩) (by dsimp only; omega)).trans kR0, (hbl.cell (p := ⟨w.heap.size + 1, 1, none⟩) (by dsimp only; omega)).trans kR1, (hbl.frozen (p := ⟨w.heap.size + 1, 0, none⟩) (by dsimp only; omega)).trans fR0, (hbl.frozen (p := ⟨w.heap.size + 1, 1, none⟩) (by dsimp only; omega)).trans fR1, by go_simp, by go_simp, by go_simp, by go_simp, by simp only [World.size_alloc]; omega, ho2.below (bl_alloc (bl_refl w2) _), bl_trans HZ.out hbl⟩
          have HP := hide hP
          have hVw : w.heap.size + 2 ≤ w2.heap.size := by omega
          have hBW : w1.heap.size ≤ w2.heap.size := q2
          clear hP kA0 kA1 kR0 kR1 fR0 fR1 ho2 hb2
          go_wp2_with fail
          go_loopw [6] (fun i wr => ∃ (k : Nat) (av : Option Addr) (cv : Nat), k ≤ n ∧ i = .int .i64 k ∧ (lms (z ^ k)).length ≤ 100 ∧ Hid (PSt w wr w1.heap.size w2.heap.size z (z ^ k) a ca av cv)) (fun i _ => n - (intOf i).toNat)
          case atStart =>
            refine ⟨0, a2, c2, Nat.zero_le _, rfl, ?_, ?_⟩
            · rw [Int.pow_zero, lms_one rfl]; decide
            · rw [Int.pow_zero]; exact HP
          case round =>
            obtain ⟨k, av, cv, hk, rfl, hl, hP⟩ := hrel
            obtain ⟨kA0, kA1, kR0, kR1, fR0, fR1, kV0, kV1, fV0, fV1, zV, own, bel⟩ := hP.out
            have HO := hide own
            have HB := hide bel
            clear own bel
            by_cases hlt : k < n
            · exact absurd hlt (by omega)
            · have HPL : Hid (PowLike z n (z ^ k)) := hide (by obtain rfl : k = n := by omega
                                                               exact .inl rfl)
              have hge : (n : Int) ≤ (k : Int) := by omega
              go_wp2
              refine bodyPost_ret (v := .agg #[.bool (sgn (z ^ k)), .slice av (lms (z ^ k)).length cv]) (by simp [results, Try.results24, go_sem, kR0, kR1]) rfl ?_
              refine ⟨_, z ^ k, rfl, ⟨av, cv, rfl, ?_⟩, HPL.out, ?_⟩
              · exact ((HO.out.setCell (p := ⟨w.heap.size + 1, 0, none⟩) (by dsimp only; omega) _).setCell (p := ⟨w.heap.size + 1, 1, none⟩) (by dsimp only; omega) _).mono (by omega)
              · exact (HB.out.setCell (p := ⟨w.heap.size + 1, 0, none⟩) (by dsimp only; omega) _).setCell (p := ⟨w.heap.size + 1, 1, none⟩) (by dsimp only; omega) _
        · have hn0' : (0 : Int) < (n : Int) := by omega
          have HPL : Hid (z ^ n = 0) := hide (by rw [HZ0.out]; exact Int.zero_pow hn0)
          clear hx hone
          go_wp2
          refine bodyPost_ret (v := .agg #[.bool false, .slice none 0 0]) (by simp [results, Try.results24, go_sem, kR0, kR1]) rfl ?_
          exact ⟨_, 0, rfl, new_zero _ _, .inl HPL.out.symm, (HZ.out.setCell (p := ⟨w.heap.size + 1, 0, none⟩) (by dsimp only; omega) _).setCell (p := ⟨w.heap.size + 1, 1, none⟩) (by dsimp only; omega) _⟩
      · have hl0' : (((lms z).length : Int) == 0) = false := by rw [beq_eq_false_iff_ne]; omega
        have hz0 : ∀ k, k < n → z ≠ 0 := fun _ _ e => by subst e; rw [zero_lms] at hl0; simp at hl0
        go_wp2_with fail
        refine (fromS 1 _ (by decide) (by decide)).mono ?_
        rintro e w2 ⟨v2, rfl, ⟨a2, c2, rfl, ho2⟩, hb2⟩
        have q2 := hb2.size
        have hP : PSt w (w2.alloc (Obj.cells #[Value.bool (sgn 1), Value.slice a2 (lms 1).length c2] 26)) w1.heap.size w2.heap.size z 1 a ca a2 c2 := by
          have hbl := bl_trans hb2 (bl_alloc (bl_refl w2) (Obj.cells #[Value.bool (sgn 1), Value.slice a2 (lms 1).length c2] 26))
          exact ⟨(hbl.cell (p := ⟨w.heap.size, 0, none⟩) (by dsimp only; omega)).trans kA0, (hbl.cell (p := ⟨w.heap.size, 1, none⟩) (by dsimp only; omega)).trans kA1, (hbl.cell (p := ⟨w.heap.size + 1, 0, none⟩) (by dsimp only; omega)).trans kR0, (hbl.cell (p := ⟨w.heap.size + 1, 1, none⟩) (by dsimp only; omega)).trans kR1, (hbl.frozen (p := ⟨w.heap.size + 1, 0, none⟩) (by dsimp only; omega)).trans fR0, (hbl.frozen (p := ⟨w.heap.size + 1, 1, none⟩) (by dsimp only; omega)).trans fR1, by go_simp, by go_simp, by go_simp, by go_simp, by simp only [World.size_alloc]; omega, ho2.below (bl_alloc (bl_refl w2) _), bl_trans HZ.out hbl⟩
        have HP := hide hP
        have hVw : w.heap.size + 2 ≤ w2.heap.size := by omega
        have hBW : w1.heap.size ≤ w2.heap.size := q2
        clear hP kA0 kA1 kR0 kR1 fR0 fR1 ho2 hb2
        go_wp2_with fail
        go_loopw [6] (fun i wr => ∃ (k : Nat) (av : Option Addr) (cv : Nat), k ≤ n ∧ i = .int .i64 k ∧ (lms (z ^ k)).length ≤ 100 ∧ Hid (PSt w wr w1.heap.size w2.heap.size z (z ^ k) a ca av cv)) (fun i _ => n - (intOf i).toNat)
        case atStart =>
          refine ⟨0, a2, c2, Nat.zero_le _, rfl, ?_, ?_⟩
          · rw [Int.pow_zero, lms_one rfl]; decide
          · rw [Int.pow_zero]; exact HP
        case round =>
          obtain ⟨k, av, cv, hk, rfl, hl, hP⟩ := hrel
          obtain ⟨kA0, kA1, kR0, kR1, fR0, fR1, kV0, kV1, fV0, fV1, zV, own, bel⟩ := hP.out
          have HO := hide own
          have HB := hide bel
          clear own bel
          by_cases hlt : k < n
          · have hlt' : (k : Int) < (n : Int) := by omega
            by_cases h41 : (lms (z ^ k)).length ≤ 40
            · have h41' : ((lms (z ^ k)).length : Int) ≤ 40 := by omega
              have HNL : Hid ((lms (z ^ (k + 1))).length ≤ 100) := hide (pow_next60 h41 h40)
              go_wp2_with fail
              refine (mulS (.agg #[.bool (sgn (z ^ k)), .slice av (lms (z ^ k)).length cv]) (.agg #[.bool (sgn z), .slice a (lms z).length ca]) (z ^ k) z _ ⟨av, cv, rfl, HO.out.seg⟩ ⟨a, ca, rfl, HA.out.below HB.out⟩ (by omega) (by omega)).mono ?_
              rintro e w8 ⟨v8, rfl, hn8, hb8⟩
              rw [← Int.pow_succ] at hn8
              obtain ⟨a8, c8, rfl, ho8⟩ := hn8
              have HP8 := hide (hP.out.store hb8 ho8 hVw (by have := zV; omega))
              have v0 := (hb8.cell (p := ⟨w2.heap.size, 0, none⟩) zV).trans kV0
              have v1 := (hb8.cell (p := ⟨w2.heap.size, 1, none⟩) zV).trans kV1
              have g0 := (hb8.frozen (p := ⟨w2.heap.size, 0, none⟩) zV).trans fV0
              have g1 := (hb8.frozen (p := ⟨w2.heap.size, 1, none⟩) zV).trans fV1
              clear hb8 ho8 kA0 kA1 kR0 kR1 fR0 fR1 kV0 kV1 fV0 fV1 HO HB hP
              go_wp2
              exact ⟨⟨k + 1, a8, c8, by omega, by go_num, HNL.out, HP8⟩, by simp [intOf]; omega⟩
            · have h41' : (40 : Int) < ((lms (z ^ k)).length : Int) := by omega
              have HPL : Hid (PowLike z n (z ^ k)) := hide (pow_over (hz0 k hlt) (by omega) hlt)
              go_wp2
              refine bodyPost_ret (v := .agg #[.bool (sgn (z ^ k)), .slice av (lms (z ^ k)).length cv]) (by simp [results, Try.results24, go_sem, kR0, kR1]) rfl ?_
              refine ⟨_, z ^ k, rfl, ⟨av, cv, rfl, ?_⟩, HPL.out, ?_⟩
              · exact ((HO.out.setCell (p := ⟨w.heap.size + 1, 0, none⟩) (by dsimp only; omega) _).setCell (p := ⟨w.heap.size + 1, 1, none⟩) (by dsimp only; omega) _).mono (by omega)
              · exact (HB.out.setCell (p := ⟨w.heap.size + 1, 0, none⟩) (by dsimp only; omega) _).setCell (p := ⟨w.heap.size + 1, 1, none⟩) (by dsimp only; omega) _
          · have HPL : Hid (PowLike z n (z ^ k)) := hide (by obtain rfl : k = n := by omega
                                                             exact .inl rfl)
            have hge : (n : Int) ≤ (k : Int) := by omega
            go_wp2
            refine bodyPost_ret (v := .agg #[.bool (sgn (z ^ k)), .slice av (lms (z ^ k)).length cv]) (by simp [results, Try.results24, go_sem, kR0, kR1]) rfl ?_
            refine ⟨_, z ^ k, rfl, ⟨av, cv, rfl, ?_⟩, HPL.out, ?_⟩
            · exact ((HO.out.setCell (p := ⟨w.heap.size + 1, 0, none⟩) (by dsimp only; omega) _).setCell (p := ⟨w.heap.size + 1, 1, none⟩) (by dsimp only; omega) _).mono (by omega)
            · exact (HB.out.setCell (p := ⟨w.heap.size + 1, 0, none⟩) (by dsimp only; omega) _).setCell (p := ⟨w.heap.size + 1, 1, none⟩) (by dsimp only; omega) _
end Go.Proofs.Ythjapjbiclkhcaa
