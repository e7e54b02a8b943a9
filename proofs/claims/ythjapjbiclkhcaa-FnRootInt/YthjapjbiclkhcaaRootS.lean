/- The walk of l02Root: the root by halves. -/
import Derived.Test.YthjapjbiclkhcaaPk14
import Derived.Test.YthjapjbiclkhcaaPk07
import Derived.Test.YthjapjbiclkhcaaPk04
import Derived.Test.YthjapjbiclkhcaaPowR
import Derived.Test.YthjapjbiclkhcaaPk05
import Derived.Test.YthjapjbiclkhcaaBitLen
import Derived.Test.YthjapjbiclkhcaaPk15
namespace Go.Proofs.Ythjapjbiclkhcaa
open Go.RowKit
set_option linter.unusedVariables false

theorem bits_any {x : Nat} (hx : x < 4294967296 ^ 40) : ∃ B : Nat, bitR (sgn (x : Int)) (lms (x : Int)) = (B : Int) ∧ x < 2 ^ B ∧ B ≤ 1280 := by
  have hok : okB (sgn (x : Int)) (lms (x : Int)) = true := by rw [ok_of_num]; exact decide_eq_true (by rw [Int.natAbs_natCast]; exact hx)
  unfold bitR
  rw [if_pos hok]
  by_cases h0 : x = 0
  · subst h0
    exact ⟨0, by rw [show ((0 : Nat) : Int) = 0 from rfl, zero_lms]; rfl, by decide, by omega⟩
  · obtain ⟨B, h1, h2, _, h4⟩ := bits_nat h0 hx
    exact ⟨B, h1, h2, h4⟩
theorem cmp_pow {x t K : Nat} {q : Int} (hx : x < 4294967296 ^ 40) (h : PowLike (t : Int) K q) : (cmpZ q (x : Int) ≤ 0) ↔ t ^ K ≤ x := by
  have key : (q ≤ (x : Int)) ↔ t ^ K ≤ x := by
    rcases h with h | ⟨h1, h2, h3⟩
    · rw [h, ← Int.natCast_pow]; omega
    · have h0 := h3 (by omega)
      rw [← Int.natCast_pow, Int.natAbs_natCast] at h2
      omega
  rw [← key]
  unfold cmpZ
  split
  · omega
  · split <;> omega
theorem len_two {t b : Nat} (h : t ≤ 2 ^ b) (hb : b ≤ 1300) : (lms (t : Int)).length ≤ 60 := by
  obtain ⟨m, hm⟩ : ∃ m : Nat, m = 60 := ⟨_, rfl⟩
  rw [← hm]
  refine Num.limbs_len.2 ?_
  rw [Int.natAbs_natCast, show (4294967296 : Nat) = 2 ^ 32 from rfl, ← Nat.pow_mul]
  exact Nat.lt_of_le_of_lt h (Nat.pow_lt_pow_right (by decide) (by omega))

theorem addT (v1 v2 : Value) (x y t : Nat) (w : World) (ht : x + y = t) (h1 : Is w v1 (x : Int)) (h2 : Is w v2 (y : Int)) (l1 : (lms (x : Int)).length ≤ 500000) (l2 : (lms (y : Int)).length ≤ 500000) :
    Calls Try.prog 27 #[v1, v2] w fun e w' => ∃ v, e = .returned v ∧ New w' w.heap.size v (t : Int) ∧ Below w.heap.size w w' := by
  have := addS v1 v2 x y w h1 h2 l1 l2
  rwa [← Int.natCast_add, ht] at this

theorem powK (v1 : Value) (t K : Nat) (w : World) (h1 : Is w v1 (t : Int)) (hK : K ≤ 63) (hl : (lms (t : Int)).length ≤ 60) :
    Calls Try.prog 24 #[v1, .int .i64 ((K : Int) + 1)] w fun e w' => ∃ v q, e = .returned v ∧ New w' w.heap.size v q ∧ PowLike (t : Int) (K + 1) q ∧ Below w.heap.size w w' := powS60 v1 (t : Int) (K + 1) w h1 (by omega) hl

set_option maxHeartbeats 8000000 in
set_option maxRecDepth 20000 in
theorem rootS (x K : Nat) (a : Option Addr) (c : Nat) (w : World) (s1 : Seg w a (lms (x : Int)).length c (lms (x : Int))) (hK : K ≤ 63) (hx : x < 4294967296 ^ 40) :
    Calls Try.prog 75 #[Value.agg #[Value.bool (sgn (x : Int)), Value.slice a (lms (x : Int)).length c], .int .i64 ((K : Int) + 1)] w fun e w' => ∃ v r, e = .returned v ∧ New w' w.heap.size v ((r : Nat) : Int) ∧ Root (K + 1) x r ∧ Below w.heap.size w w' := by
  obtain ⟨B, hB1, hB2, hB3⟩ := bits_any hx
  obtain ⟨I, hI⟩ : ∃ I, B / (K + 1) = I := ⟨_, rfl⟩
  have hI2 : I ≤ 1280 := by rw [← hI]; exact Nat.le_trans (Nat.div_le_self _ _) hB3
  have hst := half_start (k := K + 1) (by omega) hB2
  rw [hI] at hst
  have HST := hide hst
  have hB1' := hide hB1
  have wrq : IntKind.i64.wrap ((B : Int).tdiv ((K : Int) + 1)) = (I : Int) := by
    rw [Int.tdiv_eq_ediv_of_nonneg (by omega), ← hI, IntKind.wrap_i64, Int.natCast_ediv]
    have e1 : ((K + 1 : Nat) : Int) = (K : Int) + 1 := by omega
    rw [e1]
    have h2 : (B : Int) / ((K : Int) + 1) = (I : Int) := by rw [← hI, Int.natCast_ediv, e1]
    rw [h2]; omega
  have WRQ : Hid (wrap64 ((B : Int) / ((K : Int) + 1)) = (I : Int)) := hide (by have h := wrq; rw [Int.tdiv_eq_ediv_of_nonneg (by omega)] at h; rw [← IntWalk.i64_left]; exact h)
  have hk1 : ¬ ((K : Int) + 1 = 0) := by omega
  have hk2 : ((K : Int) + 1 == 0) = false := by rw [beq_eq_false_iff_ne]; omega
  clear hst hB1 hB2 hI
  have HX := hide hx
  clear hx
  have HSA := hide (fun (h0 : 0 < (lms (x : Int)).length) (g o : Nat) (s : Option Nat) (e : a = some ⟨g, o, s⟩) => s1.lt h0 e)
  have ka0 : (((w.alloc (Obj.cells #[Value.bool (sgn (x : Int)), Value.slice a (lms (x : Int)).length c] 26)).alloc (Obj.cells #[Value.bool false, Value.slice none 0 0] 26)).alloc (Obj.cells #[Value.bool false, Value.slice none 0 0] 26)).cell? ⟨w.heap.size, 0, none⟩ = some (Value.bool (sgn (x : Int))) := by go_simp
  have ka1 : (((w.alloc (Obj.cells #[Value.bool (sgn (x : Int)), Value.slice a (lms (x : Int)).length c] 26)).alloc (Obj.cells #[Value.bool false, Value.slice none 0 0] 26)).alloc (Obj.cells #[Value.bool false, Value.slice none 0 0] 26)).cell? ⟨w.heap.size, 1, none⟩ = some (Value.slice a (lms (x : Int)).length c) := by go_simp
  have kr0 : (((w.alloc (Obj.cells #[Value.bool (sgn (x : Int)), Value.slice a (lms (x : Int)).length c] 26)).alloc (Obj.cells #[Value.bool false, Value.slice none 0 0] 26)).alloc (Obj.cells #[Value.bool false, Value.slice none 0 0] 26)).cell? ⟨w.heap.size + 1, 0, none⟩ = some (Value.bool false) := by go_simp
  have fr0 : (((w.alloc (Obj.cells #[Value.bool (sgn (x : Int)), Value.slice a (lms (x : Int)).length c] 26)).alloc (Obj.cells #[Value.bool false, Value.slice none 0 0] 26)).alloc (Obj.cells #[Value.bool false, Value.slice none 0 0] 26)).frozen? ⟨w.heap.size + 1, 0, none⟩ = false := by go_simp
  have kr1 : (((w.alloc (Obj.cells #[Value.bool (sgn (x : Int)), Value.slice a (lms (x : Int)).length c] 26)).alloc (Obj.cells #[Value.bool false, Value.slice none 0 0] 26)).alloc (Obj.cells #[Value.bool false, Value.slice none 0 0] 26)).cell? ⟨w.heap.size + 1, 1, none⟩ = some (Value.slice none 0 0) := by go_simp
  have fr1 : (((w.alloc (Obj.cells #[Value.bool (sgn (x : Int)), Value.slice a (lms (x : Int)).length c] 26)).alloc (Obj.cells #[Value.bool false, Value.slice none 0 0] 26)).alloc (Obj.cells #[Value.bool false, Value.slice none 0 0] 26)).frozen? ⟨w.heap.size + 1, 1, none⟩ = false := by go_simp
  have kv0 : (((w.alloc (Obj.cells #[Value.bool (sgn (x : Int)), Value.slice a (lms (x : Int)).length c] 26)).alloc (Obj.cells #[Value.bool false, Value.slice none 0 0] 26)).alloc (Obj.cells #[Value.bool false, Value.slice none 0 0] 26)).cell? ⟨w.heap.size + 1 + 1, 0, none⟩ = some (Value.bool false) := by go_simp
  have fv0 : (((w.alloc (Obj.cells #[Value.bool (sgn (x : Int)), Value.slice a (lms (x : Int)).length c] 26)).alloc (Obj.cells #[Value.bool false, Value.slice none 0 0] 26)).alloc (Obj.cells #[Value.bool false, Value.slice none 0 0] 26)).frozen? ⟨w.heap.size + 1 + 1, 0, none⟩ = false := by go_simp
  have kv1 : (((w.alloc (Obj.cells #[Value.bool (sgn (x : Int)), Value.slice a (lms (x : Int)).length c] 26)).alloc (Obj.cells #[Value.bool false, Value.slice none 0 0] 26)).alloc (Obj.cells #[Value.bool false, Value.slice none 0 0] 26)).cell? ⟨w.heap.size + 1 + 1, 1, none⟩ = some (Value.slice none 0 0) := by go_simp
  have fv1 : (((w.alloc (Obj.cells #[Value.bool (sgn (x : Int)), Value.slice a (lms (x : Int)).length c] 26)).alloc (Obj.cells #[Value.bool false, Value.slice none 0 0] 26)).alloc (Obj.cells #[Value.bool false, Value.slice none 0 0] 26)).frozen? ⟨w.heap.size + 1 + 1, 1, none⟩ = false := by go_simp
  have zr : w.heap.size + 1 + 1 < (((w.alloc (Obj.cells #[Value.bool (sgn (x : Int)), Value.slice a (lms (x : Int)).length c] 26)).alloc (Obj.cells #[Value.bool false, Value.slice none 0 0] 26)).alloc (Obj.cells #[Value.bool false, Value.slice none 0 0] 26)).heap.size := by simp only [World.size_alloc]; omega
  have HB := hide (bl_alloc (bl_alloc (bl_alloc (bl_refl w) (Obj.cells #[Value.bool (sgn (x : Int)), Value.slice a (lms (x : Int)).length c] 26)) (Obj.cells #[Value.bool false, Value.slice none 0 0] 26)) (Obj.cells #[Value.bool false, Value.slice none 0 0] 26))
  have S1 := hide (s1.below HB.out)
  clear s1
  go_enter Try.func75, Try.ntmps75
  go_wp2_with fail
  generalize (((w.alloc (Obj.cells #[Value.bool (sgn (x : Int)), Value.slice a (lms (x : Int)).length c] 26)).alloc (Obj.cells #[Value.bool false, Value.slice none 0 0] 26)).alloc (Obj.cells #[Value.bool false, Value.slice none 0 0] 26)) = w1 at *
  have z0 := zr
  refine (bitLenS _ (sgn (x : Int)) (lms (x : Int)) _ ⟨a, c, rfl, S1.out⟩).mono ?_
  rintro e w2 ⟨rfl, hb⟩
  have yw2 := hb.size
  replace ka0 := (hb.cell (p := ⟨w.heap.size, 0, none⟩) (by dsimp only; omega)).trans ka0
  replace ka1 := (hb.cell (p := ⟨w.heap.size, 1, none⟩) (by dsimp only; omega)).trans ka1
  replace kr0 := (hb.cell (p := ⟨w.heap.size + 1, 0, none⟩) (by dsimp only; omega)).trans kr0
  replace fr0 := (hb.frozen (p := ⟨w.heap.size + 1, 0, none⟩) (by dsimp only; omega)).trans fr0
  replace kr1 := (hb.cell (p := ⟨w.heap.size + 1, 1, none⟩) (by dsimp only; omega)).trans kr1
  replace fr1 := (hb.frozen (p := ⟨w.heap.size + 1, 1, none⟩) (by dsimp only; omega)).trans fr1
  replace kv0 := (hb.cell (p := ⟨w.heap.size + 1 + 1, 0, none⟩) (by dsimp only; omega)).trans kv0
  replace fv0 := (hb.frozen (p := ⟨w.heap.size + 1 + 1, 0, none⟩) (by dsimp only; omega)).trans fv0
  replace kv1 := (hb.cell (p := ⟨w.heap.size + 1 + 1, 1, none⟩) (by dsimp only; omega)).trans kv1
  replace fv1 := (hb.frozen (p := ⟨w.heap.size + 1 + 1, 1, none⟩) (by dsimp only; omega)).trans fv1
  replace S1 := hide (S1.out.below hb)
  replace zr := Nat.lt_of_lt_of_le zr hb.size
  replace HB := hide (bl_trans HB.out hb)
  clear hb
  rw [hB1'.out]
  clear hB1'
  go_wp2_with fail
  clear wrq hk1 hk2
  have HBS : Hid (Below w2.heap.size w2 w2) := hide (bl_refl _)
  go_loopw [6] (fun i wr => ∃ (j p : Nat) (ap : Option Addr) (cp : Nat), i = .int .i64 ((j : Int) - 1) ∧ j ≤ I + 1 ∧ Hid (p ^ (K + 1) ≤ x ∧ x < (p + 2 ^ j) ^ (K + 1) ∧ p + 2 ^ j ≤ 2 ^ (I + 1)) ∧ Hid (Seg wr a (lms (x : Int)).length c (lms (x : Int))) ∧ Hid (w2.heap.size ≤ wr.heap.size) ∧ Hid (PSt w wr w2.heap.size (w.heap.size + 1 + 1) (x : Int) (p : Int) a c ap cp)) (fun i _ => (intOf i + 1).toNat)
  case atStart =>
    exact ⟨I + 1, 0, none, 0, by rw [show ((I + 1 : Nat) : Int) - 1 = (I : Int) by omega, WRQ.out], Nat.le_refl _, hide ⟨by rw [Nat.zero_pow (by omega)]; exact Nat.zero_le _, HST.out, by rw [Nat.zero_add]; exact Nat.le_refl _⟩, S1, hide (Nat.le_refl _), hide ⟨ka0, ka1, kr0, kr1, fr0, fr1, kv0, by rw [show ((0 : Nat) : Int) = 0 from rfl, zero_lms]; exact kv1, fv0, fv1, zr, by rw [show ((0 : Nat) : Int) = 0 from rfl, zero_lms]; exact Own.nil _ _, HB.out⟩⟩
  case round =>
    clear ka0 ka1 kr0 kr1 fr0 fr1 kv0 kv1 fv0 fv1 HB S1 zr HST
    obtain ⟨j, p, ap, cp, rfl, hj, hp, S1, HVB, hP⟩ := hrel
    obtain ⟨ka0, ka1, kr0, kr1, fr0, fr1, kv0, kv1, fv0, fv1, zr, own, bel⟩ := hP.out
    have Ov := hide own
    have HB := hide bel
    have HPw := hP
    have S1w := S1
    have Ovw := Ov
    clear own bel hP
    rcases j with _ | i
    · have HRz : Hid (Root (K + 1) x p) := hide ⟨hp.out.1, by have := hp.out.2.1; rwa [Nat.pow_zero] at this⟩
      have hn1 : ¬ (0 : Int) ≤ ((0 : Nat) : Int) - 1 := by omega
      go_wp2
      refine bodyPost_ret (v := Value.agg #[Value.bool (sgn (p : Int)), Value.slice ap (lms (p : Int)).length cp]) (by simp [results, Try.results75, go_sem, kr0, kr1]) rfl ?_
      have hz2 := HB.out.size
      first | exact ⟨_, p, rfl, ⟨ap, cp, rfl, ((Ov.out.setCell (p := ⟨w.heap.size + 1, 0, none⟩) (by dsimp only; omega) _).setCell (p := ⟨w.heap.size + 1, 1, none⟩) (by dsimp only; omega) _).mono (by omega)⟩, HRz.out, ((HB.out.setCell (p := ⟨w.heap.size + 1, 0, none⟩) (by dsimp only; omega) _).setCell (p := ⟨w.heap.size + 1, 1, none⟩) (by dsimp only; omega) _)⟩ | exact ⟨_, rfl, p, ⟨ap, cp, rfl, ((Ov.out.setCell (p := ⟨w.heap.size + 1, 0, none⟩) (by dsimp only; omega) _).setCell (p := ⟨w.heap.size + 1, 1, none⟩) (by dsimp only; omega) _).mono (by omega)⟩, HRz.out, ((HB.out.setCell (p := ⟨w.heap.size + 1, 0, none⟩) (by dsimp only; omega) _).setCell (p := ⟨w.heap.size + 1, 1, none⟩) (by dsimp only; omega) _)⟩
    · have hcast : (((i + 1 : Nat) : Int) - 1) = (i : Int) := by omega
      rw [hcast]
      have hi0 : (0 : Int) ≤ (i : Int) := by omega
      clear hcast
      go_wp2_with fail
      have HBW := hide (bl_refl wr)
      obtain ⟨t, ht⟩ : ∃ t, p + 2 ^ i = t := ⟨_, rfl⟩
      have hps : (2 : Nat) ^ (i + 1) = 2 ^ i + 2 ^ i := by rw [Nat.pow_succ]; omega
      have hps : (2 : Nat) ^ (i + 1) = 2 ^ i + 2 ^ i := by rw [Nat.pow_succ]; omega
      have hup := hp.out.2.2
      rw [hps] at hup
      have hb0 : 0 < 2 ^ i := Nat.pow_pos (by decide)
      have lt60 : (lms (t : Int)).length ≤ 60 := len_two (b := I + 1) (by omega) (by omega)
      have lp60 : (lms (p : Int)).length ≤ 60 := len_two (b := I + 1) (by omega) (by omega)
      have lb60 : (lms ((2 ^ i : Nat) : Int)).length ≤ 60 := len_two (b := I + 1) (by omega) (by omega)
      have hhs := half_step (k := K + 1) (r := p) hp.out.2.1
      rw [ht] at hhs
      have HHS := hide hhs
      have HUP := hide hup
      have HT := hide ht
      have LL := hide (And.intro lt60 (And.intro lp60 lb60))
      clear hhs hup hps hb0 lt60 lp60 lb60 ht
      obtain ⟨b2, hb2⟩ : ∃ b2 : Nat, 2 ^ i = b2 := ⟨_, rfl⟩
      have HBIT := hide (fun (wx : World) (h : i ≤ 2000) => bitS i wx h)
      rw [hb2] at HBIT LL HUP HT HHS
      have HB2 := hide hb2
      clear hb2
      go_cut [7] (fun s0 wc => ∃ (N0 : Nat) (aC : Option Addr) (cC : Nat), s0 = .pointer (some ⟨N0, 0, none⟩) ∧ Hid (wr.heap.size ≤ N0 ∧ N0 < wc.heap.size ∧ wc.cell? ⟨N0, 0, none⟩ = some (Value.bool (sgn (t : Int))) ∧ wc.cell? ⟨N0, 1, none⟩ = some (Value.slice aC (lms (t : Int)).length cC) ∧ wc.frozen? ⟨N0, 0, none⟩ = false ∧ wc.frozen? ⟨N0, 1, none⟩ = false ∧ Own wc wr.heap.size aC (lms (t : Int)).length cC (lms (t : Int)) ∧ Below wr.heap.size wr wc))
      case first =>
        have KP : Hid (∀ w', Below wr.heap.size wr w' → (w'.cell? ⟨(w.heap.size + 1 + 1), 0, none⟩ = some (Value.bool (sgn (p : Int))) ∧ w'.cell? ⟨(w.heap.size + 1 + 1), 1, none⟩ = some (Value.slice ap (lms (p : Int)).length cp) ∧ Hid (Below wr.heap.size wr w'))) := hide (fun w' hb => ⟨(hb.cell (p := ⟨(w.heap.size + 1 + 1), 0, none⟩) (by dsimp only; omega)).trans kv0, (hb.cell (p := ⟨(w.heap.size + 1 + 1), 1, none⟩) (by dsimp only; omega)).trans kv1, hide hb⟩)
        go_region_held3 (fun w' => w'.cell? ⟨(w.heap.size + 1 + 1), 0, none⟩ = some (Value.bool (sgn (p : Int))) ∧ w'.cell? ⟨(w.heap.size + 1 + 1), 1, none⟩ = some (Value.slice ap (lms (p : Int)).length cp) ∧ Hid (Below wr.heap.size wr w'))
          (first | with_reducible exact KP.out _ (bl_refl wr).drew | with_reducible exact KP.out _ bC | with_reducible exact KP.out _ bB | with_reducible exact KP.out _ bA | exact KP.out _ (by repeat first | with_reducible exact bC | with_reducible exact bB | with_reducible exact bA | with_reducible exact (bl_refl wr).drew | with_reducible exact bl_refl wr | refine bl_alloc ?_ _ | refine bl_trans ?_ (bl_refl _).drew | refine Below.setCell ?_ (by first | omega | (dsimp only; omega) | (dsimp only; rw [World.size_drew]; omega)) _))
          (first
            | (go_at_call 82; refine (HBIT.out _ (by omega)).mono ?_; rintro e wA ⟨_, rfl, ⟨uA, vA, rfl, hoA⟩, hbA⟩; have bA : Below wr.heap.size wr wA := bl_trans (Hid.out (And.right (And.right (by assumption)))) hbA; have yA := bA.size; have HXA := hide hoA.seg; clear hoA; (first | have HZa0 := hide (show Zr wA wr.heap.size from born1 (W := wr) hbA) | have HZa0 := hide (show Zr wA wr.heap.size from born1 (W := wr) (bl_trans (bl_refl (wr.alloc (Obj.cells #[Value.bool false, Value.slice none 0 0] 26))).drew hbA)) | have HZa0 := hide (show Zr wA wr.heap.size from born1 (W := wr) (bl_trans (bl_refl (wr.alloc (Obj.cells #[Value.bool false, Value.slice none 0 0] 26))).drew.drew hbA)) | have HZa0 := hide (show Zr wA wr.heap.size from born1 (W := wr.drew) hbA) | have HZa0 := hide (show Zr wA wr.heap.size from born1 (W := wr.drew) (bl_trans (bl_refl (wr.drew.alloc (Obj.cells #[Value.bool false, Value.slice none 0 0] 26))).drew hbA)) | have HZa0 := hide (show Zr wA wr.heap.size from born1 (W := wr.drew) (bl_trans (bl_refl (wr.drew.alloc (Obj.cells #[Value.bool false, Value.slice none 0 0] 26))).drew.drew hbA)) | have HZa0 := hide (show Zr wA wr.heap.size from born1 (W := wr.drew.drew) hbA) | have HZa0 := hide (show Zr wA wr.heap.size from born1 (W := wr.drew.drew) (bl_trans (bl_refl (wr.drew.drew.alloc (Obj.cells #[Value.bool false, Value.slice none 0 0] 26))).drew hbA)) | have HZa0 := hide (show Zr wA wr.heap.size from born1 (W := wr.drew.drew) (bl_trans (bl_refl (wr.drew.drew.alloc (Obj.cells #[Value.bool false, Value.slice none 0 0] 26))).drew.drew hbA)) | skip); (try have zza0 := HZa0.out.1); clear hbA)
            | (go_at_call 27; refine (addT _ _ p b2 t _ HT.out ⟨ap, cp, rfl, Ov.out.seg.below (Hid.out (And.right (And.right (by assumption))))⟩ ⟨uA, vA, rfl, HXA.out.below (by first | exact bl_refl _ | exact bl_alloc (bl_refl _) _ | exact bl_alloc (bl_alloc (bl_refl _) _) _)⟩ (Nat.le_trans LL.out.2.1 (by decide)) (Nat.le_trans LL.out.2.2 (by decide))).mono ?_; rintro e wC ⟨_, rfl, ⟨aC, cC, rfl, hoC⟩, hbC⟩; have bBC : Below wA.heap.size wA wC := (by first | exact hbC | exact bl_one hbC | exact bl_two hbC); have bC : Below wr.heap.size wr wC := bl_trans bA bBC; have yC := bBC.size; have HOC := hide hoC; clear hoC; (try replace HZa0 := hide (HZa0.out.below bBC)); (first | have HZc0 := hide (show Zr wC wA.heap.size from born1 (W := wA) hbC) | have HZc0 := hide (show Zr wC wA.heap.size from born1 (W := wA) (bl_trans (bl_refl (wA.alloc (Obj.cells #[Value.bool false, Value.slice none 0 0] 26))).drew hbC)) | have HZc0 := hide (show Zr wC wA.heap.size from born1 (W := wA) (bl_trans (bl_refl (wA.alloc (Obj.cells #[Value.bool false, Value.slice none 0 0] 26))).drew.drew hbC)) | have HZc0 := hide (show Zr wC wA.heap.size from born1 (W := wA.drew) hbC) | have HZc0 := hide (show Zr wC wA.heap.size from born1 (W := wA.drew) (bl_trans (bl_refl (wA.drew.alloc (Obj.cells #[Value.bool false, Value.slice none 0 0] 26))).drew hbC)) | have HZc0 := hide (show Zr wC wA.heap.size from born1 (W := wA.drew) (bl_trans (bl_refl (wA.drew.alloc (Obj.cells #[Value.bool false, Value.slice none 0 0] 26))).drew.drew hbC)) | have HZc0 := hide (show Zr wC wA.heap.size from born1 (W := wA.drew.drew) hbC) | have HZc0 := hide (show Zr wC wA.heap.size from born1 (W := wA.drew.drew) (bl_trans (bl_refl (wA.drew.drew.alloc (Obj.cells #[Value.bool false, Value.slice none 0 0] 26))).drew hbC)) | have HZc0 := hide (show Zr wC wA.heap.size from born1 (W := wA.drew.drew) (bl_trans (bl_refl (wA.drew.drew.alloc (Obj.cells #[Value.bool false, Value.slice none 0 0] 26))).drew.drew hbC)) | skip); (try have Qa0 := HZa0.out); (try obtain ⟨za0, ka0_0, ka0_1, fa0_0, fa0_1⟩ := HZa0.out); (try have Qc0 := HZc0.out); (try obtain ⟨zc0, kc0_0, kc0_1, fc0_0, fc0_1⟩ := HZc0.out); (try simp only [World.size_drew] at HOC); (try simp only [World.size_alloc] at HOC); clear hbC))
        all_goals (go_wp2_with fail; go_meet)
        · exact ⟨_, aC, cC, rfl, hide (tresf_b HOC.out (by omega) bC)⟩
        · exact ⟨_, aC, cC, rfl, hide (tresf_a HOC.out (by omega) bC Qc0 (by omega) (by omega))⟩
        · exact ⟨_, aC, cC, rfl, hide (tresf_a HOC.out (by omega) bC Qa0 (by omega) (by omega))⟩
      case rest =>
      obtain ⟨Nu, au, cu, rfl, hres⟩ := hcut
      obtain ⟨nu, mu, ku0, ku1, fu0, fu1, gu, hb⟩ := hres.out
      clear hres
      rename World => w3
      have yw3 := hb.size
      (try replace HBW := hide (bl_trans HBW.out hb))
      replace ka0 := (hb.cell (p := ⟨w.heap.size, 0, none⟩) (by dsimp only; omega)).trans ka0
      replace ka1 := (hb.cell (p := ⟨w.heap.size, 1, none⟩) (by dsimp only; omega)).trans ka1
      replace kr0 := (hb.cell (p := ⟨w.heap.size + 1, 0, none⟩) (by dsimp only; omega)).trans kr0
      replace fr0 := (hb.frozen (p := ⟨w.heap.size + 1, 0, none⟩) (by dsimp only; omega)).trans fr0
      replace kr1 := (hb.cell (p := ⟨w.heap.size + 1, 1, none⟩) (by dsimp only; omega)).trans kr1
      replace fr1 := (hb.frozen (p := ⟨w.heap.size + 1, 1, none⟩) (by dsimp only; omega)).trans fr1
      replace kv0 := (hb.cell (p := ⟨(w.heap.size + 1 + 1), 0, none⟩) (by dsimp only; omega)).trans kv0
      replace fv0 := (hb.frozen (p := ⟨(w.heap.size + 1 + 1), 0, none⟩) (by dsimp only; omega)).trans fv0
      replace kv1 := (hb.cell (p := ⟨(w.heap.size + 1 + 1), 1, none⟩) (by dsimp only; omega)).trans kv1
      replace fv1 := (hb.frozen (p := ⟨(w.heap.size + 1 + 1), 1, none⟩) (by dsimp only; omega)).trans fv1
      replace S1 := hide (S1.out.below hb)
      replace Ov := hide (Ov.out.below hb)
      replace zr := Nat.lt_of_lt_of_le zr hb.size
      replace HB := hide (bl_trans HB.out hb)
      clear hb
      have Ou := hide gu
      clear gu
      go_wp2_with fail
      have zu : Nu < w3.heap.size := mu
      have KP : Hid (∀ w', Below w3.heap.size w3 w' → (w'.cell? ⟨Nu, 0, none⟩ = some (Value.bool (sgn (t : Int))) ∧ w'.cell? ⟨Nu, 1, none⟩ = some (Value.slice au (lms (t : Int)).length cu) ∧ w'.cell? ⟨w.heap.size, 0, none⟩ = some (Value.bool (sgn (x : Int))) ∧ w'.cell? ⟨w.heap.size, 1, none⟩ = some (Value.slice a (lms (x : Int)).length c) ∧ Hid (Below w3.heap.size w3 w'))) := hide (fun w' hb => ⟨(hb.cell (p := ⟨Nu, 0, none⟩) zu).trans ku0, (hb.cell (p := ⟨Nu, 1, none⟩) zu).trans ku1, (hb.cell (p := ⟨w.heap.size, 0, none⟩) (by dsimp only; omega)).trans ka0, (hb.cell (p := ⟨w.heap.size, 1, none⟩) (by dsimp only; omega)).trans ka1, hide hb⟩)
      go_region_held3 (fun w' => w'.cell? ⟨Nu, 0, none⟩ = some (Value.bool (sgn (t : Int))) ∧ w'.cell? ⟨Nu, 1, none⟩ = some (Value.slice au (lms (t : Int)).length cu) ∧ w'.cell? ⟨w.heap.size, 0, none⟩ = some (Value.bool (sgn (x : Int))) ∧ w'.cell? ⟨w.heap.size, 1, none⟩ = some (Value.slice a (lms (x : Int)).length c) ∧ Hid (Below w3.heap.size w3 w'))
        (first | exact KP.out _ (bl_refl w3).drew | exact KP.out _ bB | exact KP.out _ bA | exact KP.out _ (bl_refl w3).drew.drew)
        (first
          | (go_at_call 24; refine (powK _ t K _ ⟨au, cu, rfl, Ou.out.seg.below (Hid.out (And.right (And.right (And.right (And.right (by assumption))))))⟩ hK LL.out.1).mono ?_; rintro e wA ⟨_, qq, rfl, ⟨uA, vA, rfl, hoA⟩, hpl, hbA⟩; have bA : Below w3.heap.size w3 wA := bl_trans (Hid.out (And.right (And.right (And.right (And.right (by assumption)))))) hbA; have HPL := hide hpl; have HPS := hide hoA.seg; clear hoA hbA hpl)
          | (go_at_call 76; refine (cmpS _ _ qq (x : Int) _ ⟨uA, vA, rfl, HPS.out⟩ ⟨a, c, rfl, S1.out.below bA⟩).mono ?_; rintro e wB ⟨rfl, hbB⟩; have bB : Below w3.heap.size w3 wB := bl_trans bA hbB; clear hbB))
      clear KP HPS bA
      have hb := bB
      clear bB
      have ywB := hb.size
      have HBR := hide (bl_trans HBW.out hb)
      replace ka0 := (hb.cell (p := ⟨w.heap.size, 0, none⟩) (by dsimp only; omega)).trans ka0
      replace ka1 := (hb.cell (p := ⟨w.heap.size, 1, none⟩) (by dsimp only; omega)).trans ka1
      replace kr0 := (hb.cell (p := ⟨w.heap.size + 1, 0, none⟩) (by dsimp only; omega)).trans kr0
      replace fr0 := (hb.frozen (p := ⟨w.heap.size + 1, 0, none⟩) (by dsimp only; omega)).trans fr0
      replace kr1 := (hb.cell (p := ⟨w.heap.size + 1, 1, none⟩) (by dsimp only; omega)).trans kr1
      replace fr1 := (hb.frozen (p := ⟨w.heap.size + 1, 1, none⟩) (by dsimp only; omega)).trans fr1
      replace kv0 := (hb.cell (p := ⟨(w.heap.size + 1 + 1), 0, none⟩) (by dsimp only; omega)).trans kv0
      replace fv0 := (hb.frozen (p := ⟨(w.heap.size + 1 + 1), 0, none⟩) (by dsimp only; omega)).trans fv0
      replace kv1 := (hb.cell (p := ⟨(w.heap.size + 1 + 1), 1, none⟩) (by dsimp only; omega)).trans kv1
      replace fv1 := (hb.frozen (p := ⟨(w.heap.size + 1 + 1), 1, none⟩) (by dsimp only; omega)).trans fv1
      replace ku0 := (hb.cell (p := ⟨Nu, 0, none⟩) (by dsimp only; omega)).trans ku0
      replace fu0 := (hb.frozen (p := ⟨Nu, 0, none⟩) (by dsimp only; omega)).trans fu0
      replace ku1 := (hb.cell (p := ⟨Nu, 1, none⟩) (by dsimp only; omega)).trans ku1
      replace fu1 := (hb.frozen (p := ⟨Nu, 1, none⟩) (by dsimp only; omega)).trans fu1
      replace S1 := hide (S1.out.below hb)
      replace Ov := hide (Ov.out.below hb)
      replace Ou := hide (Ou.out.below hb)
      replace zr := Nat.lt_of_lt_of_le zr hb.size
      replace HB := hide (bl_trans HB.out hb)
      clear hb
      have hcq := cmp_pow HX.out HPL.out
      generalize cmpZ qq (x : Int) = cc at *
      have hnx := HHS.out
      have hz2 := HB.out.size
      by_cases hc : t ^ (K + 1) ≤ x
      · have hc0 : cc ≤ 0 := hcq.2 hc
        have HN := hide (show t ^ (K + 1) ≤ x ∧ x < (t + 2 ^ i) ^ (K + 1) ∧ t + 2 ^ i ≤ 2 ^ (I + 1) from ⟨hc, by have h9 := hnx.1 hc; rwa [← HB2.out] at h9, by rw [HB2.out, ← HT.out]; have := HUP.out; omega⟩)
        have HST := hide (PSt.store HPw.out HBR.out Ou.out (by omega) HVB.out)
        have S9 := hide (S1w.out.below HBR.out)
        have SX : Hid (∀ (W : World) (v u : Value), W = (wB.setCell ⟨(w.heap.size + 1 + 1), 0, none⟩ v).setCell ⟨(w.heap.size + 1 + 1), 1, none⟩ u → Seg W a (lms (x : Int)).length c (lms (x : Int))) := hide (fun W v u e => by subst e; exact (S9.out.setOff (p := ⟨(w.heap.size + 1 + 1), 0, none⟩) (fun h0 g o s e => by have := HSA.out h0 g o s e; dsimp only; omega) v).setOff (p := ⟨(w.heap.size + 1 + 1), 1, none⟩) (fun h0 g o s e => by have := HSA.out h0 g o s e; dsimp only; omega) u)
        clear hnx hcq hc
        go_wp2
        exact ⟨⟨i, t, au, cu, by go_num, by omega, HN, hide (SX.out _ _ _ rfl), hide (by simp only [World.size_setCell]; have := HVB.out; have := HBR.out.size; omega), HST⟩, by simp [intOf]⟩
      · have hc0 : ¬ cc ≤ 0 := fun h => hc (hcq.1 h)
        have HN := hide (show p ^ (K + 1) ≤ x ∧ x < (p + 2 ^ i) ^ (K + 1) ∧ p + 2 ^ i ≤ 2 ^ (I + 1) from ⟨hp.out.1, by have h9 := hnx.2 hc; rwa [← HT.out, ← HB2.out] at h9, by rw [HB2.out]; have := HUP.out; omega⟩)
        have HPN := hide (PSt.mk ka0 ka1 kr0 kr1 fr0 fr1 kv0 kv1 fv0 fv1 zr Ov.out HB.out)
        clear hnx hcq hc
        go_wp2
        exact ⟨⟨i, p, ap, cp, by go_num, by omega, HN, S1, hide (by have := HVB.out; have := HBR.out.size; omega), HPN⟩, by simp [intOf]⟩

end Go.Proofs.Ythjapjbiclkhcaa
