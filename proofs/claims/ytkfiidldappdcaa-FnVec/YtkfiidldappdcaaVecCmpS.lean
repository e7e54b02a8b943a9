/- The walk of the specification's VecCmp. -/
import Derived.Test.YtkfiidldappdcaaVecCmpI
import Derived.Test.YtkfiidldappdcaaOkS
namespace Go.Proofs.Ytkfiidldappdcaa
open Go.RowKit
set_option linter.unusedVariables false

theorem pwF_lt {xs : List Int} (h8 : xs.length ≤ 8) {j : Nat} (h : j < xs.length) : pwF xs j = xs[j] := by
  unfold pwF; rw [if_pos h8, at8_lt h]
theorem pwF_ge {xs : List Int} {j : Nat} (h : xs.length ≤ j) : pwF xs j = 0 := by
  unfold pwF; split
  · exact at8_ge h
  · rfl
theorem cmpZ_2 {d1 : Int} {xs : List Int} {d2 : Int} {ys : List Int} (h : ¬ (vokB d1 xs = true ∧ vokB d2 ys = true ∧ xs.length = ys.length)) : cmpZ d1 xs d2 ys = 2 := by
  unfold cmpZ
  refine if_neg fun hc => h ?_
  simp only [Bool.and_eq_true, beq_iff_eq] at hc
  refine ⟨hc.1.1, hc.1.2, ?_⟩
  have e := hc.2
  unfold pwN at e
  rw [if_pos (vok_len hc.1.1), if_pos (vok_len hc.1.2)] at e
  omega
theorem cmpZ_1 {d1 : Int} {xs : List Int} {d2 : Int} {ys : List Int} (h1 : vokB d1 xs = true) (h2 : vokB d2 ys = true) (h3 : xs.length = ys.length) : cmpZ d1 xs d2 ys = cmpF (fun j => pwF xs j * d2) (fun j => pwF ys j * d1) 8 0 := by
  unfold cmpZ
  refine if_pos ?_
  simp only [Bool.and_eq_true, beq_iff_eq]
  refine ⟨⟨h1, h2⟩, ?_⟩
  unfold pwN
  rw [if_pos (vok_len h1), if_pos (vok_len h2), h3]

set_option maxHeartbeats 4000000 in
theorem vecCmpS (d1 : Int) (a : Option Addr) (c1 : Nat) (xs : List Int) (d2 : Int) (b : Option Addr) (c2 : Nat) (ys : List Int) (w : World) (h1 : Seg w a xs.length c1 xs) (h2 : Seg w b ys.length c2 ys) :
    Calls Try.prog 30 #[.agg #[Value.int .i64 d1, Value.slice a xs.length c1], .agg #[Value.int .i64 d2, Value.slice b ys.length c2]] w fun e w' => e = .returned (.int .i64 (cmpZ d1 xs d2 ys)) ∧ Below w.heap.size w w' := by
  have HB := hide (bl_alloc (bl_alloc (bl_refl w) (Obj.cells #[Value.int .i64 d1, Value.slice a xs.length c1] 29)) (Obj.cells #[Value.int .i64 d2, Value.slice b ys.length c2] 29))
  have ka0 : ((w.alloc (Obj.cells #[Value.int .i64 d1, Value.slice a xs.length c1] 29)).alloc (Obj.cells #[Value.int .i64 d2, Value.slice b ys.length c2] 29)).cell? ⟨w.heap.size, 0, none⟩ = some (Value.int .i64 d1) := by go_simp
  have ka1 : ((w.alloc (Obj.cells #[Value.int .i64 d1, Value.slice a xs.length c1] 29)).alloc (Obj.cells #[Value.int .i64 d2, Value.slice b ys.length c2] 29)).cell? ⟨w.heap.size, 1, none⟩ = some (Value.slice a xs.length c1) := by go_simp
  have kb0 : ((w.alloc (Obj.cells #[Value.int .i64 d1, Value.slice a xs.length c1] 29)).alloc (Obj.cells #[Value.int .i64 d2, Value.slice b ys.length c2] 29)).cell? ⟨w.heap.size + 1, 0, none⟩ = some (Value.int .i64 d2) := by go_simp
  have kb1 : ((w.alloc (Obj.cells #[Value.int .i64 d1, Value.slice a xs.length c1] 29)).alloc (Obj.cells #[Value.int .i64 d2, Value.slice b ys.length c2] 29)).cell? ⟨w.heap.size + 1, 1, none⟩ = some (Value.slice b ys.length c2) := by go_simp
  have za : w.heap.size < ((w.alloc (Obj.cells #[Value.int .i64 d1, Value.slice a xs.length c1] 29)).alloc (Obj.cells #[Value.int .i64 d2, Value.slice b ys.length c2] 29)).heap.size := by simp only [World.size_alloc]; omega
  have zb : w.heap.size + 1 < ((w.alloc (Obj.cells #[Value.int .i64 d1, Value.slice a xs.length c1] 29)).alloc (Obj.cells #[Value.int .i64 d2, Value.slice b ys.length c2] 29)).heap.size := by simp only [World.size_alloc]; omega
  have hl1 := h1.le
  have hl2 := h2.le
  have hc1 := h1.2.1
  have hc2 := h2.2.1
  have hm1 := h1.2.2.1
  have hm2 := h2.2.2.1
  have H1 := hide (h1.below HB.out)
  have H2 := hide (h2.below HB.out)
  clear h1 h2
  go_enter Try.func30, Try.ntmps30
  go_wp2_with fail
  generalize ((w.alloc (Obj.cells #[Value.int .i64 d1, Value.slice a xs.length c1] 29)).alloc (Obj.cells #[Value.int .i64 d2, Value.slice b ys.length c2] 29)) = w1 at *
  refine (vecOkS d1 a c1 xs _ H1.out).mono ?_
  rintro e w2 ⟨rfl, hb⟩
  replace ka0 := (hb.cell (p := ⟨w.heap.size, 0, none⟩) za).trans ka0
  replace ka1 := (hb.cell (p := ⟨w.heap.size, 1, none⟩) za).trans ka1
  replace kb0 := (hb.cell (p := ⟨w.heap.size + 1, 0, none⟩) zb).trans kb0
  replace kb1 := (hb.cell (p := ⟨w.heap.size + 1, 1, none⟩) zb).trans kb1
  replace za := Nat.lt_of_lt_of_le za hb.size
  replace zb := Nat.lt_of_lt_of_le zb hb.size
  replace H1 := hide (H1.out.below hb)
  replace H2 := hide (H2.out.below hb)
  replace HB := hide (bl_trans HB.out hb)
  clear hb
  cases hv1 : vokB d1 xs with
  | false =>
    have HC : Hid (cmpZ d1 xs d2 ys = 2) := hide (cmpZ_2 (fun h => by rw [hv1] at h; cases h.1))
    clear hv1
    go_wp2
    go_ret
    exact ⟨ret_int HC.out.symm, HB.out⟩
  | true =>
  have HV1 := hide hv1
  clear hv1
  go_wp2_with fail
  refine (vecOkS d2 b c2 ys _ H2.out).mono ?_
  rintro e w3 ⟨rfl, hb⟩
  replace ka0 := (hb.cell (p := ⟨w.heap.size, 0, none⟩) za).trans ka0
  replace ka1 := (hb.cell (p := ⟨w.heap.size, 1, none⟩) za).trans ka1
  replace kb0 := (hb.cell (p := ⟨w.heap.size + 1, 0, none⟩) zb).trans kb0
  replace kb1 := (hb.cell (p := ⟨w.heap.size + 1, 1, none⟩) zb).trans kb1
  replace H1 := hide (H1.out.below hb)
  replace H2 := hide (H2.out.below hb)
  replace HB := hide (bl_trans HB.out hb)
  clear hb
  cases hv2 : vokB d2 ys with
  | false =>
    have HC : Hid (cmpZ d1 xs d2 ys = 2) := hide (cmpZ_2 (fun h => by rw [hv2] at h; cases h.2.1))
    clear hv2
    go_wp2
    go_ret
    exact ⟨ret_int HC.out.symm, HB.out⟩
  | true =>
  have HV2 := hide hv2
  clear hv2
  by_cases hne : xs.length = ys.length
  · have hbn : ((xs.length : Int) != (ys.length : Int)) = false := by rw [bne_eq_false_iff_eq]; omega
    have HC := hide (cmpZ_1 HV1.out HV2.out hne)
    have HE := hide hne
    have h8 := vok_len HV1.out
    clear hne
    obtain ⟨⟨p1, p2⟩, F1⟩ := vok_facts HV1.out
    obtain ⟨⟨q1, q2⟩, F2⟩ := vok_facts HV2.out
    have HF1 := hide F1
    have HF2 := hide F2
    clear F1 F2
    go_wp2
    go_loopw [5] (fun i wr => ∃ k : Nat, k ≤ xs.length ∧ i = .int .i64 k ∧ Hid (cmpF (fun j => pwF xs j * d2) (fun j => pwF ys j * d1) 8 0 = cmpF (fun j => pwF xs j * d2) (fun j => pwF ys j * d1) (8 - k) k) ∧ ∃ n, wr = w3.drewN n) (fun i _ => xs.length - (intOf i).toNat)
    case atStart => exact ⟨0, Nat.zero_le _, rfl, hide rfl, 0, rfl⟩
    case round =>
      obtain ⟨k, hk, rfl, hj, m, rfl⟩ := hrel
      by_cases hlt : k < xs.length
      · have hlt' : (k : Int) < (xs.length : Int) := by omega
        have hly : k < ys.length := by rw [← HE.out]; exact hlt
        have hly' : (k : Int) < (ys.length : Int) := by omega
        have hy8 : ys.length ≤ 8 := by rw [← HE.out]; exact h8
        rcases H1.out.2.2.2 with h0 | ⟨g, o, rfl, hg, hc⟩
        · omega
        rcases H2.out.2.2.2 with h0 | ⟨g', o', rfl, hg', hc'⟩
        · omega
        have e1 := hc k hlt
        have e2 := hc' k hly
        clear hc hc'
        have b1 := HF1.out k (by omega)
        have b2 := HF2.out k (by omega)
        rw [pwF_lt h8 hlt] at b1
        rw [pwF_lt hy8 hly] at b2
        have m1 := mul_bd xs[k] d2 100000 720 b1 (by omega)
        have m2 := mul_bd ys[k] d1 100000 720 b2 (by omega)
        obtain ⟨m11, m12⟩ := m1
        obtain ⟨m21, m22⟩ := m2
        have HS : Hid (cmpF (fun j => pwF xs j * d2) (fun j => pwF ys j * d1) (8 - k) k = if xs[k] * d2 < ys[k] * d1 then -1 else if ys[k] * d1 < xs[k] * d2 then 1 else cmpF (fun j => pwF xs j * d2) (fun j => pwF ys j * d1) (8 - (k + 1)) (k + 1)) := hide (by
          rw [show 8 - k = (8 - (k + 1)) + 1 by omega, cmpF, pwF_lt h8 hlt, pwF_lt hy8 hly])
        have HJ := hide (hj.out.trans HS.out)
        clear HS hj b1 b2
        generalize xs[k] = x at *
        generalize ys[k] = y at *
        by_cases c1 : x * d2 < y * d1
        · have HR : Hid (cmpZ d1 xs d2 ys = -1) := hide (by rw [HC.out, HJ.out, if_pos c1])
          go_wp2_with fail
          go_quiet (fail)
          go_wp2
          go_ret
          exact ⟨ret_int HR.out.symm, below_drewN HB.out _⟩
        by_cases c2 : y * d1 < x * d2
        · have HR : Hid (cmpZ d1 xs d2 ys = 1) := hide (by rw [HC.out, HJ.out, if_neg c1, if_pos c2])
          go_wp2_with fail
          go_quiet (fail)
          go_wp2
          go_ret
          exact ⟨ret_int HR.out.symm, below_drewN HB.out _⟩
        have HN : Hid (cmpF (fun j => pwF xs j * d2) (fun j => pwF ys j * d1) 8 0 = cmpF (fun j => pwF xs j * d2) (fun j => pwF ys j * d1) (8 - (k + 1)) (k + 1)) := hide (by rw [HJ.out, if_neg c1, if_neg c2])
        clear HJ
        go_wp2_with fail
        go_quiet (fail)
        go_wp2
        exact ⟨⟨k + 1, by omega, by go_num, HN, m + nq, rfl⟩, by simp [intOf]; omega⟩
      · obtain rfl : k = xs.length := by omega
        have HR : Hid (cmpZ d1 xs d2 ys = 0) := hide (by
          rw [HC.out, hj.out]
          refine cmpF_eq _ _ _ _ (fun j h1 _ => ?_)
          show pwF xs j * d2 = pwF ys j * d1
          rw [pwF_ge h1, pwF_ge (by rw [← HE.out]; exact h1), Int.zero_mul, Int.zero_mul])
        clear hj
        go_wp2
        go_ret
        exact ⟨ret_int HR.out.symm, below_drewN HB.out _⟩
  · have hbn : ((xs.length : Int) != (ys.length : Int)) = true := by rw [bne_iff_ne]; omega
    have HC : Hid (cmpZ d1 xs d2 ys = 2) := hide (cmpZ_2 (fun h => hne h.2.2))
    clear hne
    go_wp2
    go_ret
    exact ⟨ret_int HC.out.symm, HB.out⟩
end Go.Proofs.Ytkfiidldappdcaa
