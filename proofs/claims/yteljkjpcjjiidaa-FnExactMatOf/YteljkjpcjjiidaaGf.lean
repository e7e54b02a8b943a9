/- The program's gridOf of ints. -/
import Derived.Test.YteljkjpcjjiidaaGc
namespace Go.Proofs.Yteljkjpcjjiidaa
open Go.RowKit
set_option linter.unusedVariables false
set_option maxRecDepth 20000

/-- the lists that are a matrix -/
def Rws (n : Nat) (E : Nat → List Int) : Prop := ∀ r, r < n → (E r).length = (E 0).length

set_option maxHeartbeats 2000000 in
theorem gridI0 (a : Option Addr) (cap : Nat) (w : World) :
    Calls Try.prog 42 #[.slice a 0 cap] w fun e w' => e = .returned (.tuple #[.agg #[.int .i64 0, .int .i64 0, .slice none 0 0], .bool true]) ∧ Below w.heap.size w w' := by
  have X4 : Hid ((w.alloc (Obj.cells #[Value.int .i64 0, Value.int .i64 0, Value.slice none 0 0] 63)).heap[w.heap.size]? = some (.cells #[Value.int .i64 0, Value.int .i64 0, Value.slice none 0 0] 63 (0, 0))) := hide (hnew _ _)
  have HB := hide (bl_alloc (bl_refl w) (Obj.cells #[Value.int .i64 0, Value.int .i64 0, Value.slice none 0 0] 63))
  go_enter Try.func42, Try.ntmps42
  go_wp2
  refine bodyPost_ret (v := .tuple #[.agg #[.int .i64 0, .int .i64 0, .slice none 0 0], .bool true]) (by simp [results, Try.results42, go_sem, *]) rfl ?_
  exact ⟨rfl, HB.out⟩

set_option maxHeartbeats 2000000 in
theorem gridIbig (a : Option Addr) (n cap c : Nat) (X : Nat → Prop) (E : Nat → List Int) (w : World) (hs : ISeg w X a n cap E) (hc : (E 0).length = c) (h0 : 0 < n) (h8 : ¬ (n ≤ 8 ∧ c ≤ 8)) :
    Calls Try.prog 42 #[.slice a n cap] w fun e w' => e = .returned (.tuple #[.agg #[.int .i64 0, .int .i64 0, .slice none 0 0], .bool false]) ∧ Below w.heap.size w w' := by
  have hcap := hs.1
  have hcm := hs.2.1
  obtain ⟨ga, oa, rfl, hga, a0, p0, t00, sg0⟩ := hs.at h0
  rw [hc, Nat.add_zero] at t00
  have hcl : c ≤ 9223372036854775807 := by rw [← hc]; exact Nat.le_trans sg0.2.1 sg0.2.2.1
  have hn0 : ¬ (n : Int) = 0 := by omega
  have hn1 : ¬ n = 0 := by omega
  have hn2 : (0 : Int) < (n : Int) := by omega
  have X4 : Hid ((w.alloc (Obj.cells #[Value.int .i64 0, Value.int .i64 0, Value.slice none 0 0] 63)).heap[w.heap.size]? = some (.cells #[Value.int .i64 0, Value.int .i64 0, Value.slice none 0 0] 63 (0, 0))) := hide (hnew _ _)
  have HB := hide (bl_alloc (bl_refl w) (Obj.cells #[Value.int .i64 0, Value.int .i64 0, Value.slice none 0 0] 63))
  have t0' := (HB.out.cell (p := ⟨ga, oa, none⟩) hga).trans t00
  have H8 := hide h8
  clear hs sg0 t00 h8
  go_enter Try.func42, Try.ntmps42
  go_wp2_with fail
  generalize w.alloc (Obj.cells #[Value.int .i64 0, Value.int .i64 0, Value.slice none 0 0] 63) = w1 at *
  refine (sideI (n : Int) w1).mono ?_
  rintro e w2 ⟨rfl, hw⟩
  subst w2
  have k40 := (Lib.cell_of_heap X4.out 0).trans (show _ = some (Value.int .i64 0) from rfl)
  have k41 := (Lib.cell_of_heap X4.out 1).trans (show _ = some (Value.int .i64 0) from rfl)
  have k42 := (Lib.cell_of_heap X4.out 2).trans (show _ = some (Value.slice none 0 0) from rfl)
  have f40 := Lib.frozen_of_heap X4.out 0
  have f41 := Lib.frozen_of_heap X4.out 1
  have f42 := Lib.frozen_of_heap X4.out 2
  have hst := (((St.refl w.heap.size w1).set 0 (.int .i64 0)).set 1 (.int .i64 0)).set 2 (.slice none 0 0)
  have HE := hide (St.below HB.out hst (Nat.le_refl _))
  clear hst
  by_cases h8 : n ≤ 8
  · rw [show sideB (n : Int) = true by unfold sideB; exact decide_eq_true (by omega)]
    have hc8 : ¬ c ≤ 8 := fun e => H8.out ⟨h8, e⟩
    go_wp2_with fail
    refine (sideI (c : Int) w1).mono ?_
    rintro e w2 ⟨rfl, hw⟩
    subst w2
    rw [show sideB (c : Int) = false by unfold sideB; exact decide_eq_false (by omega)]
    go_wp2
    refine bodyPost_ret (v := .tuple #[.agg #[.int .i64 0, .int .i64 0, .slice none 0 0], .bool false]) (by simp [results, Try.results42, go_sem, *]) rfl ?_
    exact ⟨rfl, HE.out⟩
  · rw [show sideB (n : Int) = false by unfold sideB; exact decide_eq_false (by omega)]
    go_wp2
    refine bodyPost_ret (v := .tuple #[.agg #[.int .i64 0, .int .i64 0, .slice none 0 0], .bool false]) (by simp [results, Try.results42, go_sem, *]) rfl ?_
    exact ⟨rfl, HE.out⟩

set_option maxHeartbeats 4000000 in
theorem gridIC (a : Option Addr) (n cap c N : Nat) (X : Nat → Prop) (E : Nat → List Int) (w : World) (hs : ISeg w X a n cap E) (hc : (E 0).length = c) (h0 : 0 < n) (h8 : n ≤ 8) (hc8 : c ≤ 8) (hN : N = n * c) :
    Calls Try.prog 42 #[.slice a n cap] w fun e w' => ((∃ g, e = .returned (.tuple #[.agg #[.int .i64 (n : Int), .int .i64 (c : Int), .slice (some ⟨g, 0, none⟩) N N], .bool true]) ∧ V.Own w' w.heap.size (some ⟨g, 0, none⟩) N N (cat E n) ∧ Rws n E) ∨ (e = .returned (.tuple #[.agg #[.int .i64 0, .int .i64 0, .slice none 0 0], .bool false]) ∧ ¬ Rws n E)) ∧ Below w.heap.size w w' := by
  have hcap := hs.1
  have hcm := hs.2.1
  have HS := hide hs
  obtain ⟨ga, oa, rfl, hga, a0, p0, t00, sg0⟩ := hs.at h0
  rw [hc, Nat.add_zero] at t00
  have HR : Hid (∀ k, (∀ r, r < k → (E r).length = c) ↔ ∀ r, r < k → (E r).length = (E 0).length) := hide (fun k => by rw [hc])
  have HC := hide hc
  have HN := hide hN
  have hNN : (N : Int) = (n : Int) * (c : Int) := by rw [hN]; push_cast; rfl
  have hN64 : N ≤ 64 := by rw [hN]; exact Nat.mul_le_mul h8 hc8
  have hn0 : ¬ (n : Int) = 0 := by omega
  have hn1 : ¬ n = 0 := by omega
  have hn2 : (0 : Int) < (n : Int) := by omega
  have HNN := hide hNN
  have X4 : Hid ((w.alloc (Obj.cells #[Value.int .i64 0, Value.int .i64 0, Value.slice none 0 0] 63)).heap[w.heap.size]? = some (.cells #[Value.int .i64 0, Value.int .i64 0, Value.slice none 0 0] 63 (0, 0))) := hide (hnew _ _)
  have HB := hide (bl_alloc (bl_refl w) (Obj.cells #[Value.int .i64 0, Value.int .i64 0, Value.slice none 0 0] 63))
  have hz1 : (w.alloc (Obj.cells #[Value.int .i64 0, Value.int .i64 0, Value.slice none 0 0] 63)).heap.size = w.heap.size + 1 := by simp only [World.size_alloc]
  have t0' := (HB.out.cell (p := ⟨ga, oa, none⟩) hga).trans t00
  clear hs sg0 t00 hc hN hNN
  go_enter Try.func42, Try.ntmps42
  go_wp2_with fail
  generalize w.alloc (Obj.cells #[Value.int .i64 0, Value.int .i64 0, Value.slice none 0 0] 63) = w1 at *
  refine (sideI (n : Int) w1).mono ?_
  rintro e w2 ⟨rfl, hw⟩
  subst w2
  rw [show sideB (n : Int) = true by unfold sideB; exact decide_eq_true (by omega)]
  go_wp2_with fail
  refine (sideI (c : Int) w1).mono ?_
  rintro e w2 ⟨rfl, hw⟩
  subst w2
  rw [show sideB (c : Int) = true by unfold sideB; exact decide_eq_true (by omega)]
  go_wp2_with fail
  refine (newGridI (n : Int) (c : Int) N w1 ⟨by omega, by omega⟩ ⟨by omega, by omega⟩ HNN.out).mono ?_
  rintro e w2 ⟨g, rfl, ho, hb2⟩
  have hz4 := hlt X4.out
  have hg1 := V.Own.lt (s := none) ho
  have HG := hide (vown_entry ho)
  replace X4 := hide (hbel X4.out hb2 hz4)
  replace HB := hide (bl_trans HB.out hb2)
  have hs2 := hb2.size
  clear ho hb2 t0'
  have X5 : Hid ((w2.alloc (Obj.cells #[Value.int .i64 (n : Int), Value.int .i64 (c : Int), Value.slice (some ⟨g, 0, none⟩) N N] 63)).heap[w2.heap.size]? = some (.cells #[Value.int .i64 (n : Int), Value.int .i64 (c : Int), Value.slice (some ⟨g, 0, none⟩) N N] 63 (0, 0))) := hide (hnew _ _)
  replace HG := hide (hnewer HG.out (Obj.cells #[Value.int .i64 (n : Int), Value.int .i64 (c : Int), Value.slice (some ⟨g, 0, none⟩) N N] 63))
  replace X4 := hide (hnewer X4.out (Obj.cells #[Value.int .i64 (n : Int), Value.int .i64 (c : Int), Value.slice (some ⟨g, 0, none⟩) N N] 63))
  replace HB := hide (bl_trans HB.out (bl_alloc (bl_refl w2) (Obj.cells #[Value.int .i64 (n : Int), Value.int .i64 (c : Int), Value.slice (some ⟨g, 0, none⟩) N N] 63)))
  go_wp2_with fail
  generalize hb5 : w2.heap.size = b5 at *
  clear hb5
  generalize hwx : w2.alloc (Obj.cells #[Value.int .i64 (n : Int), Value.int .i64 (c : Int), Value.slice (some ⟨g, 0, none⟩) N N] 63) = w3 at *
  clear hwx
  go_wp2
  go_loopw [32] (fun i wr => ∃ k : Nat, k ≤ n ∧ i = .int .i64 (k : Int) ∧ Hid (∀ r, r < k → (E r).length = c) ∧ Hid (wr.heap[g]? = some (.cells ((fl E N c k).map V.lim).toArray 3 (0, 0))) ∧ Hid (wr.heap[w.heap.size]? = some (.cells #[Value.int .i64 0, Value.int .i64 0, Value.slice none 0 0] 63 (0, 0))) ∧ Hid (wr.heap[b5]? = some (.cells #[Value.int .i64 (n : Int), Value.int .i64 (c : Int), Value.slice (some ⟨g, 0, none⟩) N N] 63 (0, 0))) ∧ Hid (Below w.heap.size w wr)) (fun i _ => n - (intOf i).toNat)
  case atStart => exact ⟨0, Nat.zero_le _, rfl, hide (fun r hr => by omega), hide (by rw [fl_zero]; exact HG.out), X4, X5, HB⟩
  case round =>
    clear X4 X5 HG HB
    obtain ⟨k, hk, rfl, hl, HG, X4, X5, hb⟩ := hrel
    have k50 := (Lib.cell_of_heap X5.out 0).trans (show _ = some (Value.int .i64 (n : Int)) from rfl)
    have k51 := (Lib.cell_of_heap X5.out 1).trans (show _ = some (Value.int .i64 (c : Int)) from rfl)
    have k52 := (Lib.cell_of_heap X5.out 2).trans (show _ = some (Value.slice (some ⟨g, 0, none⟩) N N) from rfl)
    have k40 := (Lib.cell_of_heap X4.out 0).trans (show _ = some (Value.int .i64 0) from rfl)
    have k41 := (Lib.cell_of_heap X4.out 1).trans (show _ = some (Value.int .i64 0) from rfl)
    have k42 := (Lib.cell_of_heap X4.out 2).trans (show _ = some (Value.slice none 0 0) from rfl)
    have f40 := Lib.frozen_of_heap X4.out 0
    have f41 := Lib.frozen_of_heap X4.out 1
    have f42 := Lib.frozen_of_heap X4.out 2
    by_cases hkn : k < n
    · have hkn' : (k : Int) < (n : Int) := by omega
      obtain ⟨g2, o2, e2, hg2, a1, c1, t0, sg⟩ := (HS.out.below hb.out).at hkn
      cases e2
      have hzl : (E k).length ≤ 9223372036854775807 := Nat.le_trans sg.2.1 sg.2.2.1
      by_cases hek : (E k).length = c
      · rw [hek] at t0 sg hzl
        have HEK := hide hek
        have HSG := hide sg
        clear sg hek
        go_wp2_with fail
        refine (rowI (n : Int) c g N N k wr ⟨by omega, by omega⟩ hc8 HNN.out hkn' (Nat.le_refl _) (by omega)).mono ?_
        rintro e w4 ⟨a', rfl, ha, hb4⟩
        have HA := hide ha
        have HG4 := hide (hbel HG.out hb4 (hlt HG.out))
        have X44 := hide (hbel X4.out hb4 (hlt X4.out))
        have X54 := hide (hbel X5.out hb4 (hlt X5.out))
        have HB4 := hide (bl_trans hb.out hb4)
        have HSG4 := hide (HSG.out.below hb4)
        have hfit : k * c + c ≤ (fl E N c k).length := by
          rw [fl_len hl.out (by rw [HN.out]; exact Nat.mul_le_mul_right c hk), HN.out, ← Nat.succ_mul]
          exact Nat.mul_le_mul_right c hkn
        have HF := hide hfit
        clear ha hb4 k50 k51 k52 k40 k41 k42 f40 f41 f42 t0 hfit
        go_wp2_with (refine wp_copy_row rfl (.tmp 44) (.tmp 45) rfl a' a1 c c c1 rfl rfl g (k * c) (fl E N c k) (E k) HG4.out HSG4.out HA.out HF.out ?_; intro w5 HG5 hcg; have X45 := hide (hcg.heap X44.out (by omega)); have X55 := hide (hcg.heap X54.out (by omega)); have HB5 := hide (Chg.keep HB4.out hcg (fun k e => by omega) HB4.out.size); clear hcg)
        refine ⟨⟨k + 1, by omega, by go_num, hide (fun r hr => ?_), hide ?_, X45, X55, HB5⟩, by simp [intOf]; omega⟩
        · by_cases e : r = k
          · rw [e]; exact HEK.out
          · exact hl.out r (by omega)
        · rw [← fl_step hl.out HEK.out]; exact HG5.out
      · have hek' : ¬ ((E k).length : Int) = (c : Int) := by omega
        have HEK : Hid (¬ Rws n E) := hide (fun h => hek (by rw [h k hkn, HC.out]))
        generalize (E k).length = z at *
        clear sg
        go_wp2
        refine bodyPost_ret (v := .tuple #[.agg #[.int .i64 0, .int .i64 0, .slice none 0 0], .bool false]) (by simp [results, Try.results42, go_sem, *]) rfl ?_
        have hst := (((St.refl w.heap.size wr).set 0 (.int .i64 0)).set 1 (.int .i64 0)).set 2 (.slice none 0 0)
        refine ⟨.inr ⟨rfl, HEK.out⟩, St.below hb.out hst (Nat.le_refl _)⟩
    · obtain rfl : k = n := by omega
      go_wp2
      refine bodyPost_ret (v := .tuple #[.agg #[.int .i64 (k : Int), .int .i64 (c : Int), .slice (some ⟨g, 0, none⟩) N N], .bool true]) (by simp [results, Try.results42, go_sem, *]) rfl ?_
      have hst := (((St.refl w.heap.size wr).set 0 (.int .i64 (k : Int))).set 1 (.int .i64 (c : Int))).set 2 (.slice (some ⟨g, 0, none⟩) N N)
      have HG9 := hst.heap HG.out (by omega)
      refine ⟨.inl ⟨g, rfl, ?_, (HR.out k).1 hl.out⟩, St.below hb.out hst (Nat.le_refl _)⟩
      have e := HN.out
      subst e
      rw [fl_all] at HG9
      exact entry_vown HG9 (cat_len E c k hl.out) (by unfold maxLen; omega) (by omega)
end Go.Proofs.Yteljkjpcjjiidaa
