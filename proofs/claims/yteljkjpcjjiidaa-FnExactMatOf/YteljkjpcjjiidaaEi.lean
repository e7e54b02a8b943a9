/- The program's grids: numbers of ints. -/
import Derived.Test.YteljkjpcjjiidaaGf
import Derived.Test.YteljkjpcjjiidaaGr2
namespace Go.Proofs.Yteljkjpcjjiidaa
open Go.RowKit
set_option linter.unusedVariables false
set_option maxRecDepth 20000

set_option maxHeartbeats 4000000 in
theorem eachInt (R C : Int) (a : Option Addr) (n cap : Nat) (xs : List Int) (w : World) (hs : V.Seg w a n cap xs) (hR : 0 ≤ R ∧ R ≤ 8) (hC : 0 ≤ C ∧ C ≤ 8) (hn : (n : Int) = R * C) (hl : ∀ j, j < n → -9223372036854775808 ≤ xs.getD j 0 ∧ xs.getD j 0 ≤ 9223372036854775807) :
    Calls Try.prog 43 #[Value.agg #[Value.int .i64 R, Value.int .i64 C, Value.slice a n cap], .func (.func 44) #[] #[]] w fun e w' => ∃ g A, e = .returned (Value.agg #[Value.int .i64 R, Value.int .i64 C, Value.slice (some ⟨g, 0, none⟩) n n]) ∧ BOwn w' w.heap.size g n (fun j => numE (xs.getD j 0)) A ∧ Below w.heap.size w w' := by
  have HS := hide hs
  have HL := hide hl
  have hcap := hs.2.1
  have hcm := hs.2.2.1
  clear hs hl
  have X2 : Hid (((w.alloc (Obj.cells #[Value.int .i64 R, Value.int .i64 C, Value.slice a n cap] 63)).alloc (Obj.cells #[Value.int .i64 0, Value.int .i64 0, Value.slice none 0 0] 66)).heap[w.heap.size]? = some (.cells #[Value.int .i64 R, Value.int .i64 C, Value.slice a n cap] 63 (0, 0))) := hide (hnewer (hnew _ _) _)
  have X4 : Hid (((w.alloc (Obj.cells #[Value.int .i64 R, Value.int .i64 C, Value.slice a n cap] 63)).alloc (Obj.cells #[Value.int .i64 0, Value.int .i64 0, Value.slice none 0 0] 66)).heap[w.heap.size + 1]? = some (.cells #[Value.int .i64 0, Value.int .i64 0, Value.slice none 0 0] 66 (0, 0))) := hide (by have := hnew (w.alloc (Obj.cells #[Value.int .i64 R, Value.int .i64 C, Value.slice a n cap] 63)) (Obj.cells #[Value.int .i64 0, Value.int .i64 0, Value.slice none 0 0] 66); simpa only [World.size_alloc] using this)
  have HB := hide (bl_alloc (bl_alloc (bl_refl w) (Obj.cells #[Value.int .i64 R, Value.int .i64 C, Value.slice a n cap] 63)) (Obj.cells #[Value.int .i64 0, Value.int .i64 0, Value.slice none 0 0] 66))
  go_enter Try.func43, Try.ntmps43
  go_wp2_with fail
  generalize (w.alloc (Obj.cells #[Value.int .i64 R, Value.int .i64 C, Value.slice a n cap] 63)).alloc (Obj.cells #[Value.int .i64 0, Value.int .i64 0, Value.slice none 0 0] 66) = w1 at *
  have hz2 := hlt X2.out
  have hz4 := hlt X4.out
  refine (newGridB R C n w1 hR hC hn).mono ?_
  rintro e w2 ⟨g, rfl, ho, hb2⟩
  have HO := hide ho
  replace X2 := hide (hbel X2.out hb2 hz2)
  replace X4 := hide (hbel X4.out hb2 hz4)
  replace HB := hide (bl_trans HB.out hb2)
  have hs2 := hb2.size
  clear ho hb2
  have X5 : Hid ((w2.alloc (Obj.cells #[Value.int .i64 R, Value.int .i64 C, Value.slice (some ⟨g, 0, none⟩) n n] 66)).heap[w2.heap.size]? = some (.cells #[Value.int .i64 R, Value.int .i64 C, Value.slice (some ⟨g, 0, none⟩) n n] 66 (0, 0))) := hide (hnew _ _)
  have HO2 := hide (HO.out.below (bl_alloc (bl_refl w2) (Obj.cells #[Value.int .i64 R, Value.int .i64 C, Value.slice (some ⟨g, 0, none⟩) n n] 66)))
  replace HB := hide (bl_trans HB.out (bl_alloc (bl_refl w2) (Obj.cells #[Value.int .i64 R, Value.int .i64 C, Value.slice (some ⟨g, 0, none⟩) n n] 66)))
  replace X2 := hide (hnewer X2.out (Obj.cells #[Value.int .i64 R, Value.int .i64 C, Value.slice (some ⟨g, 0, none⟩) n n] 66))
  replace X4 := hide (hnewer X4.out (Obj.cells #[Value.int .i64 R, Value.int .i64 C, Value.slice (some ⟨g, 0, none⟩) n n] 66))
  have hg2 := HO.out.1
  have hg3 := HO.out.lt
  have k22 := (Lib.cell_of_heap X2.out 2).trans (show _ = some (Value.slice a n cap) from rfl)
  clear HO X2
  go_wp2_with fail
  generalize hb5 : w2.heap.size = b5 at *
  clear hb5
  generalize hwx : w2.alloc (Obj.cells #[Value.int .i64 R, Value.int .i64 C, Value.slice (some ⟨g, 0, none⟩) n n] 66) = w3 at *
  clear hwx
  go_wp2
  go_loopw [16] (fun i wr => ∃ (k : Nat) (A : Nat → Option Addr × Nat), k ≤ n ∧ i = .int .i64 (k : Int) ∧ Hid (BOwn wr w1.heap.size g n (fun j => if j < k then numE (xs.getD j 0) else (false, [])) A) ∧ Hid (wr.heap[w.heap.size + 1]? = some (.cells #[Value.int .i64 0, Value.int .i64 0, Value.slice none 0 0] 66 (0, 0))) ∧ Hid (wr.heap[b5]? = some (.cells #[Value.int .i64 R, Value.int .i64 C, Value.slice (some ⟨g, 0, none⟩) n n] 66 (0, 0))) ∧ Hid (Below w.heap.size w wr)) (fun i _ => n - (intOf i).toNat)
  case atStart => exact ⟨0, zA, Nat.zero_le _, rfl, hide (HO2.out.congr (fun j hj => by simp [zE])), X4, X5, HB⟩
  case round =>
    clear X4 X5 HO2 HB k22
    obtain ⟨k, A, hk, rfl, hm, X4, X5, hb⟩ := hrel
    by_cases hkn : k < n
    · have hkn' : (k : Int) < (n : Int) := by omega
      obtain ⟨ga, oa, rfl, hga, t0⟩ := VSeg.at (HS.out.below hb.out) hkn
      have hll := HL.out k hkn
      obtain ⟨z, ez⟩ : ∃ z, xs.getD k 0 = z := ⟨_, rfl⟩
      rw [ez] at t0 hll
      have EZ := hide ez
      have hgr := hm.out.lt
      clear ez
      go_wp2_with fail
      clear t0
      have h5ne : b5 ≠ g := by intro e; subst e; omega
      have KP : Hid (∀ w', Chg (fun q => q = g) wr w' → w'.cell? ⟨b5, 2, none⟩ = some (Value.slice (some ⟨g, 0, none⟩) n n)) := hide (fun w' h => (Lib.cell_of_heap (h.heap X5.out h5ne) 2).trans rfl)
      go_region_held3 (fun w' => w'.cell? ⟨b5, 2, none⟩ = some (Value.slice (some ⟨g, 0, none⟩) n n))
        (first
          | exact KP.out _ (Chg.refl _ _).drew
          | exact KP.out _ (Chg.refl _ _)
          | exact KP.out _ hcg
          | exact KP.out _ ((hcg.set rfl _).set rfl _))
        (first
          | (go_at_call 44; refine (fromI z _ hll.1 hll.2).mono ?_; rintro e w4 ⟨v3, rfl, ⟨b3, d3, rfl, ho3⟩, hb3'⟩; have hb3 : Below wr.heap.size wr w4 := (bl_refl wr).drew.trans hb3'; have hcg : Chg (fun q => q = g) wr w4 := Chg.below hb3; have hput := hide (hm.out.fresh hb3 hkn (sgn z) ho3); have hce := (hm.out.below hb3).cells hkn; obtain ⟨D0, D1, F0, F1⟩ := hce; clear ho3 hb3'))
      all_goals have HST := hide (((St.refl g w4).set (k * 2) (.bool (sgn z))).set (k * 2 + 1) (.slice b3 (lms z).length d3))
      all_goals have Y4 := hide (HST.out.heap (hbel X4.out hb3 (hlt X4.out)) (by omega))
      all_goals have Y5 := hide (HST.out.heap (hbel X5.out hb3 (hlt X5.out)) h5ne)
      all_goals have HB4 := hide (St.below (bl_trans hb.out hb3) HST.out (by omega))
      all_goals clear hb3 hcg D0 D1 F0 F1
      all_goals go_wp2
      all_goals refine ⟨⟨k + 1, _, by omega, by go_num, hide (hput.out.congr fun j hj => ?_), Y4, Y5, HB4⟩, by simp [intOf]; omega⟩
      all_goals (by_cases e : j = k)
      all_goals first
        | (subst e; rw [upd_same, if_pos (Nat.lt_succ_self _), EZ.out]; rfl)
        | (rw [upd_ne _ _ e]; by_cases e2 : j < k; (· rw [if_pos e2, if_pos (by omega)]); (· rw [if_neg e2, if_neg (by omega)]))
    · obtain rfl : k = n := by omega
      have k50 := (Lib.cell_of_heap X5.out 0).trans (show _ = some (Value.int .i64 R) from rfl)
      have k51 := (Lib.cell_of_heap X5.out 1).trans (show _ = some (Value.int .i64 C) from rfl)
      have k52 := (Lib.cell_of_heap X5.out 2).trans (show _ = some (Value.slice (some ⟨g, 0, none⟩) k k) from rfl)
      have k40 := (Lib.cell_of_heap X4.out 0).trans (show _ = some (Value.int .i64 0) from rfl)
      have k41 := (Lib.cell_of_heap X4.out 1).trans (show _ = some (Value.int .i64 0) from rfl)
      have k42 := (Lib.cell_of_heap X4.out 2).trans (show _ = some (Value.slice none 0 0) from rfl)
      have f40 := Lib.frozen_of_heap X4.out 0
      have f41 := Lib.frozen_of_heap X4.out 1
      have f42 := Lib.frozen_of_heap X4.out 2
      go_wp2
      refine bodyPost_ret (v := Value.agg #[Value.int .i64 R, Value.int .i64 C, Value.slice (some ⟨g, 0, none⟩) k k]) (by simp [results, Try.results43, go_sem, *]) rfl ?_
      have hst := (((St.refl (w.heap.size + 1) wr).set 0 (.int .i64 R)).set 1 (.int .i64 C)).set 2 (.slice (some ⟨g, 0, none⟩) k k)
      exact ⟨g, A, rfl, (BOwn.st (hm.out.congr (fun j hj => by rw [if_pos hj])) hst (by omega)).mono (by omega), St.below hb.out hst (by omega)⟩
end Go.Proofs.Yteljkjpcjjiidaa
