/- The program's grids: one turned. -/
import Derived.Test.YteljkjpcjjiidaaLy
import Derived.Test.YteljkjpcjjiidaaGr
import Derived.Deep.RegionHeld3
namespace Go.Proofs.Yteljkjpcjjiidaa
open Go.RowKit
set_option linter.unusedVariables false
set_option maxRecDepth 20000

/-- the places that are laid: of the first r rows, and the first c of row r -/
def part {α : Type} (R r c : Nat) (z : α) (f : Nat → α) (j : Nat) : α := if j % R < r ∨ (j % R = r ∧ j / R < c) then f j else z
theorem part_zero {α : Type} (R : Nat) (z : α) (f : Nat → α) (j : Nat) : part R 0 0 z f j = z := by
  unfold part; rw [if_neg (by rintro (h | ⟨_, h⟩) <;> exact absurd h (Nat.not_lt_zero _))]
theorem part_row {α : Type} {R C r : Nat} (z : α) (f : Nat → α) {j : Nat} (hj : j < C * R) : part R r C z f j = part R (r + 1) 0 z f j := by
  have h0 : 0 < R := by
    rcases Nat.eq_zero_or_pos R with h | h
    · subst h; simp at hj
    · exact h
  have h2 : j / R < C := (Nat.div_lt_iff_lt_mul h0).2 hj
  unfold part
  by_cases h : j % R < r ∨ (j % R = r ∧ j / R < C)
  · rw [if_pos h, if_pos (by rcases h with h | h <;> exact .inl (by omega))]
  · rw [if_neg h, if_neg]
    rintro (h3 | ⟨_, h3⟩)
    · refine h ?_
      by_cases e : j % R = r
      · exact .inr ⟨e, h2⟩
      · exact .inl (by omega)
    · exact absurd h3 (Nat.not_lt_zero _)
theorem part_all {α : Type} {R C : Nat} (z : α) (f : Nat → α) {j : Nat} (hj : j < C * R) : part R R 0 z f j = f j := by
  have h0 : 0 < R := by
    rcases Nat.eq_zero_or_pos R with h | h
    · subst h; simp at hj
    · exact h
  unfold part; rw [if_pos (.inl (Nat.mod_lt _ h0))]
theorem part_next {α : Type} {R r c : Nat} (hr : r < R) (z : α) (f : Nat → α) (j : Nat) : upd (part R r c z f) (c * R + r) (f (c * R + r)) j = part R r (c + 1) z f j := by
  have h0 : 0 < R := by omega
  have e1 : (c * R + r) % R = r := by rw [Nat.add_comm, Nat.add_mul_mod_self_right]; exact Nat.mod_eq_of_lt hr
  have e2 : (c * R + r) / R = c := by rw [Nat.add_comm, Nat.add_mul_div_right _ _ h0, Nat.div_eq_of_lt hr, Nat.zero_add]
  by_cases e : j = c * R + r
  · subst e
    rw [upd_same]; unfold part; rw [if_pos (.inr ⟨e1, by rw [e2]; exact Nat.lt_succ_self _⟩)]
  · rw [upd_ne _ _ e]
    unfold part
    by_cases h : j % R < r ∨ (j % R = r ∧ j / R < c)
    · rw [if_pos h, if_pos (by rcases h with h | h; exact .inl h; exact .inr ⟨h.1, Nat.lt_succ_of_lt h.2⟩)]
    · rw [if_neg h, if_neg]
      rintro (h3 | ⟨h3, h4⟩)
      · exact h (.inl h3)
      · refine h (.inr ⟨h3, ?_⟩)
        rcases Nat.lt_or_ge (j / R) c with h5 | h5
        · exact h5
        · exfalso
          have h6 : j / R = c := Nat.le_antisymm (Nat.le_of_lt_succ h4) h5
          have h7 := Nat.div_add_mod j R
          rw [h6, h3, Nat.mul_comm] at h7
          exact e h7.symm

set_option maxHeartbeats 4000000 in
theorem turnedB (R C : Nat) (a : Option Addr) (n cap : Nat) (X : Nat → Prop) (E : Nat → Bool × List Nat) (A : Nat → Option Addr × Nat) (w : World) (hs : BSegA w X a n cap E A) (hR : R ≤ 8) (hC : C ≤ 8) (hn : n = R * C) :
    Calls Try.prog 55 #[Value.agg #[Value.int .i64 (R : Int), Value.int .i64 (C : Int), Value.slice a n cap]] w fun e w' => ∃ g, e = .returned (Value.agg #[Value.int .i64 (C : Int), Value.int .i64 (R : Int), Value.slice (some ⟨g, 0, none⟩) (C * R) (C * R)]) ∧ BLay w' w.heap.size g (C * R) (tr R C E) (tr R C A) ∧ Below w.heap.size w w' := by
  have HS := hide hs
  have hcap := hs.1
  have hcm := hs.2.1
  have hsa : n = 0 ∨ ∃ g o, a = some ⟨g, o, none⟩ := by
    rcases hs.2.2 with h | ⟨g, o, h, _⟩
    · exact .inl h
    · exact .inr ⟨g, o, h⟩
  have HSA := hide hsa
  have HN := hide hn
  have hnI : (n : Int) = (R : Int) * (C : Int) := by rw [hn]; push_cast; rfl
  obtain ⟨M, hM⟩ : ∃ M, C * R = M := ⟨_, rfl⟩
  have hMI : (M : Int) = (C : Int) * (R : Int) := by rw [← hM]; push_cast; rfl
  have hM64 : M ≤ 64 := by rw [← hM]; exact Nat.mul_le_mul hC hR
  have HM := hide hM
  have HMI := hide hMI
  have HNI := hide hnI
  rw [hM]
  clear hs hn hM hMI hnI hsa
  have X1 : Hid (((w.alloc (Obj.cells #[Value.int .i64 (R : Int), Value.int .i64 (C : Int), Value.slice a n cap] 66)).alloc (Obj.cells #[Value.int .i64 0, Value.int .i64 0, Value.slice none 0 0] 66)).heap[w.heap.size]? = some (.cells #[Value.int .i64 (R : Int), Value.int .i64 (C : Int), Value.slice a n cap] 66 (0, 0))) := hide (hnewer (hnew _ _) _)
  have X2 : Hid (((w.alloc (Obj.cells #[Value.int .i64 (R : Int), Value.int .i64 (C : Int), Value.slice a n cap] 66)).alloc (Obj.cells #[Value.int .i64 0, Value.int .i64 0, Value.slice none 0 0] 66)).heap[w.heap.size + 1]? = some (.cells #[Value.int .i64 0, Value.int .i64 0, Value.slice none 0 0] 66 (0, 0))) := hide (by have := hnew (w.alloc (Obj.cells #[Value.int .i64 (R : Int), Value.int .i64 (C : Int), Value.slice a n cap] 66)) (Obj.cells #[Value.int .i64 0, Value.int .i64 0, Value.slice none 0 0] 66); simpa only [World.size_alloc] using this)
  have HB := hide (bl_alloc (bl_alloc (bl_refl w) (Obj.cells #[Value.int .i64 (R : Int), Value.int .i64 (C : Int), Value.slice a n cap] 66)) (Obj.cells #[Value.int .i64 0, Value.int .i64 0, Value.slice none 0 0] 66))
  go_enter Try.func55, Try.ntmps55
  go_wp2_with fail
  generalize (w.alloc (Obj.cells #[Value.int .i64 (R : Int), Value.int .i64 (C : Int), Value.slice a n cap] 66)).alloc (Obj.cells #[Value.int .i64 0, Value.int .i64 0, Value.slice none 0 0] 66) = w1 at *
  have hz1 := hlt X1.out
  have hz2 := hlt X2.out
  refine (newGridB (C : Int) (R : Int) M w1 ⟨by omega, by omega⟩ ⟨by omega, by omega⟩ HMI.out).mono ?_
  rintro e w2 ⟨g, rfl, ho, hb2⟩
  have HO := hide ho
  replace X1 := hide (hbel X1.out hb2 hz1)
  replace X2 := hide (hbel X2.out hb2 hz2)
  replace HB := hide (bl_trans HB.out hb2)
  have hs2 := hb2.size
  clear ho hb2
  have X3 : Hid ((w2.alloc (Obj.cells #[Value.int .i64 (C : Int), Value.int .i64 (R : Int), Value.slice (some ⟨g, 0, none⟩) M M] 66)).heap[w2.heap.size]? = some (.cells #[Value.int .i64 (C : Int), Value.int .i64 (R : Int), Value.slice (some ⟨g, 0, none⟩) M M] 66 (0, 0))) := hide (hnew _ _)
  have HO2 := hide (HO.out.below (bl_alloc (bl_refl w2) (Obj.cells #[Value.int .i64 (C : Int), Value.int .i64 (R : Int), Value.slice (some ⟨g, 0, none⟩) M M] 66)))
  replace HB := hide (bl_trans HB.out (bl_alloc (bl_refl w2) (Obj.cells #[Value.int .i64 (C : Int), Value.int .i64 (R : Int), Value.slice (some ⟨g, 0, none⟩) M M] 66)))
  replace X1 := hide (hnewer X1.out (Obj.cells #[Value.int .i64 (C : Int), Value.int .i64 (R : Int), Value.slice (some ⟨g, 0, none⟩) M M] 66))
  replace X2 := hide (hnewer X2.out (Obj.cells #[Value.int .i64 (C : Int), Value.int .i64 (R : Int), Value.slice (some ⟨g, 0, none⟩) M M] 66))
  have hg2 := HO.out.1
  have hg3 := HO.out.lt
  clear HO
  have k10 := (Lib.cell_of_heap X1.out 0).trans (show _ = some (Value.int .i64 (R : Int)) from rfl)
  go_wp2_with fail
  generalize hb3 : w2.heap.size = b3 at *
  clear hb3
  generalize hwx : w2.alloc (Obj.cells #[Value.int .i64 (C : Int), Value.int .i64 (R : Int), Value.slice (some ⟨g, 0, none⟩) M M] 66) = w3 at *
  clear hwx
  go_wp2
  clear k10
  go_loopw [14] (fun i wr => ∃ r : Nat, r ≤ R ∧ i = .int .i64 (r : Int) ∧ Hid (BLay wr w1.heap.size g M (part R r 0 (false, []) (tr R C E)) (part R r 0 (none, 0) (tr R C A))) ∧ Hid (wr.heap[w.heap.size]? = some (.cells #[Value.int .i64 (R : Int), Value.int .i64 (C : Int), Value.slice a n cap] 66 (0, 0))) ∧ Hid (wr.heap[w.heap.size + 1]? = some (.cells #[Value.int .i64 0, Value.int .i64 0, Value.slice none 0 0] 66 (0, 0))) ∧ Hid (wr.heap[b3]? = some (.cells #[Value.int .i64 (C : Int), Value.int .i64 (R : Int), Value.slice (some ⟨g, 0, none⟩) M M] 66 (0, 0))) ∧ Hid (Below w.heap.size w wr)) (fun i _ => R - (intOf i).toNat)
  case atStart => exact ⟨0, Nat.zero_le _, rfl, hide (HO2.out.lay.congr (fun j hj => ⟨(part_zero _ _ _ _).symm, (part_zero _ _ _ _).symm⟩)), X1, X2, X3, HB⟩
  case round =>
    clear X1 X2 X3 HO2 HB
    obtain ⟨r, hr, rfl, hm, X1, X2, X3, hb⟩ := hrel
    by_cases hrn : r < R
    · have hrn' : (r : Int) < (R : Int) := by omega
      have k10 := (Lib.cell_of_heap X1.out 0).trans (show _ = some (Value.int .i64 (R : Int)) from rfl)
      have k11 := (Lib.cell_of_heap X1.out 1).trans (show _ = some (Value.int .i64 (C : Int)) from rfl)
      have k12 := (Lib.cell_of_heap X1.out 2).trans (show _ = some (Value.slice a n cap) from rfl)
      go_wp2_with fail
      refine (rowG (R : Int) C n cap r a wr ⟨by omega, by omega⟩ hC HNI.out hrn' hcap hcm HSA.out).mono ?_
      rintro e w4 ⟨a', rfl, ha, hb4⟩
      have HA := hide ha
      have hz1 := hlt X1.out
      have hz2 := hlt X2.out
      have hz3 := hlt X3.out
      replace hm := hide (hm.out.below hb4)
      replace X1 := hide (hbel X1.out hb4 hz1)
      replace X2 := hide (hbel X2.out hb4 hz2)
      replace X3 := hide (hbel X3.out hb4 hz3)
      replace hb := hide (bl_trans hb.out hb4)
      clear ha hb4 k10 k11 k12
      go_wp2
      go_loopw [21] (fun i wr => ∃ c : Nat, c ≤ C ∧ i = .int .i64 (c : Int) ∧ Hid (BLay wr w1.heap.size g M (part R r c (false, []) (tr R C E)) (part R r c (none, 0) (tr R C A))) ∧ Hid (wr.heap[w.heap.size]? = some (.cells #[Value.int .i64 (R : Int), Value.int .i64 (C : Int), Value.slice a n cap] 66 (0, 0))) ∧ Hid (wr.heap[w.heap.size + 1]? = some (.cells #[Value.int .i64 0, Value.int .i64 0, Value.slice none 0 0] 66 (0, 0))) ∧ Hid (wr.heap[b3]? = some (.cells #[Value.int .i64 (C : Int), Value.int .i64 (R : Int), Value.slice (some ⟨g, 0, none⟩) M M] 66 (0, 0))) ∧ Hid (Below w.heap.size w wr)) (fun i _ => C - (intOf i).toNat)
      case atStart => exact ⟨0, Nat.zero_le _, rfl, hm, X1, X2, X3, hb⟩
      case round =>
        clear hm X1 X2 X3 hb hz1 hz2 hz3
        rename_i wq
        obtain ⟨c, hc, rfl, hm, X1, X2, X3, hb⟩ := hrel
        by_cases hcn : c < C
        · have hcn' : (c : Int) < (C : Int) := by omega
          have hjn : r * C + c < n := by
            have := HN.out
            have h2 : r * C + C ≤ R * C := by rw [← Nat.succ_mul]; exact Nat.mul_le_mul_right C hrn
            omega
          have hs3 := (HS.out.below hb.out).2.2
          rcases hs3 with h0 | ⟨ga, oa, rfl, hga, _, hcells⟩
          · omega
          obtain ⟨t0, t1, _, _⟩ := hcells _ hjn
          have hq1 : oa + (r * C + c) * 2 = oa + r * C * 2 + c * 2 := by omega
          rw [hq1] at t0 t1
          have hEt : Hid (tr R C E (c * R + r) = E (r * C + c)) := hide (by unfold tr; rw [trI_at hrn])
          have hAt : Hid (tr R C A (c * R + r) = A (r * C + c)) := hide (by unfold tr; rw [trI_at hrn])
          obtain ⟨⟨b1, xs⟩, ek⟩ : ∃ p, E (r * C + c) = p := ⟨_, rfl⟩
          obtain ⟨⟨a1, c1⟩, ea⟩ : ∃ p, A (r * C + c) = p := ⟨_, rfl⟩
          rw [ek] at t0 t1 hEt
          rw [ea] at t1 hAt
          dsimp only at t0 t1
          obtain rfl := (HA.out ga oa rfl) (by omega)
          have hin : c * R + r < M := by
            have := HM.out
            have h2 : c * R + R ≤ C * R := by rw [← Nat.succ_mul]; exact Nat.mul_le_mul_right R hcn
            omega
          have hm2 := hide (hm.out.below (bl_alloc (bl_refl wr) (Obj.cells #[Value.bool b1, Value.slice a1 xs.length c1] 54)))
          have X6 : Hid ((wr.alloc (Obj.cells #[Value.bool b1, Value.slice a1 xs.length c1] 54)).heap[wr.heap.size]? = some (.cells #[Value.bool b1, Value.slice a1 xs.length c1] 54 (0, 0))) := hide (hnew _ _)
          replace X1 := hide (hnewer X1.out (Obj.cells #[Value.bool b1, Value.slice a1 xs.length c1] 54))
          replace X2 := hide (hnewer X2.out (Obj.cells #[Value.bool b1, Value.slice a1 xs.length c1] 54))
          replace X3 := hide (hnewer X3.out (Obj.cells #[Value.bool b1, Value.slice a1 xs.length c1] 54))
          have hgr := hm.out.lt
          replace hb := hide (bl_trans hb.out (bl_alloc (bl_refl wr) (Obj.cells #[Value.bool b1, Value.slice a1 xs.length c1] 54)))
          clear ek ea hm hcells hq1
          go_wp2_with fail
          generalize hwx : wr.alloc (Obj.cells #[Value.bool b1, Value.slice a1 xs.length c1] 54) = wx at *
          clear hwx t0 t1
          have h3ne : b3 ≠ g := by intro e; subst e; omega
          have h6ne : wr.heap.size ≠ g := by omega
          have KP : Hid (∀ w', Chg (fun q => q = g) wx w' → (w'.cell? ⟨b3, 0, none⟩ = some (Value.int .i64 (C : Int)) ∧ w'.cell? ⟨b3, 1, none⟩ = some (Value.int .i64 (R : Int)) ∧ w'.cell? ⟨b3, 2, none⟩ = some (Value.slice (some ⟨g, 0, none⟩) M M) ∧ w'.cell? ⟨wr.heap.size, 0, none⟩ = some (Value.bool b1) ∧ w'.cell? ⟨wr.heap.size, 1, none⟩ = some (Value.slice a1 xs.length c1))) := hide (fun w' h => ⟨(Lib.cell_of_heap (h.heap X3.out h3ne) 0).trans rfl, (Lib.cell_of_heap (h.heap X3.out h3ne) 1).trans rfl, (Lib.cell_of_heap (h.heap X3.out h3ne) 2).trans rfl, (Lib.cell_of_heap (h.heap X6.out h6ne) 0).trans rfl, (Lib.cell_of_heap (h.heap X6.out h6ne) 1).trans rfl⟩)
          have hqq : (c * R + r) * 2 = c * R * 2 + r * 2 := by omega
          go_region_held3 (fun w' => w'.cell? ⟨b3, 0, none⟩ = some (Value.int .i64 (C : Int)) ∧ w'.cell? ⟨b3, 1, none⟩ = some (Value.int .i64 (R : Int)) ∧ w'.cell? ⟨b3, 2, none⟩ = some (Value.slice (some ⟨g, 0, none⟩) M M) ∧ w'.cell? ⟨wr.heap.size, 0, none⟩ = some (Value.bool b1) ∧ w'.cell? ⟨wr.heap.size, 1, none⟩ = some (Value.slice a1 xs.length c1))
            (first
              | exact KP.out _ (Chg.refl _ _).drew
              | exact KP.out _ hcg
              | exact KP.out _ ((hcg.set rfl _).set rfl _))
            (first
              | (go_at_call 79; refine (rowB0 (C : Int) R g M M c _ ⟨by omega, by omega⟩ hR HMI.out hcn' (Nat.le_refl _) (by omega)).mono ?_; rintro e w5 ⟨a5, rfl, ha5, hb5'⟩; have hb5 : Below wx.heap.size wx w5 := (bl_refl wx).drew.trans hb5'; have hcg : Chg (fun q => q = g) wx w5 := Chg.below hb5; have hput := hide ((hm2.out.below hb5).put hin b1 xs a1 c1); have hce := (hm2.out.below hb5).cells hin; rw [hqq] at hce hput; obtain ⟨D0, D1, F0, F1⟩ := hce; obtain rfl := ha5 (by omega); clear ha5 hb5'))
          all_goals have HST := hide (((St.refl g w5).set (c * R * 2 + r * 2) (.bool b1)).set (c * R * 2 + r * 2 + 1) (.slice a1 xs.length c1))
          all_goals have Y1 := hide (HST.out.heap (hbel X1.out hb5 (hlt X1.out)) (by omega))
          all_goals have Y2 := hide (HST.out.heap (hbel X2.out hb5 (hlt X2.out)) (by omega))
          all_goals have Y3 := hide (HST.out.heap (hbel X3.out hb5 (hlt X3.out)) h3ne)
          all_goals have HB5 := hide (St.below (bl_trans hb.out hb5) HST.out (by omega))
          all_goals clear hb5 hcg D0 D1 F0 F1
          all_goals go_wp2
          all_goals exact ⟨⟨c + 1, by omega, by go_num, hide (hput.out.congr fun j hj => ⟨by rw [← part_next hrn, hEt.out], by rw [← part_next hrn, hAt.out]⟩), Y1, Y2, Y3, HB5⟩, by simp [intOf]; omega⟩
        · obtain rfl : c = C := by omega
          go_wp2
          exact ⟨⟨r + 1, by omega, by go_num, hide (hm.out.congr fun j hj => by rw [← HM.out] at hj; exact ⟨part_row _ _ hj, part_row _ _ hj⟩), X1, X2, X3, hb⟩, by simp [intOf]; omega⟩
    · obtain rfl : r = R := by omega
      have k30 := (Lib.cell_of_heap X3.out 0).trans (show _ = some (Value.int .i64 (C : Int)) from rfl)
      have k31 := (Lib.cell_of_heap X3.out 1).trans (show _ = some (Value.int .i64 (r : Int)) from rfl)
      have k32 := (Lib.cell_of_heap X3.out 2).trans (show _ = some (Value.slice (some ⟨g, 0, none⟩) M M) from rfl)
      have k20 := (Lib.cell_of_heap X2.out 0).trans (show _ = some (Value.int .i64 0) from rfl)
      have k21 := (Lib.cell_of_heap X2.out 1).trans (show _ = some (Value.int .i64 0) from rfl)
      have k22 := (Lib.cell_of_heap X2.out 2).trans (show _ = some (Value.slice none 0 0) from rfl)
      have f20 := Lib.frozen_of_heap X2.out 0
      have f21 := Lib.frozen_of_heap X2.out 1
      have f22 := Lib.frozen_of_heap X2.out 2
      go_wp2
      refine bodyPost_ret (v := Value.agg #[Value.int .i64 (C : Int), Value.int .i64 (r : Int), Value.slice (some ⟨g, 0, none⟩) M M]) (by simp [results, Try.results55, go_sem, *]) rfl ?_
      have hst := (((St.refl (w.heap.size + 1) wr).set 0 (.int .i64 (C : Int))).set 1 (.int .i64 (r : Int))).set 2 (.slice (some ⟨g, 0, none⟩) M M)
      refine ⟨g, rfl, ?_, St.below hb.out hst (by omega)⟩
      have h5 := hm.out.congr (fun j hj => (by rw [← HM.out] at hj; exact ⟨part_all _ _ hj, part_all _ _ hj⟩ : _ = tr r C E j ∧ _ = tr r C A j))
      exact BLay.st h5 hst (by omega)
end Go.Proofs.Yteljkjpcjjiidaa
