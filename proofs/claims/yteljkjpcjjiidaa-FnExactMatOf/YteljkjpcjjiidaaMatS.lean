/- The specification's matrix of rows. -/
import Derived.Test.YteljkjpcjjiidaaOneS
import Derived.Deep.RegionHeld3
import Derived.Deep.AppendLies
import Derived.Deep.RegionLaw
namespace Go.Proofs.Yteljkjpcjjiidaa
open Go.RowKit
set_option linter.unusedVariables false
set_option maxRecDepth 20000

theorem size_drew' (w : World) : w.drew.heap.size = w.heap.size := rfl
/-- the entries of rows, one behind the other -/
def flat (c : Nat) (Z : Nat → Nat → Int) (i : Nat) : Bool × List Nat := numE (Z (i / c) (i % c))
theorem flat_at (c : Nat) (Z : Nat → Nat → Int) (r j : Nat) (hj : j < c) : flat c Z (r * c + j) = numE (Z r j) := by
  unfold flat
  have h0 : 0 < c := by omega
  rw [Nat.mul_comm, Nat.mul_add_div h0, Nat.div_eq_of_lt hj, Nat.mul_add_mod, Nat.mod_eq_of_lt hj, Nat.add_zero]

set_option maxHeartbeats 8000000 in
theorem matS (a : Option Addr) (n cap c : Nat) (X : Nat → Prop) (Z : Nat → Nat → Int) (w : World) (hs : RSegs w X a n cap c (fun r j => numE (Z r j))) (hn : n ≤ 8) (hc8 : c ≤ 8) (hl : ∀ r j, r < n → j < c → (lms (Z r j)).length ≤ 1048576) :
    Calls Try.prog 49 #[.slice a n cap, .int .i64 (c : Int)] w fun e w' => ∃ a' p, e = .returned (.agg #[.int .i64 (n : Int), .int .i64 (c : Int), .slice a' (n * c) p]) ∧ BSeg w' (fun b => w.heap.size ≤ b ∧ b < w'.heap.size) a' (n * c) p (flat c Z) ∧ Below w.heap.size w w' := by
  obtain ⟨i0, hi, hz0, hz1, hz2⟩ := info_parts Try.infoBg
  have hcap := hs.1
  have hcm := hs.2.1
  have HS := hide hs
  have HL := hide hl
  clear hs hl
  go_enter Try.func49, Try.ntmps49
  go_wp2
  go_loopw [6] (fun i wr => ∃ (r : Nat) (v : Value) (vs : List Value), r ≤ n ∧ i = .int .i64 (r : Int) ∧ Hid (BRow wr (w.heap.size + 2) v (r * c) (flat c Z) vs) ∧ Hid (wr.heap[(w.heap.size + 1)]? = some (.cells #[Value.int .i64 (n : Int), Value.int .i64 (c : Int), v] 29 (0, 0))) ∧ Hid (wr.heap[w.heap.size]? = some (.cells #[Value.int .i64 0, Value.int .i64 0, Value.slice none 0 0] 29 (0, 0))) ∧ Hid (Below w.heap.size w wr)) (fun i _ => n - (intOf i).toNat)
  case atStart =>
    refine ⟨0, .slice none 0 0, [], Nat.zero_le _, rfl, ?_, hide ?_, hide ?_, hide (bl_alloc (bl_alloc (bl_refl w) _) _)⟩
    · rw [Nat.zero_mul]; exact hide (BRow.nil _ _ _)
    · have := hnew (w.alloc (Obj.cells #[Value.int .i64 0, Value.int .i64 0, Value.slice none 0 0] 29)) (Obj.cells #[Value.int .i64 (n : Int), Value.int .i64 (c : Int), Value.slice none 0 0] 29)
      simpa only [World.size_alloc] using this
    · exact hnewer (hnew _ _) _
  case round =>
    obtain ⟨r, v, vs, hr, rfl, hm, X5, X4, hb⟩ := hrel
    by_cases hrn : r < n
    · have hrn' : (r : Int) < (n : Int) := by omega
      have hsz := hb.out.size
      go_wp2
      go_loopw [7] (fun i wr => ∃ (j : Nat) (v : Value) (vs : List Value), j ≤ c ∧ i = .int .i64 (j : Int) ∧ Hid (BRow wr (w.heap.size + 2) v (r * c + j) (flat c Z) vs) ∧ Hid (wr.heap[(w.heap.size + 1)]? = some (.cells #[Value.int .i64 (n : Int), Value.int .i64 (c : Int), v] 29 (0, 0))) ∧ Hid (wr.heap[w.heap.size]? = some (.cells #[Value.int .i64 0, Value.int .i64 0, Value.slice none 0 0] 29 (0, 0))) ∧ Hid (Below w.heap.size w wr)) (fun i _ => c - (intOf i).toNat)
      case atStart => exact ⟨0, v, vs, Nat.zero_le _, rfl, by rw [Nat.add_zero]; exact hm, X5, X4, hb⟩
      case round =>
        clear hm X5 X4 hb hsz
        rename_i ws
        obtain ⟨j, v, vs, hj, rfl, hm, X5, X4, hb⟩ := hrel
        have hsz := hb.out.size
        have h5 := hlt X5.out
        have k52 := (Lib.cell_of_heap X5.out 2).trans (show _ = some v from rfl)
        have f52 := Lib.frozen_of_heap X5.out 2
        by_cases hjc : j < c
        · have hjc' : (j : Int) < (c : Int) := by omega
          obtain ⟨g, o, rfl, hg, b, p, q1, hbs⟩ := HS.out.at hrn
          have hpcap := hbs.1
          have hpm := hbs.2.1
          obtain ⟨g2, o2, rfl, hg2, a2, c2, q2, q3, sg⟩ := hbs.at hjc
          have hzl := HL.out r j hrn hjc
          have hcgb := hide (Chg.below (P := fun k => k = (w.heap.size + 1) ∨ v.ownBlock = some k) hb.out)
          have hfl := flat_at c Z r j hjc
          obtain ⟨z, hz⟩ : ∃ z, Z r j = z := ⟨_, rfl⟩
          rw [hz] at q2 q3 sg hzl hfl
          have HFL := hide hfl
          simp only [numE] at q2 q3 sg
          have HSG := hide (sg.below hb.out)
          have hkk : r * c + j ≤ 64 := by
            have : r * c ≤ 7 * 8 := Nat.mul_le_mul (by omega) hc8
            omega
          have hob : Hid (∀ q, v.ownBlock = some q → w.heap.size + 2 ≤ q ∧ q < wr.heap.size) := hide (fun q e => hm.out.1.lt q e)
          have hb2s : w.heap.size + 2 ≤ wr.drew.heap.size := by rw [size_drew']; omega
          have hob2 : ∀ q, v.ownBlock = some q → q < wr.drew.heap.size := fun q e => (hob.out q e).2
          have KP : Hid (∀ w', Chg (fun k => k = (w.heap.size + 1) ∨ v.ownBlock = some k) wr w' → (w'.cell? ⟨g, o + r, none⟩ = some (Value.slice (some ⟨g2, o2, none⟩) c p) ∧ w'.cell? ⟨g2, o2 + j * 2, none⟩ = some (Value.bool (sgn z)) ∧ w'.cell? ⟨g2, o2 + j * 2 + 1, none⟩ = some (Value.slice a2 (lms z).length c2))) := hide (fun w' h =>
            have h1 : ∀ q, q < w.heap.size → ¬ (q = (w.heap.size + 1) ∨ v.ownBlock = some q) := fun q hq e => by
              rcases e with e | e
              · omega
              · have := (hob.out q e).1; omega
            have hh := hcgb.out.trans h
            ⟨(hh.cell (p := ⟨g, o + r, none⟩) hg (h1 g hg)).trans q1, (hh.cell (p := ⟨g2, o2 + j * 2, none⟩) hg2 (h1 g2 hg2)).trans q2, (hh.cell (p := ⟨g2, o2 + j * 2 + 1, none⟩) hg2 (h1 g2 hg2)).trans q3⟩)
          clear q1 q2 q3 sg
          obtain ⟨q1, q2, q3⟩ := KP.out wr (Chg.refl _ _)
          go_wp2_with fail
          go_region_law
            (first
              | (go_simp; go_at_call 72; refine (makeS (sgn z) a2 _ c2 (lms z) _ (HSG.out.below (bl_refl wr).drew) hzl).mono ?_; rintro e w3 ⟨x, rfl, hnw, hb3'⟩; rw [nat_lms, mk_self] at hnw; obtain ⟨b3, d3, rfl, ho3⟩ := hnw; have hb3 : Below wr.heap.size wr w3 := (bl_refl wr).drew.trans hb3'; have hq3 := KP.out _ (Chg.below hb3); obtain ⟨q1', q2', q3'⟩ := hq3; have hcg : Chg (fun k => k = (w.heap.size + 1) ∨ v.ownBlock = some k) wr w3 := Chg.below hb3; have k52' := (Lib.cell_of_heap (hbel X5.out hb3 h5) 2).trans (show _ = some v from rfl); have HM3 := hide (hm.out.below hb3); have HO3 := hide ho3; have X53 := hide (hbel X5.out hb3 h5); have HBO := hide (fresh_box ho3 hb2s hob2 (Obj.cells #[Value.bool (sgn z), Value.slice b3 (lms z).length d3] 54)); have hz3 := hb3.size; have k52a := (Lib.cell_of_heap (hnewer (hbel X5.out hb3 h5) (Obj.cells #[Value.bool (sgn z), Value.slice b3 (lms z).length d3] 54)) 2).trans (show _ = some v from rfl); have HNW := hide (cell_two_new w3 (Value.bool (sgn z)) (Value.slice b3 (lms z).length d3) 54); clear ho3 hb3')
              | (refine step_append_lies _ (by rfl) _ _ 27 (by rfl) (w.heap.size + 2) 54 i0 (.agg #[Value.bool false, Value.slice none 0 0]) 2 32 Try.underlying27 hi hz0 hz1 hz2 rfl (by decide) v (r * c + j) vs (by rfl) (HM3.out.below (bl_alloc (bl_refl w3) _)).1 ⟨w3.heap.size, 0, none⟩ 1 1 [Value.bool (sgn z), Value.slice b3 (lms z).length d3] (by rfl) (by rfl) HNW.out (by intro u hu; simp at hu; rcases hu with rfl | rfl <;> rfl) (by omega) (by unfold maxLen; omega) (by omega) (by simp only [World.size_alloc]; omega) (w3.heap.size + 1) (by simp) ?_; intro g7 cap7 w7 hown7 hgrow7 hat7 hlt7; have hcg7 : Chg (fun k => k = (w.heap.size + 1) ∨ v.ownBlock = some k) wr w7 := (hcg.alloc _).trans (Chg.grown hgrow7 (fun k e => .inr e)); have X57 := hide ((hgrow7.block (w.heap.size + 1) (by have := hlt X53.out; simp only [World.size_alloc]; omega) (fun e => by have := (hob.out _ e.symm).1; omega)).trans (hnewer X53.out _)); have X47 := hide ((hgrow7.block w.heap.size (by have := hlt X53.out; simp only [World.size_alloc]; omega) (fun e => by have := (hob.out _ e.symm).1; omega)).trans (hnewer (hbel X4.out hb3 (by omega)) _)); have HB7 := hide ((bl_alloc (bl_trans hb.out hb3) (Obj.cells #[Value.bool (sgn z), Value.slice b3 (lms z).length d3] 54)).grown hgrow7 (bl_alloc (bl_trans hb.out hb3) (Obj.cells #[Value.bool (sgn z), Value.slice b3 (lms z).length d3] 54)).size (fun q e => by have := (hob.out q e).1; omega)); have k57 := (Lib.cell_of_heap X57.out 2).trans (show _ = some v from rfl); have f57 := Lib.frozen_of_heap X57.out 2; have HBR := hide (BRow.snoc (HM3.out.below (bl_alloc (bl_refl w3) _)) (b := sgn z) (HO3.out.seg.below (bl_alloc (bl_refl w3) _)) HBO.out hown7 hgrow7 (hat7.imp (fun h => h.symm) (fun h => by rw [h]; rfl)) (by simp)); have HX7 := hide hgrow7; clear hown7 hgrow7 hat7))
          all_goals go_wp2
          all_goals have HST := (St.refl (w.heap.size + 1) w7).set 2 (Value.slice (some ⟨g7, 0, none⟩) (r * c + j + 1) cap7)
          all_goals refine ⟨⟨j + 1, .slice (some ⟨g7, 0, none⟩) (r * c + j + 1) cap7, vs ++ [Value.bool (sgn z), Value.slice b3 (lms z).length d3], by omega, by go_num, hide ?_, hide ?_, hide (HST.heap X47.out (by omega)), hide (St.below HB7.out HST (by omega))⟩, by simp [intOf]; omega⟩
          all_goals first
            | exact hset X57.out 2 _
            | (refine (HBR.out.chg (P := fun q => q = (w.heap.size + 1)) (Chg.grown HST.grown (fun q e => by cases e; rfl)) (fun q hq e => by omega)).congr (fun i hi => ?_)
               by_cases e : i = r * c + j
               · subst e; rw [upd_same, HFL.out]; rfl
               · rw [upd_ne _ _ e])
        · obtain rfl : j = c := by omega
          go_wp2
          refine ⟨⟨r + 1, v, vs, by omega, by go_num, ?_, X5, X4, hb⟩, by simp [intOf]; omega⟩
          rw [Nat.succ_mul]; exact hm
    · obtain rfl : r = n := by omega
      have h5 := hlt X5.out
      have hsz := hb.out.size
      obtain ⟨a', p, rfl, hsg⟩ := hm.out.seg
      have HSG := hide hsg
      clear hsg
      have k50 := (Lib.cell_of_heap X5.out 0).trans (show _ = some (Value.int .i64 (r : Int)) from rfl)
      have k51 := (Lib.cell_of_heap X5.out 1).trans (show _ = some (Value.int .i64 (c : Int)) from rfl)
      have k52 := (Lib.cell_of_heap X5.out 2).trans (show _ = some (Value.slice a' (r * c) p) from rfl)
      have k40 := (Lib.cell_of_heap X4.out 0).trans (show _ = some (Value.int .i64 0) from rfl)
      have k41 := (Lib.cell_of_heap X4.out 1).trans (show _ = some (Value.int .i64 0) from rfl)
      have k42 := (Lib.cell_of_heap X4.out 2).trans (show _ = some (Value.slice none 0 0) from rfl)
      have f40 := Lib.frozen_of_heap X4.out 0
      have f41 := Lib.frozen_of_heap X4.out 1
      have f42 := Lib.frozen_of_heap X4.out 2
      clear hm
      go_wp2
      refine bodyPost_ret (v := .agg #[.int .i64 (r : Int), .int .i64 (c : Int), .slice a' (r * c) p]) (by simp [results, Try.results49, go_sem, *]) rfl ?_
      have hst := (((St.refl w.heap.size wr).set 0 (.int .i64 (r : Int))).set 1 (.int .i64 (c : Int))).set 2 (.slice a' (r * c) p)
      exact ⟨a', p, rfl, (HSG.out.chg (P := fun k => k = w.heap.size) (Chg.grown hst.grown (fun k e => by cases e; rfl)) (fun b hb e => by omega)).mono (fun b hb => by have := hst.size; omega), St.below hb.out hst (Nat.le_refl _)⟩
end Go.Proofs.Yteljkjpcjjiidaa
