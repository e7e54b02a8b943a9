/- The specification's MatOf. -/
import Derived.Test.YteljkjpcjjiidaaMoI
import Derived.Test.YteljkjpcjjiidaaMatS
import Derived.BigQuiet
namespace Go.Proofs.Yteljkjpcjjiidaa
open Go.RowKit
set_option linter.unusedVariables false
set_option maxRecDepth 20000

set_option maxHeartbeats 2000000 in
theorem moS0 (a : Option Addr) (cap : Nat) (w : World) :
    Calls Try.prog 16 #[.slice a 0 cap] w fun e w' => e = .returned (.tuple #[.agg #[.int .i64 0, .int .i64 0, .slice none 0 0], .bool true]) ∧ Below w.heap.size w w' := by
  have X4 : Hid ((w.alloc (Obj.cells #[Value.int .i64 0, Value.int .i64 0, Value.slice none 0 0] 29)).heap[w.heap.size]? = some (.cells #[Value.int .i64 0, Value.int .i64 0, Value.slice none 0 0] 29 (0, 0))) := hide (hnew _ _)
  have HB := hide (bl_alloc (bl_refl w) (Obj.cells #[Value.int .i64 0, Value.int .i64 0, Value.slice none 0 0] 29))
  go_enter Try.func16, Try.ntmps16
  go_wp2
  refine bodyPost_ret (v := .tuple #[.agg #[.int .i64 0, .int .i64 0, .slice none 0 0], .bool true]) (by simp [results, Try.results16, go_sem, *]) rfl ?_
  exact ⟨rfl, HB.out⟩

set_option maxHeartbeats 2000000 in
theorem moSbig (a : Option Addr) (n cap : Nat) (w : World) (h8 : 8 < n) :
    Calls Try.prog 16 #[.slice a n cap] w fun e w' => e = .returned (.tuple #[.agg #[.int .i64 0, .int .i64 0, .slice none 0 0], .bool false]) ∧ Below w.heap.size w w' := by
  have h8' : (8 : Int) < (n : Int) := by omega
  have X4 : Hid ((w.alloc (Obj.cells #[Value.int .i64 0, Value.int .i64 0, Value.slice none 0 0] 29)).heap[w.heap.size]? = some (.cells #[Value.int .i64 0, Value.int .i64 0, Value.slice none 0 0] 29 (0, 0))) := hide (hnew _ _)
  have HB := hide (bl_alloc (bl_refl w) (Obj.cells #[Value.int .i64 0, Value.int .i64 0, Value.slice none 0 0] 29))
  go_enter Try.func16, Try.ntmps16
  go_wp2
  refine bodyPost_ret (v := .tuple #[.agg #[.int .i64 0, .int .i64 0, .slice none 0 0], .bool false]) (by simp [results, Try.results16, go_sem, *]) rfl ?_
  exact ⟨rfl, HB.out⟩

/-- a number in a row -/
def rowZ (E : Nat → List Int) (r j : Nat) : Int := (E r).getD j 0
set_option maxHeartbeats 8000000 in
theorem moSC (a : Option Addr) (n cap c : Nat) (X : Nat → Prop) (E : Nat → List Int) (w : World) (hs : ISeg w X a n cap E) (hi : IInt n E) (hc : (E 0).length = c) (h0 : 0 < n) (h8 : n ≤ 8) :
    Calls Try.prog 16 #[.slice a n cap] w fun e w' => ((∃ a' p, e = .returned (.tuple #[.agg #[.int .i64 (n : Int), .int .i64 (c : Int), .slice a' (n * c) p], .bool true]) ∧ BSeg w' (fun b => w.heap.size ≤ b ∧ b < w'.heap.size) a' (n * c) p (flat c (rowZ E)) ∧ Rws n E ∧ c ≤ 8) ∨ (e = .returned (.tuple #[.agg #[.int .i64 0, .int .i64 0, .slice none 0 0], .bool false]) ∧ ¬ (Rws n E ∧ c ≤ 8))) ∧ Below w.heap.size w w' := by
  obtain ⟨i0, hi0, hz0, hz1, hz2⟩ := info_parts Try.infoBg
  have hcap := hs.1
  have hcm := hs.2.1
  have HS := hide hs
  have HI := hide hi
  obtain ⟨ga, oa, rfl, hga, a0, p0, t00, sg0⟩ := hs.at h0
  rw [hc, Nat.add_zero] at t00
  have hcl : c ≤ 9223372036854775807 := by rw [← hc]; exact Nat.le_trans sg0.2.1 sg0.2.2.1
  have HC := hide hc
  have hn8 : ¬ (8 : Int) < (n : Int) := by omega
  have hn0 : ¬ (n : Int) = 0 := by omega
  have hn1 : ¬ n = 0 := by omega
  have hn2 : (0 : Int) < (n : Int) := by omega
  have HB := hide (bl_alloc (bl_refl w) (Obj.cells #[Value.int .i64 0, Value.int .i64 0, Value.slice none 0 0] 29))
  have t0' := (HB.out.cell (p := ⟨ga, oa, none⟩) hga).trans t00
  clear hs sg0 t00 hc hi HB
  go_enter Try.func16, Try.ntmps16
  go_wp2
  go_loopw [5] (fun i wr => ∃ (r : Nat) (v : Value) (vs : List Value), r ≤ n ∧ i = .int .i64 (r : Int) ∧ Hid (∀ q, q < r → (E q).length = c) ∧ Hid (0 < r → c ≤ 8) ∧ Hid (BRow wr (w.heap.size + 2) v (r * c) (flat c (rowZ E)) vs) ∧ Hid (wr.heap[(w.heap.size + 1)]? = some (.cells #[Value.int .i64 (n : Int), Value.int .i64 (c : Int), v] 29 (0, 0))) ∧ Hid (wr.heap[w.heap.size]? = some (.cells #[Value.int .i64 0, Value.int .i64 0, Value.slice none 0 0] 29 (0, 0))) ∧ Hid (Below w.heap.size w wr)) (fun i _ => n - (intOf i).toNat)
  case atStart =>
    refine ⟨0, .slice none 0 0, [], Nat.zero_le _, rfl, hide (fun q hq => by omega), hide (fun h => by omega), ?_, hide ?_, hide ?_, hide (bl_alloc (bl_alloc (bl_refl w) _) _)⟩
    · rw [Nat.zero_mul]; exact hide (BRow.nil _ _ _)
    · have := hnew (w.alloc (Obj.cells #[Value.int .i64 0, Value.int .i64 0, Value.slice none 0 0] 29)) (Obj.cells #[Value.int .i64 (n : Int), Value.int .i64 (c : Int), Value.slice none 0 0] 29)
      simpa only [World.size_alloc] using this
    · exact hnewer (hnew _ _) _
  case round =>
    clear t0'
    obtain ⟨r, v, vs, hr, rfl, hq, hc8, hm, X5, X4, hb⟩ := hrel
    have k51 := (Lib.cell_of_heap X5.out 1).trans (show _ = some (Value.int .i64 (c : Int)) from rfl)
    have k40 := (Lib.cell_of_heap X4.out 0).trans (show _ = some (Value.int .i64 0) from rfl)
    have k41 := (Lib.cell_of_heap X4.out 1).trans (show _ = some (Value.int .i64 0) from rfl)
    have k42 := (Lib.cell_of_heap X4.out 2).trans (show _ = some (Value.slice none 0 0) from rfl)
    have f40 := Lib.frozen_of_heap X4.out 0
    have f41 := Lib.frozen_of_heap X4.out 1
    have f42 := Lib.frozen_of_heap X4.out 2
    by_cases hrn : r < n
    · have hrn' : (r : Int) < (n : Int) := by omega
      have hsz := hb.out.size
      obtain ⟨g, o, e9, hg, b, p, q1, hbs⟩ := HS.out.at hrn
      cases e9
      have q1r := (hb.out.cell (p := ⟨ga, oa + r, none⟩) hg).trans q1
      have hzl : (E r).length ≤ 9223372036854775807 := Nat.le_trans hbs.2.1 hbs.2.2.1
      by_cases hk : (E r).length = c ∧ c ≤ 8
      · obtain ⟨hek, hc8'⟩ := hk
        have hc8i : ¬ (8 : Int) < (c : Int) := by omega
        rw [hek] at q1 q1r hbs hzl
        have HEK := hide hek
        have HBS := hide hbs
        clear hek hbs
        go_wp2_with fail
        go_region
        all_goals go_wp2
        have hdr := (bl_refl wr).drew
        have HMd := hide (hm.out.below hdr)
        have X5d := hide (hbel X5.out hdr (hlt X5.out))
        have X4d := hide (hbel X4.out hdr (hlt X4.out))
        have HBd := hide hb.out.drew
        clear hm X5 X4 hb hdr q1r k51 k40 k41 k42 f40 f41 f42 hsz
        generalize wr.drew = wd at *
        clear wr
        go_loopw [6] (fun i wr => ∃ (j : Nat) (v : Value) (vs : List Value), j ≤ c ∧ i = .int .i64 (j : Int) ∧ Hid (BRow wr (w.heap.size + 2) v (r * c + j) (flat c (rowZ E)) vs) ∧ Hid (wr.heap[(w.heap.size + 1)]? = some (.cells #[Value.int .i64 (n : Int), Value.int .i64 (c : Int), v] 29 (0, 0))) ∧ Hid (wr.heap[w.heap.size]? = some (.cells #[Value.int .i64 0, Value.int .i64 0, Value.slice none 0 0] 29 (0, 0))) ∧ Hid (Below w.heap.size w wr)) (fun i _ => c - (intOf i).toNat)
        case atStart => exact ⟨0, v, vs, Nat.zero_le _, rfl, by rw [Nat.add_zero]; exact HMd, X5d, X4d, HBd⟩
        case round =>
          clear HMd X5d X4d HBd
          obtain ⟨j, v, vs, hj, rfl, hm, X5, X4, hb⟩ := hrel
          have hsz := hb.out.size
          have h5 := hlt X5.out
          have k51 := (Lib.cell_of_heap X5.out 1).trans (show _ = some (Value.int .i64 (c : Int)) from rfl)
          have k52 := (Lib.cell_of_heap X5.out 2).trans (show _ = some v from rfl)
          have f52 := Lib.frozen_of_heap X5.out 2
          by_cases hjc : j < c
          · have hjc' : (j : Int) < (c : Int) := by omega
            obtain ⟨g2, o2, rfl, hg2, q2⟩ := VSeg.at HBS.out hjc
            have hcgb := hide (Chg.below (P := fun k => k = (w.heap.size + 1) ∨ v.ownBlock = some k) hb.out)
            have hfl := flat_at c (rowZ E) r j hjc
            have hzb := getD_int (fun y hy => HI.out r hrn y hy) j
            have q2 : w.cell? ⟨g2, o2 + j, none⟩ = some (.int .i64 (rowZ E r j)) := q2
            have hzb : -9223372036854775808 ≤ rowZ E r j ∧ rowZ E r j ≤ 9223372036854775807 := hzb
            obtain ⟨z, hz⟩ : ∃ z, rowZ E r j = z := ⟨_, rfl⟩
            rw [hz] at q2 hzb hfl
            have HFL := hide hfl
            clear hz hfl
            have hpcap := HBS.out.2.1
            have hpm := HBS.out.2.2.1
            have hkk : r * c + j ≤ 64 := by
              have : r * c ≤ 7 * 8 := Nat.mul_le_mul (by omega) hc8'
              omega
            have hob : Hid (∀ q, v.ownBlock = some q → w.heap.size + 2 ≤ q ∧ q < wr.heap.size) := hide (fun q e => hm.out.1.lt q e)
            have hb2s : w.heap.size + 2 ≤ wr.drew.heap.size := by rw [size_drew']; omega
            have hob2 : ∀ q, v.ownBlock = some q → q < wr.drew.heap.size := fun q e => (hob.out q e).2
            have KP : Hid (∀ w', Chg (fun k => k = (w.heap.size + 1) ∨ v.ownBlock = some k) wr w' → (w'.cell? ⟨ga, oa + r, none⟩ = some (Value.slice (some ⟨g2, o2, none⟩) c p) ∧ w'.cell? ⟨g2, o2 + j, none⟩ = some (Value.int .i64 z))) := hide (fun w' h =>
              have h1 : ∀ q, q < w.heap.size → ¬ (q = (w.heap.size + 1) ∨ v.ownBlock = some q) := fun q hq e => by
                rcases e with e | e
                · omega
                · have := (hob.out q e).1; omega
              have hh := hcgb.out.trans h
              ⟨(hh.cell (p := ⟨ga, oa + r, none⟩) hg (h1 ga hg)).trans q1, (hh.cell (p := ⟨g2, o2 + j, none⟩) hg2 (h1 g2 hg2)).trans q2⟩)
            have Q1 := hide q1
            clear q1 q2
            obtain ⟨q1, q2⟩ := KP.out wr (Chg.refl _ _)
            go_wp2_with fail
            go_region_law
              (first
                | (go_simp; go_at_call 40; refine (fromS z _ hzb.1 hzb.2).mono ?_; rintro e w3 ⟨v3, rfl, ⟨b3, d3, rfl, ho3⟩, hb3'⟩; have hb3 : Below wr.heap.size wr w3 := (bl_refl wr).drew.trans hb3'; have hq3 := KP.out _ (Chg.below hb3); obtain ⟨q1', q2'⟩ := hq3; have hcg : Chg (fun k => k = (w.heap.size + 1) ∨ v.ownBlock = some k) wr w3 := Chg.below hb3; have k52' := (Lib.cell_of_heap (hbel X5.out hb3 h5) 2).trans (show _ = some v from rfl); have HM3 := hide (hm.out.below hb3); have HO3 := hide ho3; have X53 := hide (hbel X5.out hb3 h5); have HBO := hide (fresh_box ho3 hb2s hob2 (Obj.cells #[Value.bool (sgn z), Value.slice b3 (lms z).length d3] 54)); have hz3 := hb3.size; have k52a := (Lib.cell_of_heap (hnewer (hbel X5.out hb3 h5) (Obj.cells #[Value.bool (sgn z), Value.slice b3 (lms z).length d3] 54)) 2).trans (show _ = some v from rfl); have HNW := hide (cell_two_new w3 (Value.bool (sgn z)) (Value.slice b3 (lms z).length d3) 54); clear ho3 hb3')
                | (refine step_append_lies _ (by rfl) _ _ 27 (by rfl) (w.heap.size + 2) 54 i0 (.agg #[Value.bool false, Value.slice none 0 0]) 2 32 Try.underlying27 hi0 hz0 hz1 hz2 rfl (by decide) v (r * c + j) vs (by rfl) (HM3.out.below (bl_alloc (bl_refl w3) _)).1 ⟨w3.heap.size, 0, none⟩ 1 1 [Value.bool (sgn z), Value.slice b3 (lms z).length d3] (by rfl) (by rfl) HNW.out (by intro u hu; simp at hu; rcases hu with rfl | rfl <;> rfl) (by omega) (by unfold maxLen; omega) (by omega) (by simp only [World.size_alloc]; omega) (w3.heap.size + 1) (by simp) ?_; intro g7 cap7 w7 hown7 hgrow7 hat7 hlt7; have hcg7 : Chg (fun k => k = (w.heap.size + 1) ∨ v.ownBlock = some k) wr w7 := (hcg.alloc _).trans (Chg.grown hgrow7 (fun k e => .inr e)); have X57 := hide ((hgrow7.block (w.heap.size + 1) (by have := hlt X53.out; simp only [World.size_alloc]; omega) (fun e => by have := (hob.out _ e.symm).1; omega)).trans (hnewer X53.out _)); have X47 := hide ((hgrow7.block w.heap.size (by have := hlt X53.out; simp only [World.size_alloc]; omega) (fun e => by have := (hob.out _ e.symm).1; omega)).trans (hnewer (hbel X4.out hb3 (by omega)) _)); have HB7 := hide ((bl_alloc (bl_trans hb.out hb3) (Obj.cells #[Value.bool (sgn z), Value.slice b3 (lms z).length d3] 54)).grown hgrow7 (bl_alloc (bl_trans hb.out hb3) (Obj.cells #[Value.bool (sgn z), Value.slice b3 (lms z).length d3] 54)).size (fun q e => by have := (hob.out q e).1; omega)); have k57 := (Lib.cell_of_heap X57.out 2).trans (show _ = some v from rfl); have f57 := Lib.frozen_of_heap X57.out 2; have HBR := hide (BRow.snoc (HM3.out.below (bl_alloc (bl_refl w3) _)) (b := sgn z) (HO3.out.seg.below (bl_alloc (bl_refl w3) _)) HBO.out hown7 hgrow7 (hat7.imp (fun h => h.symm) (fun h => by rw [h]; rfl)) (by simp)); have HX7 := hide hgrow7; clear hown7 hgrow7 hat7))
            all_goals go_wp2
            all_goals have HST := (St.refl (w.heap.size + 1) w7).set 2 (Value.slice (some ⟨g7, 0, none⟩) (r * c + j + 1) cap7)
            all_goals refine ⟨⟨j + 1, .slice (some ⟨g7, 0, none⟩) (r * c + j + 1) cap7, vs ++ [Value.bool (sgn z), Value.slice b3 (lms z).length d3], by omega, by go_num, hide ?_, hide ?_, hide (HST.heap X47.out (by omega)), hide (St.below HB7.out HST (by omega))⟩, by simp [intOf]; omega⟩
            all_goals first
              | exact hset X57.out 2 _
              | (refine (HBR.out.chg (P := fun q => q = (w.heap.size + 1)) (Chg.grown HST.grown (fun q e => by cases e; rfl)) (fun q hq e => by omega)).congr (fun i hi => ?_)
                 by_cases e : i = r * c + j
                 · subst e; rw [upd_same, HFL.out]; rfl
                 · rw [upd_ne _ _ e])
          · obtain rfl : j = c := by omega
            go_wp2
            refine ⟨⟨r + 1, v, vs, by omega, by go_num, hide (fun q hq' => ?_), hide (fun _ => hc8'), ?_, X5, X4, hb⟩, by simp [intOf]; omega⟩
            · by_cases e : q = r
              · rw [e]; exact HEK.out
              · exact hq.out q (by omega)
            · rw [Nat.succ_mul]; exact hm
      · have HNK : Hid (¬ (Rws n E ∧ c ≤ 8)) := hide (fun h => hk ⟨by rw [h.1 r hrn, HC.out], h.2⟩)
        have hst := (((St.refl w.heap.size wr.drew).set 0 (.int .i64 0)).set 1 (.int .i64 0)).set 2 (.slice none 0 0)
        have HE := hide (St.below hb.out.drew hst (Nat.le_refl _))
        clear hst
        have d40 := (Lib.cell_of_heap (hbel X4.out (bl_refl wr).drew (hlt X4.out)) 0).trans (show _ = some (Value.int .i64 0) from rfl)
        have d41 := (Lib.cell_of_heap (hbel X4.out (bl_refl wr).drew (hlt X4.out)) 1).trans (show _ = some (Value.int .i64 0) from rfl)
        have d42 := (Lib.cell_of_heap (hbel X4.out (bl_refl wr).drew (hlt X4.out)) 2).trans (show _ = some (Value.slice none 0 0) from rfl)
        by_cases hek : (E r).length = c
        · have hc8i : (8 : Int) < (c : Int) := by
            have : ¬ c ≤ 8 := fun e => hk ⟨hek, e⟩
            omega
          rw [hek] at q1r hzl
          clear hek hbs q1 hk hm
          go_wp2_with fail
          go_region
          all_goals go_wp2
          all_goals refine bodyPost_ret (v := .tuple #[.agg #[.int .i64 0, .int .i64 0, .slice none 0 0], .bool false]) (by simp [results, Try.results16, go_sem, *]) rfl ?_
          all_goals exact ⟨.inr ⟨rfl, HNK.out⟩, HE.out⟩
        · have hek' : ¬ ((E r).length : Int) = (c : Int) := by omega
          have hbb : (((E r).length : Int) == (c : Int)) = false := by simp; omega
          have hbn : (((E r).length : Int) != (c : Int)) = true := by simp; omega
          generalize (E r).length = z at *
          clear hbs q1 hk hm
          go_wp2_with fail
          go_quiet (fail)
          all_goals go_wp2
          all_goals refine bodyPost_ret (v := .tuple #[.agg #[.int .i64 0, .int .i64 0, .slice none 0 0], .bool false]) (by simp [results, Try.results16, go_sem, *]) rfl ?_
          all_goals exact ⟨.inr ⟨rfl, HNK.out⟩, St.below (below_drewN hb.out _) ((((St.refl w.heap.size _).set 0 _).set 1 _).set 2 _) (Nat.le_refl _)⟩
    · obtain rfl : r = n := by omega
      have h5 := hlt X5.out
      have hsz := hb.out.size
      obtain ⟨a', p, rfl, hsg⟩ := hm.out.seg
      have HSG := hide hsg
      clear hsg
      have k50 := (Lib.cell_of_heap X5.out 0).trans (show _ = some (Value.int .i64 (r : Int)) from rfl)
      have k52 := (Lib.cell_of_heap X5.out 2).trans (show _ = some (Value.slice a' (r * c) p) from rfl)
      clear hm
      go_wp2
      refine bodyPost_ret (v := .tuple #[.agg #[.int .i64 (r : Int), .int .i64 (c : Int), .slice a' (r * c) p], .bool true]) (by simp [results, Try.results16, go_sem, *]) rfl ?_
      have hst := (((St.refl w.heap.size wr).set 0 (.int .i64 (r : Int))).set 1 (.int .i64 (c : Int))).set 2 (.slice a' (r * c) p)
      exact ⟨.inl ⟨a', p, rfl, (HSG.out.chg (P := fun k => k = w.heap.size) (Chg.grown hst.grown (fun k e => by cases e; rfl)) (fun b hb e => by omega)).mono (fun b hb => by have := hst.size; omega), (fun q hq' => by rw [hq.out q hq', HC.out]), hc8.out h0⟩, St.below hb.out hst (Nat.le_refl _)⟩
end Go.Proofs.Yteljkjpcjjiidaa
