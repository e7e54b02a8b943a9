/- The specification's rows of a matrix, and rows as columns. -/
import Derived.Test.YteljkjpcjjiidaaRw2
namespace Go.Proofs.Yteljkjpcjjiidaa
open Go.RowKit
set_option linter.unusedVariables false
set_option maxRecDepth 20000

/-- the numbers of a matrix, row by row -/
def rowF (C : Nat) (Z : Nat → Int) (r c : Nat) : Bool × List Nat := numE (Z (r * C + c))

set_option maxHeartbeats 4000000 in
theorem rowsS (R C : Nat) (a : Option Addr) (n cap : Nat) (X : Nat → Prop) (Z : Nat → Int) (w : World) (hs : BSeg w X a n cap (fun j => numE (Z j))) (hR : R ≤ 8) (hC : C ≤ 8) (hn : n = R * C) (hl : ∀ j, j < n → (lms (Z j)).length ≤ 1048576) :
    Calls Try.prog 53 #[Value.agg #[Value.int .i64 (R : Int), Value.int .i64 (C : Int), Value.slice a n cap]] w fun e w' => ∃ a' p, e = .returned (.slice a' R p) ∧ RSegs w' (fun b => w.heap.size ≤ b ∧ b < w'.heap.size) a' R p C (rowF C Z) ∧ Below w.heap.size w w' := by
  obtain ⟨i0, hi, hz0, hz1, hz2⟩ := info_parts Try.infoBg
  obtain ⟨i1, hi', hy0, hy1, hy2⟩ := info_parts Try.infoBgS
  have hcap := hs.1
  have hcm := hs.2.1
  have HS := hide hs
  have HL := hide hl
  have HN := hide hn
  clear hs hl hn
  have X1 : Hid ((w.alloc (Obj.cells #[Value.int .i64 (R : Int), Value.int .i64 (C : Int), Value.slice a n cap] 29)).heap[w.heap.size]? = some (.cells #[Value.int .i64 (R : Int), Value.int .i64 (C : Int), Value.slice a n cap] 29 (0, 0))) := hide (hnew _ _)
  have HB := hide (bl_alloc (bl_refl w) (Obj.cells #[Value.int .i64 (R : Int), Value.int .i64 (C : Int), Value.slice a n cap] 29))
  go_enter Try.func53, Try.ntmps53
  go_wp2
  go_loopw [3, 4] (fun v i wr => ∃ (r : Nat) (vs : List Value), r ≤ R ∧ i = .int .i64 (r : Int) ∧ Hid (RowL wr (w.heap.size + 1) v r C (rowF C Z) vs) ∧ Hid (wr.heap[w.heap.size]? = some (.cells #[Value.int .i64 (R : Int), Value.int .i64 (C : Int), Value.slice a n cap] 29 (0, 0))) ∧ Hid (Below w.heap.size w wr)) (fun _ i _ => R - (intOf i).toNat)
  case atStart => exact ⟨0, [], Nat.zero_le _, rfl, hide (by have := RowL.lit (w.alloc (Obj.cells #[Value.int .i64 (R : Int), Value.int .i64 (C : Int), Value.slice a n cap] 29)) (w.heap.size + 1) C (rowF C Z) (by simp); simpa only [World.size_alloc] using this), hide (hnewer X1.out _), hide (bl_trans HB.out (bl_alloc (bl_refl _) _))⟩
  case round =>
    clear X1 HB
    obtain ⟨r, vs, hr, rfl, hm, X1, hb⟩ := hrel
    have hsz := hb.out.size
    have hl1 := hlt X1.out
    have k10 := (Lib.cell_of_heap X1.out 0).trans (show _ = some (Value.int .i64 (R : Int)) from rfl)
    by_cases hrn : r < R
    · have hrn' : (r : Int) < (R : Int) := by omega
      rename World => wo
      go_wp2
      go_loopw [5, 6] (fun u i wr => ∃ (c : Nat) (us : List Value), c ≤ C ∧ i = .int .i64 (c : Int) ∧ Hid (BRow wr wo.heap.size u c (rowF C Z r) us) ∧ Hid (Below wo.heap.size wo wr)) (fun _ i _ => C - (intOf i).toNat)
      case atStart => exact ⟨0, [], Nat.zero_le _, rfl, hide (BRow.lit wo wo.heap.size _ (Nat.le_refl _)), hide (bl_alloc (bl_refl wo) _)⟩
      case round =>
        obtain ⟨c, us, hc, rfl, hu, hq⟩ := hrel
        have hsq := hq.out.size
        have Y1 := hide (hbel X1.out hq.out hl1)
        have y10 := (Lib.cell_of_heap Y1.out 0).trans (show _ = some (Value.int .i64 (R : Int)) from rfl)
        have y11 := (Lib.cell_of_heap Y1.out 1).trans (show _ = some (Value.int .i64 (C : Int)) from rfl)
        have y12 := (Lib.cell_of_heap Y1.out 2).trans (show _ = some (Value.slice a n cap) from rfl)
        have hly := hlt Y1.out
        by_cases hcn : c < C
        · have hcn' : (c : Int) < (C : Int) := by omega
          have hjn : r * C + c < n := by
            have := HN.out
            have h2 : r * C + C ≤ R * C := by rw [← Nat.succ_mul]; exact Nat.mul_le_mul_right C hrn
            omega
          have hrc : r * C ≤ 56 := by
            have := Nat.mul_le_mul (show r ≤ 7 by omega) hC
            omega
          have hrcI : (r : Int) * (C : Int) = ((r * C : Nat) : Int) := by push_cast; rfl
          have hs3 := (HS.out.below (bl_trans hb.out hq.out)).2.2
          rcases hs3 with h0 | ⟨ga, oa, rfl, hga, _, hcells⟩
          · omega
          obtain ⟨a1, c1, t0, t1, sg, _⟩ := hcells _ hjn
          have hzl := HL.out _ hjn
          have HF : Hid (rowF C Z r c = numE (Z (r * C + c))) := hide rfl
          obtain ⟨z, hz⟩ : ∃ z, Z (r * C + c) = z := ⟨_, rfl⟩
          dsimp only at t0 t1 sg
          rw [hz] at t0 t1 sg hzl HF
          simp only [numE] at t0 t1 sg
          obtain ⟨qq, hqq⟩ : ∃ qq, r * C = qq := ⟨_, rfl⟩
          rw [hqq] at t0 t1 hrcI hrc hjn
          have HSG := hide sg
          have hnI : ((qq : Int) + (c : Int)) < (n : Int) := by omega
          clear hz hcells sg hqq hjn
          go_wp2_with fail
          have HSGx := hide (HSG.out.below (bl_alloc (bl_refl wr) (Obj.cells #[Value.bool (sgn z), Value.slice a1 (lms z).length c1] 54)))
          have hux := hide (hu.out.below (bl_alloc (bl_refl wr) (Obj.cells #[Value.bool (sgn z), Value.slice a1 (lms z).length c1] 54)))
          have hqx := hide (bl_trans hq.out (bl_alloc (bl_refl wr) (Obj.cells #[Value.bool (sgn z), Value.slice a1 (lms z).length c1] 54)))
          refine (makeS (sgn z) a1 _ c1 (lms z) _ HSGx.out hzl).mono ?_
          rintro e w4 ⟨x, rfl, hnw, hb4⟩
          rw [nat_lms, mk_self] at hnw
          obtain ⟨b3, d3, rfl, ho3⟩ := hnw
          have hs4 := hb4.size
          simp only [World.size_alloc] at hs4
          have HBO := hide (fresh_box ho3 (base := wo.heap.size) (v := u5) (by simp only [World.size_alloc]; omega) (fun q e => (hux.out.1.lt q e).2) (Obj.cells #[Value.bool (sgn z), Value.slice b3 (lms z).length d3] 54))
          have hOS := hide (ho3.seg.below (bl_alloc (bl_refl w4) (Obj.cells #[Value.bool (sgn z), Value.slice b3 (lms z).length d3] 54)))
          have HA := hide ((hux.out.below hb4).below (bl_alloc (bl_refl w4) (Obj.cells #[Value.bool (sgn z), Value.slice b3 (lms z).length d3] 54)))
          have HNW := hide (cell_two_new w4 (Value.bool (sgn z)) (Value.slice b3 (lms z).length d3) 54)
          have HQ4 := hide (bl_trans (bl_trans hqx.out hb4) (bl_alloc (bl_refl w4) (Obj.cells #[Value.bool (sgn z), Value.slice b3 (lms z).length d3] 54)))
          clear ho3 hb4 t0 t1 HSGx hux hqx HSG
          go_wp2_with (at_builtin; refine wpList_append_own_at _ rfl _ _ 27 rfl wo.heap.size 54 i0 (.agg #[Value.bool false, Value.slice none 0 0]) 2 32 Try.underlying27 hi hz0 hz1 hz2 rfl (by decide) u5 c us rfl HA.out.1 ⟨w4.heap.size, 0, none⟩ 1 1 [Value.bool (sgn z), Value.slice b3 (lms z).length d3] rfl rfl HNW.out (by intro u hu; simp at hu; rcases hu with rfl | rfl <;> rfl) (by unfold maxLen; omega) (by omega) (by simp only [World.size_alloc]; omega) ?_; intro v' w5 hown5 hgrow5 _ hat5)
          refine ⟨⟨c + 1, _, by omega, by go_num, hide ((BRow.snoc HA.out hOS.out HBO.out hown5 hgrow5 hat5 rfl).congr fun j hj => ?_), hide (HQ4.out.grown hgrow5 HQ4.out.size (fun q e => (hu.out.1.lt q e).1))⟩, by simp [intOf]; omega⟩
          by_cases e : j = c
          · subst e; rw [upd_same, HF.out]; rfl
          · rw [upd_ne _ _ e]
        · obtain rfl : c = C := by omega
          obtain ⟨a4, p4, rfl, hsg⟩ := hu.out.seg
          have HRL := hide (hm.out.below hq.out)
          have HA := hide (HRL.out.below (bl_alloc (bl_refl wr) (Obj.cells #[Value.slice a4 c p4] 27)))
          have hmo : Hid (∀ b, u3.ownBlock = some b → b < wo.heap.size) := hide (fun b e => (hm.out.1.lt b e).2)
          have HRW : Hid (BSeg (wr.alloc (Obj.cells #[Value.slice a4 c p4] 27)) (fun b => w.heap.size + 1 ≤ b ∧ u3.ownBlock ≠ some b ∧ b < (wr.alloc (Obj.cells #[Value.slice a4 c p4] 27)).heap.size) a4 c p4 (rowF c Z r)) := hide ((hsg.below (bl_alloc (bl_refl wr) _)).mono (fun b hb2 => ⟨by omega, fun e2 => by have := hmo.out b e2; omega, by simp only [World.size_alloc]; omega⟩))
          have HNW : Hid (∀ j u, [Value.slice a4 c p4][j]? = some u → (wr.alloc (Obj.cells #[Value.slice a4 c p4] 27)).cell? ((⟨wr.heap.size, 0, none⟩ : Addr).add j) = some u) := hide (cell_one_new wr (Value.slice a4 c p4) 27)
          have HB4 := hide (bl_trans hb.out (bl_trans hq.out (bl_alloc (bl_refl wr) (Obj.cells #[Value.slice a4 c p4] 27))))
          have Z1 := hide (hnewer Y1.out (Obj.cells #[Value.slice a4 c p4] 27))
          clear hsg hu
          go_wp2_with (at_builtin; refine wpList_append_own_at _ rfl _ _ 71 rfl (w.heap.size + 1) 27 i1 (.slice none 0 0) 1 24 Try.underlying71 hi' hy0 hy1 hy2 rfl (by decide) u3 r vs rfl HA.out.1 ⟨wr.heap.size, 0, none⟩ 1 1 [Value.slice a4 c p4] rfl rfl HNW.out (by intro u hu; simp at hu; subst hu; rfl) (by unfold maxLen; omega) (by omega) (by simp only [World.size_alloc]; omega) ?_; intro v' w5 hown5 hgrow5 _ hat5)
          refine ⟨⟨r + 1, _, by omega, by go_num, hide ((RowL.snoc HA.out HRW.out hown5 hgrow5 hat5 rfl).congr fun r2 j hr2 hj => ?_), hide ((hgrow5.block _ (hlt Z1.out) (fun e => by have := (hm.out.1.lt _ e.symm).1; omega)).trans Z1.out), hide (HB4.out.grown hgrow5 HB4.out.size (fun q e => Nat.le_of_succ_le (hm.out.1.lt q e).1))⟩, by simp [intOf]; omega⟩
          by_cases e : r2 = r
          · subst e; rw [upd_same]
          · rw [upd_ne _ _ e]
    · obtain rfl : r = R := by omega
      obtain ⟨a', p, rfl, hs⟩ := hm.out.segs2
      have HS2 := hide hs
      clear hs hm
      go_wp2
      go_ret
      exact ⟨a', p, rfl, HS2.out.mono (fun b hb2 => ⟨by omega, hb2.2⟩), hb.out⟩

set_option maxHeartbeats 4000000 in
theorem turnRowsS (R C : Nat) (a : Option Addr) (cap B : Nat) (F : Nat → Nat → Bool × List Nat) (w : World) (hs : RSegs w (fun b => B ≤ b ∧ b < w.heap.size) a R cap C F) (hR : R ≤ 8) (hC : C ≤ 8) (hB : B ≤ w.heap.size) :
    Calls Try.prog 52 #[.slice a R cap, .int .i64 (C : Int)] w fun e w' => ∃ a' p, e = .returned (.slice a' C p) ∧ RSegs w' (fun b => B ≤ b ∧ b < w'.heap.size) a' C p R (fun c r => F r c) ∧ Below w.heap.size w w' := by
  obtain ⟨i0, hi, hz0, hz1, hz2⟩ := info_parts Try.infoBg
  obtain ⟨i1, hi', hy0, hy1, hy2⟩ := info_parts Try.infoBgS
  have hcap := hs.1
  have hcm := hs.2.1
  have HS := hide hs
  clear hs
  go_enter Try.func52, Try.ntmps52
  go_wp2
  go_loopw [5, 6] (fun v i wr => ∃ (c : Nat) (vs : List Value), c ≤ C ∧ i = .int .i64 (c : Int) ∧ Hid (RowL wr B v c R (fun c r => F r c) vs) ∧ Hid (∀ b, v.ownBlock = some b → w.heap.size ≤ b) ∧ Hid (Below w.heap.size w wr)) (fun _ i _ => C - (intOf i).toNat)
  case atStart => exact ⟨0, [], Nat.zero_le _, rfl, hide (RowL.lit w B R _ hB), hide (fun b e => by cases e; exact Nat.le_refl _), hide (bl_alloc (bl_refl w) _)⟩
  case round =>
    obtain ⟨c, vs, hc, rfl, hm, ho, hb⟩ := hrel
    have hsz := hb.out.size
    by_cases hcn : c < C
    · have hcn' : (c : Int) < (C : Int) := by omega
      rename World => wo
      go_wp2
      go_loopw [7, 8] (fun u i wr => ∃ (r : Nat) (us : List Value), r ≤ R ∧ i = .int .i64 (r : Int) ∧ Hid (BRowX wr wo.heap.size (fun b => B ≤ b ∧ b < w.heap.size) u r (fun r => F r c) us) ∧ Hid (Below wo.heap.size wo wr)) (fun _ i _ => R - (intOf i).toNat)
      case atStart => exact ⟨0, [], Nat.zero_le _, rfl, hide (BRowX.lit wo wo.heap.size _ _ (Nat.le_refl _)), hide (bl_alloc (bl_refl wo) _)⟩
      case round =>
        obtain ⟨r, us, hr, rfl, hu, hq⟩ := hrel
        have hsq := hq.out.size
        by_cases hrn : r < R
        · have hrn' : (r : Int) < (R : Int) := by omega
          obtain ⟨g, o, rfl, hg, b, p, q1, hbs⟩ := HS.out.at hrn
          have hpcap := hbs.1
          have hpm := hbs.2.1
          rcases hbs.2.2 with h0 | ⟨g2, o2, rfl, hg2, _, hcells⟩
          · omega
          obtain ⟨a1, c1, t0, t1, sg, hx⟩ := hcells _ hcn
          have hbw := bl_trans hb.out hq.out
          replace q1 := (hbw.cell (p := ⟨g, o + r, none⟩) hg).trans q1
          replace t0 := (hbw.cell (p := ⟨g2, o2 + c * 2, none⟩) hg2).trans t0
          replace t1 := (hbw.cell (p := ⟨g2, o2 + c * 2 + 1, none⟩) hg2).trans t1
          obtain ⟨⟨b1, xs⟩, ek⟩ : ∃ p, F r c = p := ⟨_, rfl⟩
          rw [ek] at t0 t1 sg
          dsimp only at t0 t1 sg
          have EK := hide ek
          have HX := hide hx
          have hOS := hide ((sg.below hbw).below (bl_alloc (bl_refl wr) (Obj.cells #[Value.bool b1, Value.slice a1 xs.length c1] 54)))
          have HA := hide (hu.out.below (bl_alloc (bl_refl wr) (Obj.cells #[Value.bool b1, Value.slice a1 xs.length c1] 54)))
          have HNW := hide (cell_two_new wr (Value.bool b1) (Value.slice a1 xs.length c1) 54)
          have HQ4 := hide (bl_trans hq.out (bl_alloc (bl_refl wr) (Obj.cells #[Value.bool b1, Value.slice a1 xs.length c1] 54)))
          clear ek sg hx hcells hbw hbs
          go_wp2_with (at_builtin; refine wpList_append_own_at _ rfl _ _ 27 rfl wo.heap.size 54 i0 (.agg #[Value.bool false, Value.slice none 0 0]) 2 32 Try.underlying27 hi hz0 hz1 hz2 rfl (by decide) u7 r us rfl HA.out.1 ⟨wr.heap.size, 0, none⟩ 1 1 [Value.bool b1, Value.slice a1 xs.length c1] rfl rfl HNW.out (by intro u hu; simp at hu; rcases hu with rfl | rfl <;> rfl) (by unfold maxLen; omega) (by omega) (by simp only [World.size_alloc]; omega) ?_; intro v' w5 hown5 hgrow5 _ hat5)
          refine ⟨⟨r + 1, _, by omega, by go_num, hide ((BRowX.snoc (fun b hb2 => by omega) HA.out hOS.out HX.out hown5 hgrow5).congr fun j hj => ?_), hide (HQ4.out.grown hgrow5 HQ4.out.size (fun q e => (hu.out.1.lt q e).1))⟩, by simp [intOf]; omega⟩
          by_cases e : j = r
          · subst e; rw [upd_same, EK.out]
          · rw [upd_ne _ _ e]
        · obtain rfl : r = R := by omega
          obtain ⟨a4, p4, rfl, hsg⟩ := hu.out.seg
          have HRL := hide (hm.out.below hq.out)
          have HA := hide (HRL.out.below (bl_alloc (bl_refl wr) (Obj.cells #[Value.slice a4 r p4] 27)))
          have hmo : Hid (∀ b, u5.ownBlock = some b → b < wo.heap.size) := hide (fun b e => (hm.out.1.lt b e).2)
          have HRW : Hid (BSeg (wr.alloc (Obj.cells #[Value.slice a4 r p4] 27)) (fun b => B ≤ b ∧ u5.ownBlock ≠ some b ∧ b < (wr.alloc (Obj.cells #[Value.slice a4 r p4] 27)).heap.size) a4 r p4 (fun r => F r c)) := hide ((hsg.below (bl_alloc (bl_refl wr) _)).mono (fun b hb2 => ⟨by omega, fun e2 => by have h1 := hmo.out b e2; have h2 := ho.out b e2; omega, by simp only [World.size_alloc]; omega⟩))
          have HNW : Hid (∀ j u, [Value.slice a4 r p4][j]? = some u → (wr.alloc (Obj.cells #[Value.slice a4 r p4] 27)).cell? ((⟨wr.heap.size, 0, none⟩ : Addr).add j) = some u) := hide (cell_one_new wr (Value.slice a4 r p4) 27)
          have HB4 := hide (bl_trans hb.out (bl_trans hq.out (bl_alloc (bl_refl wr) (Obj.cells #[Value.slice a4 r p4] 27))))
          clear hsg hu
          go_wp2_with (at_builtin; refine wpList_append_own_at _ rfl _ _ 71 rfl B 27 i1 (.slice none 0 0) 1 24 Try.underlying71 hi' hy0 hy1 hy2 rfl (by decide) u5 c vs rfl HA.out.1 ⟨wr.heap.size, 0, none⟩ 1 1 [Value.slice a4 r p4] rfl rfl HNW.out (by intro u hu; simp at hu; subst hu; rfl) (by unfold maxLen; omega) (by omega) (by simp only [World.size_alloc]; omega) ?_; intro v' w5 hown5 hgrow5 _ hat5)
          refine ⟨⟨c + 1, _, by omega, by go_num, hide ((RowL.snoc HA.out HRW.out hown5 hgrow5 hat5 rfl).congr fun r2 j hr2 hj => ?_), hide (fun b e => ?_), hide (HB4.out.grown hgrow5 HB4.out.size (fun q e => ho.out q e))⟩, by simp [intOf]; omega⟩
          · by_cases e : r2 = c
            · subst e; rw [upd_same]
            · rw [upd_ne _ _ e]
          · rcases hat5 with h1 | h1
            · exact ho.out b (by rw [← h1]; exact e)
            · rw [h1] at e; cases e; simp only [World.size_alloc]; omega
    · obtain rfl : c = C := by omega
      obtain ⟨a', p, rfl, hs⟩ := hm.out.segs2
      have HS2 := hide hs
      clear hs hm
      go_wp2
      go_ret
      exact ⟨a', p, rfl, HS2.out, hb.out⟩
end Go.Proofs.Yteljkjpcjjiidaa
