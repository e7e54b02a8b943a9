/- The specification's rows of One. -/
import Derived.Test.YteljkjpcjjiidaaRw
namespace Go.Proofs.Yteljkjpcjjiidaa
open Go.RowKit
set_option linter.unusedVariables false
set_option maxRecDepth 20000

def idZ (r j : Nat) : Int := if r = j then 1 else 0
def idF (r j : Nat) : Bool × List Nat := numE (idZ r j)

set_option maxHeartbeats 2000000 in
theorem oneRowsS (n : Nat) (w : World) (hn : n ≤ 8) :
    Calls Try.prog 50 #[.int .i64 (n : Int)] w fun e w' => ∃ a p, e = .returned (.slice a n p) ∧ RSegs w' (fun b => w.heap.size ≤ b) a n p n idF ∧ Below w.heap.size w w' := by
  obtain ⟨i0, hi, hz0, hz1, hz2⟩ := info_parts Try.infoBg
  obtain ⟨i1, hi', hy0, hy1, hy2⟩ := info_parts Try.infoBgS
  go_enter Try.func50, Try.ntmps50
  go_wp2
  go_loopw [3, 4] (fun v i wr => ∃ (k : Nat) (vs : List Value), k ≤ n ∧ i = .int .i64 (k : Int) ∧ Hid (RowL wr w.heap.size v k n idF vs) ∧ Hid (Below w.heap.size w wr)) (fun _ i _ => n - (intOf i).toNat)
  case atStart => exact ⟨0, [], Nat.zero_le _, rfl, hide (RowL.lit w w.heap.size n idF (Nat.le_refl _)), hide (bl_alloc (bl_refl w) _)⟩
  case round =>
    obtain ⟨k, vs, hk, rfl, hm, hb⟩ := hrel
    have hsz := hb.out.size
    by_cases hkn : k < n
    · have hkn' : (k : Int) < (n : Int) := by omega
      go_wp2_with (at_make; refine wpList_make_full _ rfl _ _ 27 rfl wr.heap.size 54 i0 (.agg #[Value.bool false, Value.slice none 0 0]) 2 Try.underlying27 hi hz0 hz1 _ _ _ _ n rfl rfl rfl rfl (by rw [hz2]; omega) (by unfold maxLen; omega) (Nat.le_refl _) ?_)
      intro w1 hown hgrow
      have HO := hide (BOwn.made hown)
      have hb1 : Below wr.heap.size wr w1 := (Below.refl _ _).grown hgrow (Nat.le_refl _) (by simp)
      have HB1 := hide hb1
      have hs1 := hb1.size
      clear hown hgrow hb1
      go_wp2_with fail
      refine (fromS 1 w1 (by omega) (by omega)).mono ?_
      rintro e w2 ⟨x, rfl, ⟨b5, d5, rfl, ho5⟩, hb2⟩
      have hput := hide (HO.out.fresh hb2 hkn (sgn 1) ho5)
      obtain ⟨D0, D1, F0, F1⟩ := (HO.out.below hb2).cells hkn
      have hs2 := hb2.size
      have HST := hide (((St.refl wr.heap.size w2).set (k * 2) (.bool (sgn 1))).set (k * 2 + 1) (.slice b5 (lms 1).length d5))
      have HB3 := hide (St.below (bl_trans HB1.out hb2) HST.out (Nat.le_refl _))
      clear hb2 ho5 HO HB1
      obtain ⟨w3, e3⟩ : ∃ x, x = ((w2.setCell ⟨wr.heap.size, k * 2, none⟩ (.bool (sgn 1))).setCell ⟨wr.heap.size, k * 2 + 1, none⟩ (.slice b5 (lms 1).length d5)) := ⟨_, rfl⟩
      rw [← e3] at HST hput HB3
      have hz3 := HST.out.size
      have HM3 := hide (hm.out.below HB3.out)
      have HA := hide (HM3.out.below (bl_alloc (bl_refl w3) (Obj.cells #[Value.slice (some ⟨wr.heap.size, 0, none⟩) n n] 27)))
      have HNW : Hid (∀ j u, [Value.slice (some ⟨wr.heap.size, 0, none⟩) n n][j]? = some u → (w3.alloc (Obj.cells #[Value.slice (some ⟨wr.heap.size, 0, none⟩) n n] 27)).cell? ((⟨w2.heap.size, 0, none⟩ : Addr).add j) = some u) := hide (by have := cell_one_new w3 (Value.slice (some ⟨wr.heap.size, 0, none⟩) n n) 27; rw [hz3] at this; exact this)
      have HRW : Hid (BSeg (w3.alloc (Obj.cells #[Value.slice (some ⟨wr.heap.size, 0, none⟩) n n] 27)) (fun b => w.heap.size ≤ b ∧ u3.ownBlock ≠ some b ∧ b < (w3.alloc (Obj.cells #[Value.slice (some ⟨wr.heap.size, 0, none⟩) n n] 27)).heap.size) (some ⟨wr.heap.size, 0, none⟩) n n (idF k)) := hide (by
        refine ((hput.out.seg.below (bl_alloc (bl_refl w3) (Obj.cells #[Value.slice (some ⟨wr.heap.size, 0, none⟩) n n] 27))).mono (fun b hb => ?_)).congr (fun j hj => ?_)
        · have h1 := hput.out.blocks_lt hb
          refine ⟨by omega, fun e2 => ?_, by simp only [World.size_alloc]; omega⟩
          have := (hm.out.1.lt b e2).2
          omega
        · by_cases e : j = k
          · subst e; rw [upd_same]; unfold idF idZ; rw [if_pos rfl]; rfl
          · rw [upd_ne _ _ e]; unfold idF idZ; rw [if_neg (fun h => e h.symm), numE_zero])
      have HB4 := hide (bl_trans hb.out (bl_trans HB3.out (bl_alloc (bl_refl w3) (Obj.cells #[Value.slice (some ⟨wr.heap.size, 0, none⟩) n n] 27))))
      rw [e3] at HNW HA
      go_wp2_with (at_builtin; refine wpList_append_own_at _ rfl _ _ 71 rfl w.heap.size 27 i1 (.slice none 0 0) 1 24 Try.underlying71 hi' hy0 hy1 hy2 rfl (by decide) u3 k vs rfl HA.out.1 ⟨w2.heap.size, 0, none⟩ 1 1 [Value.slice (some ⟨wr.heap.size, 0, none⟩) n n] rfl rfl HNW.out (by intro u hu; simp at hu; subst hu; rfl) (by unfold maxLen; omega) (by omega) (by simp only [World.size_alloc, World.size_setCell]; omega) ?_; intro v' w5 hown5 hgrow5 _ hat5; rw [← e3] at hgrow5 hat5 HA)
      refine ⟨⟨k + 1, _, by omega, by go_num, hide ((RowL.snoc HA.out HRW.out hown5 hgrow5 hat5 rfl).congr fun r j hr hj => ?_), hide ?_⟩, by simp [intOf]; omega⟩
      · by_cases e : r = k
        · subst e; rw [upd_same]
        · rw [upd_ne _ _ e]
      · exact HB4.out.grown hgrow5 HB4.out.size (fun q e => by have := (hm.out.1.lt q e).1; exact this)
    · obtain rfl : k = n := by omega
      obtain ⟨a, p, rfl, hs⟩ := hm.out.segs
      have HS := hide hs
      clear hs hm
      go_wp2
      go_ret
      exact ⟨a, p, rfl, HS.out, hb.out⟩
end Go.Proofs.Yteljkjpcjjiidaa
