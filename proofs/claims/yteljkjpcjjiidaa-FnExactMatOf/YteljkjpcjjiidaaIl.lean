/- What the law asks of lists of lists of ints: how great one is, a copy, whether two are alike, marks. -/
import Derived.Test.YteljkjpcjjiidaaIb
import Derived.Test.YteljkjpcjjiidaaBl
import Derived.Deep.RegionHeld3
namespace Go.Proofs.Yteljkjpcjjiidaa
open Go.RowKit
set_option linter.unusedVariables false
set_option maxRecDepth 20000

set_option maxHeartbeats 4000000 in
theorem szSS (a : Option Addr) (n cap : Nat) (X : Nat → Prop) (E : Nat → List Int) (L : Int) (w : World) (hs : ISeg w X a n cap E) (h0 : 0 ≤ L) (h1 : L ≤ 1048576) :
    Calls Try.prog 15 #[.slice a n cap, .int .i64 L] w fun e w' => e = .returned (.int .i64 (bleft L (n + itot E n))) ∧ Below w.heap.size w w' := by
  have hn : n ≤ 9223372036854775807 := hs.le
  have hcap := hs.1
  have hcm := hs.2.1
  have HS := hide hs
  clear hs
  by_cases hL : L < n
  · have HZ : Hid (bleft L (n + itot E n) = -1) := hide (by unfold bleft; rw [if_pos (by omega)])
    have h' : L - (n : Int) < 0 := by omega
    go_enter Try.func15, Try.ntmps15
    go_wp2
    go_ret
    exact ⟨ret_int HZ.out.symm, bl_refl w⟩
  have h' : ¬ L - (n : Int) < 0 := by omega
  go_enter Try.func15, Try.ntmps15
  go_wp2
  go_loopw [1, 5] (fun l i wr => ∃ (k : Nat) (q : Int), k ≤ n ∧ l = .int .i64 q ∧ i = .int .i64 k ∧ 0 ≤ q ∧ q ≤ 1048576 ∧ Hid (q = L - n - itot E k) ∧ Hid (Below w.heap.size w wr)) (fun _ i _ => n - (intOf i).toNat)
  case atStart => exact ⟨0, L - n, Nat.zero_le _, rfl, rfl, by omega, by omega, hide (by simp [itot]), hide (bl_refl w)⟩
  case round =>
    obtain ⟨k, q, hk, rfl, rfl, hq0, hq1, hq, hb⟩ := hrel
    by_cases hlt : k < n
    · have hlt' : (k : Int) < (n : Int) := by omega
      obtain ⟨g, o, rfl, hg, a1, c1, t0, sg⟩ := (HS.out.below hb.out).at hlt
      have hzl : (E k).length ≤ 9223372036854775807 := Nat.le_trans sg.2.1 sg.2.2.1
      have E1 := hide (show itot E (k + 1) = itot E k + (E k).length from rfl)
      have E2 := hide (itot_le E hlt)
      clear sg
      generalize (E k).length = z at *
      go_wp2_with fail
      refine (V.szU a1 z c1 q wr hzl hq0 hq1).mono ?_
      rintro e w2 ⟨rfl, rfl⟩
      by_cases hq2 : q < (z : Int)
      · rw [if_pos hq2]
        go_wp2
        go_ret
        exact ⟨ret_int (by have := hq.out; have := E2.out; unfold bleft; rw [if_pos (by omega)]), hb.out⟩
      · rw [if_neg hq2]
        have hz0 : ¬ q - (z : Int) < 0 := by omega
        go_wp2
        exact ⟨⟨k + 1, q - z, by omega, rfl, by go_num, by omega, by omega, hide (by rw [E1.out]; have := hq.out; omega), hb⟩, by simp [intOf]; omega⟩
    · obtain rfl : k = n := by omega
      go_wp2
      go_ret
      exact ⟨ret_int (by have := hq.out; unfold bleft; rw [if_neg (by omega)]; omega), hb.out⟩

theorem Try.infoIS : (Try.prog.info? 59).map (fun i => (i.zero, i.size, i.bytes)) = some (some (Value.slice none 0 0), 1, 24) := by kernel_rfl

set_option maxHeartbeats 4000000 in
theorem toSS (a : Option Addr) (n cap : Nat) (X : Nat → Prop) (E : Nat → List Int) (w : World) (hs : ISeg w X a n cap E) (hn : n ≤ 1048576) (ht : itot E n ≤ 1048576) :
    Calls Try.prog 17 #[.slice a n cap] w fun e w' => ∃ g A, e = .returned (.slice (some ⟨g, 0, none⟩) n n) ∧ IOwn w' w.heap.size g n E A ∧ Below w.heap.size w w' := by
  obtain ⟨i0, hi, hz0, hz1, hz2⟩ := info_parts Try.infoIS
  have hcap := hs.1
  have hcm := hs.2.1
  have HS := hide hs
  clear hs
  go_enter Try.func17, Try.ntmps17
  go_wp2_with (at_make; refine wpList_make_full _ rfl _ _ 33 rfl w.heap.size 59 i0 (Value.slice none 0 0) 1 Try.underlying33 hi hz0 hz1 _ _ _ _ n rfl rfl rfl rfl (by rw [hz2]; omega) (by unfold maxLen; omega) (Nat.le_refl _) ?_)
  intro w1 hown hgrow
  have hb1 : Below w.heap.size w w1 := (Below.refl _ _).grown hgrow (Nat.le_refl _) (by simp)
  have HO := hide (IOwn.made hown)
  have HB1 := hide hb1
  clear hown hgrow hb1
  go_wp2
  go_loopw [4] (fun i wr => ∃ (k : Nat) (A : Nat → Option Addr × Nat), k ≤ n ∧ i = .int .i64 k ∧ Hid (IOwn wr w.heap.size w.heap.size n (fun j => if j < k then E j else []) A) ∧ Hid (Below w.heap.size w wr)) (fun i _ => n - (intOf i).toNat)
  case atStart => exact ⟨0, _, Nat.zero_le _, rfl, hide (HO.out.congr (fun j hj => by simp)), HB1⟩
  case round =>
    clear HO HB1
    obtain ⟨k, A, hk, rfl, hm, hb⟩ := hrel
    by_cases hlt : k < n
    · have hlt' : (k : Int) < (n : Int) := by omega
      obtain ⟨g, o, rfl, hg, a1, c1, t0, sg⟩ := (HS.out.below hb.out).at hlt
      have hl : (E k).length ≤ 1048576 := Nat.le_trans (Nat.le_trans (Nat.le_add_left _ _) (itot_le E hlt)) ht
      obtain ⟨xs, ek⟩ : ∃ p, E k = p := ⟨_, rfl⟩
      rw [ek] at t0 sg hl
      have EK := hide ek
      have H1 := hide sg
      clear ek sg
      go_wp2_with fail
      refine (V.toU a1 _ c1 xs wr H1.out hl).mono ?_
      rintro e w2 ⟨b2, d2, rfl, ho, hb2⟩
      have hput := hide (hm.out.fresh hb2 hlt ho)
      obtain ⟨D0, F0⟩ := (hm.out.below hb2).cells hlt
      have hbb := hide (St.below (bl_trans hb.out hb2) ((St.refl w.heap.size w2).set k (.slice b2 xs.length d2)) (Nat.le_refl _))
      clear hb2 ho t0
      generalize (if k < k then E k else []).length = z2 at *
      go_wp2
      refine ⟨⟨k + 1, _, by omega, by go_num, hide (hput.out.congr fun j hj => ?_), hbb⟩, by simp [intOf]; omega⟩
      by_cases e : j = k
      · subst e; rw [upd_same, if_pos (Nat.lt_succ_self _), EK.out]
      · rw [upd_ne _ _ e]
        by_cases e2 : j < k
        · rw [if_pos e2, if_pos (by omega)]
        · rw [if_neg e2, if_neg (by omega)]
    · obtain rfl : k = n := by omega
      go_wp2
      go_ret
      exact ⟨_, _, rfl, hm.out.congr (fun j hj => by rw [if_pos hj]), hb.out⟩

theorem drew_is {a b : World} {m : Nat} (h : b = a.drew.drewN m) : Below a.heap.size a b := by rw [h]; exact below_drewN (bl_refl a).drew m
set_option maxHeartbeats 4000000 in
theorem eqSS (a b : Option Addr) (n ca cb : Nat) (X Y : Nat → Prop) (E : Nat → List Int) (w : World) (h1 : ISeg w X a n ca E) (h2 : ISeg w Y b n cb E) :
    Calls Try.prog 19 #[.slice a n ca, .slice b n cb] w fun e w' => e = .returned (.bool true) ∧ Below w.heap.size w w' := by
  have hca := h1.1
  have hcma := h1.2.1
  have hcb := h2.1
  have hcmb := h2.2.1
  have HA := hide h1
  have HBB := hide h2
  clear h1 h2
  go_enter Try.func19, Try.ntmps19
  go_wp2
  go_loopw [5] (fun i wr => ∃ k : Nat, k ≤ n ∧ i = .int .i64 k ∧ Hid (Below w.heap.size w wr)) (fun i _ => n - (intOf i).toNat)
  case atStart => exact ⟨0, Nat.zero_le _, rfl, hide (bl_refl w)⟩
  case round =>
    obtain ⟨k, hk, rfl, hb⟩ := hrel
    by_cases hlt : k < n
    · have hlt' : (k : Int) < (n : Int) := by omega
      obtain ⟨g, o, rfl, hg, a1, c1, t0, sg⟩ := (HA.out.below hb.out).at hlt
      obtain ⟨g2, o2, rfl, hg2, b1, d1, u0, rg⟩ := (HBB.out.below hb.out).at hlt
      obtain ⟨xs, ek⟩ : ∃ p, E k = p := ⟨_, rfl⟩
      rw [ek] at t0 sg u0 rg
      have H1 := hide sg
      have R1 := hide rg
      clear ek sg rg
      go_wp2_with fail
      go_region_held3 (fun w' => w'.cell? ⟨g, o + k, none⟩ = some (Value.slice a1 xs.length c1) ∧ w'.cell? ⟨g2, o2 + k, none⟩ = some (Value.slice b1 xs.length d1))
        (first
          | exact ⟨t0, u0⟩
          | exact ⟨(hb2.cell (p := ⟨g, o + k, none⟩) hg).trans t0, (hb2.cell (p := ⟨g2, o2 + k, none⟩) hg2).trans u0⟩)
        (first
          | (go_at_call 45; refine (V.eqU a1 b1 xs.length c1 d1 xs _ (H1.out.below (bl_refl wr).drew) (R1.out.below (bl_refl wr).drew)).mono ?_; rintro e w2 ⟨rfl, m, hm⟩; have hb2 : Below wr.heap.size wr w2 := drew_is hm))
      all_goals go_wp2
      all_goals exact ⟨⟨k + 1, by omega, by go_num, hide (below_drewN hb.out _)⟩, by simp [intOf]; omega⟩
    · obtain rfl : k = n := by omega
      go_wp2
      go_ret
      exact ⟨rfl, hb.out⟩

/-- what is marked -/
def mkI (k0 : Nat) (E : Nat → List Int) (j : Nat) : List Int := V.marks (k0 + itot E j) (E j).length
set_option maxHeartbeats 4000000 in
theorem markSS (g n : Nat) (E : Nat → List Int) (A : Nat → Option Addr × Nat) (lo k0 : Nat) (w : World) (h2 : k0 + itot E n ≤ 3000000) (hown : IOwn w lo g n E A) :
    Calls Try.prog 20 #[.slice (some ⟨g, 0, none⟩) n n, .int .i64 k0] w fun e w' => e = .returned (.int .i64 ((k0 + itot E n : Nat) : Int)) ∧ IOwn w' lo g n (mkI k0 E) A ∧ Chg (BOwn.blocks g n A) w w' := by
  have hn := hown.max
  have HO := hide hown
  clear hown
  go_enter Try.func20, Try.ntmps20
  go_wp2
  go_loopw [1, 5] (fun l i wr => ∃ k K : Nat, k ≤ n ∧ Hid (K = k0 + itot E k) ∧ K ≤ 3000000 ∧ l = .int .i64 (K : Int) ∧ i = .int .i64 k ∧ Hid (IOwn wr lo g n (fun j => if j < k then mkI k0 E j else E j) A) ∧ Hid (Chg (BOwn.blocks g n A) w wr)) (fun _ i _ => n - (intOf i).toNat)
  case atStart => exact ⟨0, k0, Nat.zero_le _, hide (by simp [itot]), by omega, rfl, rfl, hide (HO.out.congr (fun j hj => by simp)), hide (Chg.refl _ _)⟩
  case round =>
    obtain ⟨k, K, hk, hK, hKm, rfl, rfl, hm, hb⟩ := hrel
    by_cases hlt : k < n
    · have hlt' : (k : Int) < (n : Int) := by omega
      have HKK := hide (itot_le E hlt)
      have HEk := hide (show itot E (k + 1) = itot E k + (E k).length from rfl)
      obtain ⟨D0, F0⟩ := hm.out.cells hlt
      rw [if_neg (Nat.lt_irrefl k)] at D0
      have HM : Hid (mkI k0 E k = V.marks K (E k).length) := hide (by unfold mkI; rw [← hK.out])
      have hKl : K + (E k).length ≤ 3000000 := by have := hK.out; have := HKK.out; omega
      have hcell : V.Own wr lo (A k).1 (E k).length (A k).2 (E k) := by
        have := (hm.out.2.2.1 k hlt).2.1
        simpa only [if_neg (Nat.lt_irrefl k)] using this
      have HC := hide hcell
      clear hcell
      go_wp2_with fail
      refine (V.markU (A k).1 (E k).length (A k).2 (E k) lo K wr hKl HC.out).mono ?_
      rintro e w3 ⟨rfl, ho, hgr⟩
      have hli := hide (hm.out.ints hlt (ys := V.marks K (E k).length) (by rw [if_neg (Nat.lt_irrefl k), V.marks_length]) (by rw [if_neg (Nat.lt_irrefl k)]; exact ho) (by rw [if_neg (Nat.lt_irrefl k)]; exact hgr))
      have hch2 := hide (hb.out.trans (Chg.grown hgr (own_blocks hlt)))
      clear ho hgr D0 F0
      obtain ⟨K2, hK2⟩ : ∃ K2, K + (E k).length = K2 := ⟨_, rfl⟩
      have HK2 := hide hK2
      rw [hK2] at hKl ⊢
      clear hK2
      go_wp2
      refine ⟨⟨k + 1, K2, by omega, hide ?_, hKl, rfl, by go_num, hide (hli.out.congr fun j hj => ?_), hch2⟩, by simp [intOf]; omega⟩
      · have := HK2.out; have := hK.out; have := HEk.out; omega
      · by_cases e : j = k
        · subst e; rw [upd_same, if_pos (Nat.lt_succ_self _), HM.out]
        · rw [upd_ne _ _ e]
          by_cases e2 : j < k
          · rw [if_pos e2, if_pos (by omega)]
          · rw [if_neg e2, if_neg (by omega)]
    · obtain rfl : k = n := by omega
      go_wp2
      go_ret
      exact ⟨ret_int (by have := hK.out; omega), hm.out.congr (fun j hj => by rw [if_pos hj]), hb.out⟩
end Go.Proofs.Yteljkjpcjjiidaa
