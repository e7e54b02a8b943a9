/- What the laws ask of lists of numbers: how great one is, a copy, whether two are alike, marks, whether they are held. -/
import Derived.Test.YteljkjpcjjiidaaBo
import Derived.Deep.RegionHeld3
namespace Go.Proofs.Yteljkjpcjjiidaa
open Go.RowKit
set_option linter.unusedVariables false
set_option maxRecDepth 20000

theorem szBg (neg : Bool) (a : Option Addr) (xs : List Nat) (c : Nat) (L : Int) (w : World) (hs : Seg w a xs.length c xs) (h0 : 0 ≤ L) (h1 : L ≤ 1048576) :
    Calls Try.prog 68 #[.agg #[.bool neg, .slice a xs.length c], .int .i64 L] w fun e w' => e = .returned (.int .i64 (bleft L xs.length)) ∧ Below w.heap.size w w' :=
  (szB neg a xs.length c L w (Nat.le_trans hs.2.1 hs.2.2.1) h0 h1).mono fun e w' h => h

set_option maxHeartbeats 4000000 in
theorem szBS (a : Option Addr) (n cap : Nat) (X : Nat → Prop) (E : Nat → Bool × List Nat) (L : Int) (w : World) (hs : BSeg w X a n cap E) (h0 : 0 ≤ L) (h1 : L ≤ 1048576) :
    Calls Try.prog 32 #[.slice a n cap, .int .i64 L] w fun e w' => e = .returned (.int .i64 (bleft L (n + etot E n))) ∧ Below w.heap.size w w' := by
  have hn : n ≤ 9223372036854775807 := hs.le
  have hcap := hs.1
  have hcm := hs.2.1
  have HS := hide hs
  clear hs
  by_cases hL : L < n
  · have HZ : Hid (bleft L (n + etot E n) = -1) := hide (by unfold bleft; rw [if_pos (by omega)])
    have h' : L - (n : Int) < 0 := by omega
    go_enter Try.func32, Try.ntmps32
    go_wp2
    go_ret
    exact ⟨ret_int HZ.out.symm, bl_refl w⟩
  have h' : ¬ L - (n : Int) < 0 := by omega
  go_enter Try.func32, Try.ntmps32
  go_wp2
  go_loopw [1, 5] (fun l i wr => ∃ (k : Nat) (q : Int), k ≤ n ∧ l = .int .i64 q ∧ i = .int .i64 k ∧ 0 ≤ q ∧ q ≤ 1048576 ∧ Hid (q = L - n - etot E k) ∧ Hid (Below w.heap.size w wr)) (fun _ i _ => n - (intOf i).toNat)
  case atStart => exact ⟨0, L - n, Nat.zero_le _, rfl, rfl, by omega, by omega, hide (by simp [etot]), hide (bl_refl w)⟩
  case round =>
    obtain ⟨k, q, hk, rfl, rfl, hq0, hq1, hq, hb⟩ := hrel
    by_cases hlt : k < n
    · have hlt' : (k : Int) < (n : Int) := by omega
      obtain ⟨g, o, rfl, hg, a1, c1, t0, t1, sg⟩ := (HS.out.below hb.out).at hlt
      have H1 := hide sg
      have E1 := hide (show etot E (k + 1) = etot E k + (E k).2.length from rfl)
      have E2 := hide (etot_le E hlt)
      clear sg
      generalize (E k).1 = b1 at *
      generalize (E k).2 = xs at *
      go_wp2_with fail
      refine (szBg b1 a1 xs c1 q wr H1.out hq0 hq1).mono ?_
      rintro e w2 ⟨rfl, hb2⟩
      have hbb := hide (bl_trans hb.out hb2)
      clear hb2
      by_cases hq2 : q < (xs.length : Int)
      · have HE : Hid (bleft q xs.length = -1) := hide (by unfold bleft; rw [if_pos hq2])
        rw [HE.out]
        go_wp2
        go_ret
        exact ⟨ret_int (by have := hq.out; have := E2.out; unfold bleft; rw [if_pos (by omega)]), hbb.out⟩
      · have HE : Hid (bleft q xs.length = q - (xs.length : Int)) := hide (by unfold bleft; rw [if_neg hq2])
        rw [HE.out]
        generalize xs.length = z at *
        have hz0 : ¬ q - (z : Int) < 0 := by omega
        go_wp2
        exact ⟨⟨k + 1, q - z, by omega, rfl, by go_num, by omega, by omega, hide (by rw [E1.out]; have := hq.out; omega), hbb⟩, by simp [intOf]; omega⟩
    · obtain rfl : k = n := by omega
      go_wp2
      go_ret
      exact ⟨ret_int (by have := hq.out; unfold bleft; rw [if_neg (by omega)]; omega), hb.out⟩

theorem Try.infoBg : (Try.prog.info? 54).map (fun i => (i.zero, i.size, i.bytes)) = some (some (.agg #[Value.bool false, Value.slice none 0 0]), 2, 32) := by kernel_rfl

set_option maxHeartbeats 4000000 in
theorem toBS (a : Option Addr) (n cap : Nat) (X : Nat → Prop) (E : Nat → Bool × List Nat) (w : World) (hs : BSeg w X a n cap E) (hn : n ≤ 1048576) (ht : etot E n ≤ 1048576) :
    Calls Try.prog 35 #[.slice a n cap] w fun e w' => ∃ g A, e = .returned (.slice (some ⟨g, 0, none⟩) n n) ∧ BOwn w' w.heap.size g n E A ∧ Below w.heap.size w w' := by
  obtain ⟨i0, hi, hz0, hz1, hz2⟩ := info_parts Try.infoBg
  have hcap := hs.1
  have hcm := hs.2.1
  have HS := hide hs
  clear hs
  go_enter Try.func35, Try.ntmps35
  go_wp2_with (at_make; refine wpList_make_full _ rfl _ _ 27 rfl w.heap.size 54 i0 (.agg #[Value.bool false, Value.slice none 0 0]) 2 Try.underlying27 hi hz0 hz1 _ _ _ _ n rfl rfl rfl rfl (by rw [hz2]; omega) (by unfold maxLen; omega) (Nat.le_refl _) ?_)
  intro w1 hown hgrow
  have hb1 : Below w.heap.size w w1 := (Below.refl _ _).grown hgrow (Nat.le_refl _) (by simp)
  have HO := hide (BOwn.made hown)
  have HB1 := hide hb1
  clear hown hgrow hb1
  go_wp2
  go_loopw [4] (fun i wr => ∃ (k : Nat) (A : Nat → Option Addr × Nat), k ≤ n ∧ i = .int .i64 k ∧ Hid (BOwn wr w.heap.size w.heap.size n (fun j => if j < k then E j else (false, [])) A) ∧ Hid (Below w.heap.size w wr)) (fun i _ => n - (intOf i).toNat)
  case atStart => exact ⟨0, _, Nat.zero_le _, rfl, hide (HO.out.congr (fun j hj => by simp)), HB1⟩
  case round =>
    clear HO HB1
    obtain ⟨k, A, hk, rfl, hm, hb⟩ := hrel
    by_cases hlt : k < n
    · have hlt' : (k : Int) < (n : Int) := by omega
      obtain ⟨g, o, rfl, hg, a1, c1, t0, t1, sg⟩ := (HS.out.below hb.out).at hlt
      have hl : (E k).2.length ≤ 1048576 := Nat.le_trans (Nat.le_trans (Nat.le_add_left _ _) (etot_le E hlt)) ht
      obtain ⟨⟨b1, xs⟩, ek⟩ : ∃ p, E k = p := ⟨_, rfl⟩
      rw [ek] at t0 t1 sg hl
      dsimp only at t0 t1 sg hl
      have EK := hide ek
      have H1 := hide sg
      clear ek sg
      go_wp2_with fail
      refine (toB b1 a1 _ c1 xs wr H1.out hl).mono ?_
      rintro e w2 ⟨u, rfl, ⟨b2, d2, rfl, ho⟩, hb2⟩
      have hput := hide (hm.out.fresh hb2 hlt b1 ho)
      obtain ⟨D0, D1, F0, F1⟩ := (hm.out.below hb2).cells hlt
      have hbb := hide (St.below (bl_trans hb.out hb2) (((St.refl w.heap.size w2).set (k * 2) (.bool b1)).set (k * 2 + 1) (.slice b2 xs.length d2)) (Nat.le_refl _))
      clear hb2 ho t0 t1
      generalize (if k < k then E k else (false, [])).1 = z1 at *
      generalize (if k < k then E k else (false, [])).2.length = z2 at *
      go_wp2
      refine ⟨⟨k + 1, _, by omega, by go_num, hide (hput.out.congr fun j hj => ?_), hbb⟩, by simp [intOf]; omega⟩
      by_cases e : j = k
      · subst e; rw [upd_same, if_pos (Nat.lt_succ_self _), EK.out]
      · rw [upd_ne _ _ e]
        by_cases e2 : j < k
        · rw [if_pos e2, if_pos (by omega)]
        · rw [if_neg e2, if_neg (by omega)]
    · obtain rfl : k = n := by omega
      go_wp2
      go_ret
      exact ⟨_, _, rfl, hm.out.congr (fun j hj => by rw [if_pos hj]), hb.out⟩

set_option maxHeartbeats 4000000 in
theorem eqBS (a b : Option Addr) (n ca cb : Nat) (X Y : Nat → Prop) (E : Nat → Bool × List Nat) (w : World) (h1 : BSeg w X a n ca E) (h2 : BSeg w Y b n cb E) :
    Calls Try.prog 38 #[.slice a n ca, .slice b n cb] w fun e w' => e = .returned (.bool true) ∧ Below w.heap.size w w' := by
  have hca := h1.1
  have hcma := h1.2.1
  have hcb := h2.1
  have hcmb := h2.2.1
  have HA := hide h1
  have HBB := hide h2
  clear h1 h2
  go_enter Try.func38, Try.ntmps38
  go_wp2
  go_loopw [5] (fun i wr => ∃ k : Nat, k ≤ n ∧ i = .int .i64 k ∧ Hid (Below w.heap.size w wr)) (fun i _ => n - (intOf i).toNat)
  case atStart => exact ⟨0, Nat.zero_le _, rfl, hide (bl_refl w)⟩
  case round =>
    obtain ⟨k, hk, rfl, hb⟩ := hrel
    by_cases hlt : k < n
    · have hlt' : (k : Int) < (n : Int) := by omega
      obtain ⟨g, o, rfl, hg, a1, c1, t0, t1, sg⟩ := (HA.out.below hb.out).at hlt
      obtain ⟨g2, o2, rfl, hg2, b1, d1, u0, u1, rg⟩ := (HBB.out.below hb.out).at hlt
      obtain ⟨⟨x0, xs⟩, ek⟩ : ∃ p, E k = p := ⟨_, rfl⟩
      rw [ek] at t0 t1 sg u0 u1 rg
      dsimp only at t0 t1 sg u0 u1 rg
      have H1 := hide sg
      have R1 := hide rg
      clear ek sg rg
      go_wp2_with fail
      go_region_held3 (fun w' => w'.cell? ⟨g, o + k * 2, none⟩ = some (Value.bool x0) ∧ w'.cell? ⟨g, o + k * 2 + 1, none⟩ = some (Value.slice a1 xs.length c1) ∧ w'.cell? ⟨g2, o2 + k * 2, none⟩ = some (Value.bool x0) ∧ w'.cell? ⟨g2, o2 + k * 2 + 1, none⟩ = some (Value.slice b1 xs.length d1))
        (first
          | exact ⟨t0, t1, u0, u1⟩
          | exact ⟨(hb2.cell (p := ⟨g, o + k * 2, none⟩) hg).trans t0, (hb2.cell (p := ⟨g, o + k * 2 + 1, none⟩) hg).trans t1, (hb2.cell (p := ⟨g2, o2 + k * 2, none⟩) hg2).trans u0, (hb2.cell (p := ⟨g2, o2 + k * 2 + 1, none⟩) hg2).trans u1⟩)
        (first
          | (go_at_call 71; refine (eqB _ _ x0 xs _ ⟨a1, c1, rfl, H1.out.below (bl_refl wr).drew⟩ ⟨b1, d1, rfl, R1.out.below (bl_refl wr).drew⟩).mono ?_; rintro e w2 ⟨rfl, hb2'⟩; have hb2 : Below wr.heap.size wr w2 := (bl_refl wr).drew.trans hb2'))
      all_goals go_wp2
      all_goals exact ⟨⟨k + 1, by omega, by go_num, hide (bl_trans hb.out hb2)⟩, by simp [intOf]; omega⟩
    · obtain rfl : k = n := by omega
      go_wp2
      go_ret
      exact ⟨rfl, hb.out⟩

/-- what is marked -/
def mkE (k0 : Nat) (E : Nat → Bool × List Nat) (j : Nat) : Bool × List Nat := (decide ((k0 + j + etot E j) % 3 = 0), marks (k0 + j + etot E j + 1) (E j).2.length)
theorem mkE_len (k0 : Nat) (E : Nat → Bool × List Nat) (j : Nat) : (mkE k0 E j).2.length = (E j).2.length := marks_length _ _
theorem mod3 (K : Nat) : (((K : Int) % 3) == 0) = decide (K % 3 = 0) := by
  have : (K : Int) % 3 = ((K % 3 : Nat) : Int) := by omega
  rw [this]
  by_cases h : K % 3 = 0
  · rw [h]; rfl
  · rw [decide_eq_false h, beq_eq_false_iff_ne]; omega
theorem markUe (a : Option Addr) (n cap : Nat) (xs : List Nat) (base K : Nat) (q : Int) (w : World) (hq : q = (K : Int)) (h2 : K + n ≤ 3000000) (hown : Own w base a n cap xs) :
    Calls Try.prog 77 #[.slice a n cap, .int .i64 q] w fun e w' => e = .returned (.int .i64 ((K + n : Nat) : Int)) ∧ Own w' base a n cap (marks K n) ∧ w.grownBy w' (Value.slice a n cap).ownBlock := by
  subst hq; exact markU a n cap xs base K w h2 hown
theorem heldUe (a : Option Addr) (n cap K : Nat) (q : Int) (w : World) (hq : q = (K : Int)) (h2 : K + n ≤ 3000000) (hs : Seg w a n cap (marks K n)) :
    Calls Try.prog 78 #[.slice a n cap, .int .i64 q] w fun e w' => e = .returned (.int .i64 ((K + n : Nat) : Int)) ∧ ∃ m, w' = w.drewN m := by
  subst hq; exact heldU a n cap K w h2 hs
theorem own_blocks {g n k : Nat} {A : Nat → Option Addr × Nat} {l c : Nat} (hk : k < n) : ∀ b, (Value.slice (A k).1 l c).ownBlock = some b → BOwn.blocks g n A b := by
  intro b e
  cases hA : (A k).1 with
  | none => rw [hA] at e; cases e
  | some x => rw [hA] at e; simp only [Value.ownBlock] at e; cases e; exact .inr ⟨k, x, hk, hA, rfl⟩

set_option maxHeartbeats 4000000 in
theorem markBS (g n : Nat) (E : Nat → Bool × List Nat) (A : Nat → Option Addr × Nat) (lo k0 : Nat) (w : World) (h2 : k0 + n + etot E n ≤ 3000000) (hown : BOwn w lo g n E A) :
    Calls Try.prog 47 #[.slice (some ⟨g, 0, none⟩) n n, .int .i64 k0] w fun e w' => e = .returned (.int .i64 ((k0 + n + etot E n : Nat) : Int)) ∧ BOwn w' lo g n (mkE k0 E) A ∧ Chg (BOwn.blocks g n A) w w' := by
  have hn := hown.max
  have HO := hide hown
  clear hown
  go_enter Try.func47, Try.ntmps47
  go_wp2
  go_loopw [1, 5] (fun l i wr => ∃ k K : Nat, k ≤ n ∧ Hid (K = k0 + k + etot E k) ∧ K ≤ 3000000 ∧ l = .int .i64 (K : Int) ∧ i = .int .i64 k ∧ Hid (BOwn wr lo g n (fun j => if j < k then mkE k0 E j else E j) A) ∧ Hid (Chg (BOwn.blocks g n A) w wr)) (fun _ i _ => n - (intOf i).toNat)
  case atStart => exact ⟨0, k0, Nat.zero_le _, hide (by simp [etot]), by omega, rfl, rfl, hide (HO.out.congr (fun j hj => by simp)), hide (Chg.refl _ _)⟩
  case round =>
    obtain ⟨k, K, hk, hK, hKm, rfl, rfl, hm, hb⟩ := hrel
    by_cases hlt : k < n
    · have hlt' : (k : Int) < (n : Int) := by omega
      have HKK := hide (etot_le E hlt)
      have HEk := hide (show etot E (k + 1) = etot E k + (E k).2.length from rfl)
      obtain ⟨D0, D1, F0, F1⟩ := hm.out.cells hlt
      rw [if_neg (Nat.lt_irrefl k)] at D0 D1
      have hmod := mod3 K
      have HM : Hid (mkE k0 E k = (decide (K % 3 = 0), marks (K + 1) (E k).2.length)) := hide (by unfold mkE; rw [← hK.out])
      have hsg := hide (hm.out.sign hlt (decide (K % 3 = 0)))
      have hch : Hid (Chg (BOwn.blocks g n A) w (wr.setCell ⟨g, k * 2, none⟩ (.bool (decide (K % 3 = 0))))) := hide (hb.out.trans (Chg.grown (St.grown ((St.refl g wr).set (k * 2) _)) (fun b e => by cases e; exact .inl rfl)))
      have hKl : K + 1 + (E k).2.length ≤ 3000000 := by have := hK.out; have := HKK.out; omega
      have hcell : Own (wr.setCell ⟨g, k * 2, none⟩ (.bool (decide (K % 3 = 0)))) lo (A k).1 (E k).2.length (A k).2 (E k).2 := by
        have := (hsg.out.2.2.1 k hlt).2.2.1
        rw [upd_same, if_neg (Nat.lt_irrefl k)] at this
        exact this
      have HC := hide hcell
      clear hcell
      go_wp2_with fail
      generalize hgw : wr.setCell ⟨g, k * 2, none⟩ (.bool (decide (K % 3 = 0))) = w2 at *
      refine (markUe (A k).1 (E k).2.length (A k).2 (E k).2 lo (K + 1) _ w2 (by omega) hKl HC.out).mono ?_
      rintro e w3 ⟨rfl, ho, hgr⟩
      have hli := hide (hsg.out.limbs hlt (ys := marks (K + 1) (E k).2.length) (by rw [upd_same, if_neg (Nat.lt_irrefl k), marks_length]) (by rw [upd_same, if_neg (Nat.lt_irrefl k)]; exact ho) (by rw [upd_same, if_neg (Nat.lt_irrefl k)]; exact hgr))
      have hch2 := hide (hch.out.trans (Chg.grown hgr (own_blocks hlt)))
      clear ho hgr hgw hmod D0 D1 F0 F1
      obtain ⟨K2, hK2⟩ : ∃ K2, K + 1 + (E k).2.length = K2 := ⟨_, rfl⟩
      have HK2 := hide hK2
      rw [hK2] at hKl ⊢
      clear hK2
      go_wp2
      refine ⟨⟨k + 1, K2, by omega, hide ?_, hKl, rfl, by go_num, hide (hli.out.congr fun j hj => ?_), hch2⟩, by simp [intOf]; omega⟩
      · have := HK2.out; have := hK.out; have := HEk.out; omega
      · by_cases e : j = k
        · subst e; rw [upd_same, upd_same, if_pos (Nat.lt_succ_self _), HM.out]
        · rw [upd_ne _ _ e, upd_ne _ _ e]
          by_cases e2 : j < k
          · rw [if_pos e2, if_pos (by omega)]
          · rw [if_neg e2, if_neg (by omega)]
    · obtain rfl : k = n := by omega
      go_wp2
      go_ret
      exact ⟨ret_int (by have := hK.out; omega), hm.out.congr (fun j hj => by rw [if_pos hj]), hb.out⟩

set_option maxHeartbeats 4000000 in
theorem heldBS (a : Option Addr) (n cap : Nat) (X : Nat → Prop) (E : Nat → Bool × List Nat) (k0 : Nat) (w : World) (h2 : k0 + n + etot E n ≤ 3000000) (hs : BSeg w X a n cap (mkE k0 E)) :
    Calls Try.prog 48 #[.slice a n cap, .int .i64 k0] w fun e w' => e = .returned (.int .i64 ((k0 + n + etot E n : Nat) : Int)) ∧ Below w.heap.size w w' := by
  have hn := hs.le
  have hcap := hs.1
  have hcm := hs.2.1
  have HS := hide hs
  clear hs
  go_enter Try.func48, Try.ntmps48
  go_wp2
  go_loopw [1, 5] (fun l i wr => ∃ k K : Nat, k ≤ n ∧ Hid (K = k0 + k + etot E k) ∧ K ≤ 3000000 ∧ l = .int .i64 (K : Int) ∧ i = .int .i64 k ∧ Hid (Below w.heap.size w wr)) (fun _ i _ => n - (intOf i).toNat)
  case atStart => exact ⟨0, k0, Nat.zero_le _, hide (by simp [etot]), by omega, rfl, rfl, hide (bl_refl w)⟩
  case round =>
    obtain ⟨k, K, hk, hK, hKm, rfl, rfl, hb⟩ := hrel
    by_cases hlt : k < n
    · have hlt' : (k : Int) < (n : Int) := by omega
      have HKK := hide (etot_le E hlt)
      have HEk := hide (show etot E (k + 1) = etot E k + (E k).2.length from rfl)
      obtain ⟨g, o, rfl, hg, a1, c1, t0, t1, sg⟩ := (HS.out.below hb.out).at hlt
      have HM : mkE k0 E k = (decide (K % 3 = 0), marks (K + 1) (E k).2.length) := by unfold mkE; rw [← hK.out]
      rw [HM] at t0 t1 sg
      simp only [marks_length] at t0 t1 sg
      have hmod := mod3 K
      have hKl : K + 1 + (E k).2.length ≤ 3000000 := by have := hK.out; have := HKK.out; omega
      have HSG := hide sg
      clear sg HM
      obtain ⟨b3, hb3⟩ : ∃ b3, decide (K % 3 = 0) = b3 := ⟨_, rfl⟩
      rw [hb3] at hmod t0
      clear hb3
      have hbb : (b3 != b3) = false := by simp
      go_wp2_with fail
      all_goals refine (heldUe a1 (E k).2.length c1 (K + 1) _ _ (by omega) hKl (HSG.out.below (by first | exact bl_refl _ | exact (bl_refl _).drew | exact below_drewN (bl_refl _) _))).mono ?_
      all_goals rintro e w3 ⟨rfl, m, rfl⟩
      all_goals obtain ⟨K2, hK2⟩ : ∃ K2, K + 1 + (E k).2.length = K2 := ⟨_, rfl⟩
      all_goals have HK2 := hide hK2
      all_goals rw [hK2] at hKl ⊢
      all_goals clear hK2
      all_goals go_wp2
      all_goals exact ⟨⟨k + 1, K2, by omega, hide (by have := HK2.out; have := hK.out; have := HEk.out; omega), hKl, rfl, by go_num, hide (below_drewN (by first | exact hb.out | exact hb.out.drew | exact below_drewN hb.out _) _)⟩, by simp [intOf]; omega⟩
    · obtain rfl : k = n := by omega
      go_wp2
      go_ret
      exact ⟨ret_int (by have := hK.out; omega), hb.out⟩
end Go.Proofs.Yteljkjpcjjiidaa
