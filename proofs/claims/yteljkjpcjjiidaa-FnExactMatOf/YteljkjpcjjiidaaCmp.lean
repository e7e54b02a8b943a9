/- The walks of what compares limbs and numbers: -1, 0 or 1; nothing that was there turns. -/
import Derived.Test.YteljkjpcjjiidaaMake
import Derived.Deep.RegionHeld3
namespace Go.Proofs.Yteljkjpcjjiidaa
open Go.RowKit
set_option linter.unusedVariables false

/-- -1, 0 or 1 -/
def cmpZ (a b : Int) : Int := if a < b then -1 else if b < a then 1 else 0
theorem cmp_lt {a b : Int} (h : a < b) : cmpZ a b = -1 := by simp [cmpZ, h]
theorem cmp_gt {a b : Int} (h : b < a) : cmpZ a b = 1 := by simp [cmpZ, h, Int.not_lt.2 (Int.le_of_lt h)]
theorem cmp_eq {a b : Int} (h : a = b) : cmpZ a b = 0 := by simp [cmpZ, h]
theorem drew_more {w wr : World} (h : ∃ d, wr = w.drewN d) (n : Nat) : ∃ d, wr.drewN n = w.drewN d := by
  obtain ⟨d, rfl⟩ := h; exact ⟨d + n, by simp⟩
theorem drew2 (w : World) (a b : Nat) : ∃ m, (w.drewN a).drewN b = w.drewN m := ⟨a + b, by simp⟩

theorem nancmpI (a : Int) (w : World) : Calls Try.prog 106 #[.int .i64 a] w fun e w' => e = .returned (.bool false) ∧ w' = w := by
  go_enter Try.func106, Try.ntmps106
  go_wp2
  go_ret
  exact ⟨ret_bool (by simp), rfl⟩
theorem cmpI (a b : Int) (w : World) : Calls Try.prog 104 #[.int .i64 a, .int .i64 b] w fun e w' => e = .returned (.int .i64 (cmpZ a b)) ∧ w' = w := by
  rcases Int.lt_trichotomy a b with h | h | h
  · rw [cmp_lt h]
    go_enter Try.func104, Try.ntmps104
    go_wp2_with (go_at_call 106; refine (nancmpI _ _).mono ?_; rintro e w1 ⟨rfl, hw⟩; subst w1)
    go_ret
    exact ⟨rfl, rfl⟩
  · rw [cmp_eq h]
    subst h
    have hr : ¬ a < a := by omega
    go_enter Try.func104, Try.ntmps104
    go_wp2_with (go_at_call 106; refine (nancmpI _ _).mono ?_; rintro e w1 ⟨rfl, hw⟩; subst w1)
    go_ret
    exact ⟨rfl, rfl⟩
  · rw [cmp_gt h]
    have hr : ¬ a < b := by omega
    go_enter Try.func104, Try.ntmps104
    go_wp2_with (go_at_call 106; refine (nancmpI _ _).mono ?_; rintro e w1 ⟨rfl, hw⟩; subst w1)
    go_ret
    exact ⟨rfl, rfl⟩

theorem nancmpU (a : Int) (w : World) : Calls Try.prog 107 #[.int .u32 a] w fun e w' => e = .returned (.bool false) ∧ w' = w := by
  go_enter Try.func107, Try.ntmps107
  go_wp2
  go_ret
  exact ⟨ret_bool (by simp), rfl⟩
theorem cmpU (a b : Int) (w : World) : Calls Try.prog 105 #[.int .u32 a, .int .u32 b] w fun e w' => e = .returned (.int .i64 (cmpZ a b)) ∧ w' = w := by
  rcases Int.lt_trichotomy a b with h | h | h
  · rw [cmp_lt h]
    go_enter Try.func105, Try.ntmps105
    go_wp2_with (go_at_call 107; refine (nancmpU _ _).mono ?_; rintro e w1 ⟨rfl, hw⟩; subst w1)
    go_ret
    exact ⟨rfl, rfl⟩
  · rw [cmp_eq h]
    subst h
    have hr : ¬ a < a := by omega
    go_enter Try.func105, Try.ntmps105
    go_wp2_with (go_at_call 107; refine (nancmpU _ _).mono ?_; rintro e w1 ⟨rfl, hw⟩; subst w1)
    go_ret
    exact ⟨rfl, rfl⟩
  · rw [cmp_gt h]
    have hr : ¬ a < b := by omega
    go_enter Try.func105, Try.ntmps105
    go_wp2_with (go_at_call 107; refine (nancmpU _ _).mono ?_; rintro e w1 ⟨rfl, hw⟩; subst w1)
    go_ret
    exact ⟨rfl, rfl⟩

theorem drop_eq {xs ys : List Nat} {k : Nat} (h : k < xs.length) (h' : k < ys.length) (he : xs[k] = ys[k]) (hd : xs.drop (k + 1) = ys.drop (k + 1)) : xs.drop k = ys.drop k := by
  rw [List.drop_eq_getElem_cons h, List.drop_eq_getElem_cons h', he, hd]
theorem at_lt {x y k : Nat} (hl : (Num.limbs x).length = (Num.limbs y).length) (h : k < (Num.limbs x).length) (h' : k < (Num.limbs y).length) (hd : (Num.limbs x).drop (k + 1) = (Num.limbs y).drop (k + 1)) (hlt : (Num.limbs x)[k] < (Num.limbs y)[k]) : x < y := by
  have := Num.nat_lt_at (Num.limbs_small x) hl h h' hd hlt
  rwa [Num.nat_limbs, Num.nat_limbs] at this
theorem seg_cell {W : World} {a : Option Addr} {n cap : Nat} {xs : List Nat} (h : Seg W a n cap xs) (k : Nat) (hk : k < xs.length) : ∃ g o, a = some ⟨g, o, none⟩ ∧ g < W.heap.size ∧ W.cell? ⟨g, o + k, none⟩ = some (.int .u32 xs[k]) := by
  rcases h.2.2.2.2 with h0 | ⟨g, o, ha, hg, hc⟩
  · have := h.1; omega
  · exact ⟨g, o, ha, hg, hc k hk⟩

set_option maxHeartbeats 2000000 in
theorem leastS (x y : Nat) (a b : Option Addr) (n m ca cb : Nat) (w : World) (ha : Seg w a n ca (Num.limbs x)) (hb : Seg w b m cb (Num.limbs y)) :
    Calls Try.prog 83 #[.slice a n ca, .slice b m cb] w fun e w' => e = .returned (.int .i64 (cmpZ x y)) ∧ ∃ d, w' = w.drewN d := by
  obtain rfl := ha.1
  obtain rfl := hb.1
  have a1 := ha.2.1
  have a2 := ha.2.2.1
  have b1 := hb.2.1
  have b2 := hb.2.2.1
  have HA := hide ha
  have HB := hide hb
  clear ha hb
  by_cases hl : (Num.limbs x).length < (Num.limbs y).length
  · have HC := hide (cmp_lt (a := (x : Int)) (b := y) (by have := Num.len_lt hl; omega))
    have HD : Hid (cmpZ ((Num.limbs x).length : Int) ((Num.limbs y).length : Int) = -1) := hide (cmp_lt (by omega))
    have hne : (((Num.limbs x).length : Int) != ((Num.limbs y).length : Int)) = true := by rw [bne_iff_ne]; omega
    generalize (Num.limbs x).length = p at *
    generalize (Num.limbs y).length = q at *
    go_enter Try.func83, Try.ntmps83
    go_wp2
    go_ret
    exact ⟨ret_int (HC.out.symm), 0, rfl⟩
  by_cases hl2 : (Num.limbs y).length < (Num.limbs x).length
  · have HC := hide (cmp_gt (a := (x : Int)) (b := y) (by have := Num.len_lt hl2; omega))
    have HD : Hid (cmpZ ((Num.limbs x).length : Int) ((Num.limbs y).length : Int) = 1) := hide (cmp_gt (by omega))
    have hne : (((Num.limbs x).length : Int) != ((Num.limbs y).length : Int)) = true := by rw [bne_iff_ne]; omega
    generalize (Num.limbs x).length = p at *
    generalize (Num.limbs y).length = q at *
    go_enter Try.func83, Try.ntmps83
    go_wp2
    go_ret
    exact ⟨ret_int (HC.out.symm), 0, rfl⟩
  have hle : (Num.limbs x).length = (Num.limbs y).length := by omega
  obtain ⟨L, hL⟩ : ∃ L, (Num.limbs x).length = L := ⟨_, rfl⟩
  have hL2 : (Num.limbs y).length = L := by omega
  have HX := hide hL
  have HY := hide hL2
  rw [hL] at a1 ⊢
  rw [hL2] at b1 ⊢
  clear hl hl2 hle hL hL2
  go_enter Try.func83, Try.ntmps83
  go_wp2
  go_loopw [5] (fun i wr => ∃ k : Nat, k ≤ L ∧ i = .int .i64 ((k : Int) - 1) ∧ Hid ((Num.limbs x).drop k = (Num.limbs y).drop k) ∧ Hid (∃ d, wr = w.drewN d)) (fun i _ => (intOf i + 1).toNat)
  case atStart => exact ⟨L, Nat.le_refl _, by go_num, hide (by rw [List.drop_eq_nil_of_le (by rw [HX.out]; exact Nat.le_refl _), List.drop_eq_nil_of_le (by rw [HY.out]; exact Nat.le_refl _)]), hide ⟨0, rfl⟩⟩
  case round =>
    obtain ⟨k, hk, rfl, hd, hw⟩ := hrel
    have HA' : Hid (Seg wr a L ca (Num.limbs x)) := hide (by obtain ⟨d, rfl⟩ := hw.out; have := HA.out; rw [HX.out] at this; exact this.below (below_drewN (bl_refl w) d))
    have HB' : Hid (Seg wr b L cb (Num.limbs y)) := hide (by obtain ⟨d, rfl⟩ := hw.out; have := HB.out; rw [HY.out] at this; exact this.below (below_drewN (bl_refl w) d))
    by_cases h0 : k = 0
    · subst h0
      have HE : Hid (cmpZ x y = 0) := hide (cmp_eq (by have := hd.out; rw [List.drop_zero, List.drop_zero] at this; rw [Num.limbs_inj this]))
      go_wp2
      go_ret
      exact ⟨ret_int HE.out.symm, hw.out⟩
    · obtain ⟨j, rfl⟩ : ∃ j, k = j + 1 := ⟨k - 1, by omega⟩
      have hj1 : j < (Num.limbs x).length := by rw [HX.out]; omega
      have hj2 : j < (Num.limbs y).length := by rw [HY.out]; omega
      have hjL : (j : Int) < (L : Int) := by omega
      obtain ⟨g, o, rfl, hg, hc1⟩ := seg_cell HA'.out j hj1
      obtain ⟨g', o', rfl, hg', hc2⟩ := seg_cell HB'.out j hj2
      have ej : (((j + 1 : Nat) : Int) - 1) = (j : Int) := by omega
      rw [ej]
      rcases Nat.lt_trichotomy (Num.limbs x)[j] (Num.limbs y)[j] with h | h | h
      · have HE := hide (cmp_lt (a := (x : Int)) (b := y) (by have := at_lt (HX.out.trans HY.out.symm) hj1 hj2 hd.out h; omega))
        have HD : Hid (cmpZ ((Num.limbs x)[j] : Int) ((Num.limbs y)[j] : Int) = -1) := hide (cmp_lt (by omega))
        have hne : (((Num.limbs x)[j] : Int) != ((Num.limbs y)[j] : Int)) = true := by rw [bne_iff_ne]; omega
        have h' : ((Num.limbs x)[j] : Int) < ((Num.limbs y)[j] : Int) := by omega
        clear hd
        generalize (Num.limbs x)[j] = u at *
        generalize (Num.limbs y)[j] = v at *
        go_wp2
        go_quiet (fail)
        have hw2 := hide (drew_more hw.out nq)
        have hc1' : (wr.drewN nq).cell? _ = _ := hc1
        have hc2' : (wr.drewN nq).cell? _ = _ := hc2
        clear hc1 hc2 hw HA' HB'
        generalize wr.drewN nq = w2 at *
        go_wp2
        go_quiet (fail)
        go_wp2
        go_ret
        exact ⟨ret_int (HE.out.symm), drew_more hw2.out _⟩
      · have HD : Hid ((Num.limbs x).drop j = (Num.limbs y).drop j) := hide (drop_eq hj1 hj2 h hd.out)
        have hne : (((Num.limbs x)[j] : Int) != ((Num.limbs y)[j] : Int)) = false := by rw [bne_eq_false_iff_eq]; omega
        clear hd
        generalize (Num.limbs x)[j] = u at *
        generalize (Num.limbs y)[j] = v at *
        go_wp2
        go_quiet (fail)
        go_wp2
        exact ⟨⟨j, by omega, by go_num, HD, hide (drew_more hw.out nq)⟩, by simp [intOf]⟩
      · have HE := hide (cmp_gt (a := (x : Int)) (b := y) (by have := at_lt (HX.out.trans HY.out.symm).symm hj2 hj1 hd.out.symm h; omega))
        have HD : Hid (cmpZ ((Num.limbs x)[j] : Int) ((Num.limbs y)[j] : Int) = 1) := hide (cmp_gt (by omega))
        have hne : (((Num.limbs x)[j] : Int) != ((Num.limbs y)[j] : Int)) = true := by rw [bne_iff_ne]; omega
        have h' : ¬ ((Num.limbs x)[j] : Int) < ((Num.limbs y)[j] : Int) := by omega
        clear hd
        generalize (Num.limbs x)[j] = u at *
        generalize (Num.limbs y)[j] = v at *
        go_wp2
        go_quiet (fail)
        have hw2 := hide (drew_more hw.out nq)
        have hc1' : (wr.drewN nq).cell? _ = _ := hc1
        have hc2' : (wr.drewN nq).cell? _ = _ := hc2
        clear hc1 hc2 hw HA' HB'
        generalize wr.drewN nq = w2 at *
        go_wp2
        go_quiet (fail)
        go_wp2
        go_ret
        exact ⟨ret_int (HE.out.symm), drew_more hw2.out _⟩

set_option maxHeartbeats 2000000 in
theorem leastI (x y : Nat) (a b : Option Addr) (n m ca cb : Nat) (w : World) (ha : Seg w a n ca (Num.limbs x)) (hb : Seg w b m cb (Num.limbs y)) :
    Calls Try.prog 100 #[.slice a n ca, .slice b m cb] w fun e w' => e = .returned (.int .i64 (cmpZ x y)) ∧ ∃ d, w' = w.drewN d := by
  obtain rfl := ha.1
  obtain rfl := hb.1
  have a1 := ha.2.1
  have a2 := ha.2.2.1
  have b1 := hb.2.1
  have b2 := hb.2.2.1
  have HA := hide ha
  have HB := hide hb
  clear ha hb
  by_cases hl : (Num.limbs x).length < (Num.limbs y).length
  · have HC := hide (cmp_lt (a := (x : Int)) (b := y) (by have := Num.len_lt hl; omega))
    have HD : Hid (cmpZ ((Num.limbs x).length : Int) ((Num.limbs y).length : Int) = -1) := hide (cmp_lt (by omega))
    have hne : (((Num.limbs x).length : Int) != ((Num.limbs y).length : Int)) = true := by rw [bne_iff_ne]; omega
    generalize (Num.limbs x).length = p at *
    generalize (Num.limbs y).length = q at *
    go_enter Try.func100, Try.ntmps100
    go_wp2_with (go_at_call 104; refine (cmpI _ _ _).mono ?_; rintro e w1 ⟨rfl, hw⟩; subst w1)
    go_ret
    exact ⟨ret_int (HD.out.trans HC.out.symm), 0, rfl⟩
  by_cases hl2 : (Num.limbs y).length < (Num.limbs x).length
  · have HC := hide (cmp_gt (a := (x : Int)) (b := y) (by have := Num.len_lt hl2; omega))
    have HD : Hid (cmpZ ((Num.limbs x).length : Int) ((Num.limbs y).length : Int) = 1) := hide (cmp_gt (by omega))
    have hne : (((Num.limbs x).length : Int) != ((Num.limbs y).length : Int)) = true := by rw [bne_iff_ne]; omega
    generalize (Num.limbs x).length = p at *
    generalize (Num.limbs y).length = q at *
    go_enter Try.func100, Try.ntmps100
    go_wp2_with (go_at_call 104; refine (cmpI _ _ _).mono ?_; rintro e w1 ⟨rfl, hw⟩; subst w1)
    go_ret
    exact ⟨ret_int (HD.out.trans HC.out.symm), 0, rfl⟩
  have hle : (Num.limbs x).length = (Num.limbs y).length := by omega
  obtain ⟨L, hL⟩ : ∃ L, (Num.limbs x).length = L := ⟨_, rfl⟩
  have hL2 : (Num.limbs y).length = L := by omega
  have HX := hide hL
  have HY := hide hL2
  rw [hL] at a1 ⊢
  rw [hL2] at b1 ⊢
  clear hl hl2 hle hL hL2
  go_enter Try.func100, Try.ntmps100
  go_wp2
  go_loopw [5] (fun i wr => ∃ k : Nat, k ≤ L ∧ i = .int .i64 ((k : Int) - 1) ∧ Hid ((Num.limbs x).drop k = (Num.limbs y).drop k) ∧ Hid (∃ d, wr = w.drewN d)) (fun i _ => (intOf i + 1).toNat)
  case atStart => exact ⟨L, Nat.le_refl _, by go_num, hide (by rw [List.drop_eq_nil_of_le (by rw [HX.out]; exact Nat.le_refl _), List.drop_eq_nil_of_le (by rw [HY.out]; exact Nat.le_refl _)]), hide ⟨0, rfl⟩⟩
  case round =>
    obtain ⟨k, hk, rfl, hd, hw⟩ := hrel
    have HA' : Hid (Seg wr a L ca (Num.limbs x)) := hide (by obtain ⟨d, rfl⟩ := hw.out; have := HA.out; rw [HX.out] at this; exact this.below (below_drewN (bl_refl w) d))
    have HB' : Hid (Seg wr b L cb (Num.limbs y)) := hide (by obtain ⟨d, rfl⟩ := hw.out; have := HB.out; rw [HY.out] at this; exact this.below (below_drewN (bl_refl w) d))
    by_cases h0 : k = 0
    · subst h0
      have HE : Hid (cmpZ x y = 0) := hide (cmp_eq (by have := hd.out; rw [List.drop_zero, List.drop_zero] at this; rw [Num.limbs_inj this]))
      go_wp2
      go_ret
      exact ⟨ret_int HE.out.symm, hw.out⟩
    · obtain ⟨j, rfl⟩ : ∃ j, k = j + 1 := ⟨k - 1, by omega⟩
      have hj1 : j < (Num.limbs x).length := by rw [HX.out]; omega
      have hj2 : j < (Num.limbs y).length := by rw [HY.out]; omega
      have hjL : (j : Int) < (L : Int) := by omega
      obtain ⟨g, o, rfl, hg, hc1⟩ := seg_cell HA'.out j hj1
      obtain ⟨g', o', rfl, hg', hc2⟩ := seg_cell HB'.out j hj2
      have ej : (((j + 1 : Nat) : Int) - 1) = (j : Int) := by omega
      rw [ej]
      rcases Nat.lt_trichotomy (Num.limbs x)[j] (Num.limbs y)[j] with h | h | h
      · have HE := hide (cmp_lt (a := (x : Int)) (b := y) (by have := at_lt (HX.out.trans HY.out.symm) hj1 hj2 hd.out h; omega))
        have HD : Hid (cmpZ ((Num.limbs x)[j] : Int) ((Num.limbs y)[j] : Int) = -1) := hide (cmp_lt (by omega))
        have hne : (((Num.limbs x)[j] : Int) != ((Num.limbs y)[j] : Int)) = true := by rw [bne_iff_ne]; omega
        have h' : ((Num.limbs x)[j] : Int) < ((Num.limbs y)[j] : Int) := by omega
        clear hd
        generalize (Num.limbs x)[j] = u at *
        generalize (Num.limbs y)[j] = v at *
        go_wp2
        go_quiet (fail)
        have hw2 := hide (drew_more hw.out nq)
        have hc1' : (wr.drewN nq).cell? _ = _ := hc1
        have hc2' : (wr.drewN nq).cell? _ = _ := hc2
        clear hc1 hc2 hw HA' HB'
        generalize wr.drewN nq = w2 at *
        go_wp2
        go_quiet (exact Calls.quiet_of_same (cmpU _ _ _))
        go_wp2
        go_ret
        exact ⟨ret_int (HD.out.trans HE.out.symm), drew_more hw2.out _⟩
      · have HD : Hid ((Num.limbs x).drop j = (Num.limbs y).drop j) := hide (drop_eq hj1 hj2 h hd.out)
        have hne : (((Num.limbs x)[j] : Int) != ((Num.limbs y)[j] : Int)) = false := by rw [bne_eq_false_iff_eq]; omega
        clear hd
        generalize (Num.limbs x)[j] = u at *
        generalize (Num.limbs y)[j] = v at *
        go_wp2
        go_quiet (fail)
        go_wp2
        exact ⟨⟨j, by omega, by go_num, HD, hide (drew_more hw.out nq)⟩, by simp [intOf]⟩
      · have HE := hide (cmp_gt (a := (x : Int)) (b := y) (by have := at_lt (HX.out.trans HY.out.symm).symm hj2 hj1 hd.out.symm h; omega))
        have HD : Hid (cmpZ ((Num.limbs x)[j] : Int) ((Num.limbs y)[j] : Int) = 1) := hide (cmp_gt (by omega))
        have hne : (((Num.limbs x)[j] : Int) != ((Num.limbs y)[j] : Int)) = true := by rw [bne_iff_ne]; omega
        have h' : ¬ ((Num.limbs x)[j] : Int) < ((Num.limbs y)[j] : Int) := by omega
        clear hd
        generalize (Num.limbs x)[j] = u at *
        generalize (Num.limbs y)[j] = v at *
        go_wp2
        go_quiet (fail)
        have hw2 := hide (drew_more hw.out nq)
        have hc1' : (wr.drewN nq).cell? _ = _ := hc1
        have hc2' : (wr.drewN nq).cell? _ = _ := hc2
        clear hc1 hc2 hw HA' HB'
        generalize wr.drewN nq = w2 at *
        go_wp2
        go_quiet (exact Calls.quiet_of_same (cmpU _ _ _))
        go_wp2
        go_ret
        exact ⟨ret_int (HD.out.trans HE.out.symm), drew_more hw2.out _⟩

end Go.Proofs.Yteljkjpcjjiidaa
