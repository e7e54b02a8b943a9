/- My texts Cmp, AddI, in this order. -/
import Derived.Test.YthjapjbiclkhcaaPk02
import Derived.Deep.RegionHeld3
import Derived.Test.YthjapjbiclkhcaaPk03
/- The walks of what compares limbs and numbers: -1, 0 or 1; nothing that was there turns. -/
namespace Go.Proofs.Ythjapjbiclkhcaa
open Go.RowKit
set_option linter.unusedVariables false

/-- -1, 0 or 1 -/
def cmpZ (a b : Int) : Int := if a < b then -1 else if b < a then 1 else 0
theorem cmp_lt {a b : Int} (h : a < b) : cmpZ a b = -1 := by simp [cmpZ, h]
theorem cmp_gt {a b : Int} (h : b < a) : cmpZ a b = 1 := by simp [cmpZ, h, Int.not_lt.2 (Int.le_of_lt h)]
theorem cmp_eq {a b : Int} (h : a = b) : cmpZ a b = 0 := by simp [cmpZ, h]
theorem drew_more {w wr : World} (h : ∃ d, wr = w.drewN d) (n : Nat) : ∃ d, wr.drewN n = w.drewN d := by
  obtain ⟨d, rfl⟩ := h; exact ⟨d + n, by simp⟩
theorem drew2 (w : World) (a b : Nat) : ∃ m, (w.drewN a).drewN b = w.drewN m := ⟨a + b, by simp⟩

theorem nancmpI (a : Int) (w : World) : Calls Try.prog 86 #[.int .i64 a] w fun e w' => e = .returned (.bool false) ∧ w' = w := by
  go_enter Try.func86, Try.ntmps86
  go_wp2
  go_ret
  exact ⟨ret_bool (by simp), rfl⟩
theorem cmpI (a b : Int) (w : World) : Calls Try.prog 61 #[.int .i64 a, .int .i64 b] w fun e w' => e = .returned (.int .i64 (cmpZ a b)) ∧ w' = w := by
  rcases Int.lt_trichotomy a b with h | h | h
  · rw [cmp_lt h]
    go_enter Try.func61, Try.ntmps61
    go_wp2_with (go_at_call 86; refine (nancmpI _ _).mono ?_; rintro e w1 ⟨rfl, hw⟩; subst w1)
    go_ret
    exact ⟨rfl, rfl⟩
  · rw [cmp_eq h]
    subst h
    have hr : ¬ a < a := by omega
    go_enter Try.func61, Try.ntmps61
    go_wp2_with (go_at_call 86; refine (nancmpI _ _).mono ?_; rintro e w1 ⟨rfl, hw⟩; subst w1)
    go_ret
    exact ⟨rfl, rfl⟩
  · rw [cmp_gt h]
    have hr : ¬ a < b := by omega
    go_enter Try.func61, Try.ntmps61
    go_wp2_with (go_at_call 86; refine (nancmpI _ _).mono ?_; rintro e w1 ⟨rfl, hw⟩; subst w1)
    go_ret
    exact ⟨rfl, rfl⟩

theorem nancmpU (a : Int) (w : World) : Calls Try.prog 95 #[.int .u32 a] w fun e w' => e = .returned (.bool false) ∧ w' = w := by
  go_enter Try.func95, Try.ntmps95
  go_wp2
  go_ret
  exact ⟨ret_bool (by simp), rfl⟩
theorem cmpU (a b : Int) (w : World) : Calls Try.prog 87 #[.int .u32 a, .int .u32 b] w fun e w' => e = .returned (.int .i64 (cmpZ a b)) ∧ w' = w := by
  rcases Int.lt_trichotomy a b with h | h | h
  · rw [cmp_lt h]
    go_enter Try.func87, Try.ntmps87
    go_wp2_with (go_at_call 95; refine (nancmpU _ _).mono ?_; rintro e w1 ⟨rfl, hw⟩; subst w1)
    go_ret
    exact ⟨rfl, rfl⟩
  · rw [cmp_eq h]
    subst h
    have hr : ¬ a < a := by omega
    go_enter Try.func87, Try.ntmps87
    go_wp2_with (go_at_call 95; refine (nancmpU _ _).mono ?_; rintro e w1 ⟨rfl, hw⟩; subst w1)
    go_ret
    exact ⟨rfl, rfl⟩
  · rw [cmp_gt h]
    have hr : ¬ a < b := by omega
    go_enter Try.func87, Try.ntmps87
    go_wp2_with (go_at_call 95; refine (nancmpU _ _).mono ?_; rintro e w1 ⟨rfl, hw⟩; subst w1)
    go_ret
    exact ⟨rfl, rfl⟩

theorem drop_eq {xs ys : List Nat} {k : Nat} (h : k < xs.length) (h' : k < ys.length) (he : xs[k] = ys[k]) (hd : xs.drop (k + 1) = ys.drop (k + 1)) : xs.drop k = ys.drop k := by
  rw [List.drop_eq_getElem_cons h, List.drop_eq_getElem_cons h', he, hd]
theorem at_lt {x y k : Nat} (hl : (Num.limbs x).length = (Num.limbs y).length) (h : k < (Num.limbs x).length) (h' : k < (Num.limbs y).length) (hd : (Num.limbs x).drop (k + 1) = (Num.limbs y).drop (k + 1)) (hlt : (Num.limbs x)[k] < (Num.limbs y)[k]) : x < y := by
  have := Num.nat_lt_at (Num.limbs_small x) hl h h' hd hlt
  rwa [Num.nat_limbs, Num.nat_limbs] at this
theorem seg_cell {W : World} {a : Option Addr} {n cap : Nat} {xs : List Nat} (h : Seg W a n cap xs) (k : Nat) (hk : k < xs.length) : ∃ g o, a = some ⟨g, o, none⟩ ∧ g < W.heap.size ∧ W.cell? ⟨g, o + k, none⟩ = some (.int .u32 xs[k]) := by
  rcases h.2.2.2.2 with h0 | ⟨g, o, ha, hg, hc⟩
  · have := h.1; omega
  · exact ⟨g, o, ha, hg, hc k hk⟩

set_option maxHeartbeats 2000000 in
theorem leastS (x y : Nat) (a b : Option Addr) (n m ca cb : Nat) (w : World) (ha : Seg w a n ca (Num.limbs x)) (hb : Seg w b m cb (Num.limbs y)) :
    Calls Try.prog 55 #[.slice a n ca, .slice b m cb] w fun e w' => e = .returned (.int .i64 (cmpZ x y)) ∧ ∃ d, w' = w.drewN d := by
  obtain rfl := ha.1
  obtain rfl := hb.1
  have a1 := ha.2.1
  have a2 := ha.2.2.1
  have b1 := hb.2.1
  have b2 := hb.2.2.1
  have HA := hide ha
  have HB := hide hb
  clear ha hb
  by_cases hl : (Num.limbs x).length < (Num.limbs y).length
  · have HC := hide (cmp_lt (a := (x : Int)) (b := y) (by have := Num.len_lt hl; omega))
    have HD : Hid (cmpZ ((Num.limbs x).length : Int) ((Num.limbs y).length : Int) = -1) := hide (cmp_lt (by omega))
    have hne : (((Num.limbs x).length : Int) != ((Num.limbs y).length : Int)) = true := by rw [bne_iff_ne]; omega
    generalize (Num.limbs x).length = p at *
    generalize (Num.limbs y).length = q at *
    go_enter Try.func55, Try.ntmps55
    go_wp2
    go_ret
    exact ⟨ret_int (HC.out.symm), 0, rfl⟩
  by_cases hl2 : (Num.limbs y).length < (Num.limbs x).length
  · have HC := hide (cmp_gt (a := (x : Int)) (b := y) (by have := Num.len_lt hl2; omega))
    have HD : Hid (cmpZ ((Num.limbs x).length : Int) ((Num.limbs y).length : Int) = 1) := hide (cmp_gt (by omega))
    have hne : (((Num.limbs x).length : Int) != ((Num.limbs y).length : Int)) = true := by rw [bne_iff_ne]; omega
    generalize (Num.limbs x).length = p at *
    generalize (Num.limbs y).length = q at *
    go_enter Try.func55, Try.ntmps55
    go_wp2
    go_ret
    exact ⟨ret_int (HC.out.symm), 0, rfl⟩
  have hle : (Num.limbs x).length = (Num.limbs y).length := by omega
  obtain ⟨L, hL⟩ : ∃ L, (Num.limbs x).length = L := ⟨_, rfl⟩
  have hL2 : (Num.limbs y).length = L := by omega
  have HX := hide hL
  have HY := hide hL2
  rw [hL] at a1 ⊢
  rw [hL2] at b1 ⊢
  clear hl hl2 hle hL hL2
  go_enter Try.func55, Try.ntmps55
  go_wp2
  go_loopw [5] (fun i wr => ∃ k : Nat, k ≤ L ∧ i = .int .i64 ((k : Int) - 1) ∧ Hid ((Num.limbs x).drop k = (Num.limbs y).drop k) ∧ Hid (∃ d, wr = w.drewN d)) (fun i _ => (intOf i + 1).toNat)
  case atStart => exact ⟨L, Nat.le_refl _, by go_num, hide (by rw [List.drop_eq_nil_of_le (by rw [HX.out]; exact Nat.le_refl _), List.drop_eq_nil_of_le (by rw [HY.out]; exact Nat.le_refl _)]), hide ⟨0, rfl⟩⟩
  case round =>
    obtain ⟨k, hk, rfl, hd, hw⟩ := hrel
    have HA' : Hid (Seg wr a L ca (Num.limbs x)) := hide (by obtain ⟨d, rfl⟩ := hw.out; have := HA.out; rw [HX.out] at this; exact this.below (below_drewN (bl_refl w) d))
    have HB' : Hid (Seg wr b L cb (Num.limbs y)) := hide (by obtain ⟨d, rfl⟩ := hw.out; have := HB.out; rw [HY.out] at this; exact this.below (below_drewN (bl_refl w) d))
    by_cases h0 : k = 0
    · subst h0
      have HE : Hid (cmpZ x y = 0) := hide (cmp_eq (by have := hd.out; rw [List.drop_zero, List.drop_zero] at this; rw [Num.limbs_inj this]))
      go_wp2
      go_ret
      exact ⟨ret_int HE.out.symm, hw.out⟩
    · obtain ⟨j, rfl⟩ : ∃ j, k = j + 1 := ⟨k - 1, by omega⟩
      have hj1 : j < (Num.limbs x).length := by rw [HX.out]; omega
      have hj2 : j < (Num.limbs y).length := by rw [HY.out]; omega
      have hjL : (j : Int) < (L : Int) := by omega
      obtain ⟨g, o, rfl, hg, hc1⟩ := seg_cell HA'.out j hj1
      obtain ⟨g', o', rfl, hg', hc2⟩ := seg_cell HB'.out j hj2
      have ej : (((j + 1 : Nat) : Int) - 1) = (j : Int) := by omega
      rw [ej]
      rcases Nat.lt_trichotomy (Num.limbs x)[j] (Num.limbs y)[j] with h | h | h
      · have HE := hide (cmp_lt (a := (x : Int)) (b := y) (by have := at_lt (HX.out.trans HY.out.symm) hj1 hj2 hd.out h; omega))
        have HD : Hid (cmpZ ((Num.limbs x)[j] : Int) ((Num.limbs y)[j] : Int) = -1) := hide (cmp_lt (by omega))
        have hne : (((Num.limbs x)[j] : Int) != ((Num.limbs y)[j] : Int)) = true := by rw [bne_iff_ne]; omega
        have h' : ((Num.limbs x)[j] : Int) < ((Num.limbs y)[j] : Int) := by omega
        clear hd
        generalize (Num.limbs x)[j] = u at *
        generalize (Num.limbs y)[j] = v at *
        go_wp2
        go_quiet (fail)
        have hw2 := hide (drew_more hw.out nq)
        have hc1' : (wr.drewN nq).cell? _ = _ := hc1
        have hc2' : (wr.drewN nq).cell? _ = _ := hc2
        clear hc1 hc2 hw HA' HB'
        generalize wr.drewN nq = w2 at *
        go_wp2
        go_quiet (fail)
        go_wp2
        go_ret
        exact ⟨ret_int (HE.out.symm), drew_more hw2.out _⟩
      · have HD : Hid ((Num.limbs x).drop j = (Num.limbs y).drop j) := hide (drop_eq hj1 hj2 h hd.out)
        have hne : (((Num.limbs x)[j] : Int) != ((Num.limbs y)[j] : Int)) = false := by rw [bne_eq_false_iff_eq]; omega
        clear hd
        generalize (Num.limbs x)[j] = u at *
        generalize (Num.limbs y)[j] = v at *
        go_wp2
        go_quiet (fail)
        go_wp2
        exact ⟨⟨j, by omega, by go_num, HD, hide (drew_more hw.out nq)⟩, by simp [intOf]⟩
      · have HE := hide (cmp_gt (a := (x : Int)) (b := y) (by have := at_lt (HX.out.trans HY.out.symm).symm hj2 hj1 hd.out.symm h; omega))
        have HD : Hid (cmpZ ((Num.limbs x)[j] : Int) ((Num.limbs y)[j] : Int) = 1) := hide (cmp_gt (by omega))
        have hne : (((Num.limbs x)[j] : Int) != ((Num.limbs y)[j] : Int)) = true := by rw [bne_iff_ne]; omega
        have h' : ¬ ((Num.limbs x)[j] : Int) < ((Num.limbs y)[j] : Int) := by omega
        clear hd
        generalize (Num.limbs x)[j] = u at *
        generalize (Num.limbs y)[j] = v at *
        go_wp2
        go_quiet (fail)
        have hw2 := hide (drew_more hw.out nq)
        have hc1' : (wr.drewN nq).cell? _ = _ := hc1
        have hc2' : (wr.drewN nq).cell? _ = _ := hc2
        clear hc1 hc2 hw HA' HB'
        generalize wr.drewN nq = w2 at *
        go_wp2
        go_quiet (fail)
        go_wp2
        go_ret
        exact ⟨ret_int (HE.out.symm), drew_more hw2.out _⟩

set_option maxHeartbeats 2000000 in
theorem leastI (x y : Nat) (a b : Option Addr) (n m ca cb : Nat) (w : World) (ha : Seg w a n ca (Num.limbs x)) (hb : Seg w b m cb (Num.limbs y)) :
    Calls Try.prog 63 #[.slice a n ca, .slice b m cb] w fun e w' => e = .returned (.int .i64 (cmpZ x y)) ∧ ∃ d, w' = w.drewN d := by
  obtain rfl := ha.1
  obtain rfl := hb.1
  have a1 := ha.2.1
  have a2 := ha.2.2.1
  have b1 := hb.2.1
  have b2 := hb.2.2.1
  have HA := hide ha
  have HB := hide hb
  clear ha hb
  by_cases hl : (Num.limbs x).length < (Num.limbs y).length
  · have HC := hide (cmp_lt (a := (x : Int)) (b := y) (by have := Num.len_lt hl; omega))
    have HD : Hid (cmpZ ((Num.limbs x).length : Int) ((Num.limbs y).length : Int) = -1) := hide (cmp_lt (by omega))
    have hne : (((Num.limbs x).length : Int) != ((Num.limbs y).length : Int)) = true := by rw [bne_iff_ne]; omega
    generalize (Num.limbs x).length = p at *
    generalize (Num.limbs y).length = q at *
    go_enter Try.func63, Try.ntmps63
    go_wp2_with (go_at_call 61; refine (cmpI _ _ _).mono ?_; rintro e w1 ⟨rfl, hw⟩; subst w1)
    go_ret
    exact ⟨ret_int (HD.out.trans HC.out.symm), 0, rfl⟩
  by_cases hl2 : (Num.limbs y).length < (Num.limbs x).length
  · have HC := hide (cmp_gt (a := (x : Int)) (b := y) (by have := Num.len_lt hl2; omega))
    have HD : Hid (cmpZ ((Num.limbs x).length : Int) ((Num.limbs y).length : Int) = 1) := hide (cmp_gt (by omega))
    have hne : (((Num.limbs x).length : Int) != ((Num.limbs y).length : Int)) = true := by rw [bne_iff_ne]; omega
    generalize (Num.limbs x).length = p at *
    generalize (Num.limbs y).length = q at *
    go_enter Try.func63, Try.ntmps63
    go_wp2_with (go_at_call 61; refine (cmpI _ _ _).mono ?_; rintro e w1 ⟨rfl, hw⟩; subst w1)
    go_ret
    exact ⟨ret_int (HD.out.trans HC.out.symm), 0, rfl⟩
  have hle : (Num.limbs x).length = (Num.limbs y).length := by omega
  obtain ⟨L, hL⟩ : ∃ L, (Num.limbs x).length = L := ⟨_, rfl⟩
  have hL2 : (Num.limbs y).length = L := by omega
  have HX := hide hL
  have HY := hide hL2
  rw [hL] at a1 ⊢
  rw [hL2] at b1 ⊢
  clear hl hl2 hle hL hL2
  go_enter Try.func63, Try.ntmps63
  go_wp2
  go_loopw [5] (fun i wr => ∃ k : Nat, k ≤ L ∧ i = .int .i64 ((k : Int) - 1) ∧ Hid ((Num.limbs x).drop k = (Num.limbs y).drop k) ∧ Hid (∃ d, wr = w.drewN d)) (fun i _ => (intOf i + 1).toNat)
  case atStart => exact ⟨L, Nat.le_refl _, by go_num, hide (by rw [List.drop_eq_nil_of_le (by rw [HX.out]; exact Nat.le_refl _), List.drop_eq_nil_of_le (by rw [HY.out]; exact Nat.le_refl _)]), hide ⟨0, rfl⟩⟩
  case round =>
    obtain ⟨k, hk, rfl, hd, hw⟩ := hrel
    have HA' : Hid (Seg wr a L ca (Num.limbs x)) := hide (by obtain ⟨d, rfl⟩ := hw.out; have := HA.out; rw [HX.out] at this; exact this.below (below_drewN (bl_refl w) d))
    have HB' : Hid (Seg wr b L cb (Num.limbs y)) := hide (by obtain ⟨d, rfl⟩ := hw.out; have := HB.out; rw [HY.out] at this; exact this.below (below_drewN (bl_refl w) d))
    by_cases h0 : k = 0
    · subst h0
      have HE : Hid (cmpZ x y = 0) := hide (cmp_eq (by have := hd.out; rw [List.drop_zero, List.drop_zero] at this; rw [Num.limbs_inj this]))
      go_wp2
      go_ret
      exact ⟨ret_int HE.out.symm, hw.out⟩
    · obtain ⟨j, rfl⟩ : ∃ j, k = j + 1 := ⟨k - 1, by omega⟩
      have hj1 : j < (Num.limbs x).length := by rw [HX.out]; omega
      have hj2 : j < (Num.limbs y).length := by rw [HY.out]; omega
      have hjL : (j : Int) < (L : Int) := by omega
      obtain ⟨g, o, rfl, hg, hc1⟩ := seg_cell HA'.out j hj1
      obtain ⟨g', o', rfl, hg', hc2⟩ := seg_cell HB'.out j hj2
      have ej : (((j + 1 : Nat) : Int) - 1) = (j : Int) := by omega
      rw [ej]
      rcases Nat.lt_trichotomy (Num.limbs x)[j] (Num.limbs y)[j] with h | h | h
      · have HE := hide (cmp_lt (a := (x : Int)) (b := y) (by have := at_lt (HX.out.trans HY.out.symm) hj1 hj2 hd.out h; omega))
        have HD : Hid (cmpZ ((Num.limbs x)[j] : Int) ((Num.limbs y)[j] : Int) = -1) := hide (cmp_lt (by omega))
        have hne : (((Num.limbs x)[j] : Int) != ((Num.limbs y)[j] : Int)) = true := by rw [bne_iff_ne]; omega
        have h' : ((Num.limbs x)[j] : Int) < ((Num.limbs y)[j] : Int) := by omega
        clear hd
        generalize (Num.limbs x)[j] = u at *
        generalize (Num.limbs y)[j] = v at *
        go_wp2
        go_quiet (fail)
        have hw2 := hide (drew_more hw.out nq)
        have hc1' : (wr.drewN nq).cell? _ = _ := hc1
        have hc2' : (wr.drewN nq).cell? _ = _ := hc2
        clear hc1 hc2 hw HA' HB'
        generalize wr.drewN nq = w2 at *
        go_wp2
        go_quiet (exact Calls.quiet_of_same (cmpU _ _ _))
        go_wp2
        go_ret
        exact ⟨ret_int (HD.out.trans HE.out.symm), drew_more hw2.out _⟩
      · have HD : Hid ((Num.limbs x).drop j = (Num.limbs y).drop j) := hide (drop_eq hj1 hj2 h hd.out)
        have hne : (((Num.limbs x)[j] : Int) != ((Num.limbs y)[j] : Int)) = false := by rw [bne_eq_false_iff_eq]; omega
        clear hd
        generalize (Num.limbs x)[j] = u at *
        generalize (Num.limbs y)[j] = v at *
        go_wp2
        go_quiet (fail)
        go_wp2
        exact ⟨⟨j, by omega, by go_num, HD, hide (drew_more hw.out nq)⟩, by simp [intOf]⟩
      · have HE := hide (cmp_gt (a := (x : Int)) (b := y) (by have := at_lt (HX.out.trans HY.out.symm).symm hj2 hj1 hd.out.symm h; omega))
        have HD : Hid (cmpZ ((Num.limbs x)[j] : Int) ((Num.limbs y)[j] : Int) = 1) := hide (cmp_gt (by omega))
        have hne : (((Num.limbs x)[j] : Int) != ((Num.limbs y)[j] : Int)) = true := by rw [bne_iff_ne]; omega
        have h' : ¬ ((Num.limbs x)[j] : Int) < ((Num.limbs y)[j] : Int) := by omega
        clear hd
        generalize (Num.limbs x)[j] = u at *
        generalize (Num.limbs y)[j] = v at *
        go_wp2
        go_quiet (fail)
        have hw2 := hide (drew_more hw.out nq)
        have hc1' : (wr.drewN nq).cell? _ = _ := hc1
        have hc2' : (wr.drewN nq).cell? _ = _ := hc2
        clear hc1 hc2 hw HA' HB'
        generalize wr.drewN nq = w2 at *
        go_wp2
        go_quiet (exact Calls.quiet_of_same (cmpU _ _ _))
        go_wp2
        go_ret
        exact ⟨ret_int (HD.out.trans HE.out.symm), drew_more hw2.out _⟩

end Go.Proofs.Ythjapjbiclkhcaa

/- The walk of addOrTake: a part of a block of limbs turns into the sum, or the difference; no other block turns. -/
namespace Go.Proofs.Ythjapjbiclkhcaa
open Go.RowKit
set_option linter.unusedVariables false

theorem xor0 (p : Int) (h0 : 0 ≤ p) (h1 : p < 4294967296) : bits .xor .u32 0 p = p := by
  obtain ⟨p, rfl⟩ := Int.eq_ofNat_of_zero_le h0
  have key : (BitVec.ofInt 32 (0 : Int) ^^^ BitVec.ofInt 32 (p : Int)).toNat = p := by
    rw [BitVec.toNat_xor, BitVec.toNat_ofInt, BitVec.toNat_ofInt]
    have e2 : ((p : Int) % ((2 ^ 32 : Nat) : Int)).toNat = p := by omega
    rw [e2]; simp
  show IntKind.u32.wrap ((BitVec.ofInt 32 (0 : Int) ^^^ BitVec.ofInt 32 (p : Int)).toNat : Nat) = _
  rw [key, IntKind.wrap_u32]; omega
theorem xor1 (p : Int) (h0 : 0 ≤ p) (h1 : p < 4294967296) : bits .xor .u32 4294967295 p = 4294967295 - p := by
  obtain ⟨p, rfl⟩ := Int.eq_ofNat_of_zero_le h0
  have e1 : BitVec.ofInt 32 (4294967295 : Int) = BitVec.allOnes 32 := by decide
  have key : (BitVec.ofInt 32 (4294967295 : Int) ^^^ BitVec.ofInt 32 (p : Int)).toNat = 4294967295 - p := by
    rw [e1, BitVec.allOnes_xor, BitVec.toNat_not, BitVec.toNat_ofInt]
    have e2 : ((p : Int) % ((2 ^ 32 : Nat) : Int)).toNat = p := by omega
    rw [e2]
  show IntKind.u32.wrap ((BitVec.ofInt 32 (4294967295 : Int) ^^^ BitVec.ofInt 32 (p : Int)).toNat : Nat) = _
  rw [key, IntKind.wrap_u32]; omega
theorem xor_one (c : Nat) (h : c ≤ 1) : bits .xor .u32 (c : Int) 1 = 1 - (c : Int) := by
  obtain rfl | rfl : c = 0 ∨ c = 1 := by omega
  · decide
  · decide
theorem xor_nil (c : Nat) (h : c ≤ 1) : bits .xor .u32 (c : Int) 0 = (c : Int) := by
  obtain rfl | rfl : c = 0 ∨ c = 1 := by omega
  · decide
  · decide
/-- the limb that is added -/
def oth (t : Bool) (p : Nat) : Nat := if t then 4294967295 - p else p
theorem oth_false (p : Nat) : oth false p = p := rfl
theorem oth_true (p : Nat) : oth true p = 4294967295 - p := rfl
theorem oth_lt {t : Bool} {p : Nat} (h : p < 4294967296) : oth t p < 4294967296 := by unfold oth; cases t <;> simp <;> omega
/-- the number so far -/
def Sofar (t : Bool) (seg ps zs : List Nat) (k c : Nat) : Prop :=
  zs.length = k ∧ Num.Small zs ∧ c ≤ 1 ∧ (if t then Num.nat zs + Num.nat (ps.take k) + 4294967296 ^ k * c = Num.nat (seg.take k) + 4294967296 ^ k else Num.nat zs + 4294967296 ^ k * c = Num.nat (seg.take k) + Num.nat (ps.take k))
theorem nat_take_getD (xs : List Nat) (n : Nat) : Num.nat (xs.take (n + 1)) = Num.nat (xs.take n) + 4294967296 ^ n * xs.getD n 0 := by
  by_cases h : n < xs.length
  · rw [Num.nat_take_succ xs n h]; simp [h]
  · rw [List.take_of_length_le (by omega), List.take_of_length_le (by omega)]
    have : xs.getD n 0 = 0 := by simp [List.getD, List.getElem?_eq_none (Nat.le_of_not_lt h)]
    rw [this]; omega
theorem sofar_step {t : Bool} {seg ps zs : List Nat} {k c l p x c' : Nat} (h : Sofar t seg ps zs k c) (hl : seg.getD k 0 = l) (hp : ps.getD k 0 = p) (hpl : p < 4294967296) (hx : x < 4294967296) (hc' : c' ≤ 1) (he : x + 4294967296 * c' = l + oth t p + c) :
    Sofar t seg ps (zs ++ [x]) (k + 1) c' := by
  obtain ⟨h1, h2, h3, h4⟩ := h
  refine ⟨by simp [h1], Num.small_append h2 (by intro y hy; simp at hy; omega), hc', ?_⟩
  rw [Num.nat_append, nat_take_getD seg k, nat_take_getD ps k, hl, hp, h1, Nat.pow_succ]
  have e : 4294967296 ^ k * x + 4294967296 ^ k * 4294967296 * c' = 4294967296 ^ k * l + 4294967296 ^ k * oth t p + 4294967296 ^ k * c := by
    have := congrArg (4294967296 ^ k * ·) he
    simp only [Nat.mul_add] at this
    rw [Nat.mul_assoc]; exact this
  have e0 : Num.nat [x] = x := by simp [Num.nat]
  rw [e0]
  cases t with
  | false =>
    rw [if_neg (by simp)] at h4 ⊢
    have eo : oth false p = p := rfl
    rw [eo] at e
    omega
  | true =>
    rw [if_pos rfl] at h4 ⊢
    have eo : 4294967296 ^ k * oth true p + 4294967296 ^ k * p = 4294967296 ^ k * 4294967295 := by
      rw [← Nat.mul_add]; congr 1; simp [oth]; omega
    have e5 : 4294967296 ^ k * 4294967296 = 4294967296 ^ k * 4294967295 + 4294967296 ^ k := by omega
    omega
theorem mid_at {ys zs : List Nat} {o k : Nat} (hz : zs.length = k) (ho : o + k < ys.length) (h : o + k < (ys.take o ++ zs ++ ys.drop (o + k)).length) : (ys.take o ++ zs ++ ys.drop (o + k))[o + k] = ys[o + k] := by
  have hl : (ys.take o ++ zs).length = o + k := by simp; omega
  rw [List.getElem_append_right (by omega)]
  simp [hl]
theorem mid_len {ys zs : List Nat} {o k : Nat} (hz : zs.length = k) (ho : o + k ≤ ys.length) : (ys.take o ++ zs ++ ys.drop (o + k)).length = ys.length := by
  simp; omega
theorem mid_set {ys zs : List Nat} {o k x : Nat} (hz : zs.length = k) (ho : o + k < ys.length) : (ys.take o ++ zs ++ ys.drop (o + k)).set (o + k) x = ys.take o ++ (zs ++ [x]) ++ ys.drop (o + (k + 1)) := by
  have hl : (ys.take o ++ zs).length = o + k := by simp; omega
  rw [List.set_append_right _ _ (by omega), hl, Nat.sub_self, List.drop_eq_getElem_cons ho, List.set_cons_zero]
  simp [Nat.add_assoc]
theorem seg_getD {ys : List Nat} {o n k : Nat} (hk : k < n) (ho : o + k < ys.length) : ((ys.drop o).take n).getD k 0 = ys[o + k] := by
  simp [List.getD, hk, List.getElem?_drop, ho]

theorem add_end {t : Bool} {g o n k c l p x c' : Nat} {ys ps zs : List Nat} {w wr : World} {v : Int} (hS : Sofar t ((ys.drop o).take n) ps zs k c) (hbk : Blk wr g (ys.take o ++ zs ++ ys.drop (o + k))) (hg : w.grownBy wr (some g)) (hl : ((ys.drop o).take n).getD k 0 = l) (hp : ps.getD k 0 = p) (hpl : p < 4294967296) (ho : o + k < ys.length) (hv : v = (x : Int)) (hx : x < 4294967296) (hc : c' ≤ 1) (he : x + 4294967296 * c' = l + oth t p + c) :
    Hid (Sofar t ((ys.drop o).take n) ps (zs ++ [x]) (k + 1) c') ∧ Hid (Blk (wr.setCell ⟨g, o + k, none⟩ (.int .u32 v)) g (ys.take o ++ (zs ++ [x]) ++ ys.drop (o + (k + 1)))) ∧ Hid (w.grownBy (wr.setCell ⟨g, o + k, none⟩ (.int .u32 v)) (some g)) := by
  subst hv
  have h := hbk.set (o + k) x hx
  rw [mid_set hS.1 ho] at h
  exact ⟨hide (sofar_step hS hl hp hpl hx hc he), hide h.1, hide (grown_trans hg h.2)⟩

set_option maxHeartbeats 4000000 in
set_option maxRecDepth 20000 in
theorem addI (t : Bool) (g o n cap : Nat) (ys : List Nat) (b : Option Addr) (m cb : Nat) (ps : List Nat) (w : World) (hB : Blk w g ys) (ho : o + n ≤ ys.length) (hn : n ≤ cap) (hcm : cap ≤ 9223372036854775807) (hP : Seg w b m cb ps) (hne : 0 < m → ∀ gb ob s, b = some ⟨gb, ob, s⟩ → gb ≠ g) :
    Calls Try.prog 66 #[.slice (some ⟨g, o, none⟩) n cap, .slice b m cb, .bool t] w fun e w' => ∃ (zs : List Nat) (c : Nat), Sofar t ((ys.drop o).take n) ps zs n c ∧ e = .returned (.int .u32 (if t then 1 - (c : Int) else c)) ∧ Blk w' g (ys.take o ++ zs ++ ys.drop (o + n)) ∧ w.grownBy w' (some g) := by
  obtain rfl := hP.1
  have hb1 := hP.2.1
  have hb2 := hP.2.2.1
  have HP := hide hP
  have HB := hide hB
  have HNE := hide hne
  clear hP hB hne
  cases t with
  | false =>
    go_enter Try.func66, Try.ntmps66
    go_wp2
    go_loopw [9, 10, 11, 12, 13, 20] (fun cv _ _ _ _ i wr => ∃ (k c : Nat) (zs : List Nat), k ≤ n ∧ i = .int .i64 k ∧ cv = .int .u32 c ∧ c ≤ 1 ∧ Hid (Sofar false ((ys.drop o).take n) ps zs k c) ∧ Hid (Blk wr g (ys.take o ++ zs ++ ys.drop (o + k))) ∧ Hid (w.grownBy wr (some g))) (fun _ _ _ _ _ i _ => n - (intOf i).toNat)
    case atStart => exact ⟨0, 0, [], Nat.zero_le _, rfl, rfl, by omega, hide ⟨rfl, (fun x hx => by cases hx), by omega, by simp [Num.nat]⟩, hide (by have := HB.out; simpa using this), hide ⟨rfl, rfl, rfl, Nat.le_refl _, fun _ _ _ => rfl⟩⟩
    case round =>
      obtain ⟨k, c, zs, hk, rfl, rfl, hc, hS, hbk, hg⟩ := hrel
      by_cases hlt : k < n
      · have hlt' : (k : Int) < (n : Int) := by omega
        have hzl := hS.out.1
        have hcl := hbk.out.cell (o + k) (by rw [mid_len hzl (by omega)]; omega)
        rw [mid_at hzl (by omega)] at hcl
        have hfz := hbk.out.frozen (o + k)
        have hls : ys[o + k] < 4294967296 := Num.small_at HB.out.2 (by omega)
        have HLD := hide (seg_getD (ys := ys) (o := o) hlt (by omega))
        generalize ys[o + k] = l at *
        by_cases hkm : k < ps.length
        · have hkm' : (k : Int) < (ps.length : Int) := by omega
          obtain ⟨g', o', rfl, hg', hc2⟩ := seg_cell (HP.out.grown hg.out (fun gb ob s e => by have := HNE.out (by omega) gb ob s e; simp; omega)) k hkm
          have hps := Num.small_at HP.out.2.2.2.1 hkm
          have HPD : Hid (ps.getD k 0 = ps[k]) := hide (by simp [hkm])
          generalize ps[k] = p at *
          have hx0 := xor0 p (by omega) (by omega)
          go_wp2
          all_goals first
            | exact ⟨⟨k + 1, 0, zs ++ [(l + oth false p + c) % 4294967296], by omega, by go_num, rfl, by omega, add_end (p := p) hS.out hbk.out hg.out HLD.out HPD.out (by omega) (by omega) (by rw [oth_false]; omega) (by omega) (by omega) (by rw [oth_false]; omega)⟩, by simp [intOf]; omega⟩
            | exact ⟨⟨k + 1, 1, zs ++ [(l + oth false p + c) % 4294967296], by omega, by go_num, rfl, by omega, add_end (p := p) hS.out hbk.out hg.out HLD.out HPD.out (by omega) (by omega) (by rw [oth_false]; omega) (by omega) (by omega) (by rw [oth_false]; omega)⟩, by simp [intOf]; omega⟩
        · have HPD : Hid (ps.getD k 0 = 0) := hide (by simp [List.getD, List.getElem?_eq_none (Nat.le_of_not_lt hkm)])
          go_wp2
          all_goals first
            | exact ⟨⟨k + 1, 0, zs ++ [(l + oth false 0 + c) % 4294967296], by omega, by go_num, rfl, by omega, add_end (p := 0) hS.out hbk.out hg.out HLD.out HPD.out (by omega) (by omega) (by rw [oth_false]; omega) (by omega) (by omega) (by rw [oth_false]; omega)⟩, by simp [intOf]; omega⟩
            | exact ⟨⟨k + 1, 1, zs ++ [(l + oth false 0 + c) % 4294967296], by omega, by go_num, rfl, by omega, add_end (p := 0) hS.out hbk.out hg.out HLD.out HPD.out (by omega) (by omega) (by rw [oth_false]; omega) (by omega) (by omega) (by rw [oth_false]; omega)⟩, by simp [intOf]; omega⟩
      · obtain rfl : k = n := by omega
        go_wp2
        go_ret
        exact ⟨zs, c, hS.out, ret_int (xor_nil c hc), (by have := hbk.out; rwa [List.append_assoc] at this), hg.out⟩
  | true =>
    have hmax : bits BinOp.xor IntKind.u32 IntKind.u32.max 0 = 4294967295 := by decide
    have HM := hide hmax
    clear hmax
    go_enter Try.func66, Try.ntmps66
    go_wp2
    obtain ⟨T, hT⟩ : ∃ T : Int, bits BinOp.xor IntKind.u32 IntKind.u32.max 0 = T := ⟨_, rfl⟩
    have HT : Hid (T = 4294967295) := hide (hT.symm.trans HM.out)
    rw [hT]
    clear hT HM
    go_loopw [9, 10, 11, 12, 13, 20] (fun cv _ _ _ _ i wr => ∃ (k c : Nat) (zs : List Nat), k ≤ n ∧ i = .int .i64 k ∧ cv = .int .u32 c ∧ c ≤ 1 ∧ Hid (Sofar true ((ys.drop o).take n) ps zs k c) ∧ Hid (Blk wr g (ys.take o ++ zs ++ ys.drop (o + k))) ∧ Hid (w.grownBy wr (some g))) (fun _ _ _ _ _ i _ => n - (intOf i).toNat)
    case atStart => exact ⟨0, 1, [], Nat.zero_le _, rfl, rfl, by omega, hide ⟨rfl, (fun x hx => by cases hx), by omega, by simp [Num.nat]⟩, hide (by have := HB.out; simpa using this), hide ⟨rfl, rfl, rfl, Nat.le_refl _, fun _ _ _ => rfl⟩⟩
    case round =>
      obtain ⟨k, c, zs, hk, rfl, rfl, hc, hS, hbk, hg⟩ := hrel
      by_cases hlt : k < n
      · have hlt' : (k : Int) < (n : Int) := by omega
        have hzl := hS.out.1
        have hcl := hbk.out.cell (o + k) (by rw [mid_len hzl (by omega)]; omega)
        rw [mid_at hzl (by omega)] at hcl
        have hfz := hbk.out.frozen (o + k)
        have hls : ys[o + k] < 4294967296 := Num.small_at HB.out.2 (by omega)
        have HLD := hide (seg_getD (ys := ys) (o := o) hlt (by omega))
        generalize ys[o + k] = l at *
        by_cases hkm : k < ps.length
        · have hkm' : (k : Int) < (ps.length : Int) := by omega
          obtain ⟨g', o', rfl, hg', hc2⟩ := seg_cell (HP.out.grown hg.out (fun gb ob s e => by have := HNE.out (by omega) gb ob s e; simp; omega)) k hkm
          have hps := Num.small_at HP.out.2.2.2.1 hkm
          have HPD : Hid (ps.getD k 0 = ps[k]) := hide (by simp [hkm])
          generalize ps[k] = p at *
          have hx0 := xor1 p (by omega) (by omega)
          rw [← HT.out] at hx0
          have hT0 : 0 ≤ T := by have := HT.out; omega
          have hT1 : T ≤ 4294967295 := by have := HT.out; omega
          go_wp2
          all_goals have hTT := HT.out
          all_goals first
            | exact ⟨⟨k + 1, 0, zs ++ [(l + oth true p + c) % 4294967296], by omega, by go_num, rfl, by omega, add_end (p := p) hS.out hbk.out hg.out HLD.out HPD.out (by omega) (by omega) (by rw [oth_true]; omega) (by omega) (by omega) (by rw [oth_true]; omega)⟩, by simp [intOf]; omega⟩
            | exact ⟨⟨k + 1, 1, zs ++ [(l + oth true p + c) % 4294967296], by omega, by go_num, rfl, by omega, add_end (p := p) hS.out hbk.out hg.out HLD.out HPD.out (by omega) (by omega) (by rw [oth_true]; omega) (by omega) (by omega) (by rw [oth_true]; omega)⟩, by simp [intOf]; omega⟩
        · have HPD : Hid (ps.getD k 0 = 0) := hide (by simp [List.getD, List.getElem?_eq_none (Nat.le_of_not_lt hkm)])
          have hT0 : 0 ≤ T := by have := HT.out; omega
          have hT1 : T ≤ 4294967295 := by have := HT.out; omega
          go_wp2
          all_goals have hTT := HT.out
          all_goals first
            | exact ⟨⟨k + 1, 0, zs ++ [(l + oth true 0 + c) % 4294967296], by omega, by go_num, rfl, by omega, add_end (p := 0) hS.out hbk.out hg.out HLD.out HPD.out (by omega) (by omega) (by rw [oth_true]; omega) (by omega) (by omega) (by rw [oth_true]; omega)⟩, by simp [intOf]; omega⟩
            | exact ⟨⟨k + 1, 1, zs ++ [(l + oth true 0 + c) % 4294967296], by omega, by go_num, rfl, by omega, add_end (p := 0) hS.out hbk.out hg.out HLD.out HPD.out (by omega) (by omega) (by rw [oth_true]; omega) (by omega) (by omega) (by rw [oth_true]; omega)⟩, by simp [intOf]; omega⟩
      · obtain rfl : k = n := by omega
        go_wp2
        go_ret
        exact ⟨zs, c, hS.out, ret_int (xor_one c hc), (by have := hbk.out; rwa [List.append_assoc] at this), hg.out⟩
end Go.Proofs.Ythjapjbiclkhcaa
