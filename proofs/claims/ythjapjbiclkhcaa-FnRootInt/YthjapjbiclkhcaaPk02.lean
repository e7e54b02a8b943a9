/- My texts Cmp, AddI, Times, Plus, in this order. -/
import Derived.Test.YthjapjbiclkhcaaPk01
import Derived.Deep.RegionHeld3
/- The walks of what compares limbs and numbers: -1, 0 or 1; nothing that was there turns. -/
namespace Go.Proofs.Ythjapjbiclkhcaa
open Go.RowKit
set_option linter.unusedVariables false

/-- -1, 0 or 1 -/
def cmpZ (a b : Int) : Int := if a < b then -1 else if b < a then 1 else 0
theorem cmp_lt {a b : Int} (h : a < b) : cmpZ a b = -1 := by simp [cmpZ, h]
theorem cmp_gt {a b : Int} (h : b < a) : cmpZ a b = 1 := by simp [cmpZ, h, Int.not_lt.2 (Int.le_of_lt h)]
theorem cmp_eq {a b : Int} (h : a = b) : cmpZ a b = 0 := by simp [cmpZ, h]
theorem drew_more {w wr : World} (h : ∃ d, wr = w.drewN d) (n : Nat) : ∃ d, wr.drewN n = w.drewN d := by
  obtain ⟨d, rfl⟩ := h; exact ⟨d + n, by simp⟩
theorem drew2 (w : World) (a b : Nat) : ∃ m, (w.drewN a).drewN b = w.drewN m := ⟨a + b, by simp⟩

theorem nancmpI (a : Int) (w : World) : Calls Try.prog 86 #[.int .i64 a] w fun e w' => e = .returned (.bool false) ∧ w' = w := by
  go_enter Try.func86, Try.ntmps86
  go_wp2
  go_ret
  exact ⟨ret_bool (by simp), rfl⟩
theorem cmpI (a b : Int) (w : World) : Calls Try.prog 61 #[.int .i64 a, .int .i64 b] w fun e w' => e = .returned (.int .i64 (cmpZ a b)) ∧ w' = w := by
  rcases Int.lt_trichotomy a b with h | h | h
  · rw [cmp_lt h]
    go_enter Try.func61, Try.ntmps61
    go_wp2_with (go_at_call 86; refine (nancmpI _ _).mono ?_; rintro e w1 ⟨rfl, hw⟩; subst w1)
    go_ret
    exact ⟨rfl, rfl⟩
  · rw [cmp_eq h]
    subst h
    have hr : ¬ a < a := by omega
    go_enter Try.func61, Try.ntmps61
    go_wp2_with (go_at_call 86; refine (nancmpI _ _).mono ?_; rintro e w1 ⟨rfl, hw⟩; subst w1)
    go_ret
    exact ⟨rfl, rfl⟩
  · rw [cmp_gt h]
    have hr : ¬ a < b := by omega
    go_enter Try.func61, Try.ntmps61
    go_wp2_with (go_at_call 86; refine (nancmpI _ _).mono ?_; rintro e w1 ⟨rfl, hw⟩; subst w1)
    go_ret
    exact ⟨rfl, rfl⟩

theorem nancmpU (a : Int) (w : World) : Calls Try.prog 95 #[.int .u32 a] w fun e w' => e = .returned (.bool false) ∧ w' = w := by
  go_enter Try.func95, Try.ntmps95
  go_wp2
  go_ret
  exact ⟨ret_bool (by simp), rfl⟩
theorem cmpU (a b : Int) (w : World) : Calls Try.prog 87 #[.int .u32 a, .int .u32 b] w fun e w' => e = .returned (.int .i64 (cmpZ a b)) ∧ w' = w := by
  rcases Int.lt_trichotomy a b with h | h | h
  · rw [cmp_lt h]
    go_enter Try.func87, Try.ntmps87
    go_wp2_with (go_at_call 95; refine (nancmpU _ _).mono ?_; rintro e w1 ⟨rfl, hw⟩; subst w1)
    go_ret
    exact ⟨rfl, rfl⟩
  · rw [cmp_eq h]
    subst h
    have hr : ¬ a < a := by omega
    go_enter Try.func87, Try.ntmps87
    go_wp2_with (go_at_call 95; refine (nancmpU _ _).mono ?_; rintro e w1 ⟨rfl, hw⟩; subst w1)
    go_ret
    exact ⟨rfl, rfl⟩
  · rw [cmp_gt h]
    have hr : ¬ a < b := by omega
    go_enter Try.func87, Try.ntmps87
    go_wp2_with (go_at_call 95; refine (nancmpU _ _).mono ?_; rintro e w1 ⟨rfl, hw⟩; subst w1)
    go_ret
    exact ⟨rfl, rfl⟩

theorem drop_eq {xs ys : List Nat} {k : Nat} (h : k < xs.length) (h' : k < ys.length) (he : xs[k] = ys[k]) (hd : xs.drop (k + 1) = ys.drop (k + 1)) : xs.drop k = ys.drop k := by
  rw [List.drop_eq_getElem_cons h, List.drop_eq_getElem_cons h', he, hd]
theorem at_lt {x y k : Nat} (hl : (Num.limbs x).length = (Num.limbs y).length) (h : k < (Num.limbs x).length) (h' : k < (Num.limbs y).length) (hd : (Num.limbs x).drop (k + 1) = (Num.limbs y).drop (k + 1)) (hlt : (Num.limbs x)[k] < (Num.limbs y)[k]) : x < y := by
  have := Num.nat_lt_at (Num.limbs_small x) hl h h' hd hlt
  rwa [Num.nat_limbs, Num.nat_limbs] at this
theorem seg_cell {W : World} {a : Option Addr} {n cap : Nat} {xs : List Nat} (h : Seg W a n cap xs) (k : Nat) (hk : k < xs.length) : ∃ g o, a = some ⟨g, o, none⟩ ∧ g < W.heap.size ∧ W.cell? ⟨g, o + k, none⟩ = some (.int .u32 xs[k]) := by
  rcases h.2.2.2.2 with h0 | ⟨g, o, ha, hg, hc⟩
  · have := h.1; omega
  · exact ⟨g, o, ha, hg, hc k hk⟩

set_option maxHeartbeats 2000000 in
theorem leastS (x y : Nat) (a b : Option Addr) (n m ca cb : Nat) (w : World) (ha : Seg w a n ca (Num.limbs x)) (hb : Seg w b m cb (Num.limbs y)) :
    Calls Try.prog 55 #[.slice a n ca, .slice b m cb] w fun e w' => e = .returned (.int .i64 (cmpZ x y)) ∧ ∃ d, w' = w.drewN d := by
  obtain rfl := ha.1
  obtain rfl := hb.1
  have a1 := ha.2.1
  have a2 := ha.2.2.1
  have b1 := hb.2.1
  have b2 := hb.2.2.1
  have HA := hide ha
  have HB := hide hb
  clear ha hb
  by_cases hl : (Num.limbs x).length < (Num.limbs y).length
  · have HC := hide (cmp_lt (a := (x : Int)) (b := y) (by have := Num.len_lt hl; omega))
    have HD : Hid (cmpZ ((Num.limbs x).length : Int) ((Num.limbs y).length : Int) = -1) := hide (cmp_lt (by omega))
    have hne : (((Num.limbs x).length : Int) != ((Num.limbs y).length : Int)) = true := by rw [bne_iff_ne]; omega
    generalize (Num.limbs x).length = p at *
    generalize (Num.limbs y).length = q at *
    go_enter Try.func55, Try.ntmps55
    go_wp2
    go_ret
    exact ⟨ret_int (HC.out.symm), 0, rfl⟩
  by_cases hl2 : (Num.limbs y).length < (Num.limbs x).length
  · have HC := hide (cmp_gt (a := (x : Int)) (b := y) (by have := Num.len_lt hl2; omega))
    have HD : Hid (cmpZ ((Num.limbs x).length : Int) ((Num.limbs y).length : Int) = 1) := hide (cmp_gt (by omega))
    have hne : (((Num.limbs x).length : Int) != ((Num.limbs y).length : Int)) = true := by rw [bne_iff_ne]; omega
    generalize (Num.limbs x).length = p at *
    generalize (Num.limbs y).length = q at *
    go_enter Try.func55, Try.ntmps55
    go_wp2
    go_ret
    exact ⟨ret_int (HC.out.symm), 0, rfl⟩
  have hle : (Num.limbs x).length = (Num.limbs y).length := by omega
  obtain ⟨L, hL⟩ : ∃ L, (Num.limbs x).length = L := ⟨_, rfl⟩
  have hL2 : (Num.limbs y).length = L := by omega
  have HX := hide hL
  have HY := hide hL2
  rw [hL] at a1 ⊢
  rw [hL2] at b1 ⊢
  clear hl hl2 hle hL hL2
  go_enter Try.func55, Try.ntmps55
  go_wp2
  go_loopw [5] (fun i wr => ∃ k : Nat, k ≤ L ∧ i = .int .i64 ((k : Int) - 1) ∧ Hid ((Num.limbs x).drop k = (Num.limbs y).drop k) ∧ Hid (∃ d, wr = w.drewN d)) (fun i _ => (intOf i + 1).toNat)
  case atStart => exact ⟨L, Nat.le_refl _, by go_num, hide (by rw [List.drop_eq_nil_of_le (by rw [HX.out]; exact Nat.le_refl _), List.drop_eq_nil_of_le (by rw [HY.out]; exact Nat.le_refl _)]), hide ⟨0, rfl⟩⟩
  case round =>
    obtain ⟨k, hk, rfl, hd, hw⟩ := hrel
    have HA' : Hid (Seg wr a L ca (Num.limbs x)) := hide (by obtain ⟨d, rfl⟩ := hw.out; have := HA.out; rw [HX.out] at this; exact this.below (below_drewN (bl_refl w) d))
    have HB' : Hid (Seg wr b L cb (Num.limbs y)) := hide (by obtain ⟨d, rfl⟩ := hw.out; have := HB.out; rw [HY.out] at this; exact this.below (below_drewN (bl_refl w) d))
    by_cases h0 : k = 0
    · subst h0
      have HE : Hid (cmpZ x y = 0) := hide (cmp_eq (by have := hd.out; rw [List.drop_zero, List.drop_zero] at this; rw [Num.limbs_inj this]))
      go_wp2
      go_ret
      exact ⟨ret_int HE.out.symm, hw.out⟩
    · obtain ⟨j, rfl⟩ : ∃ j, k = j + 1 := ⟨k - 1, by omega⟩
      have hj1 : j < (Num.limbs x).length := by rw [HX.out]; omega
      have hj2 : j < (Num.limbs y).length := by rw [HY.out]; omega
      have hjL : (j : Int) < (L : Int) := by omega
      obtain ⟨g, o, rfl, hg, hc1⟩ := seg_cell HA'.out j hj1
      obtain ⟨g', o', rfl, hg', hc2⟩ := seg_cell HB'.out j hj2
      have ej : (((j + 1 : Nat) : Int) - 1) = (j : Int) := by omega
      rw [ej]
      rcases Nat.lt_trichotomy (Num.limbs x)[j] (Num.limbs y)[j] with h | h | h
      · have HE := hide (cmp_lt (a := (x : Int)) (b := y) (by have := at_lt (HX.out.trans HY.out.symm) hj1 hj2 hd.out h; omega))
        have HD : Hid (cmpZ ((Num.limbs x)[j] : Int) ((Num.limbs y)[j] : Int) = -1) := hide (cmp_lt (by omega))
        have hne : (((Num.limbs x)[j] : Int) != ((Num.limbs y)[j] : Int)) = true := by rw [bne_iff_ne]; omega
        have h' : ((Num.limbs x)[j] : Int) < ((Num.limbs y)[j] : Int) := by omega
        clear hd
        generalize (Num.limbs x)[j] = u at *
        generalize (Num.limbs y)[j] = v at *
        go_wp2
        go_quiet (fail)
        have hw2 := hide (drew_more hw.out nq)
        have hc1' : (wr.drewN nq).cell? _ = _ := hc1
        have hc2' : (wr.drewN nq).cell? _ = _ := hc2
        clear hc1 hc2 hw HA' HB'
        generalize wr.drewN nq = w2 at *
        go_wp2
        go_quiet (fail)
        go_wp2
        go_ret
        exact ⟨ret_int (HE.out.symm), drew_more hw2.out _⟩
      · have HD : Hid ((Num.limbs x).drop j = (Num.limbs y).drop j) := hide (drop_eq hj1 hj2 h hd.out)
        have hne : (((Num.limbs x)[j] : Int) != ((Num.limbs y)[j] : Int)) = false := by rw [bne_eq_false_iff_eq]; omega
        clear hd
        generalize (Num.limbs x)[j] = u at *
        generalize (Num.limbs y)[j] = v at *
        go_wp2
        go_quiet (fail)
        go_wp2
        exact ⟨⟨j, by omega, by go_num, HD, hide (drew_more hw.out nq)⟩, by simp [intOf]⟩
      · have HE := hide (cmp_gt (a := (x : Int)) (b := y) (by have := at_lt (HX.out.trans HY.out.symm).symm hj2 hj1 hd.out.symm h; omega))
        have HD : Hid (cmpZ ((Num.limbs x)[j] : Int) ((Num.limbs y)[j] : Int) = 1) := hide (cmp_gt (by omega))
        have hne : (((Num.limbs x)[j] : Int) != ((Num.limbs y)[j] : Int)) = true := by rw [bne_iff_ne]; omega
        have h' : ¬ ((Num.limbs x)[j] : Int) < ((Num.limbs y)[j] : Int) := by omega
        clear hd
        generalize (Num.limbs x)[j] = u at *
        generalize (Num.limbs y)[j] = v at *
        go_wp2
        go_quiet (fail)
        have hw2 := hide (drew_more hw.out nq)
        have hc1' : (wr.drewN nq).cell? _ = _ := hc1
        have hc2' : (wr.drewN nq).cell? _ = _ := hc2
        clear hc1 hc2 hw HA' HB'
        generalize wr.drewN nq = w2 at *
        go_wp2
        go_quiet (fail)
        go_wp2
        go_ret
        exact ⟨ret_int (HE.out.symm), drew_more hw2.out _⟩

set_option maxHeartbeats 2000000 in
theorem leastI (x y : Nat) (a b : Option Addr) (n m ca cb : Nat) (w : World) (ha : Seg w a n ca (Num.limbs x)) (hb : Seg w b m cb (Num.limbs y)) :
    Calls Try.prog 63 #[.slice a n ca, .slice b m cb] w fun e w' => e = .returned (.int .i64 (cmpZ x y)) ∧ ∃ d, w' = w.drewN d := by
  obtain rfl := ha.1
  obtain rfl := hb.1
  have a1 := ha.2.1
  have a2 := ha.2.2.1
  have b1 := hb.2.1
  have b2 := hb.2.2.1
  have HA := hide ha
  have HB := hide hb
  clear ha hb
  by_cases hl : (Num.limbs x).length < (Num.limbs y).length
  · have HC := hide (cmp_lt (a := (x : Int)) (b := y) (by have := Num.len_lt hl; omega))
    have HD : Hid (cmpZ ((Num.limbs x).length : Int) ((Num.limbs y).length : Int) = -1) := hide (cmp_lt (by omega))
    have hne : (((Num.limbs x).length : Int) != ((Num.limbs y).length : Int)) = true := by rw [bne_iff_ne]; omega
    generalize (Num.limbs x).length = p at *
    generalize (Num.limbs y).length = q at *
    go_enter Try.func63, Try.ntmps63
    go_wp2_with (go_at_call 61; refine (cmpI _ _ _).mono ?_; rintro e w1 ⟨rfl, hw⟩; subst w1)
    go_ret
    exact ⟨ret_int (HD.out.trans HC.out.symm), 0, rfl⟩
  by_cases hl2 : (Num.limbs y).length < (Num.limbs x).length
  · have HC := hide (cmp_gt (a := (x : Int)) (b := y) (by have := Num.len_lt hl2; omega))
    have HD : Hid (cmpZ ((Num.limbs x).length : Int) ((Num.limbs y).length : Int) = 1) := hide (cmp_gt (by omega))
    have hne : (((Num.limbs x).length : Int) != ((Num.limbs y).length : Int)) = true := by rw [bne_iff_ne]; omega
    generalize (Num.limbs x).length = p at *
    generalize (Num.limbs y).length = q at *
    go_enter Try.func63, Try.ntmps63
    go_wp2_with (go_at_call 61; refine (cmpI _ _ _).mono ?_; rintro e w1 ⟨rfl, hw⟩; subst w1)
    go_ret
    exact ⟨ret_int (HD.out.trans HC.out.symm), 0, rfl⟩
  have hle : (Num.limbs x).length = (Num.limbs y).length := by omega
  obtain ⟨L, hL⟩ : ∃ L, (Num.limbs x).length = L := ⟨_, rfl⟩
  have hL2 : (Num.limbs y).length = L := by omega
  have HX := hide hL
  have HY := hide hL2
  rw [hL] at a1 ⊢
  rw [hL2] at b1 ⊢
  clear hl hl2 hle hL hL2
  go_enter Try.func63, Try.ntmps63
  go_wp2
  go_loopw [5] (fun i wr => ∃ k : Nat, k ≤ L ∧ i = .int .i64 ((k : Int) - 1) ∧ Hid ((Num.limbs x).drop k = (Num.limbs y).drop k) ∧ Hid (∃ d, wr = w.drewN d)) (fun i _ => (intOf i + 1).toNat)
  case atStart => exact ⟨L, Nat.le_refl _, by go_num, hide (by rw [List.drop_eq_nil_of_le (by rw [HX.out]; exact Nat.le_refl _), List.drop_eq_nil_of_le (by rw [HY.out]; exact Nat.le_refl _)]), hide ⟨0, rfl⟩⟩
  case round =>
    obtain ⟨k, hk, rfl, hd, hw⟩ := hrel
    have HA' : Hid (Seg wr a L ca (Num.limbs x)) := hide (by obtain ⟨d, rfl⟩ := hw.out; have := HA.out; rw [HX.out] at this; exact this.below (below_drewN (bl_refl w) d))
    have HB' : Hid (Seg wr b L cb (Num.limbs y)) := hide (by obtain ⟨d, rfl⟩ := hw.out; have := HB.out; rw [HY.out] at this; exact this.below (below_drewN (bl_refl w) d))
    by_cases h0 : k = 0
    · subst h0
      have HE : Hid (cmpZ x y = 0) := hide (cmp_eq (by have := hd.out; rw [List.drop_zero, List.drop_zero] at this; rw [Num.limbs_inj this]))
      go_wp2
      go_ret
      exact ⟨ret_int HE.out.symm, hw.out⟩
    · obtain ⟨j, rfl⟩ : ∃ j, k = j + 1 := ⟨k - 1, by omega⟩
      have hj1 : j < (Num.limbs x).length := by rw [HX.out]; omega
      have hj2 : j < (Num.limbs y).length := by rw [HY.out]; omega
      have hjL : (j : Int) < (L : Int) := by omega
      obtain ⟨g, o, rfl, hg, hc1⟩ := seg_cell HA'.out j hj1
      obtain ⟨g', o', rfl, hg', hc2⟩ := seg_cell HB'.out j hj2
      have ej : (((j + 1 : Nat) : Int) - 1) = (j : Int) := by omega
      rw [ej]
      rcases Nat.lt_trichotomy (Num.limbs x)[j] (Num.limbs y)[j] with h | h | h
      · have HE := hide (cmp_lt (a := (x : Int)) (b := y) (by have := at_lt (HX.out.trans HY.out.symm) hj1 hj2 hd.out h; omega))
        have HD : Hid (cmpZ ((Num.limbs x)[j] : Int) ((Num.limbs y)[j] : Int) = -1) := hide (cmp_lt (by omega))
        have hne : (((Num.limbs x)[j] : Int) != ((Num.limbs y)[j] : Int)) = true := by rw [bne_iff_ne]; omega
        have h' : ((Num.limbs x)[j] : Int) < ((Num.limbs y)[j] : Int) := by omega
        clear hd
        generalize (Num.limbs x)[j] = u at *
        generalize (Num.limbs y)[j] = v at *
        go_wp2
        go_quiet (fail)
        have hw2 := hide (drew_more hw.out nq)
        have hc1' : (wr.drewN nq).cell? _ = _ := hc1
        have hc2' : (wr.drewN nq).cell? _ = _ := hc2
        clear hc1 hc2 hw HA' HB'
        generalize wr.drewN nq = w2 at *
        go_wp2
        go_quiet (exact Calls.quiet_of_same (cmpU _ _ _))
        go_wp2
        go_ret
        exact ⟨ret_int (HD.out.trans HE.out.symm), drew_more hw2.out _⟩
      · have HD : Hid ((Num.limbs x).drop j = (Num.limbs y).drop j) := hide (drop_eq hj1 hj2 h hd.out)
        have hne : (((Num.limbs x)[j] : Int) != ((Num.limbs y)[j] : Int)) = false := by rw [bne_eq_false_iff_eq]; omega
        clear hd
        generalize (Num.limbs x)[j] = u at *
        generalize (Num.limbs y)[j] = v at *
        go_wp2
        go_quiet (fail)
        go_wp2
        exact ⟨⟨j, by omega, by go_num, HD, hide (drew_more hw.out nq)⟩, by simp [intOf]⟩
      · have HE := hide (cmp_gt (a := (x : Int)) (b := y) (by have := at_lt (HX.out.trans HY.out.symm).symm hj2 hj1 hd.out.symm h; omega))
        have HD : Hid (cmpZ ((Num.limbs x)[j] : Int) ((Num.limbs y)[j] : Int) = 1) := hide (cmp_gt (by omega))
        have hne : (((Num.limbs x)[j] : Int) != ((Num.limbs y)[j] : Int)) = true := by rw [bne_iff_ne]; omega
        have h' : ¬ ((Num.limbs x)[j] : Int) < ((Num.limbs y)[j] : Int) := by omega
        clear hd
        generalize (Num.limbs x)[j] = u at *
        generalize (Num.limbs y)[j] = v at *
        go_wp2
        go_quiet (fail)
        have hw2 := hide (drew_more hw.out nq)
        have hc1' : (wr.drewN nq).cell? _ = _ := hc1
        have hc2' : (wr.drewN nq).cell? _ = _ := hc2
        clear hc1 hc2 hw HA' HB'
        generalize wr.drewN nq = w2 at *
        go_wp2
        go_quiet (exact Calls.quiet_of_same (cmpU _ _ _))
        go_wp2
        go_ret
        exact ⟨ret_int (HD.out.trans HE.out.symm), drew_more hw2.out _⟩

end Go.Proofs.Ythjapjbiclkhcaa

/- The walk of addOrTake: a part of a block of limbs turns into the sum, or the difference; no other block turns. -/
namespace Go.Proofs.Ythjapjbiclkhcaa
open Go.RowKit
set_option linter.unusedVariables false

theorem xor0 (p : Int) (h0 : 0 ≤ p) (h1 : p < 4294967296) : bits .xor .u32 0 p = p := by
  obtain ⟨p, rfl⟩ := Int.eq_ofNat_of_zero_le h0
  have key : (BitVec.ofInt 32 (0 : Int) ^^^ BitVec.ofInt 32 (p : Int)).toNat = p := by
    rw [BitVec.toNat_xor, BitVec.toNat_ofInt, BitVec.toNat_ofInt]
    have e2 : ((p : Int) % ((2 ^ 32 : Nat) : Int)).toNat = p := by omega
    rw [e2]; simp
  show IntKind.u32.wrap ((BitVec.ofInt 32 (0 : Int) ^^^ BitVec.ofInt 32 (p : Int)).toNat : Nat) = _
  rw [key, IntKind.wrap_u32]; omega
theorem xor1 (p : Int) (h0 : 0 ≤ p) (h1 : p < 4294967296) : bits .xor .u32 4294967295 p = 4294967295 - p := by
  obtain ⟨p, rfl⟩ := Int.eq_ofNat_of_zero_le h0
  have e1 : BitVec.ofInt 32 (4294967295 : Int) = BitVec.allOnes 32 := by decide
  have key : (BitVec.ofInt 32 (4294967295 : Int) ^^^ BitVec.ofInt 32 (p : Int)).toNat = 4294967295 - p := by
    rw [e1, BitVec.allOnes_xor, BitVec.toNat_not, BitVec.toNat_ofInt]
    have e2 : ((p : Int) % ((2 ^ 32 : Nat) : Int)).toNat = p := by omega
    rw [e2]
  show IntKind.u32.wrap ((BitVec.ofInt 32 (4294967295 : Int) ^^^ BitVec.ofInt 32 (p : Int)).toNat : Nat) = _
  rw [key, IntKind.wrap_u32]; omega
theorem xor_one (c : Nat) (h : c ≤ 1) : bits .xor .u32 (c : Int) 1 = 1 - (c : Int) := by
  obtain rfl | rfl : c = 0 ∨ c = 1 := by omega
  · decide
  · decide
theorem xor_nil (c : Nat) (h : c ≤ 1) : bits .xor .u32 (c : Int) 0 = (c : Int) := by
  obtain rfl | rfl : c = 0 ∨ c = 1 := by omega
  · decide
  · decide
/-- the limb that is added -/
def oth (t : Bool) (p : Nat) : Nat := if t then 4294967295 - p else p
theorem oth_false (p : Nat) : oth false p = p := rfl
theorem oth_true (p : Nat) : oth true p = 4294967295 - p := rfl
theorem oth_lt {t : Bool} {p : Nat} (h : p < 4294967296) : oth t p < 4294967296 := by unfold oth; cases t <;> simp <;> omega
/-- the number so far -/
def Sofar (t : Bool) (seg ps zs : List Nat) (k c : Nat) : Prop :=
  zs.length = k ∧ Num.Small zs ∧ c ≤ 1 ∧ (if t then Num.nat zs + Num.nat (ps.take k) + 4294967296 ^ k * c = Num.nat (seg.take k) + 4294967296 ^ k else Num.nat zs + 4294967296 ^ k * c = Num.nat (seg.take k) + Num.nat (ps.take k))
theorem nat_take_getD (xs : List Nat) (n : Nat) : Num.nat (xs.take (n + 1)) = Num.nat (xs.take n) + 4294967296 ^ n * xs.getD n 0 := by
  by_cases h : n < xs.length
  · rw [Num.nat_take_succ xs n h]; simp [h]
  · rw [List.take_of_length_le (by omega), List.take_of_length_le (by omega)]
    have : xs.getD n 0 = 0 := by simp [List.getD, List.getElem?_eq_none (Nat.le_of_not_lt h)]
    rw [this]; omega
theorem sofar_step {t : Bool} {seg ps zs : List Nat} {k c l p x c' : Nat} (h : Sofar t seg ps zs k c) (hl : seg.getD k 0 = l) (hp : ps.getD k 0 = p) (hpl : p < 4294967296) (hx : x < 4294967296) (hc' : c' ≤ 1) (he : x + 4294967296 * c' = l + oth t p + c) :
    Sofar t seg ps (zs ++ [x]) (k + 1) c' := by
  obtain ⟨h1, h2, h3, h4⟩ := h
  refine ⟨by simp [h1], Num.small_append h2 (by intro y hy; simp at hy; omega), hc', ?_⟩
  rw [Num.nat_append, nat_take_getD seg k, nat_take_getD ps k, hl, hp, h1, Nat.pow_succ]
  have e : 4294967296 ^ k * x + 4294967296 ^ k * 4294967296 * c' = 4294967296 ^ k * l + 4294967296 ^ k * oth t p + 4294967296 ^ k * c := by
    have := congrArg (4294967296 ^ k * ·) he
    simp only [Nat.mul_add] at this
    rw [Nat.mul_assoc]; exact this
  have e0 : Num.nat [x] = x := by simp [Num.nat]
  rw [e0]
  cases t with
  | false =>
    rw [if_neg (by simp)] at h4 ⊢
    have eo : oth false p = p := rfl
    rw [eo] at e
    omega
  | true =>
    rw [if_pos rfl] at h4 ⊢
    have eo : 4294967296 ^ k * oth true p + 4294967296 ^ k * p = 4294967296 ^ k * 4294967295 := by
      rw [← Nat.mul_add]; congr 1; simp [oth]; omega
    have e5 : 4294967296 ^ k * 4294967296 = 4294967296 ^ k * 4294967295 + 4294967296 ^ k := by omega
    omega
theorem mid_at {ys zs : List Nat} {o k : Nat} (hz : zs.length = k) (ho : o + k < ys.length) (h : o + k < (ys.take o ++ zs ++ ys.drop (o + k)).length) : (ys.take o ++ zs ++ ys.drop (o + k))[o + k] = ys[o + k] := by
  have hl : (ys.take o ++ zs).length = o + k := by simp; omega
  rw [List.getElem_append_right (by omega)]
  simp [hl]
theorem mid_len {ys zs : List Nat} {o k : Nat} (hz : zs.length = k) (ho : o + k ≤ ys.length) : (ys.take o ++ zs ++ ys.drop (o + k)).length = ys.length := by
  simp; omega
theorem mid_set {ys zs : List Nat} {o k x : Nat} (hz : zs.length = k) (ho : o + k < ys.length) : (ys.take o ++ zs ++ ys.drop (o + k)).set (o + k) x = ys.take o ++ (zs ++ [x]) ++ ys.drop (o + (k + 1)) := by
  have hl : (ys.take o ++ zs).length = o + k := by simp; omega
  rw [List.set_append_right _ _ (by omega), hl, Nat.sub_self, List.drop_eq_getElem_cons ho, List.set_cons_zero]
  simp [Nat.add_assoc]
theorem seg_getD {ys : List Nat} {o n k : Nat} (hk : k < n) (ho : o + k < ys.length) : ((ys.drop o).take n).getD k 0 = ys[o + k] := by
  simp [List.getD, hk, List.getElem?_drop, ho]

theorem add_end {t : Bool} {g o n k c l p x c' : Nat} {ys ps zs : List Nat} {w wr : World} {v : Int} (hS : Sofar t ((ys.drop o).take n) ps zs k c) (hbk : Blk wr g (ys.take o ++ zs ++ ys.drop (o + k))) (hg : w.grownBy wr (some g)) (hl : ((ys.drop o).take n).getD k 0 = l) (hp : ps.getD k 0 = p) (hpl : p < 4294967296) (ho : o + k < ys.length) (hv : v = (x : Int)) (hx : x < 4294967296) (hc : c' ≤ 1) (he : x + 4294967296 * c' = l + oth t p + c) :
    Hid (Sofar t ((ys.drop o).take n) ps (zs ++ [x]) (k + 1) c') ∧ Hid (Blk (wr.setCell ⟨g, o + k, none⟩ (.int .u32 v)) g (ys.take o ++ (zs ++ [x]) ++ ys.drop (o + (k + 1)))) ∧ Hid (w.grownBy (wr.setCell ⟨g, o + k, none⟩ (.int .u32 v)) (some g)) := by
  subst hv
  have h := hbk.set (o + k) x hx
  rw [mid_set hS.1 ho] at h
  exact ⟨hide (sofar_step hS hl hp hpl hx hc he), hide h.1, hide (grown_trans hg h.2)⟩

set_option maxHeartbeats 4000000 in
set_option maxRecDepth 20000 in
theorem addI (t : Bool) (g o n cap : Nat) (ys : List Nat) (b : Option Addr) (m cb : Nat) (ps : List Nat) (w : World) (hB : Blk w g ys) (ho : o + n ≤ ys.length) (hn : n ≤ cap) (hcm : cap ≤ 9223372036854775807) (hP : Seg w b m cb ps) (hne : 0 < m → ∀ gb ob s, b = some ⟨gb, ob, s⟩ → gb ≠ g) :
    Calls Try.prog 66 #[.slice (some ⟨g, o, none⟩) n cap, .slice b m cb, .bool t] w fun e w' => ∃ (zs : List Nat) (c : Nat), Sofar t ((ys.drop o).take n) ps zs n c ∧ e = .returned (.int .u32 (if t then 1 - (c : Int) else c)) ∧ Blk w' g (ys.take o ++ zs ++ ys.drop (o + n)) ∧ w.grownBy w' (some g) := by
  obtain rfl := hP.1
  have hb1 := hP.2.1
  have hb2 := hP.2.2.1
  have HP := hide hP
  have HB := hide hB
  have HNE := hide hne
  clear hP hB hne
  cases t with
  | false =>
    go_enter Try.func66, Try.ntmps66
    go_wp2
    go_loopw [9, 10, 11, 12, 13, 20] (fun cv _ _ _ _ i wr => ∃ (k c : Nat) (zs : List Nat), k ≤ n ∧ i = .int .i64 k ∧ cv = .int .u32 c ∧ c ≤ 1 ∧ Hid (Sofar false ((ys.drop o).take n) ps zs k c) ∧ Hid (Blk wr g (ys.take o ++ zs ++ ys.drop (o + k))) ∧ Hid (w.grownBy wr (some g))) (fun _ _ _ _ _ i _ => n - (intOf i).toNat)
    case atStart => exact ⟨0, 0, [], Nat.zero_le _, rfl, rfl, by omega, hide ⟨rfl, (fun x hx => by cases hx), by omega, by simp [Num.nat]⟩, hide (by have := HB.out; simpa using this), hide ⟨rfl, rfl, rfl, Nat.le_refl _, fun _ _ _ => rfl⟩⟩
    case round =>
      obtain ⟨k, c, zs, hk, rfl, rfl, hc, hS, hbk, hg⟩ := hrel
      by_cases hlt : k < n
      · have hlt' : (k : Int) < (n : Int) := by omega
        have hzl := hS.out.1
        have hcl := hbk.out.cell (o + k) (by rw [mid_len hzl (by omega)]; omega)
        rw [mid_at hzl (by omega)] at hcl
        have hfz := hbk.out.frozen (o + k)
        have hls : ys[o + k] < 4294967296 := Num.small_at HB.out.2 (by omega)
        have HLD := hide (seg_getD (ys := ys) (o := o) hlt (by omega))
        generalize ys[o + k] = l at *
        by_cases hkm : k < ps.length
        · have hkm' : (k : Int) < (ps.length : Int) := by omega
          obtain ⟨g', o', rfl, hg', hc2⟩ := seg_cell (HP.out.grown hg.out (fun gb ob s e => by have := HNE.out (by omega) gb ob s e; simp; omega)) k hkm
          have hps := Num.small_at HP.out.2.2.2.1 hkm
          have HPD : Hid (ps.getD k 0 = ps[k]) := hide (by simp [hkm])
          generalize ps[k] = p at *
          have hx0 := xor0 p (by omega) (by omega)
          go_wp2
          all_goals first
            | exact ⟨⟨k + 1, 0, zs ++ [(l + oth false p + c) % 4294967296], by omega, by go_num, rfl, by omega, add_end (p := p) hS.out hbk.out hg.out HLD.out HPD.out (by omega) (by omega) (by rw [oth_false]; omega) (by omega) (by omega) (by rw [oth_false]; omega)⟩, by simp [intOf]; omega⟩
            | exact ⟨⟨k + 1, 1, zs ++ [(l + oth false p + c) % 4294967296], by omega, by go_num, rfl, by omega, add_end (p := p) hS.out hbk.out hg.out HLD.out HPD.out (by omega) (by omega) (by rw [oth_false]; omega) (by omega) (by omega) (by rw [oth_false]; omega)⟩, by simp [intOf]; omega⟩
        · have HPD : Hid (ps.getD k 0 = 0) := hide (by simp [List.getD, List.getElem?_eq_none (Nat.le_of_not_lt hkm)])
          go_wp2
          all_goals first
            | exact ⟨⟨k + 1, 0, zs ++ [(l + oth false 0 + c) % 4294967296], by omega, by go_num, rfl, by omega, add_end (p := 0) hS.out hbk.out hg.out HLD.out HPD.out (by omega) (by omega) (by rw [oth_false]; omega) (by omega) (by omega) (by rw [oth_false]; omega)⟩, by simp [intOf]; omega⟩
            | exact ⟨⟨k + 1, 1, zs ++ [(l + oth false 0 + c) % 4294967296], by omega, by go_num, rfl, by omega, add_end (p := 0) hS.out hbk.out hg.out HLD.out HPD.out (by omega) (by omega) (by rw [oth_false]; omega) (by omega) (by omega) (by rw [oth_false]; omega)⟩, by simp [intOf]; omega⟩
      · obtain rfl : k = n := by omega
        go_wp2
        go_ret
        exact ⟨zs, c, hS.out, ret_int (xor_nil c hc), (by have := hbk.out; rwa [List.append_assoc] at this), hg.out⟩
  | true =>
    have hmax : bits BinOp.xor IntKind.u32 IntKind.u32.max 0 = 4294967295 := by decide
    have HM := hide hmax
    clear hmax
    go_enter Try.func66, Try.ntmps66
    go_wp2
    obtain ⟨T, hT⟩ : ∃ T : Int, bits BinOp.xor IntKind.u32 IntKind.u32.max 0 = T := ⟨_, rfl⟩
    have HT : Hid (T = 4294967295) := hide (hT.symm.trans HM.out)
    rw [hT]
    clear hT HM
    go_loopw [9, 10, 11, 12, 13, 20] (fun cv _ _ _ _ i wr => ∃ (k c : Nat) (zs : List Nat), k ≤ n ∧ i = .int .i64 k ∧ cv = .int .u32 c ∧ c ≤ 1 ∧ Hid (Sofar true ((ys.drop o).take n) ps zs k c) ∧ Hid (Blk wr g (ys.take o ++ zs ++ ys.drop (o + k))) ∧ Hid (w.grownBy wr (some g))) (fun _ _ _ _ _ i _ => n - (intOf i).toNat)
    case atStart => exact ⟨0, 1, [], Nat.zero_le _, rfl, rfl, by omega, hide ⟨rfl, (fun x hx => by cases hx), by omega, by simp [Num.nat]⟩, hide (by have := HB.out; simpa using this), hide ⟨rfl, rfl, rfl, Nat.le_refl _, fun _ _ _ => rfl⟩⟩
    case round =>
      obtain ⟨k, c, zs, hk, rfl, rfl, hc, hS, hbk, hg⟩ := hrel
      by_cases hlt : k < n
      · have hlt' : (k : Int) < (n : Int) := by omega
        have hzl := hS.out.1
        have hcl := hbk.out.cell (o + k) (by rw [mid_len hzl (by omega)]; omega)
        rw [mid_at hzl (by omega)] at hcl
        have hfz := hbk.out.frozen (o + k)
        have hls : ys[o + k] < 4294967296 := Num.small_at HB.out.2 (by omega)
        have HLD := hide (seg_getD (ys := ys) (o := o) hlt (by omega))
        generalize ys[o + k] = l at *
        by_cases hkm : k < ps.length
        · have hkm' : (k : Int) < (ps.length : Int) := by omega
          obtain ⟨g', o', rfl, hg', hc2⟩ := seg_cell (HP.out.grown hg.out (fun gb ob s e => by have := HNE.out (by omega) gb ob s e; simp; omega)) k hkm
          have hps := Num.small_at HP.out.2.2.2.1 hkm
          have HPD : Hid (ps.getD k 0 = ps[k]) := hide (by simp [hkm])
          generalize ps[k] = p at *
          have hx0 := xor1 p (by omega) (by omega)
          rw [← HT.out] at hx0
          have hT0 : 0 ≤ T := by have := HT.out; omega
          have hT1 : T ≤ 4294967295 := by have := HT.out; omega
          go_wp2
          all_goals have hTT := HT.out
          all_goals first
            | exact ⟨⟨k + 1, 0, zs ++ [(l + oth true p + c) % 4294967296], by omega, by go_num, rfl, by omega, add_end (p := p) hS.out hbk.out hg.out HLD.out HPD.out (by omega) (by omega) (by rw [oth_true]; omega) (by omega) (by omega) (by rw [oth_true]; omega)⟩, by simp [intOf]; omega⟩
            | exact ⟨⟨k + 1, 1, zs ++ [(l + oth true p + c) % 4294967296], by omega, by go_num, rfl, by omega, add_end (p := p) hS.out hbk.out hg.out HLD.out HPD.out (by omega) (by omega) (by rw [oth_true]; omega) (by omega) (by omega) (by rw [oth_true]; omega)⟩, by simp [intOf]; omega⟩
        · have HPD : Hid (ps.getD k 0 = 0) := hide (by simp [List.getD, List.getElem?_eq_none (Nat.le_of_not_lt hkm)])
          have hT0 : 0 ≤ T := by have := HT.out; omega
          have hT1 : T ≤ 4294967295 := by have := HT.out; omega
          go_wp2
          all_goals have hTT := HT.out
          all_goals first
            | exact ⟨⟨k + 1, 0, zs ++ [(l + oth true 0 + c) % 4294967296], by omega, by go_num, rfl, by omega, add_end (p := 0) hS.out hbk.out hg.out HLD.out HPD.out (by omega) (by omega) (by rw [oth_true]; omega) (by omega) (by omega) (by rw [oth_true]; omega)⟩, by simp [intOf]; omega⟩
            | exact ⟨⟨k + 1, 1, zs ++ [(l + oth true 0 + c) % 4294967296], by omega, by go_num, rfl, by omega, add_end (p := 0) hS.out hbk.out hg.out HLD.out HPD.out (by omega) (by omega) (by rw [oth_true]; omega) (by omega) (by omega) (by rw [oth_true]; omega)⟩, by simp [intOf]; omega⟩
      · obtain rfl : k = n := by omega
        go_wp2
        go_ret
        exact ⟨zs, c, hS.out, ret_int (xor_one c hc), (by have := hbk.out; rwa [List.append_assoc] at this), hg.out⟩
end Go.Proofs.Ythjapjbiclkhcaa

/- The walk of addTimes: a part of a block of limbs turns into its sum with a list times a limb; no other block turns. -/
namespace Go.Proofs.Ythjapjbiclkhcaa
open Go.RowKit
set_option linter.unusedVariables false

/-- the number so far -/
def TSo (f : Nat) (seg ps zs : List Nat) (k c : Nat) : Prop :=
  zs.length = k ∧ Num.Small zs ∧ c < 4294967296 ∧ Num.nat zs + 4294967296 ^ k * c = Num.nat (seg.take k) + f * Num.nat (ps.take k)
theorem tso_step {f : Nat} {seg ps zs : List Nat} {k c l p t : Nat} (h : TSo f seg ps zs k c) (hl : seg.getD k 0 = l) (hp : ps.getD k 0 = p) (ht : t = f * p + l + c) (hb : t / 4294967296 < 4294967296) :
    TSo f seg ps (zs ++ [t % 4294967296]) (k + 1) (t / 4294967296) := by
  obtain ⟨h1, h2, h3, h4⟩ := h
  refine ⟨by simp [h1], Num.small_append h2 (by intro y hy; simp at hy; subst hy; exact Nat.mod_lt _ (by decide)), hb, ?_⟩
  rw [Num.nat_append, nat_take_getD seg k, nat_take_getD ps k, hl, hp, h1, Nat.pow_succ]
  have e0 : Num.nat [t % 4294967296] = t % 4294967296 := by simp [Num.nat]
  have e1 : 4294967296 ^ k * (t % 4294967296) + 4294967296 ^ k * 4294967296 * (t / 4294967296) = 4294967296 ^ k * t := by
    rw [Nat.mul_assoc, ← Nat.mul_add, Nat.mod_add_div]
  rw [e0, Nat.add_assoc, e1, ht, Nat.mul_add, Nat.mul_add, Nat.mul_add, ← Nat.mul_assoc f, Nat.mul_comm f (4294967296 ^ k), Nat.mul_assoc (4294967296 ^ k) f p]
  generalize 4294967296 ^ k * (f * p) = A at *
  generalize 4294967296 ^ k * l = B at *
  generalize 4294967296 ^ k * c = C at *
  generalize f * Num.nat (ps.take k) = D at *
  omega
theorem take_mid {Y zs : List Nat} {i m c : Nat} (hz : zs.length = m) (hi : i + m + 1 ≤ Y.length) : (Y.take i ++ (zs ++ [c]) ++ Y.drop (i + (m + 1))).length = Y.length := by
  simp; omega
theorem prod_step {xs bs Y zs : List Nat} {i c : Nat} (hi : i < xs.length) (hY : Y.length = xs.length + bs.length) (h0 : Num.nat (Y.drop (i + bs.length)) = 0) (hn : Num.nat Y = Num.nat (xs.take i) * Num.nat bs) (hT : TSo (xs[i]) (Y.drop i) bs zs bs.length c) :
    (Y.take i ++ (zs ++ [c]) ++ Y.drop (i + (bs.length + 1))).length = xs.length + bs.length ∧ Num.nat ((Y.take i ++ (zs ++ [c]) ++ Y.drop (i + (bs.length + 1))).drop (i + 1 + bs.length)) = 0 ∧
      Num.nat (Y.take i ++ (zs ++ [c]) ++ Y.drop (i + (bs.length + 1))) = Num.nat (xs.take (i + 1)) * Num.nat bs := by
  obtain ⟨h1, h2, h3, h4⟩ := hT
  have hlen := take_mid (c := c) (Y := Y) (i := i) h1 (by omega)
  have hd := Num.nat_drop Y (i + bs.length) (by omega)
  rw [h0] at hd
  have hd1 : Num.nat (Y.drop (i + bs.length + 1)) = 0 := by omega
  have hpre : (Y.take i ++ (zs ++ [c])).length = i + 1 + bs.length := by simp; omega
  have hdrop : (Y.take i ++ (zs ++ [c]) ++ Y.drop (i + (bs.length + 1))).drop (i + 1 + bs.length) = Y.drop (i + (bs.length + 1)) := by
    rw [List.drop_append_of_le_length (by omega), List.drop_eq_nil_of_le (by omega), List.nil_append]
  refine ⟨hlen.trans hY, ?_, ?_⟩
  · rw [hdrop]; exact hd1
  · have e1 : Num.nat (Y.take i ++ (zs ++ [c]) ++ Y.drop (i + (bs.length + 1))) = Num.nat (Y.take i ++ (zs ++ [c])) := by
      rw [Num.nat_append, show Num.nat (Y.drop (i + (bs.length + 1))) = 0 from hd1]; omega
    have e2 : Num.nat (Y.take i ++ (zs ++ [c])) = Num.nat (Y.take i) + 4294967296 ^ i * (Num.nat zs + 4294967296 ^ bs.length * c) := by
      rw [Num.nat_append, Num.nat_append, h1, List.length_take, Nat.min_eq_left (by omega), show Num.nat [c] = c from by simp [Num.nat]]
    have e3 : Num.nat Y = Num.nat (Y.take i) + 4294967296 ^ i * Num.nat ((Y.drop i).take bs.length) := by
      rw [Num.nat_take_drop Y i (by omega), Num.nat_take_drop (Y.drop i) bs.length (by simp; omega), List.drop_drop, h0]
      rfl
    rw [List.take_of_length_le (Nat.le_refl _)] at h4
    rw [e1, e2, h4, Nat.mul_add, ← Nat.add_assoc, ← e3, hn, Num.nat_take_succ xs i hi, Nat.add_mul, Nat.mul_assoc]
theorem drop_getD {ys : List Nat} {o k : Nat} (h : o + k < ys.length) : (ys.drop o).getD k 0 = ys[o + k] := by
  simp [List.getD, List.getElem?_drop, h]
theorem prod_le {a b : Nat} (ha : a < 4294967296) (hb : b < 4294967296) : a * b ≤ 18446744065119617025 := by
  have := Nat.mul_le_mul (show a ≤ 4294967295 by omega) (show b ≤ 4294967295 by omega)
  exact Nat.le_trans this (by decide)

set_option maxHeartbeats 4000000 in
set_option maxRecDepth 20000 in
theorem timesI (f g o n cap : Nat) (ys : List Nat) (b : Option Addr) (m cb : Nat) (ps : List Nat) (w : World) (hf : f < 4294967296) (hB : Blk w g ys) (ho : o + n ≤ ys.length) (hn : n ≤ cap) (hcm : cap ≤ 9223372036854775807) (hmn : m < n) (hP : Seg w b m cb ps) (hne : 0 < m → ∀ gb ob s, b = some ⟨gb, ob, s⟩ → gb ≠ g) :
    Calls Try.prog 85 #[.slice (some ⟨g, o, none⟩) n cap, .slice b m cb, .int .u32 f] w fun e w' => ∃ (zs : List Nat) (c : Nat), TSo f (ys.drop o) ps zs m c ∧ e = .returned (.tuple #[]) ∧ Blk w' g (ys.take o ++ (zs ++ [c]) ++ ys.drop (o + (m + 1))) ∧ w.grownBy w' (some g) := by
  obtain rfl := hP.1
  have hb1 := hP.2.1
  have hb2 := hP.2.2.1
  have HP := hide hP
  have HB := hide hB
  have HNE := hide hne
  clear hP hB hne
  go_enter Try.func85, Try.ntmps85
  go_wp2
  go_loopw [6, 7, 8, 11] (fun cv _ _ i wr => ∃ (k c : Nat) (zs : List Nat), k ≤ ps.length ∧ i = .int .i64 k ∧ cv = .int .u64 c ∧ c < 4294967296 ∧ Hid (TSo f (ys.drop o) ps zs k c) ∧ Hid (Blk wr g (ys.take o ++ zs ++ ys.drop (o + k))) ∧ Hid (w.grownBy wr (some g))) (fun _ _ _ i _ => ps.length - (intOf i).toNat)
  case atStart => exact ⟨0, 0, [], Nat.zero_le _, rfl, rfl, by omega, hide ⟨rfl, (fun x hx => by cases hx), by omega, by simp [Num.nat]⟩, hide (by have := HB.out; simpa using this), hide ⟨rfl, rfl, rfl, Nat.le_refl _, fun _ _ _ => rfl⟩⟩
  case round =>
    obtain ⟨k, c, zs, hk, rfl, rfl, hc, hS, hbk, hg⟩ := hrel
    have hzl := hS.out.1
    have hfz := hbk.out.frozen (o + k)
    have hls : ys[o + k]'(by omega) < 4294967296 := Num.small_at HB.out.2 (by omega)
    have hcl := hbk.out.cell (o + k) (by rw [mid_len hzl (by omega)]; omega)
    rw [mid_at hzl (by omega)] at hcl
    have HLD : Hid ((ys.drop o).getD k 0 = ys[o + k]'(by omega)) := hide (drop_getD (by omega))
    have HST := hide (fun x hx => hbk.out.set (o + k) x hx)
    have HMS := hide (fun x => mid_set (x := x) hzl (show o + k < ys.length by omega))
    generalize ys[o + k]'_ = l at *
    by_cases hlt : k < ps.length
    · have hlt' : (k : Int) < (ps.length : Int) := by omega
      have hkn : (k : Int) < (n : Int) := by omega
      obtain ⟨g', o', rfl, hg', hc2⟩ := seg_cell (HP.out.grown hg.out (fun gb ob s e => by have := HNE.out (by omega) gb ob s e; simp; omega)) k hlt
      have hps := Num.small_at HP.out.2.2.2.1 hlt
      have HPD : Hid (ps.getD k 0 = ps[k]) := hide (by simp [hlt])
      generalize ps[k] = p at *
      have hMb := prod_le hf hps
      have hM0 : (f : Int) * (p : Int) = ((f * p : Nat) : Int) := (Int.natCast_mul f p).symm
      have HTS := hide (fun hb => tso_step (t := f * p + l + c) hS.out HLD.out HPD.out rfl hb)
      clear hS
      generalize f * p = M at *
      go_wp2
      refine ⟨⟨k + 1, (M + l + c) / 4294967296, zs ++ [(M + l + c) % 4294967296], by omega, by go_num, by go_num, by omega, hide (HTS.out (by omega)), ?_⟩, by simp [intOf]; omega⟩
      have hs := HST.out ((M + l + c) % 4294967296) (by omega)
      rw [HMS.out] at hs
      have ev : ((c : Int) + ((M : Int) + (l : Int))) % 4294967296 = (((M + l + c) % 4294967296 : Nat) : Int) := by omega
      rw [ev]
      exact ⟨hide hs.1, hide (grown_trans hg.out hs.2)⟩
    · obtain rfl : k = ps.length := by omega
      have hkn : (ps.length : Int) < (n : Int) := by omega
      go_wp2
      go_end0
      have hs := HST.out c hc
      rw [HMS.out] at hs
      exact ⟨zs, c, hS.out, rfl, hs.1, grown_trans hg.out hs.2⟩
end Go.Proofs.Ythjapjbiclkhcaa

/- The walks of l02Limb, l02Plus and l02Less: the sum and the difference of two lists of limbs, in new memory. -/
namespace Go.Proofs.Ythjapjbiclkhcaa
open Go.RowKit
set_option linter.unusedVariables false

theorem limbS (a : Option Addr) (n cap : Nat) (xs : List Nat) (i : Nat) (w : World) (hs : Seg w a n cap xs) :
    Calls Try.prog 81 #[.slice a n cap, .int .i64 i] w fun e w' => e = .returned (.int .u64 (xs.getD i 0)) ∧ w' = w := by
  obtain rfl := hs.1
  have hn := Nat.le_trans hs.2.1 hs.2.2.1
  by_cases h : i < xs.length
  · have h' : (i : Int) < (xs.length : Int) := by omega
    obtain ⟨g, o, rfl, hg, hc⟩ := seg_cell hs i h
    have HE : Hid (xs.getD i 0 = xs[i]) := hide (by simp [h])
    have hx := Num.small_at hs.2.2.2.1 h
    clear hs
    generalize xs[i] = x at *
    go_enter Try.func81, Try.ntmps81
    go_wp2
    go_ret
    rw [HE.out]
    exact ⟨rfl, rfl⟩
  · have HE : Hid (xs.getD i 0 = 0) := hide (by simp [List.getD, List.getElem?_eq_none (Nat.le_of_not_lt h)])
    clear hs
    go_enter Try.func81, Try.ntmps81
    go_wp2
    go_ret
    rw [HE.out]
    exact ⟨rfl, rfl⟩
theorem getD_lt {xs : List Nat} (h : Num.Small xs) (k : Nat) : xs.getD k 0 < 4294967296 := by
  by_cases hk : k < xs.length
  · have : xs.getD k 0 = xs[k] := by simp [hk]
    rw [this]; exact Num.small_at h hk
  · have : xs.getD k 0 = 0 := by simp [List.getD, List.getElem?_eq_none (Nat.le_of_not_lt hk)]
    rw [this]; decide
theorem own_snoc {W : World} {base k : Nat} {a' : Option Addr} {c' x : Nat} {zs : List Nat} {v : Int} (hs : Num.Small zs) (hx : x < 4294967296) (hv : v = (x : Int)) (h : W.ownsRow base 56 1 (.slice a' (k + 1) c') (k + 1) (zs.map lim ++ [.int .u32 v])) : Own W base a' (k + 1) c' (zs ++ [x]) := by
  subst hv
  refine ⟨?_, Num.small_append hs (by intro y hy; simp at hy; omega)⟩
  rw [List.map_append]; exact h

theorem less_val {xs ys zs : List Nat} {c : Nat} (h : Sofar true xs ys zs xs.length c) (hl : ys.length ≤ xs.length) (hle : Num.nat ys ≤ Num.nat xs) : Num.nat zs = Num.nat xs - Num.nat ys := by
  obtain ⟨h1, h2, h3, h4⟩ := h
  rw [if_pos rfl, List.take_of_length_le hl, List.take_of_length_le (Nat.le_refl _)] at h4
  have hz := Num.nat_lt h2
  rw [h1] at hz
  generalize 4294967296 ^ xs.length = B at *
  have hc : c = 0 ∨ c = 1 := by clear h4; omega
  rcases hc with rfl | rfl
  · rw [Nat.mul_zero] at h4; omega
  · rw [Nat.mul_one] at h4; omega
theorem plus_val {xs ys zs : List Nat} {k c : Nat} (h : Sofar false xs ys zs k c) (hx : xs.length ≤ k) (hy : ys.length ≤ k) : Num.nat (zs ++ [c]) = Num.nat xs + Num.nat ys := by
  obtain ⟨h1, h2, h3, h4⟩ := h
  rw [if_neg (by simp), List.take_of_length_le hx, List.take_of_length_le hy] at h4
  rw [Num.nat_append, h1, ← h4, show Num.nat [c] = c from by simp [Num.nat]]

set_option maxHeartbeats 4000000 in
set_option maxRecDepth 20000 in
theorem plusS (a b : Option Addr) (n m ca cb : Nat) (xs ys : List Nat) (w : World) (ha : Seg w a n ca xs) (hb : Seg w b m cb ys) (hn : n ≤ 1048576) (hm : m ≤ 1048576) :
    Calls Try.prog 54 #[.slice a n ca, .slice b m cb] w fun e w' => ∃ ao k co zs, e = .returned (.slice ao k co) ∧ Own w' w.heap.size ao k co zs ∧ k ≤ n + m + 1 ∧ Num.nat zs = Num.nat xs + Num.nat ys ∧ Below w.heap.size w w' := by
  obtain ⟨i0, hi, hz0, hz1, hz2⟩ := info_parts Try.info56
  obtain rfl := ha.1
  obtain rfl := hb.1
  have HA := hide ha
  have HB := hide hb
  clear ha hb
  go_enter Try.func54, Try.ntmps54
  go_wp2
  go_loopw [5, 6, 7, 8] (fun o cv i _ wr => ∃ (k c : Nat) (ao : Option Addr) (co : Nat) (zs : List Nat), k ≤ (max xs.length ys.length) ∧ i = .int .i64 k ∧ cv = .int .u64 c ∧ c ≤ 1 ∧ o = .slice ao k co ∧ Hid (Sofar false xs ys zs k c) ∧ Hid (Own wr w.heap.size ao k co zs) ∧ Hid (Below w.heap.size w wr)) (fun _ _ i _ _ => (max xs.length ys.length) - (intOf i).toNat)
  case atStart =>
    refine ⟨0, 0, some ⟨w.heap.size, 0, none⟩, 0, [], Nat.zero_le _, rfl, rfl, by omega, rfl, hide ⟨rfl, (fun x hx => by cases hx), by omega, by simp [Num.nat]⟩, hide ⟨?_, fun x hx => by cases hx⟩, hide (bl_alloc (bl_refl w) _)⟩
    exact World.ownsRow_lit w #[] 0 (Nat.le_refl _) (by unfold maxLen; omega) rfl
  case round =>
    obtain ⟨k, c, ao, co, zs, hk, rfl, rfl, hc, rfl, hS, hO, hBl⟩ := hrel
    have HA' := hide (HA.out.below hBl.out)
    have HB' := hide (HB.out.below hBl.out)
    have hbs := hBl.out.size
    by_cases hlt : k < (max xs.length ys.length)
    · by_cases hA : (k : Int) < (xs.length : Int)
      · have hA0 := hA
        have hx := getD_lt HA.out.2.2.2.1 k
        have hy := getD_lt HB.out.2.2.2.1 k
        obtain ⟨x, hxe⟩ : ∃ x, xs.getD k 0 = x := ⟨_, rfl⟩
        obtain ⟨y, hye⟩ : ∃ y, ys.getD k 0 = y := ⟨_, rfl⟩
        have HXE := hide hxe
        have HYE := hide hye
        rw [hxe] at hx
        rw [hye] at hy
        clear hxe hye
        have e32 := and32 ((x : Int) + y + c) (by omega) (by omega)
        have hown := hO.out
        have HS0 := hide (show Num.Small zs from hO.out.2)
        go_wp2_with (first
          | (go_at_call_of 81 (Value.slice a xs.length ca); refine (limbS a _ ca xs k _ HA'.out).mono ?_; rintro e w3 ⟨rfl, hw3⟩; subst w3; rw [HXE.out])
          | (go_at_call_of 81 (Value.slice b ys.length cb); refine (limbS b _ cb ys k _ HB'.out).mono ?_; rintro e w3 ⟨rfl, hw3⟩; subst w3; rw [HYE.out])
          | (at_builtin; refine wpList_append_own _ rfl _ _ 24 rfl w.heap.size 56 i0 (.int .u32 0) 1 4 Try.underlying24 hi hz0 hz1 hz2 rfl (by decide) _ _ _ rfl (hown.1.alloc _) ⟨wr.heap.size, 0, none⟩ 1 1 [_] rfl rfl (cell_one_new _ _ _) (by simp [Value.oneCell']) (by unfold maxLen; omega) (by omega) (by simp only [World.size_alloc]; omega) ?_; intro v' w1 hown' hgrow' _; obtain ⟨a', c', rfl⟩ := row_val hown'; have hg2 := (show (wr.alloc _).grownBy w1 (Value.slice ao k co).ownBlock from hgrow'); clear hgrow'))
        refine ⟨⟨k + 1, (x + y + c) / 4294967296, a', c', zs ++ [(x + y + c) % 4294967296], by omega, by go_num, by go_num, by omega, rfl, hide (sofar_step hS.out HXE.out HYE.out hy (by omega) (by omega) (by rw [oth_false]; omega)), hide (own_snoc HS0.out (by omega) (by omega) hown'), hide ((bl_alloc hBl.out _).grown hg2 (by simp only [World.size_alloc]; omega) (fun j e => (hO.out.1.lt j e).1))⟩, by simp [intOf]; omega⟩
      · have hB : (k : Int) < (ys.length : Int) := by omega
        have hx := getD_lt HA.out.2.2.2.1 k
        have hy := getD_lt HB.out.2.2.2.1 k
        obtain ⟨x, hxe⟩ : ∃ x, xs.getD k 0 = x := ⟨_, rfl⟩
        obtain ⟨y, hye⟩ : ∃ y, ys.getD k 0 = y := ⟨_, rfl⟩
        have HXE := hide hxe
        have HYE := hide hye
        rw [hxe] at hx
        rw [hye] at hy
        clear hxe hye
        have e32 := and32 ((x : Int) + y + c) (by omega) (by omega)
        have hown := hO.out
        have HS0 := hide (show Num.Small zs from hO.out.2)
        go_wp2_with (first
          | (go_at_call_of 81 (Value.slice a xs.length ca); refine (limbS a _ ca xs k _ HA'.out).mono ?_; rintro e w3 ⟨rfl, hw3⟩; subst w3; rw [HXE.out])
          | (go_at_call_of 81 (Value.slice b ys.length cb); refine (limbS b _ cb ys k _ HB'.out).mono ?_; rintro e w3 ⟨rfl, hw3⟩; subst w3; rw [HYE.out])
          | (at_builtin; refine wpList_append_own _ rfl _ _ 24 rfl w.heap.size 56 i0 (.int .u32 0) 1 4 Try.underlying24 hi hz0 hz1 hz2 rfl (by decide) _ _ _ rfl (hown.1.alloc _) ⟨wr.heap.size, 0, none⟩ 1 1 [_] rfl rfl (cell_one_new _ _ _) (by simp [Value.oneCell']) (by unfold maxLen; omega) (by omega) (by simp only [World.size_alloc]; omega) ?_; intro v' w1 hown' hgrow' _; obtain ⟨a', c', rfl⟩ := row_val hown'; have hg2 := (show (wr.alloc _).grownBy w1 (Value.slice ao k co).ownBlock from hgrow'); clear hgrow'))
        refine ⟨⟨k + 1, (x + y + c) / 4294967296, a', c', zs ++ [(x + y + c) % 4294967296], by omega, by go_num, by go_num, by omega, rfl, hide (sofar_step hS.out HXE.out HYE.out hy (by omega) (by omega) (by rw [oth_false]; omega)), hide (own_snoc HS0.out (by omega) (by omega) hown'), hide ((bl_alloc hBl.out _).grown hg2 (by simp only [World.size_alloc]; omega) (fun j e => (hO.out.1.lt j e).1))⟩, by simp [intOf]; omega⟩
    · obtain rfl : k = (max xs.length ys.length) := by omega
      have hown := hO.out
      have HS0 := hide (show Num.Small zs from hO.out.2)
      obtain ⟨k, hke⟩ : ∃ k, k = max xs.length ys.length := ⟨_, rfl⟩
      have h1 : ¬ (k : Int) < (xs.length : Int) := by omega
      have h2 : ¬ (k : Int) < (ys.length : Int) := by omega
      have hk2 : k ≤ 1048576 := by omega
      have hk3 : k ≤ xs.length + ys.length := by omega
      have HKX : Hid (xs.length ≤ k ∧ ys.length ≤ k) := hide ⟨by omega, by omega⟩
      rw [← hke] at hown hS hO hlt hk ⊢
      clear hke
      go_wp2_with (at_builtin; refine wpList_append_own _ rfl _ _ 24 rfl w.heap.size 56 i0 (.int .u32 0) 1 4 Try.underlying24 hi hz0 hz1 hz2 rfl (by decide) _ _ _ rfl (hown.1.alloc _) ⟨wr.heap.size, 0, none⟩ 1 1 [_] rfl rfl (cell_one_new _ _ _) (by simp [Value.oneCell']) (by unfold maxLen; omega) (by omega) (by simp only [World.size_alloc]; omega) ?_; intro v' w1 hown' hgrow' _; obtain ⟨a', c', rfl⟩ := row_val hown'; have hg2 := (show (wr.alloc _).grownBy w1 (Value.slice ao k co).ownBlock from hgrow'); clear hgrow')
      go_ret
      exact ⟨a', k + 1, c', rfl, zs ++ [c], own_snoc HS0.out (by omega) (by omega) hown', by omega, plus_val hS.out HKX.out.1 HKX.out.2, (bl_alloc hBl.out _).grown hg2 (by simp only [World.size_alloc]; omega) (fun j e => (hO.out.1.lt j e).1)⟩

set_option maxHeartbeats 4000000 in
set_option maxRecDepth 20000 in
theorem lessS (a b : Option Addr) (n m ca cb : Nat) (xs ys : List Nat) (w : World) (ha : Seg w a n ca xs) (hb : Seg w b m cb ys) (hn : n ≤ 1048576) (hm : m ≤ 1048576) (hle : Num.nat ys ≤ Num.nat xs) (hml : m ≤ n) :
    Calls Try.prog 56 #[.slice a n ca, .slice b m cb] w fun e w' => ∃ ao k co zs, e = .returned (.slice ao k co) ∧ Own w' w.heap.size ao k co zs ∧ k ≤ n + m + 1 ∧ Num.nat zs = Num.nat xs - Num.nat ys ∧ Below w.heap.size w w' := by
  obtain ⟨i0, hi, hz0, hz1, hz2⟩ := info_parts Try.info56
  obtain rfl := ha.1
  obtain rfl := hb.1
  have HA := hide ha
  have HB := hide hb
  clear ha hb
  go_enter Try.func56, Try.ntmps56
  go_wp2
  go_loopw [5, 6, 7, 8] (fun o cv i _ wr => ∃ (k c : Nat) (ao : Option Addr) (co : Nat) (zs : List Nat), k ≤ xs.length ∧ i = .int .i64 k ∧ cv = .int .u64 (1 - (c : Int)) ∧ c ≤ 1 ∧ o = .slice ao k co ∧ Hid (Sofar true xs ys zs k c) ∧ Hid (Own wr w.heap.size ao k co zs) ∧ Hid (Below w.heap.size w wr)) (fun _ _ i _ _ => xs.length - (intOf i).toNat)
  case atStart =>
    refine ⟨0, 1, some ⟨w.heap.size, 0, none⟩, 0, [], Nat.zero_le _, rfl, rfl, by omega, rfl, hide ⟨rfl, (fun x hx => by cases hx), by omega, by simp [Num.nat]⟩, hide ⟨?_, fun x hx => by cases hx⟩, hide (bl_alloc (bl_refl w) _)⟩
    exact World.ownsRow_lit w #[] 0 (Nat.le_refl _) (by unfold maxLen; omega) rfl
  case round =>
    obtain ⟨k, c, ao, co, zs, hk, rfl, rfl, hc, rfl, hS, hO, hBl⟩ := hrel
    have HA' := hide (HA.out.below hBl.out)
    have HB' := hide (HB.out.below hBl.out)
    have hbs := hBl.out.size
    by_cases hlt : k < xs.length
    · have hcond : (k : Int) < (xs.length : Int) := by omega
      have hx := getD_lt HA.out.2.2.2.1 k
      have hy := getD_lt HB.out.2.2.2.1 k
      obtain ⟨x, hxe⟩ : ∃ x, xs.getD k 0 = x := ⟨_, rfl⟩
      obtain ⟨y, hye⟩ : ∃ y, ys.getD k 0 = y := ⟨_, rfl⟩
      have HXE := hide hxe
      have HYE := hide hye
      rw [hxe] at hx
      rw [hye] at hy
      clear hxe hye
      have e32 := and32 ((x : Int) + 4294967296 - y - (1 - (c : Int))) (by omega) (by omega)
      have hown := hO.out
      have HS0 := hide (show Num.Small zs from hO.out.2)
      go_wp2_with (first
        | (go_at_call_of 81 (Value.slice a xs.length ca); refine (limbS a _ ca xs k _ HA'.out).mono ?_; rintro e w3 ⟨rfl, hw3⟩; subst w3; rw [HXE.out])
        | (go_at_call_of 81 (Value.slice b ys.length cb); refine (limbS b _ cb ys k _ HB'.out).mono ?_; rintro e w3 ⟨rfl, hw3⟩; subst w3; rw [HYE.out])
        | (at_builtin; refine wpList_append_own _ rfl _ _ 24 rfl w.heap.size 56 i0 (.int .u32 0) 1 4 Try.underlying24 hi hz0 hz1 hz2 rfl (by decide) _ _ _ rfl (hown.1.alloc _) ⟨wr.heap.size, 0, none⟩ 1 1 [_] rfl rfl (cell_one_new _ _ _) (by simp [Value.oneCell']) (by unfold maxLen; omega) (by omega) (by simp only [World.size_alloc]; omega) ?_; intro v' w1 hown' hgrow' _; obtain ⟨a', c', rfl⟩ := row_val hown'; have hg2 := (show (wr.alloc _).grownBy w1 (Value.slice ao k co).ownBlock from hgrow'); clear hgrow'))
      refine ⟨⟨k + 1, (x + 4294967295 - y + c) / 4294967296, a', c', zs ++ [(x + 4294967295 - y + c) % 4294967296], by omega, by go_num, by go_num, by omega, rfl, hide (sofar_step hS.out HXE.out HYE.out hy (by omega) (by omega) (by rw [oth_true]; omega)), hide (own_snoc HS0.out (by omega) (by omega) hown'), hide ((bl_alloc hBl.out _).grown hg2 (by simp only [World.size_alloc]; omega) (fun j e => (hO.out.1.lt j e).1))⟩, by simp [intOf]; omega⟩
    · obtain rfl : k = xs.length := by omega
      go_wp2
      go_ret
      exact ⟨ao, _, co, zs, rfl, hO.out, by omega, less_val hS.out hml hle, hBl.out⟩

end Go.Proofs.Ythjapjbiclkhcaa
