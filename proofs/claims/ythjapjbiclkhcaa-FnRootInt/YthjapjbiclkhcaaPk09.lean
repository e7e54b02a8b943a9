/- My texts Trim2, TimesS, in this order. -/
import Derived.Test.YthjapjbiclkhcaaPk02
import Derived.Test.YthjapjbiclkhcaaPk05
import Derived.Test.YthjapjbiclkhcaaPk07
/- The walks of trimLimbs and bigOf once more, with where their answers lie, and of slices.Clone over limbs. -/
namespace Go.Proofs.Ythjapjbiclkhcaa
open Go.RowKit
set_option linter.unusedVariables false

set_option maxHeartbeats 1000000 in
theorem trimI2 (a : Option Addr) (n cap : Nat) (xs : List Nat) (base : Nat) (w : World) (ho : Own w base a n cap xs) :
    Calls Try.prog 89 #[.slice a n cap] w fun e w' => w' = w ∧ ∃ a' c', e = .returned (.slice a' (Num.limbs (Num.nat xs)).length c') ∧ (∀ W, Own W base a n cap xs → Own W base a' (Num.limbs (Num.nat xs)).length c' (Num.limbs (Num.nat xs))) ∧ (a' = none ∨ a' = a) := by
  obtain rfl := ho.len
  have hs := ho.seg
  have hcap := hs.2.1
  have hcm := hs.2.2.1
  have hcell := hs.2.2.2.2
  have HO := hide ho
  have HC := hide hcell
  clear hs ho hcell
  go_enter Try.func89, Try.ntmps89
  go_wp2
  go_loopw [3] (fun i wr => ∃ k : Nat, k ≤ xs.length ∧ i = .int .i64 k ∧ wr = w ∧ Hid (Num.nat (xs.drop k) = 0)) (fun i _ => (intOf i).toNat)
  case atStart => exact ⟨xs.length, Nat.le_refl _, rfl, rfl, hide (by rw [List.drop_eq_nil_of_le (Nat.le_refl _)]; rfl)⟩
  case round =>
    obtain ⟨k, hk, rfl, rfl, hz⟩ := hrel
    by_cases h0 : k = 0
    · subst h0
      have HN : Hid (Num.limbs (Num.nat xs) = []) := hide (by have := hz.out; rw [List.drop_zero] at this; rw [this, Num.limbs_zero])
      go_wp2
      go_ret
      rw [HN.out]
      exact ⟨rfl, none, 0, rfl, fun W _ => Own.nil _ _, .inl rfl⟩
    · obtain ⟨j, rfl⟩ : ∃ j, k = j + 1 := ⟨k - 1, by omega⟩
      have hj : j < xs.length := by omega
      rcases HO.out.cases with ⟨rfl, h0, _, _⟩ | ⟨g, rfl, hg, hgl⟩
      · omega
      have hc := own_cell HO.out j hj
      by_cases hx : xs[j] = 0
      · have HZ : Hid (Num.nat (xs.drop j) = 0) := hide (by rw [Num.nat_drop xs j hj, hz.out, hx])
        rw [hx] at hc
        clear hz
        go_wp2
        exact ⟨⟨j, by omega, by go_num, trivial, HZ⟩, by simp [intOf]⟩
      · have hne : ((xs[j] : Int) != 0) = true := by rw [bne_iff_ne]; omega
        have ht := Num.limbs_of_trim HO.out.2 hk hz.out (fun i hi e => by cases e; exact hx)
        have HL : Hid ((Num.limbs (Num.nat xs)).length = j + 1) := hide (by rw [← ht, List.length_take]; omega)
        have HOX : Hid (∀ W, Own W base (some ⟨g, 0, none⟩) xs.length cap xs → Own W base (some ⟨g, 0, none⟩) (j + 1) cap (Num.limbs (Num.nat xs))) := hide (fun W h => by have := h.cut (j + 1) hk; rw [ht] at this; exact this)
        clear hz ht hx
        generalize xs[j] = x at *
        go_wp2
        go_ret
        rw [HL.out]
        exact ⟨rfl, _, _, rfl, HOX.out, .inr rfl⟩


set_option maxHeartbeats 2000000 in
set_option maxRecDepth 20000 in
theorem bigOfI2 (neg : Bool) (a : Option Addr) (n cap : Nat) (xs : List Nat) (base : Nat) (w : World) (ho : Own w base a n cap xs) :
    Calls Try.prog 67 #[.bool neg, .slice a n cap] w fun e w' => ∃ a' c', e = .returned (.agg #[.bool (sgn (mk neg (Num.nat xs))), .slice a' (lms (mk neg (Num.nat xs))).length c']) ∧ (∀ W, Own W base a n cap xs → Own W base a' (lms (mk neg (Num.nat xs))).length c' (lms (mk neg (Num.nat xs)))) ∧ (a' = none ∨ a' = a) ∧ Below w.heap.size w w' := by
  rw [mk_lms, mk_sgn]
  have HO := hide ho
  have hcm := ho.seg.2.2.1
  have hcap := ho.seg.2.1
  have hll := limbs_len_le ho.2
  rw [ho.len] at hll
  clear ho
  go_enter Try.func67, Try.ntmps67
  go_wp2_with fail
  refine (trimI2 a n cap xs base _ (HO.out.below (bl_alloc (bl_refl w) _))).mono ?_
  rintro e w1 ⟨hw, a', c', rfl, ho', ha'⟩
  subst w1
  have HO' := hide ho'
  have HA' := hide ha'
  have HP : Hid (decide (0 < Num.nat xs) = decide (0 < ((Num.limbs (Num.nat xs)).length : Int))) := hide (by
    by_cases h : Num.nat xs = 0
    · rw [h, Num.limbs_zero]; rfl
    · have : Num.limbs (Num.nat xs) ≠ [] := fun e => h (Num.limbs_eq_nil.1 e)
      have := List.length_pos_iff.2 this
      rw [decide_eq_true (by omega), decide_eq_true (by omega)])
  clear ho' ha'
  cases neg
  · go_wp2
    refine bodyPost_ret (v := .agg #[.bool false, .slice a' (Num.limbs (Num.nat xs)).length c']) (by simp [results, Try.results67, go_sem, *]) rfl ?_
    exact ⟨a', c', rfl, HO'.out, HA'.out, bl_alloc (bl_refl w) _⟩
  · go_wp2
    refine bodyPost_ret (v := .agg #[.bool (decide (0 < ((Num.limbs (Num.nat xs)).length : Int))), .slice a' (Num.limbs (Num.nat xs)).length c']) (by simp [results, Try.results67, go_sem, *]) rfl ?_
    refine ⟨a', c', ?_, HO'.out, HA'.out, bl_alloc (bl_refl w) _⟩
    rw [HP.out]; rfl

set_option maxHeartbeats 2000000 in
set_option maxRecDepth 20000 in
theorem cloneI (a : Option Addr) (n cap : Nat) (xs : List Nat) (w : World) (hs : Seg w a n cap xs) (hn : n ≤ 1048576) :
    Calls Try.prog 77 #[.slice a n cap] w fun e w' => ∃ a' c', e = .returned (.slice a' n c') ∧ Own w' w.heap.size a' n c' xs ∧ Below w.heap.size w w' := by
  obtain ⟨i0, hi, hz0, hz1, hz2⟩ := info_parts Try.info56
  obtain rfl := hs.1
  have hcap := hs.2.1
  have hcm := hs.2.2.1
  cases a with
  | none =>
    have h0 : xs = [] := by
      rcases hs.2.2.2.2 with h | ⟨g, o, h, _⟩
      · exact List.eq_nil_of_length_eq_zero h
      · cases h
    subst h0
    clear hs
    have q24 : ∀ (W : World) (n c n' c' : Nat), (binOp .eql 24 (.slice none n c) (.slice none n' c')).run Try.prog W = .ok (.bool true) W := fun W n c n' c' => Lib.run_eql_slice_nil W _ _ none n c n' c' Try.underlying24
    go_enter Try.func77, Try.ntmps77
    go_wp2
    go_ret
    exact ⟨none, 0, rfl, Own.nil _ _, bl_refl w⟩
  | some x =>
    have hnews : ∀ j u, ((xs.map lim)[j]? = some u) → (w.alloc (Obj.cells #[] 56)).cell? (x.add j) = some u := by
      intro j u hu
      have hj : j < xs.length := by have := (List.getElem?_eq_some_iff.1 hu).1; simpa using this
      have hu' : u = .int .u32 xs[j] := by
        have := (List.getElem?_eq_some_iff.1 hu).2
        simp [lim] at this; exact this.symm
      rcases hs.2.2.2.2 with h | ⟨g, o, h, hg, hc⟩
      · omega
      · cases h
        rw [hu', Addr.add_lit]
        exact ((bl_alloc (bl_refl w) _).cell (p := ⟨g, o + j, none⟩) hg).trans (hc j hj)
    have HNEWS := hide hnews
    have hrow0 : (w.alloc (Obj.cells #[] 56)).ownsRow w.heap.size 56 1 (.slice (some ⟨w.heap.size, 0, none⟩) 0 0) 0 [] := by
      have := World.ownsRow_lit (base := w.heap.size) (e := 56) (size := 1) w #[] 0 (by simp) (by unfold maxLen; omega) rfl
      simpa using this
    have HROW := hide hrow0
    have HS := hide hs.2.2.2.1
    clear hrow0 hnews hs
    have q24 : ∀ (W : World) (n c n' c' : Nat), (binOp .eql 24 (.slice (some x) n c) (.slice none n' c')).run Try.prog W = .ok (.bool false) W := fun W n c n' c' => Lib.run_eql_slice_nil W _ _ (some x) n c n' c' Try.underlying24
    go_enter Try.func77, Try.ntmps77
    go_wp2_with (at_builtin; refine wpList_append_own _ rfl _ _ 24 rfl w.heap.size 56 i0 (.int .u32 0) 1 4 Try.underlying24 hi hz0 hz1 hz2 rfl (by decide) _ 0 [] rfl HROW.out x xs.length cap (xs.map lim) rfl (by simp) HNEWS.out (one_lims _) (by unfold maxLen; omega) (by omega) (by simp) ?_; intro v' w1 hown' hgrow' _; have hgrow := (show (w.alloc (Obj.cells #[] 56)).grownBy w1 (some w.heap.size) from hgrow'); clear hgrow'; obtain ⟨a', c', rfl⟩ := row_val hown'; have HG := hide hgrow; have HO := hide hown'; clear hgrow hown')
    go_ret

    refine ⟨a', c', rfl, ⟨by have := HO.out; rw [Nat.zero_add, List.nil_append] at this; exact this, HS.out⟩, ?_⟩
    exact (bl_alloc (bl_refl w) _).grown HG.out (by simp only [World.size_alloc]; omega) (fun k e => by cases e; exact Nat.le_refl _)
end Go.Proofs.Ythjapjbiclkhcaa

/- The walk of l02Times: the product of two lists of limbs, in new memory. -/
namespace Go.Proofs.Ythjapjbiclkhcaa
open Go.RowKit
set_option linter.unusedVariables false

theorem wrap_i {a : Int} (h0 : -9223372036854775808 ≤ a) (h1 : a ≤ 9223372036854775807) : IntKind.i64.wrap a = a := by rw [IntKind.wrap_i64]; omega
theorem wrap_u {a : Int} (h0 : 0 ≤ a) (h1 : a ≤ 18446744073709551615) : IntKind.u64.wrap a = a := by rw [IntKind.wrap_u64]; omega

set_option maxHeartbeats 8000000 in
set_option maxRecDepth 20000 in
theorem timesS (a b : Option Addr) (n m ca cb : Nat) (xs ys : List Nat) (w : World) (ha : Seg w a n ca xs) (hb : Seg w b m cb ys) (hn : n ≤ 500000) (hm : m ≤ 500000) :
    Calls Try.prog 80 #[.slice a n ca, .slice b m cb] w fun e w' => ∃ zs, e = .returned (.slice (some ⟨w.heap.size, 0, none⟩) (n + m) (n + m)) ∧ Own w' w.heap.size (some ⟨w.heap.size, 0, none⟩) (n + m) (n + m) zs ∧ Num.nat zs = Num.nat xs * Num.nat ys ∧ Below w.heap.size w w' := by
  obtain ⟨i0, hi, hz0, hz1, hz2⟩ := info_parts Try.info56
  obtain rfl := ha.1
  obtain rfl := hb.1
  have hca := ha.2.1
  have hcm := ha.2.2.1
  have hcb := hb.2.1
  have hcbm := hb.2.2.1
  have HA := hide ha
  have HBB := hide hb
  clear ha hb
  go_enter Try.func80, Try.ntmps80
  go_wp2_with (at_make; refine wpList_make_full _ rfl _ _ 24 rfl w.heap.size 56 i0 (.int .u32 0) 1 Try.underlying24 hi hz0 hz1 _ _ _ _ (xs.length + ys.length) rfl rfl (by push_cast; rfl) (by push_cast; rfl) (by rw [hz2]; omega) (by unfold maxLen; omega) (Nat.le_refl _) ?_; intro w3 hown hgrow; have HZ3 := hide ((bl_refl w).grown hgrow (Nat.le_refl _) (by simp)); have B3 := hide (own_made2 hown).blk; have q3 := B3.out.lt; clear hown hgrow)
  go_loopw [6, 7, 8, 9] (fun i _ _ _ wr => ∃ (k : Nat) (Y : List Nat), k ≤ xs.length ∧ i = .int .i64 k ∧ Y.length = xs.length + ys.length ∧ Hid (Blk wr w.heap.size Y) ∧ Hid (Num.nat (Y.drop (k + ys.length)) = 0) ∧ Hid (Num.nat Y = Num.nat (xs.take k) * Num.nat ys) ∧ Hid (Below w.heap.size w wr)) (fun i _ _ _ _ => xs.length - (intOf i).toNat)
  case atStart => exact ⟨0, List.replicate (xs.length + ys.length) 0, Nat.zero_le _, rfl, by simp, B3, hide (by rw [List.drop_replicate]; exact Num.nat_replicate _), hide (by rw [Num.nat_replicate]; simp [Num.nat]), HZ3⟩
  case round =>
    obtain ⟨k, Y, hk, rfl, hYl, hB, h0, hN, hZ⟩ := hrel
    by_cases hlt : k < xs.length
    · have hlt' : (k : Int) < (xs.length : Int) := by omega
      have hsm := Num.small_at HA.out.2.2.2.1 hlt
      have HPS := hide (fun zs c hT => prod_step (c := c) (zs := zs) hlt hYl h0.out hN.out hT)
      have HXK : Hid (∀ W, Below w.heap.size w W → ∃ g o, a = some ⟨g, o, none⟩ ∧ W.cell? ⟨g, o + k, none⟩ = some (.int .u32 xs[k])) := hide (fun W hW => by
        obtain ⟨g, o, ha, _, hc⟩ := seg_cell (HA.out.below hW) k hlt
        exact ⟨g, o, ha, hc⟩)
      generalize xs[k] = f at *
      clear h0 hN
      go_wp2_with fail
      go_loopw [7, 8, 9] (fun cv jv _ wi => ∃ (j c : Nat) (zs : List Nat), j ≤ ys.length ∧ jv = .int .i64 j ∧ cv = .int .u64 c ∧ c < 4294967296 ∧ Hid (TSo f (Y.drop k) ys zs j c) ∧ Hid (Blk wi w.heap.size (Y.take k ++ zs ++ Y.drop (k + j))) ∧ Hid (Below w.heap.size w wi)) (fun _ jv _ _ => ys.length - (intOf jv).toNat)
      case atStart => exact ⟨0, 0, [], Nat.zero_le _, rfl, rfl, by omega, hide ⟨rfl, (fun x hx => by cases hx), by omega, by simp [Num.nat]⟩, hide (by have := hB.out; simpa using this), hZ⟩
      case round =>
        obtain ⟨j, c, zs, hj, rfl, rfl, hc, hS, hbk, hZi⟩ := hrel
        have hzl := hS.out.1
        have hfz := hbk.out.frozen (k + j)
        have hls : Y[k + j]'(by omega) < 4294967296 := Num.small_at hB.out.2 (by omega)
        have hcl := hbk.out.cell (k + j) (by rw [mid_len hzl (by omega)]; omega)
        rw [mid_at hzl (by omega)] at hcl
        have HLD : Hid ((Y.drop k).getD j 0 = Y[k + j]'(by omega)) := hide (drop_getD (by omega))
        have HST := hide (fun x hx => hbk.out.set (k + j) x hx)
        have HMS := hide (fun x => mid_set (x := x) hzl (show k + j < Y.length by omega))
        generalize Y[k + j]'_ = l at *
        have hw1 := wrap_i (a := (k : Int) + (j : Int)) (by omega) (by omega)
        have hidx : (k : Int) + (j : Int) < (xs.length : Int) + (ys.length : Int) := by omega
        by_cases hjt : j < ys.length
        · have hjt' : (j : Int) < (ys.length : Int) := by omega
          obtain ⟨ga, oa, rfl, hca2⟩ := HXK.out _ hZi.out
          obtain ⟨gb, ob, rfl, hgb, hcb2⟩ := seg_cell (HBB.out.below hZi.out) j hjt
          have hps := Num.small_at HBB.out.2.2.2.1 hjt
          have HPD : Hid (ys.getD j 0 = ys[j]) := hide (by simp [hjt])
          generalize ys[j] = p at *
          have hMb := prod_le hsm hps
          have hM0 : (f : Int) * (p : Int) = ((f * p : Nat) : Int) := (Int.natCast_mul f p).symm
          have HTS := hide (fun hb => tso_step (t := f * p + l + c) hS.out HLD.out HPD.out rfl hb)
          clear hS
          generalize f * p = M at *
          have hw2 := wrap_u (a := (M : Int)) (by omega) (by omega)
          have hw3 := wrap_u (a := (M : Int) + (l : Int)) (by omega) (by omega)
          have hw4 := wrap_u (a := (M : Int) + (l : Int) + (c : Int)) (by omega) (by omega)
          have e32 := and32 ((M : Int) + (l : Int) + (c : Int)) (by omega) (by omega)
          go_wp2_with fail
          go_quiet (fail)
          go_wp2
          refine ⟨⟨j + 1, (M + l + c) / 4294967296, zs ++ [(M + l + c) % 4294967296], by omega, by go_num, by go_num, by omega, hide (HTS.out (by omega)), ?_⟩, by simp [intOf]; omega⟩
          have hs := (hbk.out.below (below_drewN (bl_refl wr) nq)).set (k + j) ((M + l + c) % 4294967296) (by omega)
          rw [HMS.out] at hs
          have ev : ((M : Int) + (l : Int) + (c : Int)) % 4294967296 = (((M + l + c) % 4294967296 : Nat) : Int) := by omega
          rw [ev]
          exact ⟨hide hs.1, hide ((below_drewN hZi.out nq).setCell (p := ⟨w.heap.size, k + j, none⟩) (Nat.le_refl _) _)⟩
        · obtain rfl : j = ys.length := by omega
          have HN5 := hide (HPS.out zs c hS.out)
          have hs := HST.out c hc
          rw [HMS.out] at hs
          have HS5 := hide hs.1
          clear hs
          go_wp2
          refine ⟨⟨k + 1, _, by omega, by go_num, HN5.out.1, HS5, hide HN5.out.2.1, hide HN5.out.2.2, hide (hZi.out.setCell (p := ⟨w.heap.size, k + ys.length, none⟩) (Nat.le_refl _) _)⟩, by simp [intOf]; omega⟩
    · obtain rfl : k = xs.length := by omega
      have HO := hide (hB.out.own (base := w.heap.size) (Nat.le_refl _) (by omega))
      rw [hYl] at HO
      go_wp2
      go_ret
      refine ⟨Y, rfl, HO.out, ?_, hZ.out⟩
      rw [hN.out, List.take_of_length_le (Nat.le_refl _)]
end Go.Proofs.Ythjapjbiclkhcaa
