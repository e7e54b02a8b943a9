/- The walks of trimLimbs and bigOf once more, with where their answers lie, and of slices.Clone over limbs. -/
import Derived.Test.YteljkjpcjjiidaaMake
namespace Go.Proofs.Yteljkjpcjjiidaa
open Go.RowKit
set_option linter.unusedVariables false

set_option maxHeartbeats 1000000 in
theorem trimI2 (a : Option Addr) (n cap : Nat) (xs : List Nat) (base : Nat) (w : World) (ho : Own w base a n cap xs) :
    Calls Try.prog 94 #[.slice a n cap] w fun e w' => w' = w ∧ ∃ a' c', e = .returned (.slice a' (Num.limbs (Num.nat xs)).length c') ∧ (∀ W, Own W base a n cap xs → Own W base a' (Num.limbs (Num.nat xs)).length c' (Num.limbs (Num.nat xs))) ∧ (a' = none ∨ a' = a) := by
  obtain rfl := ho.len
  have hs := ho.seg
  have hcap := hs.2.1
  have hcm := hs.2.2.1
  have hcell := hs.2.2.2.2
  have HO := hide ho
  have HC := hide hcell
  clear hs ho hcell
  go_enter Try.func94, Try.ntmps94
  go_wp2
  go_loopw [3] (fun i wr => ∃ k : Nat, k ≤ xs.length ∧ i = .int .i64 k ∧ wr = w ∧ Hid (Num.nat (xs.drop k) = 0)) (fun i _ => (intOf i).toNat)
  case atStart => exact ⟨xs.length, Nat.le_refl _, rfl, rfl, hide (by rw [List.drop_eq_nil_of_le (Nat.le_refl _)]; rfl)⟩
  case round =>
    obtain ⟨k, hk, rfl, rfl, hz⟩ := hrel
    by_cases h0 : k = 0
    · subst h0
      have HN : Hid (Num.limbs (Num.nat xs) = []) := hide (by have := hz.out; rw [List.drop_zero] at this; rw [this, Num.limbs_zero])
      go_wp2
      go_ret
      rw [HN.out]
      exact ⟨rfl, none, 0, rfl, fun W _ => Own.nil _ _, .inl rfl⟩
    · obtain ⟨j, rfl⟩ : ∃ j, k = j + 1 := ⟨k - 1, by omega⟩
      have hj : j < xs.length := by omega
      rcases HO.out.cases with ⟨rfl, h0, _, _⟩ | ⟨g, rfl, hg, hgl⟩
      · omega
      have hc := own_cell HO.out j hj
      by_cases hx : xs[j] = 0
      · have HZ : Hid (Num.nat (xs.drop j) = 0) := hide (by rw [Num.nat_drop xs j hj, hz.out, hx])
        rw [hx] at hc
        clear hz
        go_wp2
        exact ⟨⟨j, by omega, by go_num, trivial, HZ⟩, by simp [intOf]⟩
      · have hne : ((xs[j] : Int) != 0) = true := by rw [bne_iff_ne]; omega
        have ht := Num.limbs_of_trim HO.out.2 hk hz.out (fun i hi e => by cases e; exact hx)
        have HL : Hid ((Num.limbs (Num.nat xs)).length = j + 1) := hide (by rw [← ht, List.length_take]; omega)
        have HOX : Hid (∀ W, Own W base (some ⟨g, 0, none⟩) xs.length cap xs → Own W base (some ⟨g, 0, none⟩) (j + 1) cap (Num.limbs (Num.nat xs))) := hide (fun W h => by have := h.cut (j + 1) hk; rw [ht] at this; exact this)
        clear hz ht hx
        generalize xs[j] = x at *
        go_wp2
        go_ret
        rw [HL.out]
        exact ⟨rfl, _, _, rfl, HOX.out, .inr rfl⟩


set_option maxHeartbeats 2000000 in
set_option maxRecDepth 20000 in
theorem bigOfI2 (neg : Bool) (a : Option Addr) (n cap : Nat) (xs : List Nat) (base : Nat) (w : World) (ho : Own w base a n cap xs) :
    Calls Try.prog 76 #[.bool neg, .slice a n cap] w fun e w' => ∃ a' c', e = .returned (.agg #[.bool (sgn (mk neg (Num.nat xs))), .slice a' (lms (mk neg (Num.nat xs))).length c']) ∧ (∀ W, Own W base a n cap xs → Own W base a' (lms (mk neg (Num.nat xs))).length c' (lms (mk neg (Num.nat xs)))) ∧ (a' = none ∨ a' = a) ∧ Below w.heap.size w w' := by
  rw [mk_lms, mk_sgn]
  have HO := hide ho
  have hcm := ho.seg.2.2.1
  have hcap := ho.seg.2.1
  have hll := limbs_len_le ho.2
  rw [ho.len] at hll
  clear ho
  go_enter Try.func76, Try.ntmps76
  go_wp2_with fail
  refine (trimI2 a n cap xs base _ (HO.out.below (bl_alloc (bl_refl w) _))).mono ?_
  rintro e w1 ⟨hw, a', c', rfl, ho', ha'⟩
  subst w1
  have HO' := hide ho'
  have HA' := hide ha'
  have HP : Hid (decide (0 < Num.nat xs) = decide (0 < ((Num.limbs (Num.nat xs)).length : Int))) := hide (by
    by_cases h : Num.nat xs = 0
    · rw [h, Num.limbs_zero]; rfl
    · have : Num.limbs (Num.nat xs) ≠ [] := fun e => h (Num.limbs_eq_nil.1 e)
      have := List.length_pos_iff.2 this
      rw [decide_eq_true (by omega), decide_eq_true (by omega)])
  clear ho' ha'
  cases neg
  · go_wp2
    refine bodyPost_ret (v := .agg #[.bool false, .slice a' (Num.limbs (Num.nat xs)).length c']) (by simp [results, Try.results76, go_sem, *]) rfl ?_
    exact ⟨a', c', rfl, HO'.out, HA'.out, bl_alloc (bl_refl w) _⟩
  · go_wp2
    refine bodyPost_ret (v := .agg #[.bool (decide (0 < ((Num.limbs (Num.nat xs)).length : Int))), .slice a' (Num.limbs (Num.nat xs)).length c']) (by simp [results, Try.results76, go_sem, *]) rfl ?_
    refine ⟨a', c', ?_, HO'.out, HA'.out, bl_alloc (bl_refl w) _⟩
    rw [HP.out]; rfl

set_option maxHeartbeats 2000000 in
set_option maxRecDepth 20000 in
theorem cloneI (a : Option Addr) (n cap : Nat) (xs : List Nat) (w : World) (hs : Seg w a n cap xs) (hn : n ≤ 1048576) :
    Calls Try.prog 95 #[.slice a n cap] w fun e w' => ∃ a' c', e = .returned (.slice a' n c') ∧ Own w' w.heap.size a' n c' xs ∧ Below w.heap.size w w' := by
  obtain ⟨i0, hi, hz0, hz1, hz2⟩ := info_parts Try.info92
  obtain rfl := hs.1
  have hcap := hs.2.1
  have hcm := hs.2.2.1
  cases a with
  | none =>
    have h0 : xs = [] := by
      rcases hs.2.2.2.2 with h | ⟨g, o, h, _⟩
      · exact List.eq_nil_of_length_eq_zero h
      · cases h
    subst h0
    clear hs
    have q24 : ∀ (W : World) (n c n' c' : Nat), (binOp .eql 52 (.slice none n c) (.slice none n' c')).run Try.prog W = .ok (.bool true) W := fun W n c n' c' => Lib.run_eql_slice_nil W _ _ none n c n' c' Try.underlying52
    go_enter Try.func95, Try.ntmps95
    go_wp2
    go_ret
    exact ⟨none, 0, rfl, Own.nil _ _, bl_refl w⟩
  | some x =>
    have hnews : ∀ j u, ((xs.map lim)[j]? = some u) → (w.alloc (Obj.cells #[] 92)).cell? (x.add j) = some u := by
      intro j u hu
      have hj : j < xs.length := by have := (List.getElem?_eq_some_iff.1 hu).1; simpa using this
      have hu' : u = .int .u32 xs[j] := by
        have := (List.getElem?_eq_some_iff.1 hu).2
        simp [lim] at this; exact this.symm
      rcases hs.2.2.2.2 with h | ⟨g, o, h, hg, hc⟩
      · omega
      · cases h
        rw [hu', Addr.add_lit]
        exact ((bl_alloc (bl_refl w) _).cell (p := ⟨g, o + j, none⟩) hg).trans (hc j hj)
    have HNEWS := hide hnews
    have hrow0 : (w.alloc (Obj.cells #[] 92)).ownsRow w.heap.size 92 1 (.slice (some ⟨w.heap.size, 0, none⟩) 0 0) 0 [] := by
      have := World.ownsRow_lit (base := w.heap.size) (e := 92) (size := 1) w #[] 0 (by simp) (by unfold maxLen; omega) rfl
      simpa using this
    have HROW := hide hrow0
    have HS := hide hs.2.2.2.1
    clear hrow0 hnews hs
    have q24 : ∀ (W : World) (n c n' c' : Nat), (binOp .eql 52 (.slice (some x) n c) (.slice none n' c')).run Try.prog W = .ok (.bool false) W := fun W n c n' c' => Lib.run_eql_slice_nil W _ _ (some x) n c n' c' Try.underlying52
    go_enter Try.func95, Try.ntmps95
    go_wp2_with (at_builtin; refine wpList_append_own _ rfl _ _ 52 rfl w.heap.size 92 i0 (.int .u32 0) 1 4 Try.underlying52 hi hz0 hz1 hz2 rfl (by decide) _ 0 [] rfl HROW.out x xs.length cap (xs.map lim) rfl (by simp) HNEWS.out (one_lims _) (by unfold maxLen; omega) (by omega) (by simp) ?_; intro v' w1 hown' hgrow' _; have hgrow := (show (w.alloc (Obj.cells #[] 92)).grownBy w1 (some w.heap.size) from hgrow'); clear hgrow'; obtain ⟨a', c', rfl⟩ := row_val hown'; have HG := hide hgrow; have HO := hide hown'; clear hgrow hown')
    go_ret

    refine ⟨a', c', rfl, ⟨by have := HO.out; rw [Nat.zero_add, List.nil_append] at this; exact this, HS.out⟩, ?_⟩
    exact (bl_alloc (bl_refl w) _).grown HG.out (by simp only [World.size_alloc]; omega) (fun k e => by cases e; exact Nat.le_refl _)
end Go.Proofs.Yteljkjpcjjiidaa
