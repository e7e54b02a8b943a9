/- My texts LawBase, Trim2, in this order. -/
import Derived.Test.YtpmgpdlminacaaaGreatDoorPk09
import Derived.Deep.RegionHeld3
import Derived.Deep.DeepCutAuto
import Derived.Test.YtpmgpdlminacaaaGreatDoorPk03
/- What the walks of laws on two numbers share: what a call in a region that draws its order leaves behind. -/
namespace Go.Proofs.YtpmgpdlminacaaaGreatDoor
open Go.RowKit
set_option linter.unusedVariables false

theorem Seg.le {W : World} {a : Option Addr} {n cap : Nat} {xs : List Nat} (h : Seg W a n cap xs) : n ≤ 9223372036854775807 := Nat.le_trans h.2.1 h.2.2.1
theorem keep4 {W0 w' : World} {N1 N2 : Nat} {c0 c1 c2 c3 : Value} (k0 : W0.cell? ⟨N1, 0, none⟩ = some c0) (k1 : W0.cell? ⟨N1, 1, none⟩ = some c1) (k2 : W0.cell? ⟨N2, 0, none⟩ = some c2) (k3 : W0.cell? ⟨N2, 1, none⟩ = some c3) (z1 : N1 < W0.heap.size) (z2 : N2 < W0.heap.size) (hb : Below W0.heap.size W0 w') :
    w'.cell? ⟨N1, 0, none⟩ = some c0 ∧ w'.cell? ⟨N1, 1, none⟩ = some c1 ∧ w'.cell? ⟨N2, 0, none⟩ = some c2 ∧ w'.cell? ⟨N2, 1, none⟩ = some c3 ∧ Hid (Below W0.heap.size W0 w') :=
  ⟨(hb.cell (p := ⟨N1, 0, none⟩) z1).trans k0, (hb.cell (p := ⟨N1, 1, none⟩) z1).trans k1, (hb.cell (p := ⟨N2, 0, none⟩) z2).trans k2, (hb.cell (p := ⟨N2, 1, none⟩) z2).trans k3, hb⟩
/-- a number in a box of its own, made behind the world W0 -/
def Res (W0 : World) (N : Nat) (a : Option Addr) (c : Nat) (z : Int) (wc : World) : Prop :=
  W0.heap.size ≤ N ∧ N < wc.heap.size ∧ wc.cell? ⟨N, 0, none⟩ = some (.bool (sgn z)) ∧ wc.cell? ⟨N, 1, none⟩ = some (.slice a (lms z).length c) ∧ Own wc W0.heap.size a (lms z).length c (lms z) ∧ Below W0.heap.size W0 wc
/-- the box was made ahead of the call -/
theorem res_ahead {W0 W1 wX : World} {N : Nat} {v : Value} {z : Int} {a : Option Addr} {c : Nat} (hv : v = .agg #[.bool (sgn z), .slice a (lms z).length c]) (ho : Own wX W1.heap.size a (lms z).length c (lms z)) (hN : W0.heap.size ≤ N) (hN1 : N < W1.heap.size) (h01 : Below W0.heap.size W0 wX) (h1 : W1.heap.size ≤ wX.heap.size)
    (k0 : ∃ u, wX.cell? ⟨N, 0, none⟩ = some u) (k1 : ∃ u, wX.cell? ⟨N, 1, none⟩ = some u) (w01 : W0.heap.size ≤ W1.heap.size) :
    Res W0 N a c z ((wX.setCell ⟨N, 0, none⟩ (.bool (sgn z))).setCell ⟨N, 1, none⟩ (.slice a (lms z).length c)) := by
  obtain ⟨u0, k0⟩ := k0
  obtain ⟨u1, k1⟩ := k1
  refine ⟨hN, by simp; omega, by go_simp, by go_simp, ?_, (h01.setCell (p := ⟨N, 0, none⟩) hN _).setCell (p := ⟨N, 1, none⟩) hN _⟩
  exact ((ho.setCell (p := ⟨N, 0, none⟩) hN1 _).setCell (p := ⟨N, 1, none⟩) hN1 _).mono w01
/-- the box was made behind it -/
theorem res_behind {W0 W1 wX : World} {z : Int} {a : Option Addr} {c : Nat} (ho : Own wX W1.heap.size a (lms z).length c (lms z)) (h01 : Below W0.heap.size W0 wX) (w01 : W0.heap.size ≤ W1.heap.size) :
    Res W0 wX.heap.size a c z (wX.alloc (.cells #[.bool (sgn z), .slice a (lms z).length c] 24)) :=
  ⟨h01.size, by simp only [World.size_alloc]; omega, by go_simp, by go_simp, (ho.below (bl_alloc (bl_refl wX) _)).mono w01, bl_alloc h01 _⟩
theorem opZ_len (f : Int → Int → Int) (n1 : Bool) (xs : List Nat) (n2 : Bool) (ys : List Nat) : (lms (opZ f n1 xs n2 ys)).length ≤ 40 := by
  unfold opZ
  by_cases h : opT f n1 xs n2 ys = true
  · rw [if_pos h]
    unfold opT at h
    simp only [Bool.and_eq_true] at h
    exact Num.limbs_len.2 (of_decide_eq_true h.2)
  · rw [if_neg h, zero_lms]; exact Nat.zero_le _
theorem Seg.grownLow {W0 W W' : World} {a : Option Addr} {n cap : Nat} {xs : List Nat} {r : Option Nat} (h : Seg W a n cap xs) (h0 : Seg W0 a n cap xs) (hg : W.grownBy W' r) (hr : ∀ k, r = some k → W0.heap.size ≤ k) : Seg W' a n cap xs := by
  obtain ⟨h1, h2, h3, h4, h5⟩ := h
  refine ⟨h1, h2, h3, h4, ?_⟩
  rcases h5 with h5 | ⟨g, o, ha, hgl, hc⟩
  · exact .inl h5
  · rcases h0.2.2.2.2 with h6 | ⟨g', o', ha', hg', _⟩
    · exact .inl h6
    · rw [ha] at ha'
      cases ha'
      exact .inr ⟨g, o, ha, Nat.lt_of_lt_of_le hgl hg.size, fun j hj => hg.cell (hc j hj) (fun e => by have := hr g e.symm; omega)⟩
end Go.Proofs.YtpmgpdlminacaaaGreatDoor

/- The walks of trimLimbs and bigOf once more, with where their answers lie, and of slices.Clone over limbs. -/
namespace Go.Proofs.YtpmgpdlminacaaaGreatDoor
open Go.RowKit
set_option linter.unusedVariables false

set_option maxHeartbeats 1000000 in
theorem trimI2 (a : Option Addr) (n cap : Nat) (xs : List Nat) (base : Nat) (w : World) (ho : Own w base a n cap xs) :
    Calls Tryz.prog 105 #[.slice a n cap] w fun e w' => w' = w ∧ ∃ a' c', e = .returned (.slice a' (Num.limbs (Num.nat xs)).length c') ∧ (∀ W, Own W base a n cap xs → Own W base a' (Num.limbs (Num.nat xs)).length c' (Num.limbs (Num.nat xs))) ∧ (a' = none ∨ a' = a) := by
  obtain rfl := ho.len
  have hs := ho.seg
  have hcap := hs.2.1
  have hcm := hs.2.2.1
  have hcell := hs.2.2.2.2
  have HO := hide ho
  have HC := hide hcell
  clear hs ho hcell
  go_enter Tryz.func105, Tryz.ntmps105
  go_wp2
  go_loopw [3] (fun i wr => ∃ k : Nat, k ≤ xs.length ∧ i = .int .i64 k ∧ wr = w ∧ Hid (Num.nat (xs.drop k) = 0)) (fun i _ => (intOf i).toNat)
  case atStart => exact ⟨xs.length, Nat.le_refl _, rfl, rfl, hide (by rw [List.drop_eq_nil_of_le (Nat.le_refl _)]; rfl)⟩
  case round =>
    obtain ⟨k, hk, rfl, rfl, hz⟩ := hrel
    by_cases h0 : k = 0
    · subst h0
      have HN : Hid (Num.limbs (Num.nat xs) = []) := hide (by have := hz.out; rw [List.drop_zero] at this; rw [this, Num.limbs_zero])
      go_wp2
      go_ret
      rw [HN.out]
      exact ⟨rfl, none, 0, rfl, fun W _ => Own.nil _ _, .inl rfl⟩
    · obtain ⟨j, rfl⟩ : ∃ j, k = j + 1 := ⟨k - 1, by omega⟩
      have hj : j < xs.length := by omega
      rcases HO.out.cases with ⟨rfl, h0, _, _⟩ | ⟨g, rfl, hg, hgl⟩
      · omega
      have hc := own_cell HO.out j hj
      by_cases hx : xs[j] = 0
      · have HZ : Hid (Num.nat (xs.drop j) = 0) := hide (by rw [Num.nat_drop xs j hj, hz.out, hx])
        rw [hx] at hc
        clear hz
        go_wp2
        exact ⟨⟨j, by omega, by go_num, trivial, HZ⟩, by simp [intOf]⟩
      · have hne : ((xs[j] : Int) != 0) = true := by rw [bne_iff_ne]; omega
        have ht := Num.limbs_of_trim HO.out.2 hk hz.out (fun i hi e => by cases e; exact hx)
        have HL : Hid ((Num.limbs (Num.nat xs)).length = j + 1) := hide (by rw [← ht, List.length_take]; omega)
        have HOX : Hid (∀ W, Own W base (some ⟨g, 0, none⟩) xs.length cap xs → Own W base (some ⟨g, 0, none⟩) (j + 1) cap (Num.limbs (Num.nat xs))) := hide (fun W h => by have := h.cut (j + 1) hk; rw [ht] at this; exact this)
        clear hz ht hx
        generalize xs[j] = x at *
        go_wp2
        go_ret
        rw [HL.out]
        exact ⟨rfl, _, _, rfl, HOX.out, .inr rfl⟩


set_option maxHeartbeats 2000000 in
set_option maxRecDepth 20000 in
theorem bigOfI2 (neg : Bool) (a : Option Addr) (n cap : Nat) (xs : List Nat) (base : Nat) (w : World) (ho : Own w base a n cap xs) :
    Calls Tryz.prog 64 #[.bool neg, .slice a n cap] w fun e w' => ∃ a' c', e = .returned (.agg #[.bool (sgn (mk neg (Num.nat xs))), .slice a' (lms (mk neg (Num.nat xs))).length c']) ∧ (∀ W, Own W base a n cap xs → Own W base a' (lms (mk neg (Num.nat xs))).length c' (lms (mk neg (Num.nat xs)))) ∧ (a' = none ∨ a' = a) ∧ Below w.heap.size w w' := by
  rw [mk_lms, mk_sgn]
  have HO := hide ho
  have hcm := ho.seg.2.2.1
  have hcap := ho.seg.2.1
  have hll := limbs_len_le ho.2
  rw [ho.len] at hll
  clear ho
  go_enter Tryz.func64, Tryz.ntmps64
  go_wp2_with fail
  refine (trimI2 a n cap xs base _ (HO.out.below (bl_alloc (bl_refl w) _))).mono ?_
  rintro e w1 ⟨hw, a', c', rfl, ho', ha'⟩
  subst w1
  have HO' := hide ho'
  have HA' := hide ha'
  have HP : Hid (decide (0 < Num.nat xs) = decide (0 < ((Num.limbs (Num.nat xs)).length : Int))) := hide (by
    by_cases h : Num.nat xs = 0
    · rw [h, Num.limbs_zero]; rfl
    · have : Num.limbs (Num.nat xs) ≠ [] := fun e => h (Num.limbs_eq_nil.1 e)
      have := List.length_pos_iff.2 this
      rw [decide_eq_true (by omega), decide_eq_true (by omega)])
  clear ho' ha'
  cases neg
  · go_wp2
    refine bodyPost_ret (v := .agg #[.bool false, .slice a' (Num.limbs (Num.nat xs)).length c']) (by simp [results, Tryz.results64, go_sem, *]) rfl ?_
    exact ⟨a', c', rfl, HO'.out, HA'.out, bl_alloc (bl_refl w) _⟩
  · go_wp2
    refine bodyPost_ret (v := .agg #[.bool (decide (0 < ((Num.limbs (Num.nat xs)).length : Int))), .slice a' (Num.limbs (Num.nat xs)).length c']) (by simp [results, Tryz.results64, go_sem, *]) rfl ?_
    refine ⟨a', c', ?_, HO'.out, HA'.out, bl_alloc (bl_refl w) _⟩
    rw [HP.out]; rfl

set_option maxHeartbeats 2000000 in
set_option maxRecDepth 20000 in
theorem cloneI (a : Option Addr) (n cap : Nat) (xs : List Nat) (w : World) (hs : Seg w a n cap xs) (hn : n ≤ 1048576) :
    Calls Tryz.prog 149 #[.slice a n cap] w fun e w' => ∃ a' c', e = .returned (.slice a' n c') ∧ Own w' w.heap.size a' n c' xs ∧ Below w.heap.size w w' := by
  obtain ⟨i0, hi, hz0, hz1, hz2⟩ := info_parts Tryz.info67
  obtain rfl := hs.1
  have hcap := hs.2.1
  have hcm := hs.2.2.1
  cases a with
  | none =>
    have h0 : xs = [] := by
      rcases hs.2.2.2.2 with h | ⟨g, o, h, _⟩
      · exact List.eq_nil_of_length_eq_zero h
      · cases h
    subst h0
    clear hs
    have q24 : ∀ (W : World) (n c n' c' : Nat), (binOp .eql 22 (.slice none n c) (.slice none n' c')).run Tryz.prog W = .ok (.bool true) W := fun W n c n' c' => Lib.run_eql_slice_nil W _ _ none n c n' c' Tryz.underlying22
    go_enter Tryz.func149, Tryz.ntmps149
    go_wp2
    go_ret
    exact ⟨none, 0, rfl, Own.nil _ _, bl_refl w⟩
  | some x =>
    have hnews : ∀ j u, ((xs.map lim)[j]? = some u) → (w.alloc (Obj.cells #[] 67)).cell? (x.add j) = some u := by
      intro j u hu
      have hj : j < xs.length := by have := (List.getElem?_eq_some_iff.1 hu).1; simpa using this
      have hu' : u = .int .u32 xs[j] := by
        have := (List.getElem?_eq_some_iff.1 hu).2
        simp [lim] at this; exact this.symm
      rcases hs.2.2.2.2 with h | ⟨g, o, h, hg, hc⟩
      · omega
      · cases h
        rw [hu', Addr.add_lit]
        exact ((bl_alloc (bl_refl w) _).cell (p := ⟨g, o + j, none⟩) hg).trans (hc j hj)
    have HNEWS := hide hnews
    have hrow0 : (w.alloc (Obj.cells #[] 67)).ownsRow w.heap.size 67 1 (.slice (some ⟨w.heap.size, 0, none⟩) 0 0) 0 [] := by
      have := World.ownsRow_lit (base := w.heap.size) (e := 67) (size := 1) w #[] 0 (by simp) (by unfold maxLen; omega) rfl
      simpa using this
    have HROW := hide hrow0
    have HS := hide hs.2.2.2.1
    clear hrow0 hnews hs
    have q24 : ∀ (W : World) (n c n' c' : Nat), (binOp .eql 22 (.slice (some x) n c) (.slice none n' c')).run Tryz.prog W = .ok (.bool false) W := fun W n c n' c' => Lib.run_eql_slice_nil W _ _ (some x) n c n' c' Tryz.underlying22
    go_enter Tryz.func149, Tryz.ntmps149
    go_wp2_with (at_builtin; refine wpList_append_own _ rfl _ _ 22 rfl w.heap.size 67 i0 (.int .u32 0) 1 4 Tryz.underlying22 hi hz0 hz1 hz2 rfl (by decide) _ 0 [] rfl HROW.out x xs.length cap (xs.map lim) rfl (by simp) HNEWS.out (one_lims _) (by unfold maxLen; omega) (by omega) (by simp) ?_; intro v' w1 hown' hgrow' _; have hgrow := (show (w.alloc (Obj.cells #[] 67)).grownBy w1 (some w.heap.size) from hgrow'); clear hgrow'; obtain ⟨a', c', rfl⟩ := row_val hown'; have HG := hide hgrow; have HO := hide hown'; clear hgrow hown')
    go_ret

    refine ⟨a', c', rfl, ⟨by have := HO.out; rw [Nat.zero_add, List.nil_append] at this; exact this, HS.out⟩, ?_⟩
    exact (bl_alloc (bl_refl w) _).grown HG.out (by simp only [World.size_alloc]; omega) (fun k e => by cases e; exact Nat.le_refl _)
end Go.Proofs.YtpmgpdlminacaaaGreatDoor
