/- My texts DLimb, LawKit, Divide, RatH, GSt, LongS, DivS, Float, SSt, RatL, in this order. -/
import Derived.Test.YtlknhheafmifnaaGreatDoorPk01
import Derived.Test.YtlknhheafmifnaaGreatDoorPk15
import Derived.WalkMore
import Derived.ScopeJumps
import Derived.Test.YtlknhheafmifnaaGreatDoorPk04
import Derived.Test.YtlknhheafmifnaaGreatDoorPk03
/- The walk of divideLimbs: limbs divided by limbs, quotient and rest in memory of their own, apart from one another. -/
namespace Go.Proofs.YtlknhheafmifnaaGreatDoor
open Go.RowKit
set_option linter.unusedVariables false

/-- two lists lie in two blocks -/
def Apart (a b : Option Addr) : Prop := ∀ g o s g' o' s', a = some ⟨g, o, s⟩ → b = some ⟨g', o', s'⟩ → g ≠ g'
theorem Apart.none (b : Option Addr) : Apart none b := fun _ _ _ _ _ _ h => by cases h
theorem Apart.none' (b : Option Addr) : Apart b .none := fun _ _ _ _ _ _ _ h => by cases h
theorem Apart.sub {a b a' b' : Option Addr} (h : Apart a b) (ha : a' = .none ∨ a' = a) (hb : b' = .none ∨ b' = b) : Apart a' b' := by
  rcases ha with rfl | rfl
  · exact Apart.none _
  · rcases hb with rfl | rfl
    · exact Apart.none' _
    · exact h
theorem Apart.blocks {g g' : Nat} (h : g ≠ g') : Apart (some ⟨g, 0, .none⟩) (some ⟨g', 0, .none⟩) := fun _ _ _ _ _ _ h1 h2 => by
  cases h1; cases h2; exact h
theorem Apart.own {a b : Option Addr} (h : Apart a b) (n c n' c' : Nat) : (Value.slice a n c).ownBlock = .none ∨ (Value.slice a n c).ownBlock ≠ (Value.slice b n' c').ownBlock := by
  cases a with
  | none => exact .inl rfl
  | some x =>
    cases b with
    | none => exact .inr (by simp [Value.ownBlock])
    | some y =>
      obtain ⟨g, o, s⟩ := x
      obtain ⟨g', o', s'⟩ := y
      exact .inr (fun e => h _ _ _ _ _ _ rfl rfl (by simpa [Value.ownBlock] using e))
theorem short_val {d r : Nat} {xs qs : List Nat} (h : DSo d xs qs 0 r) : Num.nat qs = Num.nat xs / d ∧ r = Num.nat xs % d := by
  obtain ⟨_, _, h3, h4⟩ := h
  rw [List.drop_zero, List.drop_zero] at h4
  have hd : 0 < d := by omega
  rw [h4, Nat.mul_comm]
  refine ⟨?_, ?_⟩
  · rw [Nat.mul_add_div hd, Nat.div_eq_of_lt h3, Nat.add_zero]
  · rw [Nat.mul_add_mod, Nat.mod_eq_of_lt h3]
theorem limbs_one {B t : Nat} (hl : (Num.limbs B).length = 1) (ht : (Num.limbs B)[0]? = some t) : B = t ∧ 0 < t ∧ t < 4294967296 := by
  have hs := Num.limbs_small B
  have hn := Num.nat_limbs B
  have ht0 := Num.limbs_tidy B
  revert ht hs hn ht0
  match h : Num.limbs B, hl with
  | [x], _ =>
    intro ht hs hn ht0
    simp at ht
    subst ht
    have := hs x (by simp)
    have h0 := ht0 (by simp)
    simp at h0
    simp [Num.nat] at hn
    exact ⟨hn.symm, by omega, this⟩

set_option maxHeartbeats 4000000 in
set_option maxRecDepth 20000 in
theorem dlimbsI (a b : Option Addr) (n m ca cb A B : Nat) (w : World) (ha : Seg w a n ca (Num.limbs A)) (hb : Seg w b m cb (Num.limbs B)) (hB : B ≠ 0) (hn : n ≤ 400000) (hm : m ≤ 400000) :
    Calls Tryz.prog 81 #[.slice a n ca, .slice b m cb] w fun e w' => ∃ a1 c1 a2 c2, e = .returned (.tuple #[.slice a1 (Num.limbs (A / B)).length c1, .slice a2 (Num.limbs (A % B)).length c2]) ∧ Own w' w.heap.size a1 (Num.limbs (A / B)).length c1 (Num.limbs (A / B)) ∧ Own w' w.heap.size a2 (Num.limbs (A % B)).length c2 (Num.limbs (A % B)) ∧ Apart a1 a2 ∧ Below w.heap.size w w' := by
  obtain ⟨i0, hi, hz0, hz1, hz2⟩ := info_parts Tryz.info83
  have hca := ha.2.1
  have hcm := ha.2.2.1
  have hcb := hb.2.1
  have hcbm := hb.2.2.1
  have HLA := hide ha.1
  have HLB := hide hb.1
  have HA := hide ha
  have HB := hide hb
  clear ha hb
  go_enter Tryz.func81, Tryz.ntmps81
  go_wp2_with fail
  refine wp_scope_jumps 0 (fun a' w' => ∃ (a1 : Option Addr) (n1 c1 : Nat) (xs1 : List Nat) (a2 : Option Addr) (n2 c2 : Nat) (xs2 : List Nat), (∃ u2 u3 u6 u7 u8 u9 u10 u11 u12 u13 u14 u15 u16 u17 u18 u19 u20 u21 u22 u23 u24 u25 u26 u27 u28 u29 u30 u31 u32 u33 u34 u35 : Value, a' = { tmps := #[.slice a n ca, .slice b m cb, u2, u3, .slice a1 n1 c1, .slice a2 n2 c2, u6, u7, u8, u9, u10, u11, u12, u13, u14, u15, u16, u17, u18, u19, u20, u21, u22, u23, u24, u25, u26, u27, u28, u29, u30, u31, u32, u33, u34, u35], defers := [] }) ∧ Hid (Own w' w.heap.size a1 n1 c1 xs1) ∧ Hid (Own w' w.heap.size a2 n2 c2 xs2) ∧ Hid (Num.nat xs1 = A / B ∧ Num.nat xs2 = A % B) ∧ Hid (Apart a1 a2) ∧ Hid (Below w.heap.size w w')) (fun _ _ => 0) rfl ?_ ?_
  · go_wp2_with fail
    refine (leastI A B a b n m ca cb _ HA.out HB.out).mono ?_
    rintro e w1 ⟨rfl, d, hw⟩
    have hb1 : Below w.heap.size w w1 := by rw [hw]; exact below_drewN (bl_refl w) d
    have HZ := hide hb1
    replace HA := hide (HA.out.below hb1)
    replace HB := hide (HB.out.below hb1)
    clear hw hb1
    by_cases hlt : A < B
    · rw [cmp_lt (by omega)]
      have HV : Hid (Num.nat [] = A / B ∧ Num.nat (Num.limbs A) = A % B) := hide ⟨(Nat.div_eq_of_lt hlt).symm, by rw [Num.nat_limbs, Nat.mod_eq_of_lt hlt]⟩
      go_wp2_with fail
      refine (cloneI a n ca (Num.limbs A) _ HA.out (by omega)).mono ?_
      rintro e w2 ⟨a2, c2, rfl, ho2, hb2⟩
      have HO2 := hide (ho2.mono (base' := w.heap.size) HZ.out.size)
      replace HZ := hide (bl_trans HZ.out hb2)
      clear ho2 hb2
      go_wp2_with fail
      go_step3
      exact ⟨rfl, _, _, _, _, _, _, _, _, ⟨_, _, _, _, _, _, _, _, _, _, _, _, _, _, _, _, _, _, _, _, _, _, _, _, _, _, _, _, _, _, _, _, rfl⟩, hide (Own.nil _ _), HO2, HV, hide (Apart.none _), HZ⟩
    · rw [show ((cmpZ A B : Int)) = (if B < A then 1 else 0) by unfold cmpZ; rw [if_neg (by omega)]; by_cases h : B < A <;> simp [h]]
      have hge : (Num.limbs B).length ≤ (Num.limbs A).length := Nat.le_of_not_lt fun h => by have := Num.len_lt h; omega
      rw [HLA.out, HLB.out] at hge
      have hc0 : ¬ ((if B < A then 1 else 0 : Int) < 0) := by split <;> omega
      generalize (if B < A then 1 else 0 : Int) = cv at *
      have hm0 : 0 < m := by
        have h : Num.limbs B ≠ [] := fun e => hB (Num.limbs_eq_nil.1 e)
        have := List.length_pos_iff.2 h
        rw [HLB.out] at this
        exact this
      by_cases h1 : m = 1
      · subst h1
        obtain ⟨t, ht⟩ : ∃ t, (Num.limbs B)[0]? = some t := ⟨_, List.getElem?_eq_getElem (by rw [HLB.out]; exact hm0)⟩
        obtain ⟨hBt, ht0, ht1⟩ := limbs_one HLB.out ht
        obtain ⟨h0, ht⟩ := List.getElem?_eq_some_iff.1 ht
        obtain ⟨gb, ob, rfl, hgb, hcl⟩ := seg_cell HB.out 0 h0
        rw [ht, Nat.add_zero] at hcl
        clear ht h0
        have HBT := hide hBt
        clear hBt
        go_wp2_with (at_make; refine wpList_make_full _ rfl _ _ 22 rfl w1.heap.size 83 i0 (.int .u32 0) 1 Tryz.underlying22 hi hz0 hz1 _ _ _ _ 1 rfl rfl rfl rfl (by rw [hz2]; omega) (by unfold maxLen; omega) (Nat.le_refl _) ?_; intro w2 hown hgrow; have hb2 := ((bl_refl w1).grown hgrow (Nat.le_refl _) (by simp)); have B2 := hide (own_made2 hown).blk; have hcl := (hb2.cell (p := ⟨gb, ob, none⟩) hgb).trans hcl; replace HA := hide (HA.out.below hb2); have HZ2 := hide (bl_trans HZ.out hb2); clear hown hgrow hb2)
        have hsz := HZ.out.size
        have hgn : w1.heap.size ≠ w2.heap.size := by have := B2.out.lt; omega
        have hsz2 := HZ2.out.size
        refine (shortI a n ca t (Num.limbs A) _ HA.out (by omega) ht0 ht1).mono ?_
        rintro e w3 ⟨qs, r, rfl, hD, ho3, hb3⟩
        have B3 := hide (B2.out.below hb3)
        have hc3 := B3.out.cell 0 (by simp)
        have hf3 := B3.out.frozen 0
        have hr : r < 4294967296 := by have := hD.2.2.1; omega
        have HST := hide (B3.out.set 0 r hr)
        have hv := short_val hD
        rw [Num.nat_limbs, ← HBT.out] at hv
        have HV : Hid (Num.nat qs = A / B ∧ Num.nat ((List.replicate 1 0).set 0 r) = A % B) := hide ⟨hv.1, by rw [← hv.2]; simp [Num.nat]⟩
        have HO4 := hide ((ho3.mono hsz2).kept HST.out.2 (.inr (by simp [Value.ownBlock]; omega)))
        have HO5 := hide (HST.out.1.own (base := w.heap.size) hsz (by simp))
        have HZ3 := hide ((bl_trans HZ2.out hb3).setCell (p := ⟨w1.heap.size, 0, none⟩) hsz (.int .u32 r))
        have HAP := hide (Apart.blocks (Ne.symm hgn))
        clear hD ho3 hb3 HA B2 B3 HZ2 hv
        simp only [List.replicate_one, List.getElem_cons_zero] at hc3
        go_wp2_with fail
        go_step3
        exact ⟨rfl, _, _, _, _, _, _, _, _, ⟨_, _, _, _, _, _, _, _, _, _, _, _, _, _, _, _, _, _, _, _, _, _, _, _, _, _, _, _, _, _, _, _, rfl⟩, HO4, HO5, HV, HAP, HZ3⟩
      · have hb1 : ((m : Int) == 1) = false := by rw [beq_eq_false_iff_ne]; omega
        go_wp2_with fail
        refine (longI a b n m (n + 1 - m) ca cb A B _ HA.out HB.out (by omega) (by omega) (by omega) (by omega)).mono ?_
        rintro e w2 ⟨g1, g2, qs, rs, rfl, hne, ho1, ho2, hv1, hv2, hb2⟩
        have O1 := hide (ho1.mono (base' := w.heap.size) HZ.out.size)
        have O2 := hide (ho2.mono (base' := w.heap.size) HZ.out.size)
        have HV := hide (And.intro hv1 hv2)
        have HAP := hide (Apart.blocks hne)
        replace HZ := hide (bl_trans HZ.out hb2)
        clear ho1 ho2 hv1 hv2 hb2
        have ha1 : some (⟨g1, 0, none⟩ : Addr) = some ⟨g1, 0, none⟩ := rfl
        go_wp2_with fail
        go_step3
        generalize (some (⟨g1, 0, none⟩ : Addr)) = a1 at *
        generalize (some (⟨g2, 0, none⟩ : Addr)) = a2 at *
        generalize n + 1 - m = n1 at *
        go_wp2_with fail
        refine (trimI2 a1 n1 n1 qs w.heap.size _ O1.out).mono ?_
        rintro e w3 ⟨hw3, a3, c3, rfl, ho3, ha3⟩
        subst w3
        have ho3 := ho3 _ O1.out
        rw [HV.out.1] at ho3 ⊢
        have HO3 := hide ho3
        have HA3 := hide ha3
        clear ho3 ha3
        go_wp2_with fail
        refine (trimI2 a2 m m rs w.heap.size _ O2.out).mono ?_
        rintro e w4 ⟨hw4, a4, c4, rfl, ho4, ha4⟩
        subst w4
        have ho4 := ho4 _ O2.out
        rw [HV.out.2] at ho4 ⊢
        have HO4 := hide ho4
        have HA4 := hide ha4
        clear ho4 ha4
        go_wp2
        simp only [Exit.jump]
        go_ret2
        exact ⟨a3, c3, a4, c4, rfl, HO3.out, HO4.out, HAP.out.sub HA3.out HA4.out, HZ.out⟩
  · rintro a' w' ⟨a1, n1, c1, xs1, a2, n2, c2, xs2, ⟨u2, u3, u6, u7, u8, u9, u10, u11, u12, u13, u14, u15, u16, u17, u18, u19, u20, u21, u22, u23, u24, u25, u26, u27, u28, u29, u30, u31, u32, u33, u34, u35, rfl⟩, O1, O2, HV, HAP, HZ⟩
    go_wp2_with fail
    refine (trimI2 a1 n1 c1 xs1 w.heap.size _ O1.out).mono ?_
    rintro e w3 ⟨hw3, a3, c3, rfl, ho3, ha3⟩
    subst w3
    have ho3 := ho3 _ O1.out
    rw [HV.out.1] at ho3 ⊢
    have HO3 := hide ho3
    have HA3 := hide ha3
    clear ho3 ha3
    go_wp2_with fail
    refine (trimI2 a2 n2 c2 xs2 w.heap.size _ O2.out).mono ?_
    rintro e w4 ⟨hw4, a4, c4, rfl, ho4, ha4⟩
    subst w4
    have ho4 := ho4 _ O2.out
    rw [HV.out.2] at ho4 ⊢
    have HO4 := hide ho4
    have HA4 := hide ha4
    clear ho4 ha4
    go_wp2
    simp only [Exit.jump]
    go_ret2
    exact ⟨a3, c3, a4, c4, rfl, HO3.out, HO4.out, HAP.out.sub HA3.out HA4.out, HZ.out⟩
end Go.Proofs.YtlknhheafmifnaaGreatDoor

/- What the walks of exact laws share: owned lists with the range in which they lie, marks from any number on. -/
namespace Go.Proofs.YtlknhheafmifnaaGreatDoor
open Go.RowKit
set_option linter.unusedVariables false

/-- a list in memory of its own, in a block from lo on to below hi -/
def OwnR (W : World) (lo hi : Nat) (a : Option Addr) (n cap : Nat) (xs : List Nat) : Prop := Own W lo a n cap xs ∧ ∀ k, (Value.slice a n cap).ownBlock = some k → k < hi
theorem Own.range {W : World} {lo : Nat} {a : Option Addr} {n cap : Nat} {xs : List Nat} (h : Own W lo a n cap xs) : OwnR W lo W.heap.size a n cap xs := ⟨h, fun k e => (h.1.lt k e).2⟩
theorem OwnR.alloc {W : World} {lo hi : Nat} {a : Option Addr} {n cap : Nat} {xs : List Nat} (h : OwnR W lo hi a n cap xs) (o : Obj) : OwnR (W.alloc o) lo hi a n cap xs := ⟨h.1.below (bl_alloc (bl_refl W) o), h.2⟩
theorem OwnR.drew {W : World} {lo hi : Nat} {a : Option Addr} {n cap : Nat} {xs : List Nat} (h : OwnR W lo hi a n cap xs) : OwnR W.drew lo hi a n cap xs := ⟨h.1.below (bl_refl W).drew, h.2⟩
theorem grown_set (W : World) (p : Addr) (v : Value) : W.grownBy (W.setCell p v) (some p.block) :=
  ⟨rfl, rfl, rfl, by simp, fun k _ hk => heap_setCell_other W p k _ (fun e => hk (by simp [e]))⟩
theorem OwnR.set {W : World} {lo hi : Nat} {a : Option Addr} {n cap : Nat} {xs : List Nat} (h : OwnR W lo hi a n cap xs) {p : Addr} (hp : p.block < lo ∨ hi ≤ p.block) (v : Value) : OwnR (W.setCell p v) lo hi a n cap xs := by
  refine ⟨h.1.kept (grown_set W p v) ?_, h.2⟩
  cases hk : (Value.slice a n cap).ownBlock with
  | none => exact .inl rfl
  | some k =>
    refine .inr fun e => ?_
    have h1 := (h.1.1.lt k hk).1
    have h2 := h.2 k hk
    cases e
    omega
theorem OwnR.seg {W : World} {lo hi : Nat} {a : Option Addr} {n cap : Nat} {xs : List Nat} (h : OwnR W lo hi a n cap xs) : Seg W a n cap xs := h.1.seg
end Go.Proofs.YtlknhheafmifnaaGreatDoor

/- The walk of bigDivide: a whole number divided by another, quotient and rest in memory of their own. -/
namespace Go.Proofs.YtlknhheafmifnaaGreatDoor
open Go.RowKit
set_option linter.unusedVariables false

theorem bigOfI3 (neg : Bool) (a : Option Addr) (n cap m : Nat) (base : Nat) (w : World) (ho : Own w base a n cap (Num.limbs m)) :
    Calls Tryz.prog 79 #[.bool neg, .slice a n cap] w fun e w' => ∃ a' c', e = .returned (.agg #[.bool (sgn (mk neg m)), .slice a' (lms (mk neg m)).length c']) ∧ (∀ W, Own W base a n cap (Num.limbs m) → Own W base a' (lms (mk neg m)).length c' (lms (mk neg m))) ∧ (a' = none ∨ a' = a) ∧ Below w.heap.size w w' := by
  have := bigOfI2 neg a n cap (Num.limbs m) base w ho
  rw [Num.nat_limbs] at this
  exact this
theorem one_len : (lms 1).length ≤ 400000 := by unfold lms; rw [show Int.natAbs 1 = 1 from rfl, Num.limbs_pos (by decide)]; simp [Num.limbs_zero]
theorem rest_pos {x y : Int} (hr : ¬ mk (sgn x) (x.natAbs % y.natAbs) < 0) : (0 ≤ x ∨ x.natAbs % y.natAbs = 0) ∧ mk (sgn x) (x.natAbs % y.natAbs) = ((x.natAbs % y.natAbs : Nat) : Int) := by
  unfold mk sgn at *
  generalize x.natAbs % y.natAbs = m at *
  by_cases h : x < 0
  · simp [h] at hr ⊢
    omega
  · simp [h]
    omega
theorem sumQ (v1 v2 : Value) (x y : Int) (w : World) (h1 : Is w v1 x) (h2 : Is w v2 y) (l1 : (lms x).length ≤ 400000) (l2 : (lms y).length ≤ 400000) :
    Calls Tryz.prog 82 #[v1, v2] w fun e w' => ∃ v, e = .returned v ∧ New w' w.heap.size v (x + y) ∧ Below w.heap.size w w' := by
  have := sumI v1 v2 (sgn x) (sgn y) x.natAbs y.natAbs w h1 h2 (Nat.le_trans l1 (by decide)) (Nat.le_trans l2 (by decide))
  rw [mk_self, mk_self] at this
  exact this
theorem diffQ (v1 v2 : Value) (x y : Int) (w : World) (h1 : Is w v1 x) (h2 : Is w v2 y) (l1 : (lms x).length ≤ 400000) (l2 : (lms y).length ≤ 400000) :
    Calls Tryz.prog 83 #[v1, v2] w fun e w' => ∃ v, e = .returned v ∧ New w' w.heap.size v (x - y) ∧ Below w.heap.size w w' := by
  have := diffI v1 v2 (sgn x) (sgn y) x.natAbs y.natAbs w h1 h2 (Nat.le_trans l1 (by decide)) (Nat.le_trans l2 (by decide))
  rw [mk_self, mk_self] at this
  exact this
theorem len_mono {a b k : Nat} (h : a ≤ b) (hl : (Num.limbs b).length ≤ k) : (Num.limbs a).length ≤ k := Num.limbs_len.2 (Nat.lt_of_le_of_lt h (Num.limbs_len.1 hl))
theorem div_len {A B k : Nat} (hl : (Num.limbs A).length ≤ k) : (Num.limbs (A / B)).length ≤ k := len_mono (Nat.div_le_self _ _) hl
theorem mod_len {A B k : Nat} (hl : (Num.limbs A).length ≤ k) : (Num.limbs (A % B)).length ≤ k := len_mono (Nat.mod_le _ _) hl
theorem apart_own {W W' : World} {b1 n m c c' : Nat} {a a' : Option Addr} {xs ys : List Nat} (h : Own W b1 a n c xs) (h' : Own W' W.heap.size a' m c' ys) : Apart a a' := by
  rcases h.cases with ⟨rfl, _⟩ | ⟨g, rfl, h1, h2⟩
  · exact Apart.none _
  · rcases h'.cases with ⟨rfl, _⟩ | ⟨g', rfl, h3, h4⟩
    · exact Apart.none' _
    · exact Apart.blocks (by omega)
/-- two lists are stored in two boxes of the call's own -/
theorem fin_two' {w w1 : World} {N M base n1 c1 n2 c2 : Nat} {a1 a2 : Option Addr} {xs1 xs2 : List Nat} (h1 : Own w1 base a1 n1 c1 xs1) (h2 : Own w1 base a2 n2 c2 xs2) (hap : Apart a1 a2) (hN : N < base) (hM : M < base) (wN : w.heap.size ≤ N) (wM : w.heap.size ≤ M) (hb : Below w.heap.size w w1) (x y z t : Value) :
    Own ((((w1.setCell ⟨N, 0, none⟩ x).setCell ⟨N, 1, none⟩ y).setCell ⟨M, 0, none⟩ z).setCell ⟨M, 1, none⟩ t) w.heap.size a1 n1 c1 xs1 ∧ Own ((((w1.setCell ⟨N, 0, none⟩ x).setCell ⟨N, 1, none⟩ y).setCell ⟨M, 0, none⟩ z).setCell ⟨M, 1, none⟩ t) w.heap.size a2 n2 c2 xs2 ∧ Apart a1 a2 ∧
      Below w.heap.size w ((((w1.setCell ⟨N, 0, none⟩ x).setCell ⟨N, 1, none⟩ y).setCell ⟨M, 0, none⟩ z).setCell ⟨M, 1, none⟩ t) :=
  ⟨((((h1.setCell (p := ⟨N, 0, none⟩) hN x).setCell (p := ⟨N, 1, none⟩) hN y).setCell (p := ⟨M, 0, none⟩) hM z).setCell (p := ⟨M, 1, none⟩) hM t).mono (by omega),
   ((((h2.setCell (p := ⟨N, 0, none⟩) hN x).setCell (p := ⟨N, 1, none⟩) hN y).setCell (p := ⟨M, 0, none⟩) hM z).setCell (p := ⟨M, 1, none⟩) hM t).mono (by omega), hap,
   (((hb.setCell (p := ⟨N, 0, none⟩) wN x).setCell (p := ⟨N, 1, none⟩) wN y).setCell (p := ⟨M, 0, none⟩) wM z).setCell (p := ⟨M, 1, none⟩) wM t⟩

theorem fin_drew {w W : World} {b n1 c1 n2 c2 : Nat} {a1 a2 : Option Addr} {xs1 xs2 : List Nat} (h : Own W b a1 n1 c1 xs1 ∧ Own W b a2 n2 c2 xs2 ∧ Apart a1 a2 ∧ Below w.heap.size w W) : Own W.drew b a1 n1 c1 xs1 ∧ Own W.drew b a2 n2 c2 xs2 ∧ Apart a1 a2 ∧ Below w.heap.size w W.drew :=
  ⟨h.1.below (bl_refl _).drew, h.2.1.below (bl_refl _).drew, h.2.2.1, bl_trans h.2.2.2 (bl_refl _).drew⟩

set_option maxHeartbeats 4000000 in
set_option maxRecDepth 20000 in
theorem divI (v1 v2 : Value) (x y : Int) (w : World) (h1 : Is w v1 x) (h2 : Is w v2 y) (hy : y ≠ 0) (l1 : (lms x).length ≤ 400000) (l2 : (lms y).length ≤ 400000) :
    Calls Tryz.prog 72 #[v1, v2] w fun e w' => ∃ a1 c1 a2 c2, e = .returned (.tuple #[.agg #[.bool (sgn (x / y)), .slice a1 (lms (x / y)).length c1], .agg #[.bool (sgn (x % y)), .slice a2 (lms (x % y)).length c2]]) ∧ Own w' w.heap.size a1 (lms (x / y)).length c1 (lms (x / y)) ∧ Own w' w.heap.size a2 (lms (x % y)).length c2 (lms (x % y)) ∧ Apart a1 a2 ∧ Below w.heap.size w w' := by
  obtain ⟨a, ca, rfl, ha⟩ := h1
  obtain ⟨b, cb, rfl, hb⟩ := h2
  have HA := hide ha
  have HBB := hide hb
  clear ha hb
  have kA0 : ((((w.alloc (Obj.cells #[Value.bool (sgn x), Value.slice a (lms x).length ca] 32)).alloc (Obj.cells #[Value.bool (sgn y), Value.slice b (lms y).length cb] 32)).alloc (Obj.cells #[Value.bool false, Value.slice none 0 0] 32)).alloc (Obj.cells #[Value.bool false, Value.slice none 0 0] 32)).cell? ⟨w.heap.size, 0, none⟩ = some (Value.bool (sgn x)) := by go_simp
  have kA1 : ((((w.alloc (Obj.cells #[Value.bool (sgn x), Value.slice a (lms x).length ca] 32)).alloc (Obj.cells #[Value.bool (sgn y), Value.slice b (lms y).length cb] 32)).alloc (Obj.cells #[Value.bool false, Value.slice none 0 0] 32)).alloc (Obj.cells #[Value.bool false, Value.slice none 0 0] 32)).cell? ⟨w.heap.size, 1, none⟩ = some (Value.slice a (lms x).length ca) := by go_simp
  have zA : w.heap.size < ((((w.alloc (Obj.cells #[Value.bool (sgn x), Value.slice a (lms x).length ca] 32)).alloc (Obj.cells #[Value.bool (sgn y), Value.slice b (lms y).length cb] 32)).alloc (Obj.cells #[Value.bool false, Value.slice none 0 0] 32)).alloc (Obj.cells #[Value.bool false, Value.slice none 0 0] 32)).heap.size := by simp only [World.size_alloc]; omega
  have kB0 : ((((w.alloc (Obj.cells #[Value.bool (sgn x), Value.slice a (lms x).length ca] 32)).alloc (Obj.cells #[Value.bool (sgn y), Value.slice b (lms y).length cb] 32)).alloc (Obj.cells #[Value.bool false, Value.slice none 0 0] 32)).alloc (Obj.cells #[Value.bool false, Value.slice none 0 0] 32)).cell? ⟨w.heap.size + 1, 0, none⟩ = some (Value.bool (sgn y)) := by go_simp
  have kB1 : ((((w.alloc (Obj.cells #[Value.bool (sgn x), Value.slice a (lms x).length ca] 32)).alloc (Obj.cells #[Value.bool (sgn y), Value.slice b (lms y).length cb] 32)).alloc (Obj.cells #[Value.bool false, Value.slice none 0 0] 32)).alloc (Obj.cells #[Value.bool false, Value.slice none 0 0] 32)).cell? ⟨w.heap.size + 1, 1, none⟩ = some (Value.slice b (lms y).length cb) := by go_simp
  have zB : w.heap.size + 1 < ((((w.alloc (Obj.cells #[Value.bool (sgn x), Value.slice a (lms x).length ca] 32)).alloc (Obj.cells #[Value.bool (sgn y), Value.slice b (lms y).length cb] 32)).alloc (Obj.cells #[Value.bool false, Value.slice none 0 0] 32)).alloc (Obj.cells #[Value.bool false, Value.slice none 0 0] 32)).heap.size := by simp only [World.size_alloc]; omega
  have kR0 : ((((w.alloc (Obj.cells #[Value.bool (sgn x), Value.slice a (lms x).length ca] 32)).alloc (Obj.cells #[Value.bool (sgn y), Value.slice b (lms y).length cb] 32)).alloc (Obj.cells #[Value.bool false, Value.slice none 0 0] 32)).alloc (Obj.cells #[Value.bool false, Value.slice none 0 0] 32)).cell? ⟨w.heap.size + 1 + 1, 0, none⟩ = some (Value.bool false) := by go_simp
  have fR0 : ((((w.alloc (Obj.cells #[Value.bool (sgn x), Value.slice a (lms x).length ca] 32)).alloc (Obj.cells #[Value.bool (sgn y), Value.slice b (lms y).length cb] 32)).alloc (Obj.cells #[Value.bool false, Value.slice none 0 0] 32)).alloc (Obj.cells #[Value.bool false, Value.slice none 0 0] 32)).frozen? ⟨w.heap.size + 1 + 1, 0, none⟩ = false := by go_simp
  have kR1 : ((((w.alloc (Obj.cells #[Value.bool (sgn x), Value.slice a (lms x).length ca] 32)).alloc (Obj.cells #[Value.bool (sgn y), Value.slice b (lms y).length cb] 32)).alloc (Obj.cells #[Value.bool false, Value.slice none 0 0] 32)).alloc (Obj.cells #[Value.bool false, Value.slice none 0 0] 32)).cell? ⟨w.heap.size + 1 + 1, 1, none⟩ = some (Value.slice none 0 0) := by go_simp
  have fR1 : ((((w.alloc (Obj.cells #[Value.bool (sgn x), Value.slice a (lms x).length ca] 32)).alloc (Obj.cells #[Value.bool (sgn y), Value.slice b (lms y).length cb] 32)).alloc (Obj.cells #[Value.bool false, Value.slice none 0 0] 32)).alloc (Obj.cells #[Value.bool false, Value.slice none 0 0] 32)).frozen? ⟨w.heap.size + 1 + 1, 1, none⟩ = false := by go_simp
  have zR : w.heap.size + 1 + 1 < ((((w.alloc (Obj.cells #[Value.bool (sgn x), Value.slice a (lms x).length ca] 32)).alloc (Obj.cells #[Value.bool (sgn y), Value.slice b (lms y).length cb] 32)).alloc (Obj.cells #[Value.bool false, Value.slice none 0 0] 32)).alloc (Obj.cells #[Value.bool false, Value.slice none 0 0] 32)).heap.size := by simp only [World.size_alloc]; omega
  have kT0 : ((((w.alloc (Obj.cells #[Value.bool (sgn x), Value.slice a (lms x).length ca] 32)).alloc (Obj.cells #[Value.bool (sgn y), Value.slice b (lms y).length cb] 32)).alloc (Obj.cells #[Value.bool false, Value.slice none 0 0] 32)).alloc (Obj.cells #[Value.bool false, Value.slice none 0 0] 32)).cell? ⟨w.heap.size + 1 + 1 + 1, 0, none⟩ = some (Value.bool false) := by go_simp
  have fT0 : ((((w.alloc (Obj.cells #[Value.bool (sgn x), Value.slice a (lms x).length ca] 32)).alloc (Obj.cells #[Value.bool (sgn y), Value.slice b (lms y).length cb] 32)).alloc (Obj.cells #[Value.bool false, Value.slice none 0 0] 32)).alloc (Obj.cells #[Value.bool false, Value.slice none 0 0] 32)).frozen? ⟨w.heap.size + 1 + 1 + 1, 0, none⟩ = false := by go_simp
  have kT1 : ((((w.alloc (Obj.cells #[Value.bool (sgn x), Value.slice a (lms x).length ca] 32)).alloc (Obj.cells #[Value.bool (sgn y), Value.slice b (lms y).length cb] 32)).alloc (Obj.cells #[Value.bool false, Value.slice none 0 0] 32)).alloc (Obj.cells #[Value.bool false, Value.slice none 0 0] 32)).cell? ⟨w.heap.size + 1 + 1 + 1, 1, none⟩ = some (Value.slice none 0 0) := by go_simp
  have fT1 : ((((w.alloc (Obj.cells #[Value.bool (sgn x), Value.slice a (lms x).length ca] 32)).alloc (Obj.cells #[Value.bool (sgn y), Value.slice b (lms y).length cb] 32)).alloc (Obj.cells #[Value.bool false, Value.slice none 0 0] 32)).alloc (Obj.cells #[Value.bool false, Value.slice none 0 0] 32)).frozen? ⟨w.heap.size + 1 + 1 + 1, 1, none⟩ = false := by go_simp
  have zT : w.heap.size + 1 + 1 + 1 < ((((w.alloc (Obj.cells #[Value.bool (sgn x), Value.slice a (lms x).length ca] 32)).alloc (Obj.cells #[Value.bool (sgn y), Value.slice b (lms y).length cb] 32)).alloc (Obj.cells #[Value.bool false, Value.slice none 0 0] 32)).alloc (Obj.cells #[Value.bool false, Value.slice none 0 0] 32)).heap.size := by simp only [World.size_alloc]; omega
  have HB := hide (bl_alloc (bl_alloc (bl_alloc (bl_alloc (bl_refl w) (Obj.cells #[Value.bool (sgn x), Value.slice a (lms x).length ca] 32)) (Obj.cells #[Value.bool (sgn y), Value.slice b (lms y).length cb] 32)) (Obj.cells #[Value.bool false, Value.slice none 0 0] 32)) (Obj.cells #[Value.bool false, Value.slice none 0 0] 32))
  replace HA := hide (HA.out.below HB.out)
  replace HBB := hide (HBB.out.below HB.out)
  have y0 : ((((w.alloc (Obj.cells #[Value.bool (sgn x), Value.slice a (lms x).length ca] 32)).alloc (Obj.cells #[Value.bool (sgn y), Value.slice b (lms y).length cb] 32)).alloc (Obj.cells #[Value.bool false, Value.slice none 0 0] 32)).alloc (Obj.cells #[Value.bool false, Value.slice none 0 0] 32)).heap.size = w.heap.size + 4 := by simp only [World.size_alloc]
  go_enter Tryz.func72, Tryz.ntmps72
  go_wp2_with fail
  generalize ((((w.alloc (Obj.cells #[Value.bool (sgn x), Value.slice a (lms x).length ca] 32)).alloc (Obj.cells #[Value.bool (sgn y), Value.slice b (lms y).length cb] 32)).alloc (Obj.cells #[Value.bool false, Value.slice none 0 0] 32)).alloc (Obj.cells #[Value.bool false, Value.slice none 0 0] 32)) = w1 at *
  refine (dlimbsI a b _ _ ca cb x.natAbs y.natAbs _ HA.out HBB.out (by omega) l1 l2).mono ?_
  rintro e w2 ⟨aq, cq, ar, cr, rfl, hoq, hor, hap, hbw2⟩
  have yw2 := hbw2.size
  replace kA0 := (hbw2.cell (p := ⟨w.heap.size, 0, none⟩) zA).trans kA0
  replace kA1 := (hbw2.cell (p := ⟨w.heap.size, 1, none⟩) zA).trans kA1
  replace zA := Nat.lt_of_lt_of_le zA hbw2.size
  replace kB0 := (hbw2.cell (p := ⟨w.heap.size + 1, 0, none⟩) zB).trans kB0
  replace kB1 := (hbw2.cell (p := ⟨w.heap.size + 1, 1, none⟩) zB).trans kB1
  replace zB := Nat.lt_of_lt_of_le zB hbw2.size
  replace kR0 := (hbw2.cell (p := ⟨w.heap.size + 1 + 1, 0, none⟩) zR).trans kR0
  replace fR0 := (hbw2.frozen (p := ⟨w.heap.size + 1 + 1, 0, none⟩) zR).trans fR0
  replace kR1 := (hbw2.cell (p := ⟨w.heap.size + 1 + 1, 1, none⟩) zR).trans kR1
  replace fR1 := (hbw2.frozen (p := ⟨w.heap.size + 1 + 1, 1, none⟩) zR).trans fR1
  replace zR := Nat.lt_of_lt_of_le zR hbw2.size
  replace kT0 := (hbw2.cell (p := ⟨w.heap.size + 1 + 1 + 1, 0, none⟩) zT).trans kT0
  replace fT0 := (hbw2.frozen (p := ⟨w.heap.size + 1 + 1 + 1, 0, none⟩) zT).trans fT0
  replace kT1 := (hbw2.cell (p := ⟨w.heap.size + 1 + 1 + 1, 1, none⟩) zT).trans kT1
  replace fT1 := (hbw2.frozen (p := ⟨w.heap.size + 1 + 1 + 1, 1, none⟩) zT).trans fT1
  replace zT := Nat.lt_of_lt_of_le zT hbw2.size
  replace HA := hide (HA.out.below hbw2)
  replace HBB := hide (HBB.out.below hbw2)
  replace HB := hide (bl_trans HB.out hbw2)
  clear hbw2
  have HQ := hide hoq
  have HR := hide hor
  have HAP := hide hap
  clear hoq hor hap
  go_wp2_with fail
  refine (bigOfI3 (!sgn x == sgn y) aq _ cq _ w1.heap.size _ HQ.out).mono ?_
  rintro e w3 ⟨aq', cq', rfl, hoq, haq, hbw3⟩
  have yw3 := hbw3.size
  replace kA0 := (hbw3.cell (p := ⟨w.heap.size, 0, none⟩) zA).trans kA0
  replace kA1 := (hbw3.cell (p := ⟨w.heap.size, 1, none⟩) zA).trans kA1
  replace zA := Nat.lt_of_lt_of_le zA hbw3.size
  replace kB0 := (hbw3.cell (p := ⟨w.heap.size + 1, 0, none⟩) zB).trans kB0
  replace kB1 := (hbw3.cell (p := ⟨w.heap.size + 1, 1, none⟩) zB).trans kB1
  replace zB := Nat.lt_of_lt_of_le zB hbw3.size
  replace kR0 := (hbw3.cell (p := ⟨w.heap.size + 1 + 1, 0, none⟩) zR).trans kR0
  replace fR0 := (hbw3.frozen (p := ⟨w.heap.size + 1 + 1, 0, none⟩) zR).trans fR0
  replace kR1 := (hbw3.cell (p := ⟨w.heap.size + 1 + 1, 1, none⟩) zR).trans kR1
  replace fR1 := (hbw3.frozen (p := ⟨w.heap.size + 1 + 1, 1, none⟩) zR).trans fR1
  replace zR := Nat.lt_of_lt_of_le zR hbw3.size
  replace kT0 := (hbw3.cell (p := ⟨w.heap.size + 1 + 1 + 1, 0, none⟩) zT).trans kT0
  replace fT0 := (hbw3.frozen (p := ⟨w.heap.size + 1 + 1 + 1, 0, none⟩) zT).trans fT0
  replace kT1 := (hbw3.cell (p := ⟨w.heap.size + 1 + 1 + 1, 1, none⟩) zT).trans kT1
  replace fT1 := (hbw3.frozen (p := ⟨w.heap.size + 1 + 1 + 1, 1, none⟩) zT).trans fT1
  replace zT := Nat.lt_of_lt_of_le zT hbw3.size
  replace HA := hide (HA.out.below hbw3)
  replace HBB := hide (HBB.out.below hbw3)
  replace HQ := hide (HQ.out.below hbw3)
  replace HR := hide (HR.out.below hbw3)
  replace HB := hide (bl_trans HB.out hbw3)
  replace HQ := hide (hoq _ HQ.out)
  have HAQ := hide haq
  clear hoq haq
  clear hbw3
  go_wp2_with fail
  have kQ0 : (w3.alloc (Obj.cells #[Value.bool (sgn (mk (!sgn x == sgn y) (x.natAbs / y.natAbs))), Value.slice aq' (lms (mk (!sgn x == sgn y) (x.natAbs / y.natAbs))).length cq'] 32)).cell? ⟨w3.heap.size, 0, none⟩ = some (Value.bool (sgn (mk (!sgn x == sgn y) (x.natAbs / y.natAbs)))) := by go_simp
  have kQ1 : (w3.alloc (Obj.cells #[Value.bool (sgn (mk (!sgn x == sgn y) (x.natAbs / y.natAbs))), Value.slice aq' (lms (mk (!sgn x == sgn y) (x.natAbs / y.natAbs))).length cq'] 32)).cell? ⟨w3.heap.size, 1, none⟩ = some (Value.slice aq' (lms (mk (!sgn x == sgn y) (x.natAbs / y.natAbs))).length cq') := by go_simp
  have zQ : w3.heap.size < (w3.alloc (Obj.cells #[Value.bool (sgn (mk (!sgn x == sgn y) (x.natAbs / y.natAbs))), Value.slice aq' (lms (mk (!sgn x == sgn y) (x.natAbs / y.natAbs))).length cq'] 32)).heap.size := by simp only [World.size_alloc]; omega
  have yw4 := zQ
  have hbw4 := bl_alloc (bl_refl w3) (Obj.cells #[Value.bool (sgn (mk (!sgn x == sgn y) (x.natAbs / y.natAbs))), Value.slice aq' (lms (mk (!sgn x == sgn y) (x.natAbs / y.natAbs))).length cq'] 32)
  generalize w3.alloc (Obj.cells #[Value.bool (sgn (mk (!sgn x == sgn y) (x.natAbs / y.natAbs))), Value.slice aq' (lms (mk (!sgn x == sgn y) (x.natAbs / y.natAbs))).length cq'] 32) = w4 at *
  replace kA0 := (hbw4.cell (p := ⟨w.heap.size, 0, none⟩) zA).trans kA0
  replace kA1 := (hbw4.cell (p := ⟨w.heap.size, 1, none⟩) zA).trans kA1
  replace zA := Nat.lt_of_lt_of_le zA hbw4.size
  replace kB0 := (hbw4.cell (p := ⟨w.heap.size + 1, 0, none⟩) zB).trans kB0
  replace kB1 := (hbw4.cell (p := ⟨w.heap.size + 1, 1, none⟩) zB).trans kB1
  replace zB := Nat.lt_of_lt_of_le zB hbw4.size
  replace kR0 := (hbw4.cell (p := ⟨w.heap.size + 1 + 1, 0, none⟩) zR).trans kR0
  replace fR0 := (hbw4.frozen (p := ⟨w.heap.size + 1 + 1, 0, none⟩) zR).trans fR0
  replace kR1 := (hbw4.cell (p := ⟨w.heap.size + 1 + 1, 1, none⟩) zR).trans kR1
  replace fR1 := (hbw4.frozen (p := ⟨w.heap.size + 1 + 1, 1, none⟩) zR).trans fR1
  replace zR := Nat.lt_of_lt_of_le zR hbw4.size
  replace kT0 := (hbw4.cell (p := ⟨w.heap.size + 1 + 1 + 1, 0, none⟩) zT).trans kT0
  replace fT0 := (hbw4.frozen (p := ⟨w.heap.size + 1 + 1 + 1, 0, none⟩) zT).trans fT0
  replace kT1 := (hbw4.cell (p := ⟨w.heap.size + 1 + 1 + 1, 1, none⟩) zT).trans kT1
  replace fT1 := (hbw4.frozen (p := ⟨w.heap.size + 1 + 1 + 1, 1, none⟩) zT).trans fT1
  replace zT := Nat.lt_of_lt_of_le zT hbw4.size
  replace HA := hide (HA.out.below hbw4)
  replace HBB := hide (HBB.out.below hbw4)
  replace HQ := hide (HQ.out.below hbw4)
  replace HR := hide (HR.out.below hbw4)
  replace HB := hide (bl_trans HB.out hbw4)
  clear hbw4
  refine (bigOfI3 (sgn x) ar _ cr _ w1.heap.size _ HR.out).mono ?_
  rintro e w5 ⟨ar', cr', rfl, hor, har, hbw5⟩
  have yw5 := hbw5.size
  replace kA0 := (hbw5.cell (p := ⟨w.heap.size, 0, none⟩) zA).trans kA0
  replace kA1 := (hbw5.cell (p := ⟨w.heap.size, 1, none⟩) zA).trans kA1
  replace zA := Nat.lt_of_lt_of_le zA hbw5.size
  replace kB0 := (hbw5.cell (p := ⟨w.heap.size + 1, 0, none⟩) zB).trans kB0
  replace kB1 := (hbw5.cell (p := ⟨w.heap.size + 1, 1, none⟩) zB).trans kB1
  replace zB := Nat.lt_of_lt_of_le zB hbw5.size
  replace kR0 := (hbw5.cell (p := ⟨w.heap.size + 1 + 1, 0, none⟩) zR).trans kR0
  replace fR0 := (hbw5.frozen (p := ⟨w.heap.size + 1 + 1, 0, none⟩) zR).trans fR0
  replace kR1 := (hbw5.cell (p := ⟨w.heap.size + 1 + 1, 1, none⟩) zR).trans kR1
  replace fR1 := (hbw5.frozen (p := ⟨w.heap.size + 1 + 1, 1, none⟩) zR).trans fR1
  replace zR := Nat.lt_of_lt_of_le zR hbw5.size
  replace kT0 := (hbw5.cell (p := ⟨w.heap.size + 1 + 1 + 1, 0, none⟩) zT).trans kT0
  replace fT0 := (hbw5.frozen (p := ⟨w.heap.size + 1 + 1 + 1, 0, none⟩) zT).trans fT0
  replace kT1 := (hbw5.cell (p := ⟨w.heap.size + 1 + 1 + 1, 1, none⟩) zT).trans kT1
  replace fT1 := (hbw5.frozen (p := ⟨w.heap.size + 1 + 1 + 1, 1, none⟩) zT).trans fT1
  replace zT := Nat.lt_of_lt_of_le zT hbw5.size
  replace kQ0 := (hbw5.cell (p := ⟨w3.heap.size, 0, none⟩) zQ).trans kQ0
  replace kQ1 := (hbw5.cell (p := ⟨w3.heap.size, 1, none⟩) zQ).trans kQ1
  replace zQ := Nat.lt_of_lt_of_le zQ hbw5.size
  replace HA := hide (HA.out.below hbw5)
  replace HBB := hide (HBB.out.below hbw5)
  replace HQ := hide (HQ.out.below hbw5)
  replace HR := hide (HR.out.below hbw5)
  replace HB := hide (bl_trans HB.out hbw5)
  replace HR := hide (hor _ HR.out)
  have HAR := hide har
  clear hor har
  clear hbw5
  go_upto_region 4 with fail
  have kS0 : (w5.alloc (Obj.cells #[Value.bool (sgn (mk (sgn x) (x.natAbs % y.natAbs))), Value.slice ar' (lms (mk (sgn x) (x.natAbs % y.natAbs))).length cr'] 32)).cell? ⟨w5.heap.size, 0, none⟩ = some (Value.bool (sgn (mk (sgn x) (x.natAbs % y.natAbs)))) := by go_simp
  have kS1 : (w5.alloc (Obj.cells #[Value.bool (sgn (mk (sgn x) (x.natAbs % y.natAbs))), Value.slice ar' (lms (mk (sgn x) (x.natAbs % y.natAbs))).length cr'] 32)).cell? ⟨w5.heap.size, 1, none⟩ = some (Value.slice ar' (lms (mk (sgn x) (x.natAbs % y.natAbs))).length cr') := by go_simp
  have zS : w5.heap.size < (w5.alloc (Obj.cells #[Value.bool (sgn (mk (sgn x) (x.natAbs % y.natAbs))), Value.slice ar' (lms (mk (sgn x) (x.natAbs % y.natAbs))).length cr'] 32)).heap.size := by simp only [World.size_alloc]; omega
  have yw6 := zS
  have hbw6 := bl_alloc (bl_refl w5) (Obj.cells #[Value.bool (sgn (mk (sgn x) (x.natAbs % y.natAbs))), Value.slice ar' (lms (mk (sgn x) (x.natAbs % y.natAbs))).length cr'] 32)
  generalize w5.alloc (Obj.cells #[Value.bool (sgn (mk (sgn x) (x.natAbs % y.natAbs))), Value.slice ar' (lms (mk (sgn x) (x.natAbs % y.natAbs))).length cr'] 32) = w6 at *
  replace kA0 := (hbw6.cell (p := ⟨w.heap.size, 0, none⟩) zA).trans kA0
  replace kA1 := (hbw6.cell (p := ⟨w.heap.size, 1, none⟩) zA).trans kA1
  replace zA := Nat.lt_of_lt_of_le zA hbw6.size
  replace kB0 := (hbw6.cell (p := ⟨w.heap.size + 1, 0, none⟩) zB).trans kB0
  replace kB1 := (hbw6.cell (p := ⟨w.heap.size + 1, 1, none⟩) zB).trans kB1
  replace zB := Nat.lt_of_lt_of_le zB hbw6.size
  replace kR0 := (hbw6.cell (p := ⟨w.heap.size + 1 + 1, 0, none⟩) zR).trans kR0
  replace fR0 := (hbw6.frozen (p := ⟨w.heap.size + 1 + 1, 0, none⟩) zR).trans fR0
  replace kR1 := (hbw6.cell (p := ⟨w.heap.size + 1 + 1, 1, none⟩) zR).trans kR1
  replace fR1 := (hbw6.frozen (p := ⟨w.heap.size + 1 + 1, 1, none⟩) zR).trans fR1
  replace zR := Nat.lt_of_lt_of_le zR hbw6.size
  replace kT0 := (hbw6.cell (p := ⟨w.heap.size + 1 + 1 + 1, 0, none⟩) zT).trans kT0
  replace fT0 := (hbw6.frozen (p := ⟨w.heap.size + 1 + 1 + 1, 0, none⟩) zT).trans fT0
  replace kT1 := (hbw6.cell (p := ⟨w.heap.size + 1 + 1 + 1, 1, none⟩) zT).trans kT1
  replace fT1 := (hbw6.frozen (p := ⟨w.heap.size + 1 + 1 + 1, 1, none⟩) zT).trans fT1
  replace zT := Nat.lt_of_lt_of_le zT hbw6.size
  replace kQ0 := (hbw6.cell (p := ⟨w3.heap.size, 0, none⟩) zQ).trans kQ0
  replace kQ1 := (hbw6.cell (p := ⟨w3.heap.size, 1, none⟩) zQ).trans kQ1
  replace zQ := Nat.lt_of_lt_of_le zQ hbw6.size
  replace HA := hide (HA.out.below hbw6)
  replace HBB := hide (HBB.out.below hbw6)
  replace HQ := hide (HQ.out.below hbw6)
  replace HR := hide (HR.out.below hbw6)
  replace HB := hide (bl_trans HB.out hbw6)
  clear hbw6
  replace HAP := hide (HAP.out.sub HAQ.out HAR.out)
  clear HAQ HAR
  by_cases hr : mk (sgn x) (x.natAbs % y.natAbs) < 0
  · have hsr : sgn (mk (sgn x) (x.natAbs % y.natAbs)) = true := decide_eq_true hr
    have hx : x < 0 := by unfold mk sgn at hr; by_cases h : x < 0; exact h; simp [h] at hr; omega
    have hm : x.natAbs % y.natAbs ≠ 0 := by intro e; rw [e] at hr; unfold mk at hr; split at hr <;> omega
    have HDB := hide (div_back x y hy hx hm)
    have HLQ : Hid ((lms (mk (!sgn x == sgn y) (x.natAbs / y.natAbs))).length ≤ 400000) := hide (by rw [mk_lms]; exact div_len l1)
    have HLR : Hid ((lms (mk (sgn x) (x.natAbs % y.natAbs))).length ≤ 400000) := hide (by rw [mk_lms]; exact mod_len l1)
    generalize mk (!sgn x == sgn y) (x.natAbs / y.natAbs) = q at *
    generalize mk (sgn x) (x.natAbs % y.natAbs) = r at *
    clear hr hx hm
    by_cases hy0 : y < 0
    · have hsy : sgn y = true := decide_eq_true hy0
      have E1 := hide (HDB.out.1 hy0).1
      have E2 := hide (HDB.out.1 hy0).2
      clear HDB
      go_upto_region 7 with fail
      clear hsr hsy
      go_region_held3 (fun w' => w'.cell? ⟨w3.heap.size, 0, none⟩ = some (Value.bool (sgn (q))) ∧ w'.cell? ⟨w3.heap.size, 1, none⟩ = some (Value.slice aq' (lms (q)).length cq') ∧ w'.cell? ⟨w5.heap.size, 0, none⟩ = some (Value.bool (sgn (r))) ∧ w'.cell? ⟨w5.heap.size, 1, none⟩ = some (Value.slice ar' (lms (r)).length cr') ∧ w'.cell? ⟨w.heap.size + 1, 0, none⟩ = some (Value.bool (sgn y)) ∧ w'.cell? ⟨w.heap.size + 1, 1, none⟩ = some (Value.slice b (lms y).length cb))
        (first
          | exact ⟨(by (try rw [World.cell?_drew]); first | with_reducible assumption | (rw [cell_two (N := w.heap.size + 1 + 1) (p := ⟨w3.heap.size, 0, none⟩) (by dsimp only; omega)]; with_reducible assumption) | (rw [cell_two (N := w.heap.size + 1 + 1 + 1) (p := ⟨w3.heap.size, 0, none⟩) (by dsimp only; omega)]; with_reducible assumption) | (rw [cell_two (N := w.heap.size + 1 + 1) (p := ⟨w3.heap.size, 0, none⟩) (by dsimp only; omega), cell_two (N := w.heap.size + 1 + 1 + 1) (p := ⟨w3.heap.size, 0, none⟩) (by dsimp only; omega)]; with_reducible assumption) | (rw [cell_two (N := w.heap.size + 1 + 1 + 1) (p := ⟨w3.heap.size, 0, none⟩) (by dsimp only; omega), cell_two (N := w.heap.size + 1 + 1) (p := ⟨w3.heap.size, 0, none⟩) (by dsimp only; omega)]; with_reducible assumption)), (by (try rw [World.cell?_drew]); first | with_reducible assumption | (rw [cell_two (N := w.heap.size + 1 + 1) (p := ⟨w3.heap.size, 1, none⟩) (by dsimp only; omega)]; with_reducible assumption) | (rw [cell_two (N := w.heap.size + 1 + 1 + 1) (p := ⟨w3.heap.size, 1, none⟩) (by dsimp only; omega)]; with_reducible assumption) | (rw [cell_two (N := w.heap.size + 1 + 1) (p := ⟨w3.heap.size, 1, none⟩) (by dsimp only; omega), cell_two (N := w.heap.size + 1 + 1 + 1) (p := ⟨w3.heap.size, 1, none⟩) (by dsimp only; omega)]; with_reducible assumption) | (rw [cell_two (N := w.heap.size + 1 + 1 + 1) (p := ⟨w3.heap.size, 1, none⟩) (by dsimp only; omega), cell_two (N := w.heap.size + 1 + 1) (p := ⟨w3.heap.size, 1, none⟩) (by dsimp only; omega)]; with_reducible assumption)), (by (try rw [World.cell?_drew]); first | with_reducible assumption | (rw [cell_two (N := w.heap.size + 1 + 1) (p := ⟨w5.heap.size, 0, none⟩) (by dsimp only; omega)]; with_reducible assumption) | (rw [cell_two (N := w.heap.size + 1 + 1 + 1) (p := ⟨w5.heap.size, 0, none⟩) (by dsimp only; omega)]; with_reducible assumption) | (rw [cell_two (N := w.heap.size + 1 + 1) (p := ⟨w5.heap.size, 0, none⟩) (by dsimp only; omega), cell_two (N := w.heap.size + 1 + 1 + 1) (p := ⟨w5.heap.size, 0, none⟩) (by dsimp only; omega)]; with_reducible assumption) | (rw [cell_two (N := w.heap.size + 1 + 1 + 1) (p := ⟨w5.heap.size, 0, none⟩) (by dsimp only; omega), cell_two (N := w.heap.size + 1 + 1) (p := ⟨w5.heap.size, 0, none⟩) (by dsimp only; omega)]; with_reducible assumption)), (by (try rw [World.cell?_drew]); first | with_reducible assumption | (rw [cell_two (N := w.heap.size + 1 + 1) (p := ⟨w5.heap.size, 1, none⟩) (by dsimp only; omega)]; with_reducible assumption) | (rw [cell_two (N := w.heap.size + 1 + 1 + 1) (p := ⟨w5.heap.size, 1, none⟩) (by dsimp only; omega)]; with_reducible assumption) | (rw [cell_two (N := w.heap.size + 1 + 1) (p := ⟨w5.heap.size, 1, none⟩) (by dsimp only; omega), cell_two (N := w.heap.size + 1 + 1 + 1) (p := ⟨w5.heap.size, 1, none⟩) (by dsimp only; omega)]; with_reducible assumption) | (rw [cell_two (N := w.heap.size + 1 + 1 + 1) (p := ⟨w5.heap.size, 1, none⟩) (by dsimp only; omega), cell_two (N := w.heap.size + 1 + 1) (p := ⟨w5.heap.size, 1, none⟩) (by dsimp only; omega)]; with_reducible assumption)), (by (try rw [World.cell?_drew]); first | with_reducible assumption | (rw [cell_two (N := w.heap.size + 1 + 1) (p := ⟨w.heap.size + 1, 0, none⟩) (by dsimp only; omega)]; with_reducible assumption) | (rw [cell_two (N := w.heap.size + 1 + 1 + 1) (p := ⟨w.heap.size + 1, 0, none⟩) (by dsimp only; omega)]; with_reducible assumption) | (rw [cell_two (N := w.heap.size + 1 + 1) (p := ⟨w.heap.size + 1, 0, none⟩) (by dsimp only; omega), cell_two (N := w.heap.size + 1 + 1 + 1) (p := ⟨w.heap.size + 1, 0, none⟩) (by dsimp only; omega)]; with_reducible assumption) | (rw [cell_two (N := w.heap.size + 1 + 1 + 1) (p := ⟨w.heap.size + 1, 0, none⟩) (by dsimp only; omega), cell_two (N := w.heap.size + 1 + 1) (p := ⟨w.heap.size + 1, 0, none⟩) (by dsimp only; omega)]; with_reducible assumption)), (by (try rw [World.cell?_drew]); first | with_reducible assumption | (rw [cell_two (N := w.heap.size + 1 + 1) (p := ⟨w.heap.size + 1, 1, none⟩) (by dsimp only; omega)]; with_reducible assumption) | (rw [cell_two (N := w.heap.size + 1 + 1 + 1) (p := ⟨w.heap.size + 1, 1, none⟩) (by dsimp only; omega)]; with_reducible assumption) | (rw [cell_two (N := w.heap.size + 1 + 1) (p := ⟨w.heap.size + 1, 1, none⟩) (by dsimp only; omega), cell_two (N := w.heap.size + 1 + 1 + 1) (p := ⟨w.heap.size + 1, 1, none⟩) (by dsimp only; omega)]; with_reducible assumption) | (rw [cell_two (N := w.heap.size + 1 + 1 + 1) (p := ⟨w.heap.size + 1, 1, none⟩) (by dsimp only; omega), cell_two (N := w.heap.size + 1 + 1) (p := ⟨w.heap.size + 1, 1, none⟩) (by dsimp only; omega)]; with_reducible assumption))⟩)
        (first
          | (go_at_call 70; refine (fromI 1 _ (by decide) (by decide)).mono ?_; rintro e w7 ⟨v1, rfl, hn1, hbw7r⟩; have hbw7 : Below w6.heap.size w6 w7 := (bl_refl w6).drew.trans hbw7r; have yw7 := hbw7.size; have kQ0 := (hbw7r.cell (p := ⟨w3.heap.size, 0, none⟩) (by dsimp only; rw [World.size_drew]; omega)).trans kQ0; have kQ1 := (hbw7r.cell (p := ⟨w3.heap.size, 1, none⟩) (by dsimp only; rw [World.size_drew]; omega)).trans kQ1; have kS0 := (hbw7r.cell (p := ⟨w5.heap.size, 0, none⟩) (by dsimp only; rw [World.size_drew]; omega)).trans kS0; have kS1 := (hbw7r.cell (p := ⟨w5.heap.size, 1, none⟩) (by dsimp only; rw [World.size_drew]; omega)).trans kS1; have kB0 := (hbw7r.cell (p := ⟨w.heap.size + 1, 0, none⟩) (by dsimp only; rw [World.size_drew]; omega)).trans kB0; have kB1 := (hbw7r.cell (p := ⟨w.heap.size + 1, 1, none⟩) (by dsimp only; rw [World.size_drew]; omega)).trans kB1)
          | (go_at_call 82; refine (sumQ (.agg #[.bool (sgn q), .slice aq' (lms q).length cq']) v1 q 1 _ ⟨aq', cq', rfl, HQ.out.seg.below (hbw7)⟩ hn1.is HLQ.out one_len).mono ?_; rintro e w8 ⟨v2, rfl, hn2, hbw8r⟩; have hbw8 : Below w6.heap.size w6 w8 := bl_trans hbw7 hbw8r; have yw8 := hbw8.size; have kQ0 := (hbw8r.cell (p := ⟨w3.heap.size, 0, none⟩) (by dsimp only; omega)).trans kQ0; have kQ1 := (hbw8r.cell (p := ⟨w3.heap.size, 1, none⟩) (by dsimp only; omega)).trans kQ1; have kS0 := (hbw8r.cell (p := ⟨w5.heap.size, 0, none⟩) (by dsimp only; omega)).trans kS0; have kS1 := (hbw8r.cell (p := ⟨w5.heap.size, 1, none⟩) (by dsimp only; omega)).trans kS1; have kB0 := (hbw8r.cell (p := ⟨w.heap.size + 1, 0, none⟩) (by dsimp only; omega)).trans kB0; have kB1 := (hbw8r.cell (p := ⟨w.heap.size + 1, 1, none⟩) (by dsimp only; omega)).trans kB1; rw [E1.out] at hn2; obtain ⟨a2, c2, rfl, ho2⟩ := hn2; have HO1 := hide ho2; clear ho2)
          | (go_at_call 83; refine (diffQ (.agg #[.bool (sgn r), .slice ar' (lms r).length cr']) (.agg #[.bool (sgn y), .slice b (lms y).length cb]) r y _ ⟨ar', cr', rfl, HR.out.seg.below (hbw8)⟩ ⟨b, cb, rfl, HBB.out.below (hbw8)⟩ HLR.out (by omega)).mono ?_; rintro e w9 ⟨v3, rfl, hn3, hbw9r⟩; have hbw9 : Below w6.heap.size w6 w9 := bl_trans hbw8 hbw9r; have yw9 := hbw9.size; have kQ0 := (hbw9r.cell (p := ⟨w3.heap.size, 0, none⟩) (by dsimp only; omega)).trans kQ0; have kQ1 := (hbw9r.cell (p := ⟨w3.heap.size, 1, none⟩) (by dsimp only; omega)).trans kQ1; have kS0 := (hbw9r.cell (p := ⟨w5.heap.size, 0, none⟩) (by dsimp only; omega)).trans kS0; have kS1 := (hbw9r.cell (p := ⟨w5.heap.size, 1, none⟩) (by dsimp only; omega)).trans kS1; have kB0 := (hbw9r.cell (p := ⟨w.heap.size + 1, 0, none⟩) (by dsimp only; omega)).trans kB0; have kB1 := (hbw9r.cell (p := ⟨w.heap.size + 1, 1, none⟩) (by dsimp only; omega)).trans kB1; rw [E2.out] at hn3; obtain ⟨a3, c3, rfl, ho3⟩ := hn3; have HO3 := hide ho3; have HO2 := hide (HO1.out.below hbw9r); have HAP2 := hide (apart_own HO1.out ho3); clear ho3; have kR0 := (hbw9.cell (p := ⟨w.heap.size + 1 + 1, 0, none⟩) zR).trans kR0; have fR0 := (hbw9.frozen (p := ⟨w.heap.size + 1 + 1, 0, none⟩) zR).trans fR0; have kR1 := (hbw9.cell (p := ⟨w.heap.size + 1 + 1, 1, none⟩) zR).trans kR1; have fR1 := (hbw9.frozen (p := ⟨w.heap.size + 1 + 1, 1, none⟩) zR).trans fR1; have kT0 := (hbw9.cell (p := ⟨w.heap.size + 1 + 1 + 1, 0, none⟩) zT).trans kT0; have fT0 := (hbw9.frozen (p := ⟨w.heap.size + 1 + 1 + 1, 0, none⟩) zT).trans fT0; have kT1 := (hbw9.cell (p := ⟨w.heap.size + 1 + 1 + 1, 1, none⟩) zT).trans kT1; have fT1 := (hbw9.frozen (p := ⟨w.heap.size + 1 + 1 + 1, 1, none⟩) zT).trans fT1))
      all_goals go_wp2_with fail
      all_goals refine bodyPost_ret (v := .tuple #[.agg #[.bool (sgn (x / y)), .slice a2 (lms (x / y)).length c2], .agg #[.bool (sgn (x % y)), .slice a3 (lms (x % y)).length c3]]) (by simp [results, Tryz.results72, go_sem, kR0, kR1, kT0, kT1]) rfl ?_
      all_goals refine ⟨a2, c2, a3, c3, rfl, ?_⟩
      all_goals first | exact fin_two' (N := w.heap.size + 1 + 1) (M := w.heap.size + 1 + 1 + 1) (HO2.out.mono (base' := w6.heap.size) (by have := hbw7.size; omega)) (HO3.out.mono (base' := w6.heap.size) (by have := hbw8.size; omega)) HAP2.out (by omega) (by omega) (by omega) (by omega) (bl_trans HB.out hbw9) _ _ _ _ | exact fin_drew (fin_two' (N := w.heap.size + 1 + 1) (M := w.heap.size + 1 + 1 + 1) (HO2.out.mono (base' := w6.heap.size) (by have := hbw7.size; omega)) (HO3.out.mono (base' := w6.heap.size) (by have := hbw8.size; omega)) HAP2.out (by omega) (by omega) (by omega) (by omega) (bl_trans HB.out hbw9) _ _ _ _)
    · have hsy : sgn y = false := decide_eq_false hy0
      have E1 := hide (HDB.out.2 (by omega)).1
      have E2 := hide (HDB.out.2 (by omega)).2
      clear HDB
      go_upto_region 8 with fail
      clear hsr hsy
      go_region_held3 (fun w' => w'.cell? ⟨w3.heap.size, 0, none⟩ = some (Value.bool (sgn (q))) ∧ w'.cell? ⟨w3.heap.size, 1, none⟩ = some (Value.slice aq' (lms (q)).length cq') ∧ w'.cell? ⟨w5.heap.size, 0, none⟩ = some (Value.bool (sgn (r))) ∧ w'.cell? ⟨w5.heap.size, 1, none⟩ = some (Value.slice ar' (lms (r)).length cr') ∧ w'.cell? ⟨w.heap.size + 1, 0, none⟩ = some (Value.bool (sgn y)) ∧ w'.cell? ⟨w.heap.size + 1, 1, none⟩ = some (Value.slice b (lms y).length cb))
        (first
          | exact ⟨(by (try rw [World.cell?_drew]); first | with_reducible assumption | (rw [cell_two (N := w.heap.size + 1 + 1) (p := ⟨w3.heap.size, 0, none⟩) (by dsimp only; omega)]; with_reducible assumption) | (rw [cell_two (N := w.heap.size + 1 + 1 + 1) (p := ⟨w3.heap.size, 0, none⟩) (by dsimp only; omega)]; with_reducible assumption) | (rw [cell_two (N := w.heap.size + 1 + 1) (p := ⟨w3.heap.size, 0, none⟩) (by dsimp only; omega), cell_two (N := w.heap.size + 1 + 1 + 1) (p := ⟨w3.heap.size, 0, none⟩) (by dsimp only; omega)]; with_reducible assumption) | (rw [cell_two (N := w.heap.size + 1 + 1 + 1) (p := ⟨w3.heap.size, 0, none⟩) (by dsimp only; omega), cell_two (N := w.heap.size + 1 + 1) (p := ⟨w3.heap.size, 0, none⟩) (by dsimp only; omega)]; with_reducible assumption)), (by (try rw [World.cell?_drew]); first | with_reducible assumption | (rw [cell_two (N := w.heap.size + 1 + 1) (p := ⟨w3.heap.size, 1, none⟩) (by dsimp only; omega)]; with_reducible assumption) | (rw [cell_two (N := w.heap.size + 1 + 1 + 1) (p := ⟨w3.heap.size, 1, none⟩) (by dsimp only; omega)]; with_reducible assumption) | (rw [cell_two (N := w.heap.size + 1 + 1) (p := ⟨w3.heap.size, 1, none⟩) (by dsimp only; omega), cell_two (N := w.heap.size + 1 + 1 + 1) (p := ⟨w3.heap.size, 1, none⟩) (by dsimp only; omega)]; with_reducible assumption) | (rw [cell_two (N := w.heap.size + 1 + 1 + 1) (p := ⟨w3.heap.size, 1, none⟩) (by dsimp only; omega), cell_two (N := w.heap.size + 1 + 1) (p := ⟨w3.heap.size, 1, none⟩) (by dsimp only; omega)]; with_reducible assumption)), (by (try rw [World.cell?_drew]); first | with_reducible assumption | (rw [cell_two (N := w.heap.size + 1 + 1) (p := ⟨w5.heap.size, 0, none⟩) (by dsimp only; omega)]; with_reducible assumption) | (rw [cell_two (N := w.heap.size + 1 + 1 + 1) (p := ⟨w5.heap.size, 0, none⟩) (by dsimp only; omega)]; with_reducible assumption) | (rw [cell_two (N := w.heap.size + 1 + 1) (p := ⟨w5.heap.size, 0, none⟩) (by dsimp only; omega), cell_two (N := w.heap.size + 1 + 1 + 1) (p := ⟨w5.heap.size, 0, none⟩) (by dsimp only; omega)]; with_reducible assumption) | (rw [cell_two (N := w.heap.size + 1 + 1 + 1) (p := ⟨w5.heap.size, 0, none⟩) (by dsimp only; omega), cell_two (N := w.heap.size + 1 + 1) (p := ⟨w5.heap.size, 0, none⟩) (by dsimp only; omega)]; with_reducible assumption)), (by (try rw [World.cell?_drew]); first | with_reducible assumption | (rw [cell_two (N := w.heap.size + 1 + 1) (p := ⟨w5.heap.size, 1, none⟩) (by dsimp only; omega)]; with_reducible assumption) | (rw [cell_two (N := w.heap.size + 1 + 1 + 1) (p := ⟨w5.heap.size, 1, none⟩) (by dsimp only; omega)]; with_reducible assumption) | (rw [cell_two (N := w.heap.size + 1 + 1) (p := ⟨w5.heap.size, 1, none⟩) (by dsimp only; omega), cell_two (N := w.heap.size + 1 + 1 + 1) (p := ⟨w5.heap.size, 1, none⟩) (by dsimp only; omega)]; with_reducible assumption) | (rw [cell_two (N := w.heap.size + 1 + 1 + 1) (p := ⟨w5.heap.size, 1, none⟩) (by dsimp only; omega), cell_two (N := w.heap.size + 1 + 1) (p := ⟨w5.heap.size, 1, none⟩) (by dsimp only; omega)]; with_reducible assumption)), (by (try rw [World.cell?_drew]); first | with_reducible assumption | (rw [cell_two (N := w.heap.size + 1 + 1) (p := ⟨w.heap.size + 1, 0, none⟩) (by dsimp only; omega)]; with_reducible assumption) | (rw [cell_two (N := w.heap.size + 1 + 1 + 1) (p := ⟨w.heap.size + 1, 0, none⟩) (by dsimp only; omega)]; with_reducible assumption) | (rw [cell_two (N := w.heap.size + 1 + 1) (p := ⟨w.heap.size + 1, 0, none⟩) (by dsimp only; omega), cell_two (N := w.heap.size + 1 + 1 + 1) (p := ⟨w.heap.size + 1, 0, none⟩) (by dsimp only; omega)]; with_reducible assumption) | (rw [cell_two (N := w.heap.size + 1 + 1 + 1) (p := ⟨w.heap.size + 1, 0, none⟩) (by dsimp only; omega), cell_two (N := w.heap.size + 1 + 1) (p := ⟨w.heap.size + 1, 0, none⟩) (by dsimp only; omega)]; with_reducible assumption)), (by (try rw [World.cell?_drew]); first | with_reducible assumption | (rw [cell_two (N := w.heap.size + 1 + 1) (p := ⟨w.heap.size + 1, 1, none⟩) (by dsimp only; omega)]; with_reducible assumption) | (rw [cell_two (N := w.heap.size + 1 + 1 + 1) (p := ⟨w.heap.size + 1, 1, none⟩) (by dsimp only; omega)]; with_reducible assumption) | (rw [cell_two (N := w.heap.size + 1 + 1) (p := ⟨w.heap.size + 1, 1, none⟩) (by dsimp only; omega), cell_two (N := w.heap.size + 1 + 1 + 1) (p := ⟨w.heap.size + 1, 1, none⟩) (by dsimp only; omega)]; with_reducible assumption) | (rw [cell_two (N := w.heap.size + 1 + 1 + 1) (p := ⟨w.heap.size + 1, 1, none⟩) (by dsimp only; omega), cell_two (N := w.heap.size + 1 + 1) (p := ⟨w.heap.size + 1, 1, none⟩) (by dsimp only; omega)]; with_reducible assumption))⟩)
        (first
          | (go_at_call 70; refine (fromI 1 _ (by decide) (by decide)).mono ?_; rintro e w7 ⟨v1, rfl, hn1, hbw7r⟩; have hbw7 : Below w6.heap.size w6 w7 := (bl_refl w6).drew.trans hbw7r; have yw7 := hbw7.size; have kQ0 := (hbw7r.cell (p := ⟨w3.heap.size, 0, none⟩) (by dsimp only; rw [World.size_drew]; omega)).trans kQ0; have kQ1 := (hbw7r.cell (p := ⟨w3.heap.size, 1, none⟩) (by dsimp only; rw [World.size_drew]; omega)).trans kQ1; have kS0 := (hbw7r.cell (p := ⟨w5.heap.size, 0, none⟩) (by dsimp only; rw [World.size_drew]; omega)).trans kS0; have kS1 := (hbw7r.cell (p := ⟨w5.heap.size, 1, none⟩) (by dsimp only; rw [World.size_drew]; omega)).trans kS1; have kB0 := (hbw7r.cell (p := ⟨w.heap.size + 1, 0, none⟩) (by dsimp only; rw [World.size_drew]; omega)).trans kB0; have kB1 := (hbw7r.cell (p := ⟨w.heap.size + 1, 1, none⟩) (by dsimp only; rw [World.size_drew]; omega)).trans kB1)
          | (go_at_call 83; refine (diffQ (.agg #[.bool (sgn q), .slice aq' (lms q).length cq']) v1 q 1 _ ⟨aq', cq', rfl, HQ.out.seg.below (hbw7)⟩ hn1.is HLQ.out one_len).mono ?_; rintro e w8 ⟨v2, rfl, hn2, hbw8r⟩; have hbw8 : Below w6.heap.size w6 w8 := bl_trans hbw7 hbw8r; have yw8 := hbw8.size; have kQ0 := (hbw8r.cell (p := ⟨w3.heap.size, 0, none⟩) (by dsimp only; omega)).trans kQ0; have kQ1 := (hbw8r.cell (p := ⟨w3.heap.size, 1, none⟩) (by dsimp only; omega)).trans kQ1; have kS0 := (hbw8r.cell (p := ⟨w5.heap.size, 0, none⟩) (by dsimp only; omega)).trans kS0; have kS1 := (hbw8r.cell (p := ⟨w5.heap.size, 1, none⟩) (by dsimp only; omega)).trans kS1; have kB0 := (hbw8r.cell (p := ⟨w.heap.size + 1, 0, none⟩) (by dsimp only; omega)).trans kB0; have kB1 := (hbw8r.cell (p := ⟨w.heap.size + 1, 1, none⟩) (by dsimp only; omega)).trans kB1; rw [E1.out] at hn2; obtain ⟨a2, c2, rfl, ho2⟩ := hn2; have HO1 := hide ho2; clear ho2)
          | (go_at_call 82; refine (sumQ (.agg #[.bool (sgn r), .slice ar' (lms r).length cr']) (.agg #[.bool (sgn y), .slice b (lms y).length cb]) r y _ ⟨ar', cr', rfl, HR.out.seg.below (hbw8)⟩ ⟨b, cb, rfl, HBB.out.below (hbw8)⟩ HLR.out (by omega)).mono ?_; rintro e w9 ⟨v3, rfl, hn3, hbw9r⟩; have hbw9 : Below w6.heap.size w6 w9 := bl_trans hbw8 hbw9r; have yw9 := hbw9.size; have kQ0 := (hbw9r.cell (p := ⟨w3.heap.size, 0, none⟩) (by dsimp only; omega)).trans kQ0; have kQ1 := (hbw9r.cell (p := ⟨w3.heap.size, 1, none⟩) (by dsimp only; omega)).trans kQ1; have kS0 := (hbw9r.cell (p := ⟨w5.heap.size, 0, none⟩) (by dsimp only; omega)).trans kS0; have kS1 := (hbw9r.cell (p := ⟨w5.heap.size, 1, none⟩) (by dsimp only; omega)).trans kS1; have kB0 := (hbw9r.cell (p := ⟨w.heap.size + 1, 0, none⟩) (by dsimp only; omega)).trans kB0; have kB1 := (hbw9r.cell (p := ⟨w.heap.size + 1, 1, none⟩) (by dsimp only; omega)).trans kB1; rw [E2.out] at hn3; obtain ⟨a3, c3, rfl, ho3⟩ := hn3; have HO3 := hide ho3; have HO2 := hide (HO1.out.below hbw9r); have HAP2 := hide (apart_own HO1.out ho3); clear ho3; have kR0 := (hbw9.cell (p := ⟨w.heap.size + 1 + 1, 0, none⟩) zR).trans kR0; have fR0 := (hbw9.frozen (p := ⟨w.heap.size + 1 + 1, 0, none⟩) zR).trans fR0; have kR1 := (hbw9.cell (p := ⟨w.heap.size + 1 + 1, 1, none⟩) zR).trans kR1; have fR1 := (hbw9.frozen (p := ⟨w.heap.size + 1 + 1, 1, none⟩) zR).trans fR1; have kT0 := (hbw9.cell (p := ⟨w.heap.size + 1 + 1 + 1, 0, none⟩) zT).trans kT0; have fT0 := (hbw9.frozen (p := ⟨w.heap.size + 1 + 1 + 1, 0, none⟩) zT).trans fT0; have kT1 := (hbw9.cell (p := ⟨w.heap.size + 1 + 1 + 1, 1, none⟩) zT).trans kT1; have fT1 := (hbw9.frozen (p := ⟨w.heap.size + 1 + 1 + 1, 1, none⟩) zT).trans fT1))
      all_goals go_wp2_with fail
      all_goals refine bodyPost_ret (v := .tuple #[.agg #[.bool (sgn (x / y)), .slice a2 (lms (x / y)).length c2], .agg #[.bool (sgn (x % y)), .slice a3 (lms (x % y)).length c3]]) (by simp [results, Tryz.results72, go_sem, kR0, kR1, kT0, kT1]) rfl ?_
      all_goals refine ⟨a2, c2, a3, c3, rfl, ?_⟩
      all_goals first | exact fin_two' (N := w.heap.size + 1 + 1) (M := w.heap.size + 1 + 1 + 1) (HO2.out.mono (base' := w6.heap.size) (by have := hbw7.size; omega)) (HO3.out.mono (base' := w6.heap.size) (by have := hbw8.size; omega)) HAP2.out (by omega) (by omega) (by omega) (by omega) (bl_trans HB.out hbw9) _ _ _ _ | exact fin_drew (fin_two' (N := w.heap.size + 1 + 1) (M := w.heap.size + 1 + 1 + 1) (HO2.out.mono (base' := w6.heap.size) (by have := hbw7.size; omega)) (HO3.out.mono (base' := w6.heap.size) (by have := hbw8.size; omega)) HAP2.out (by omega) (by omega) (by omega) (by omega) (bl_trans HB.out hbw9) _ _ _ _)
  · have hsr : sgn (mk (sgn x) (x.natAbs % y.natAbs)) = false := decide_eq_false hr
    obtain ⟨e1, e2⟩ := div_same x y hy (rest_pos hr).1
    have e3 : mk (sgn x) (x.natAbs % y.natAbs) = x % y := by rw [e2]; exact (rest_pos hr).2
    have HE1 := hide e1
    have HE2 := hide e3
    clear e1 e2 e3 hr
    generalize mk (!sgn x == sgn y) (x.natAbs / y.natAbs) = q at *
    generalize mk (sgn x) (x.natAbs % y.natAbs) = r at *
    go_upto_region 5 with fail
    clear hsr
    have hq' := HE2.out; subst hq'
    have hq' := HE1.out.symm; subst hq'
    clear HE1 HE2
    go_region_held3 (fun w' => w'.cell? ⟨w3.heap.size, 0, none⟩ = some (Value.bool (sgn (x / y))) ∧ w'.cell? ⟨w3.heap.size, 1, none⟩ = some (Value.slice aq' (lms (x / y)).length cq') ∧ w'.cell? ⟨w5.heap.size, 0, none⟩ = some (Value.bool (sgn (x % y))) ∧ w'.cell? ⟨w5.heap.size, 1, none⟩ = some (Value.slice ar' (lms (x % y)).length cr'))
      (first
        | exact ⟨(by (try rw [World.cell?_drew]); first | with_reducible assumption | (rw [cell_two (N := w.heap.size + 1 + 1) (p := ⟨w3.heap.size, 0, none⟩) (by dsimp only; omega)]; with_reducible assumption) | (rw [cell_two (N := w.heap.size + 1 + 1 + 1) (p := ⟨w3.heap.size, 0, none⟩) (by dsimp only; omega)]; with_reducible assumption) | (rw [cell_two (N := w.heap.size + 1 + 1) (p := ⟨w3.heap.size, 0, none⟩) (by dsimp only; omega), cell_two (N := w.heap.size + 1 + 1 + 1) (p := ⟨w3.heap.size, 0, none⟩) (by dsimp only; omega)]; with_reducible assumption) | (rw [cell_two (N := w.heap.size + 1 + 1 + 1) (p := ⟨w3.heap.size, 0, none⟩) (by dsimp only; omega), cell_two (N := w.heap.size + 1 + 1) (p := ⟨w3.heap.size, 0, none⟩) (by dsimp only; omega)]; with_reducible assumption)), (by (try rw [World.cell?_drew]); first | with_reducible assumption | (rw [cell_two (N := w.heap.size + 1 + 1) (p := ⟨w3.heap.size, 1, none⟩) (by dsimp only; omega)]; with_reducible assumption) | (rw [cell_two (N := w.heap.size + 1 + 1 + 1) (p := ⟨w3.heap.size, 1, none⟩) (by dsimp only; omega)]; with_reducible assumption) | (rw [cell_two (N := w.heap.size + 1 + 1) (p := ⟨w3.heap.size, 1, none⟩) (by dsimp only; omega), cell_two (N := w.heap.size + 1 + 1 + 1) (p := ⟨w3.heap.size, 1, none⟩) (by dsimp only; omega)]; with_reducible assumption) | (rw [cell_two (N := w.heap.size + 1 + 1 + 1) (p := ⟨w3.heap.size, 1, none⟩) (by dsimp only; omega), cell_two (N := w.heap.size + 1 + 1) (p := ⟨w3.heap.size, 1, none⟩) (by dsimp only; omega)]; with_reducible assumption)), (by (try rw [World.cell?_drew]); first | with_reducible assumption | (rw [cell_two (N := w.heap.size + 1 + 1) (p := ⟨w5.heap.size, 0, none⟩) (by dsimp only; omega)]; with_reducible assumption) | (rw [cell_two (N := w.heap.size + 1 + 1 + 1) (p := ⟨w5.heap.size, 0, none⟩) (by dsimp only; omega)]; with_reducible assumption) | (rw [cell_two (N := w.heap.size + 1 + 1) (p := ⟨w5.heap.size, 0, none⟩) (by dsimp only; omega), cell_two (N := w.heap.size + 1 + 1 + 1) (p := ⟨w5.heap.size, 0, none⟩) (by dsimp only; omega)]; with_reducible assumption) | (rw [cell_two (N := w.heap.size + 1 + 1 + 1) (p := ⟨w5.heap.size, 0, none⟩) (by dsimp only; omega), cell_two (N := w.heap.size + 1 + 1) (p := ⟨w5.heap.size, 0, none⟩) (by dsimp only; omega)]; with_reducible assumption)), (by (try rw [World.cell?_drew]); first | with_reducible assumption | (rw [cell_two (N := w.heap.size + 1 + 1) (p := ⟨w5.heap.size, 1, none⟩) (by dsimp only; omega)]; with_reducible assumption) | (rw [cell_two (N := w.heap.size + 1 + 1 + 1) (p := ⟨w5.heap.size, 1, none⟩) (by dsimp only; omega)]; with_reducible assumption) | (rw [cell_two (N := w.heap.size + 1 + 1) (p := ⟨w5.heap.size, 1, none⟩) (by dsimp only; omega), cell_two (N := w.heap.size + 1 + 1 + 1) (p := ⟨w5.heap.size, 1, none⟩) (by dsimp only; omega)]; with_reducible assumption) | (rw [cell_two (N := w.heap.size + 1 + 1 + 1) (p := ⟨w5.heap.size, 1, none⟩) (by dsimp only; omega), cell_two (N := w.heap.size + 1 + 1) (p := ⟨w5.heap.size, 1, none⟩) (by dsimp only; omega)]; with_reducible assumption))⟩)
      (fail)
    all_goals go_wp2_with fail
    all_goals refine bodyPost_ret (v := .tuple #[.agg #[.bool (sgn (x / y)), .slice aq' (lms (x / y)).length cq'], .agg #[.bool (sgn (x % y)), .slice ar' (lms (x % y)).length cr']]) (by simp [results, Tryz.results72, go_sem, kR0, kR1, kT0, kT1]) rfl ?_
    all_goals refine ⟨aq', cq', ar', cr', rfl, ?_⟩
    all_goals first | exact fin_two' (N := w.heap.size + 1 + 1) (M := w.heap.size + 1 + 1 + 1) HQ.out HR.out HAP.out (by omega) (by omega) (by omega) (by omega) HB.out _ _ _ _ | exact fin_drew (fin_two' (N := w.heap.size + 1 + 1) (M := w.heap.size + 1 + 1 + 1) HQ.out HR.out HAP.out (by omega) (by omega) (by omega) (by omega) HB.out _ _ _ _)
end Go.Proofs.YtlknhheafmifnaaGreatDoor

/- The walks of what the laws ask of fractions: sizes, copies, whether two are alike, marks written, marks held. -/
namespace Go.Proofs.YtlknhheafmifnaaGreatDoor
open Go.RowKit
set_option linter.unusedVariables false

theorem Apart.symm {a b : Option Addr} (h : Apart a b) : Apart b a := fun _ _ _ _ _ _ h1 h2 e => h _ _ _ _ _ _ h2 h1 e.symm

end Go.Proofs.YtlknhheafmifnaaGreatDoor

/- Two numbers in two boxes that are stored into in a loop, and a third box for the answer. -/
namespace Go.Proofs.YtlknhheafmifnaaGreatDoor
open Go.RowKit
set_option linter.unusedVariables false

structure GSt (w W : World) (N M R : Nat) (base : Nat) (p q : Int) (ap : Option Addr) (cp : Nat) (aq : Option Addr) (cq : Nat) : Prop where
  kA0 : W.cell? ⟨N, 0, none⟩ = some (.bool (sgn p))
  kA1 : W.cell? ⟨N, 1, none⟩ = some (.slice ap (lms p).length cp)
  kB0 : W.cell? ⟨M, 0, none⟩ = some (.bool (sgn q))
  kB1 : W.cell? ⟨M, 1, none⟩ = some (.slice aq (lms q).length cq)
  kR0 : W.cell? ⟨R, 0, none⟩ = some (.bool false)
  kR1 : W.cell? ⟨R, 1, none⟩ = some (.slice none 0 0)
  fA0 : W.frozen? ⟨N, 0, none⟩ = false
  fA1 : W.frozen? ⟨N, 1, none⟩ = false
  fB0 : W.frozen? ⟨M, 0, none⟩ = false
  fB1 : W.frozen? ⟨M, 1, none⟩ = false
  fR0 : W.frozen? ⟨R, 0, none⟩ = false
  fR1 : W.frozen? ⟨R, 1, none⟩ = false
  zN : N < base
  zM : M < base
  zR : R < base
  zB : base ≤ W.heap.size
  oA : Own W base ap (lms p).length cp (lms p)
  oB : Own W base aq (lms q).length cq (lms q)
  bel : Below w.heap.size w W
theorem GSt.below {w W W' : World} {N M R base : Nat} {p q : Int} {ap aq : Option Addr} {cp cq : Nat} (h : GSt w W N M R base p q ap cp aq cq) (hb : Below W.heap.size W W') : GSt w W' N M R base p q ap cp aq cq := by
  obtain ⟨a, b, c, d, e, f, g, h, i, j, k, l, zN, zM, zR, zB, o1, o2, bl⟩ := h
  have n1 : N < W.heap.size := by omega
  have n2 : M < W.heap.size := by omega
  have n3 : R < W.heap.size := by omega
  have := hb.size
  exact ⟨(hb.cell (p := ⟨N, 0, none⟩) n1).trans a, (hb.cell (p := ⟨N, 1, none⟩) n1).trans b, (hb.cell (p := ⟨M, 0, none⟩) n2).trans c, (hb.cell (p := ⟨M, 1, none⟩) n2).trans d, (hb.cell (p := ⟨R, 0, none⟩) n3).trans e, (hb.cell (p := ⟨R, 1, none⟩) n3).trans f,
    (hb.frozen (p := ⟨N, 0, none⟩) n1).trans g, (hb.frozen (p := ⟨N, 1, none⟩) n1).trans h, (hb.frozen (p := ⟨M, 0, none⟩) n2).trans i, (hb.frozen (p := ⟨M, 1, none⟩) n2).trans j, (hb.frozen (p := ⟨R, 0, none⟩) n3).trans k, (hb.frozen (p := ⟨R, 1, none⟩) n3).trans l,
    zN, zM, zR, by omega, o1.below hb, o2.below hb, bl_trans bl hb⟩
/-- a new number is stored in the first box -/
theorem GSt.set1 {w W : World} {N M R base : Nat} {p q r : Int} {ap aq ar : Option Addr} {cp cq cr : Nat} (h : GSt w W N M R base p q ap cp aq cq) (ho : Own W base ar (lms r).length cr (lms r)) (hN : w.heap.size ≤ N) (h1 : N ≠ M) (h2 : N ≠ R) :
    GSt w ((W.setCell ⟨N, 0, none⟩ (.bool (sgn r))).setCell ⟨N, 1, none⟩ (.slice ar (lms r).length cr)) N M R base r q ar cr aq cq := by
  obtain ⟨a, b, c, d, e, f, g, h, i, j, k, l, zN, zM, zR, zB, o1, o2, bl⟩ := h
  refine ⟨by go_simp, by go_simp, (cell_two (N := N) (p := ⟨M, 0, none⟩) (Ne.symm h1)).trans c, (cell_two (N := N) (p := ⟨M, 1, none⟩) (Ne.symm h1)).trans d, (cell_two (N := N) (p := ⟨R, 0, none⟩) (Ne.symm h2)).trans e, (cell_two (N := N) (p := ⟨R, 1, none⟩) (Ne.symm h2)).trans f,
    by simp [g], by simp [h], by simp [i], by simp [j], by simp [k], by simp [l], zN, zM, zR, by simp; omega, (ho.setCell (p := ⟨N, 0, none⟩) zN _).setCell (p := ⟨N, 1, none⟩) zN _, (o2.setCell (p := ⟨N, 0, none⟩) zN _).setCell (p := ⟨N, 1, none⟩) zN _, (bl.setCell (p := ⟨N, 0, none⟩) hN _).setCell (p := ⟨N, 1, none⟩) hN _⟩
/-- and in the second -/
theorem GSt.set2 {w W : World} {N M R base : Nat} {p q r : Int} {ap aq ar : Option Addr} {cp cq cr : Nat} (h : GSt w W N M R base p q ap cp aq cq) (ho : Own W base ar (lms r).length cr (lms r)) (hM : w.heap.size ≤ M) (h1 : M ≠ N) (h2 : M ≠ R) :
    GSt w ((W.setCell ⟨M, 0, none⟩ (.bool (sgn r))).setCell ⟨M, 1, none⟩ (.slice ar (lms r).length cr)) N M R base p r ap cp ar cr := by
  obtain ⟨a, b, c, d, e, f, g, h, i, j, k, l, zN, zM, zR, zB, o1, o2, bl⟩ := h
  refine ⟨(cell_two (N := M) (p := ⟨N, 0, none⟩) (Ne.symm h1)).trans a, (cell_two (N := M) (p := ⟨N, 1, none⟩) (Ne.symm h1)).trans b, by go_simp, by go_simp, (cell_two (N := M) (p := ⟨R, 0, none⟩) (Ne.symm h2)).trans e, (cell_two (N := M) (p := ⟨R, 1, none⟩) (Ne.symm h2)).trans f,
    by simp [g], by simp [h], by simp [i], by simp [j], by simp [k], by simp [l], zN, zM, zR, by simp; omega, (o1.setCell (p := ⟨M, 0, none⟩) zM _).setCell (p := ⟨M, 1, none⟩) zM _, (ho.setCell (p := ⟨M, 0, none⟩) zM _).setCell (p := ⟨M, 1, none⟩) zM _, (bl.setCell (p := ⟨M, 0, none⟩) hM _).setCell (p := ⟨M, 1, none⟩) hM _⟩
/-- the first number is stored in the answer's box -/
theorem GSt.fin {w W : World} {N M R base : Nat} {p q : Int} {ap aq : Option Addr} {cp cq : Nat} (h : GSt w W N M R base p q ap cp aq cq) (hR : w.heap.size ≤ R) (x y : Value) :
    New ((W.setCell ⟨R, 0, none⟩ x).setCell ⟨R, 1, none⟩ y) w.heap.size (.agg #[.bool (sgn p), .slice ap (lms p).length cp]) p ∧ Below w.heap.size w ((W.setCell ⟨R, 0, none⟩ x).setCell ⟨R, 1, none⟩ y) := by
  have hb := h.zR
  exact ⟨⟨ap, cp, rfl, ((h.oA.setCell (p := ⟨R, 0, none⟩) hb x).setCell (p := ⟨R, 1, none⟩) hb y).mono (by omega)⟩, (h.bel.setCell (p := ⟨R, 0, none⟩) hR x).setCell (p := ⟨R, 1, none⟩) hR y⟩
/-- both numbers are stored in boxes that are there -/
theorem gst_init {w W : World} {N M R base : Nat} {p q : Int} {ap aq : Option Addr} {cp cq : Nat} {u0 u1 u2 u3 : Value} (cA0 : W.cell? ⟨N, 0, none⟩ = some u0) (cA1 : W.cell? ⟨N, 1, none⟩ = some u1) (cB0 : W.cell? ⟨M, 0, none⟩ = some u2) (cB1 : W.cell? ⟨M, 1, none⟩ = some u3)
    (kR0 : W.cell? ⟨R, 0, none⟩ = some (.bool false)) (kR1 : W.cell? ⟨R, 1, none⟩ = some (.slice none 0 0)) (fA0 : W.frozen? ⟨N, 0, none⟩ = false) (fA1 : W.frozen? ⟨N, 1, none⟩ = false) (fB0 : W.frozen? ⟨M, 0, none⟩ = false) (fB1 : W.frozen? ⟨M, 1, none⟩ = false) (fR0 : W.frozen? ⟨R, 0, none⟩ = false) (fR1 : W.frozen? ⟨R, 1, none⟩ = false)
    (zN : N < base) (zM : M < base) (zR : R < base) (zB : base ≤ W.heap.size) (oA : Own W base ap (lms p).length cp (lms p)) (oB : Own W base aq (lms q).length cq (lms q)) (bl : Below w.heap.size w W) (hN : w.heap.size ≤ N) (hM : w.heap.size ≤ M) (h1 : N ≠ M) (h2 : N ≠ R) (h3 : M ≠ R) :
    GSt w ((((W.setCell ⟨N, 0, none⟩ (.bool (sgn p))).setCell ⟨N, 1, none⟩ (.slice ap (lms p).length cp)).setCell ⟨M, 0, none⟩ (.bool (sgn q))).setCell ⟨M, 1, none⟩ (.slice aq (lms q).length cq)) N M R base p q ap cp aq cq := by
  have e1 : ((W.setCell ⟨N, 0, none⟩ (.bool (sgn p))).setCell ⟨N, 1, none⟩ (.slice ap (lms p).length cp)).cell? ⟨N, 0, none⟩ = some (.bool (sgn p)) := by go_simp
  have e2 : ((W.setCell ⟨N, 0, none⟩ (.bool (sgn p))).setCell ⟨N, 1, none⟩ (.slice ap (lms p).length cp)).cell? ⟨N, 1, none⟩ = some (.slice ap (lms p).length cp) := by go_simp
  have e3 := (cell_two (w := W) (N := N) (x := .bool (sgn p)) (y := .slice ap (lms p).length cp) (p := ⟨M, 0, none⟩) (Ne.symm h1)).trans cB0
  have e4 := (cell_two (w := W) (N := N) (x := .bool (sgn p)) (y := .slice ap (lms p).length cp) (p := ⟨M, 1, none⟩) (Ne.symm h1)).trans cB1
  have e5 := (cell_two (w := W) (N := N) (x := .bool (sgn p)) (y := .slice ap (lms p).length cp) (p := ⟨R, 0, none⟩) (Ne.symm h2)).trans kR0
  have e6 := (cell_two (w := W) (N := N) (x := .bool (sgn p)) (y := .slice ap (lms p).length cp) (p := ⟨R, 1, none⟩) (Ne.symm h2)).trans kR1
  have oA' := (oA.setCell (p := ⟨N, 0, none⟩) zN (.bool (sgn p))).setCell (p := ⟨N, 1, none⟩) zN (.slice ap (lms p).length cp)
  have oB' := (oB.setCell (p := ⟨N, 0, none⟩) zN (.bool (sgn p))).setCell (p := ⟨N, 1, none⟩) zN (.slice ap (lms p).length cp)
  have bl' := (bl.setCell (p := ⟨N, 0, none⟩) hN (.bool (sgn p))).setCell (p := ⟨N, 1, none⟩) hN (.slice ap (lms p).length cp)
  have g1 : ∀ a, ((W.setCell ⟨N, 0, none⟩ (.bool (sgn p))).setCell ⟨N, 1, none⟩ (.slice ap (lms p).length cp)).frozen? a = W.frozen? a := fun a => by rw [World.frozen?_setCell, World.frozen?_setCell]
  have z2 : base ≤ ((W.setCell ⟨N, 0, none⟩ (.bool (sgn p))).setCell ⟨N, 1, none⟩ (.slice ap (lms p).length cp)).heap.size := by simp; omega
  generalize ((W.setCell ⟨N, 0, none⟩ (.bool (sgn p))).setCell ⟨N, 1, none⟩ (.slice ap (lms p).length cp)) = V at *
  exact ⟨(cell_two (N := M) (p := ⟨N, 0, none⟩) h1).trans e1, (cell_two (N := M) (p := ⟨N, 1, none⟩) h1).trans e2, by go_simp, by go_simp, (cell_two (N := M) (p := ⟨R, 0, none⟩) (Ne.symm h3)).trans e5, (cell_two (N := M) (p := ⟨R, 1, none⟩) (Ne.symm h3)).trans e6,
    by simp [g1, fA0], by simp [g1, fA1], by simp [g1, fB0], by simp [g1, fB1], by simp [g1, fR0], by simp [g1, fR1], zN, zM, zR, by simp; omega, (oA'.setCell (p := ⟨M, 0, none⟩) zM _).setCell (p := ⟨M, 1, none⟩) zM _, (oB'.setCell (p := ⟨M, 0, none⟩) zM _).setCell (p := ⟨M, 1, none⟩) zM _, (bl'.setCell (p := ⟨M, 0, none⟩) hM _).setCell (p := ⟨M, 1, none⟩) hM _⟩
end Go.Proofs.YtlknhheafmifnaaGreatDoor

/- The walk of l02Long: limbs divided by limbs in the specification's way; and append over lists of limbs. -/
namespace Go.Proofs.YtlknhheafmifnaaGreatDoor
open Go.RowKit
set_option linter.unusedVariables false

theorem wp_app {w : World} {ops : Array Oper} {rest : List Oper} {o : Oper} {a : Act} {Q : Exit → Act → World → Prop} (hgd : o.guard = none) (s x : Operand)
    (ho : o.op = .call { callee := .builtin .append, args := #[s, x], argTypes := #[22, 22] }) (base : Nat) (a0 : Option Addr) (n cs : Nat) (xs : List Nat) (hs : a.eval s = .slice a0 n cs) (hown : Own w base a0 n cs xs)
    (ax : Option Addr) (m cx : Nat) (ys : List Nat) (hx : a.eval x = .slice ax m cx) (hseg : Seg w ax m cx ys) (hnil : ax = none → cx = 0) (h63 : n + m ≤ 1000000) (hbase : base ≤ w.heap.size)
    (h : ∀ a' c' w', Own w' base a' (n + m) c' (xs ++ ys) → w.grownBy w' (Value.slice a0 n cs).ownBlock → wpList Tryz.prog ops Q rest (a.put o.dst (.slice a' (n + m) c')) w') : wpList Tryz.prog ops Q (o :: rest) a w := by
  obtain ⟨i0, hi, hz0, hz1, hz2⟩ := info_parts Tryz.info83
  cases ax with
  | some ad =>
    refine wpList_append_own w hgd s x 22 ho base 83 i0 (.int .u32 0) 1 4 Tryz.underlying22 hi hz0 hz1 hz2 rfl (by decide) _ n (xs.map lim) hs hown.1 ad m cx (ys.map lim) hx (by simp [hseg.1]) ?_ (one_lims _) (by unfold maxLen; omega) (by omega) hbase ?_
    · intro j u hu
      obtain ⟨hj, rfl⟩ := lims_at hu
      rcases hseg.2.2.2.2 with h0 | ⟨g, o, e, hg, hc⟩
      · have := hseg.1; omega
      · cases e
        rw [Addr.add_lit]
        exact hc j hj
    · intro v' w' ho' hg' _
      obtain ⟨a', c', rfl⟩ := row_val ho'
      refine h a' c' w' ⟨by rw [List.map_append]; exact ho', Num.small_append hown.2 hseg.2.2.2.1⟩ hg'
  | none =>
    have hc := hnil rfl
    have h0 : m = 0 := by
      rcases hseg.2.2.2.2 with h0 | ⟨g, o, e, _⟩
      · exact h0
      · cases e
    subst hc
    subst h0
    have hy : ys = [] := List.eq_nil_of_length_eq_zero hseg.1
    subst hy
    refine wpList_plain hgd fun K hK' => ?_
    have hrun := run_append_owned_none (P := Tryz.prog) w base 22 o.type 83 i0 1 Tryz.underlying22 hi _ n (xs.map lim) hown.1
    unfold Oper.wp
    simp [execOp, ho, resolve, invoke, builtin, hs, hx, hrun, Result.andThen]
    exact hK' _ _ (by simpa using h a0 cs w (by simpa using hown) (World.grownBy.refl _ _))

/-- one limb more of a quotient by any number -/
theorem dso_stepB {d : Nat} {xs qs : List Nat} {k r x : Nat} (h : DSo d xs qs (k + 1) r) (hk : k < xs.length) (hx : xs[k] = x) (hxs : x < 4294967296) :
    DSo d xs (qs.set k ((r * 4294967296 + x) / d)) k ((r * 4294967296 + x) % d) := by
  obtain ⟨h1, h2, h3, h4⟩ := h
  have hd : 0 < d := by omega
  refine ⟨by rw [List.length_set]; exact h1, Num.small_set h2 _ _ (quot_lt h3 hxs), Nat.mod_lt _ hd, ?_⟩
  have e1 : (qs.set k ((r * 4294967296 + x) / d)).drop k = ((r * 4294967296 + x) / d) :: qs.drop (k + 1) := by
    rw [List.drop_set, if_neg (by omega), Nat.sub_self, List.drop_eq_getElem_cons (by omega), List.set_cons_zero]
  rw [e1, Num.nat, Num.nat_drop xs k hk, hx, h4]
  have e2 := Nat.div_add_mod (r * 4294967296 + x) d
  generalize (r * 4294967296 + x) / d = q at *
  generalize (r * 4294967296 + x) % d = s at *
  generalize Num.nat (qs.drop (k + 1)) = Q at *
  have e3 : (q + 4294967296 * Q) * d = d * q + 4294967296 * (Q * d) := by rw [Nat.add_mul, Nat.mul_comm q, Nat.mul_assoc]
  rw [e3, Nat.mul_add]
  omega
theorem set_self {qs : List Nat} {k : Nat} (h : qs[k]? = some 0) : qs.set k 0 = qs := by
  obtain ⟨hk, e⟩ := List.getElem?_eq_some_iff.1 h
  rw [← e]; exact List.set_getElem_self hk

set_option maxHeartbeats 4000000 in
set_option maxRecDepth 20000 in
theorem longS (a b : Option Addr) (la n ca cb A B : Nat) (w : World) (ha : Seg w a la ca (Num.limbs A)) (hb : Seg w b n cb (Num.limbs B)) (hB : B ≠ 0) (hla : la ≤ 100000) (hn : n ≤ 100000) :
    Calls Tryz.prog 74 #[.slice a la ca, .slice b n cb] w fun e w' => ∃ a1 n1 c1 qs a2 n2 c2 rs, e = .returned (.tuple #[.slice a1 n1 c1, .slice a2 n2 c2]) ∧ Own w' w.heap.size a1 n1 c1 qs ∧ Own w' w.heap.size a2 n2 c2 rs ∧ n1 ≤ 100000 ∧ n2 ≤ 100000 ∧ Num.nat qs = A / B ∧ Num.nat rs = A % B ∧ Below w.heap.size w w' := by
  obtain ⟨i0, hi, hz0, hz1, hz2⟩ := info_parts Tryz.info83
  have hca := ha.2.1
  have hcm := ha.2.2.1
  have hcb := hb.2.1
  have hcbm := hb.2.2.1
  have HLA := hide ha.1
  have HLB := hide hb.1
  have HA := hide ha
  have HB := hide hb
  clear ha hb
  by_cases h1 : n = 1
  · subst h1
    obtain ⟨t, ht⟩ : ∃ t, (Num.limbs B)[0]? = some t := ⟨_, List.getElem?_eq_getElem (by rw [HLB.out]; decide)⟩
    obtain ⟨hBt, ht0, ht1⟩ := limbs_one HLB.out ht
    obtain ⟨h0, ht⟩ := List.getElem?_eq_some_iff.1 ht
    obtain ⟨gb, ob, rfl, hgb, hcl⟩ := seg_cell HB.out 0 h0
    rw [ht, Nat.add_zero] at hcl
    clear ht h0
    have HBT := hide hBt
    clear hBt
    go_enter Tryz.func74, Tryz.ntmps74
    go_wp2_with fail
    refine (shortS a la ca t (Num.limbs A) _ HA.out (by omega) ht0 ht1).mono ?_
    rintro e w1 ⟨g2, qs, r, rfl, hg2, hD, ho1, ho2, hb1⟩
    have hv := short_val hD
    rw [Num.nat_limbs, ← HBT.out] at hv
    have HV : Hid (Num.nat qs = A / B ∧ Num.nat [r] = A % B) := hide ⟨hv.1, by rw [← hv.2]; simp [Num.nat]⟩
    have HO1 := hide ho1
    have HO2 := hide (ho2.mono (base' := w.heap.size) (by omega))
    have HZ := hide hb1
    clear hD ho1 ho2 hb1 hv
    go_wp2
    go_ret2
    exact ⟨_, _, _, qs, _, _, _, [r], rfl, HO1.out, HO2.out, by omega, by omega, HV.out.1, HV.out.2, HZ.out⟩
  · have hb1 : ((n : Int) == 1) = false := by rw [beq_eq_false_iff_ne]; omega
    go_enter Tryz.func74, Tryz.ntmps74
    go_wp2_with (at_make; refine wpList_make_full _ rfl _ _ 22 rfl w.heap.size 83 i0 (.int .u32 0) 1 Tryz.underlying22 hi hz0 hz1 _ _ _ _ la rfl rfl rfl rfl (by rw [hz2]; omega) (by unfold maxLen; omega) (Nat.le_refl _) ?_; intro w2 hown hgrow; have HZ2 := hide ((bl_refl w).grown hgrow (Nat.le_refl _) (by simp)); have B2 := hide (own_made2 hown).blk; clear hown hgrow)
    have hl2 := B2.out.lt
    have HR0 : Hid (Own (w2.alloc (Obj.cells #[] 83)) (w.heap.size + 1) (some ⟨w2.heap.size, 0, none⟩) 0 0 []) := hide ⟨by
      have := World.ownsRow_lit (base := w.heap.size + 1) (e := 83) (size := 1) w2 #[] 0 (by omega) (by unfold maxLen; omega) rfl
      simpa using this, fun _ h => by cases h⟩
    have HZ3 := hide (bl_alloc HZ2.out (Obj.cells #[] 83))
    have B3 := hide (B2.out.below (bl_alloc (bl_refl w2) (Obj.cells #[] 83)))
    generalize w2.alloc (Obj.cells #[] 83) = w3 at *
    generalize (some (⟨w2.heap.size, 0, none⟩ : Addr)) = ar0 at *
    clear HZ2 B2
    go_loopw [7, 8] (fun rv i wr => ∃ (k R : Nat) (ar : Option Addr) (cr : Nat) (qs : List Nat), k ≤ la ∧ i = .int .i64 ((k : Int) - 1) ∧ rv = .slice ar (Num.limbs R).length cr ∧ Hid (DSo B (Num.limbs A) qs k R) ∧ Hid (∀ j, j < k → qs[j]? = some 0) ∧ Hid (Own wr (w.heap.size + 1) ar (Num.limbs R).length cr (Num.limbs R)) ∧ Hid (Blk wr w.heap.size qs) ∧ Hid (Below w.heap.size w wr)) (fun _ i _ => (intOf i + 1).toNat)
    case atStart =>
      refine ⟨la, 0, ar0, 0, List.replicate la 0, Nat.le_refl _, by go_num, ?_, hide ⟨by rw [List.length_replicate, HLA.out], Num.small_replicate _, by omega, ?_⟩, hide (fun j hj => by simp [hj]), ?_, B3, HZ3⟩
      · rw [Num.limbs_zero]; rfl
      · rw [List.drop_eq_nil_of_le (by rw [HLA.out]; exact Nat.le_refl _), List.drop_eq_nil_of_le (by simp)]; simp [Num.nat]
      · rw [Num.limbs_zero]; exact HR0
    case round =>
      clear HR0 HZ3 B3
      obtain ⟨k, R, ar, cr, qs, hk, rfl, rfl, hS, hQ, hR, hBk, hZ⟩ := hrel
      have hRl : (Num.limbs R).length ≤ n := by
        have h := hS.out.2.2.1
        rw [← HLB.out]
        exact Nat.le_of_not_lt fun hc => by have := Num.len_lt hc; omega
      by_cases h0 : k = 0
      · subst h0
        have hql : qs.length = la := by rw [hS.out.1, HLA.out]
        have HO := hide (hBk.out.own (base := w.heap.size) (Nat.le_refl _) (by omega))
        rw [hql] at HO
        have HV : Hid (Num.nat qs = A / B ∧ Num.nat (Num.limbs R) = A % B) := hide (by
          have h := short_val hS.out
          rw [Num.nat_limbs] at h
          exact ⟨h.1, by rw [Num.nat_limbs]; exact h.2⟩)
        have HO2 := hide (hR.out.mono (base' := w.heap.size) (by omega))
        clear hql
        go_wp2
        go_ret2
        exact ⟨_, _, _, qs, _, _, _, Num.limbs R, rfl, HO.out, HO2.out, hla, by omega, HV.out.1, HV.out.2, hZ.out⟩
      · obtain ⟨j, rfl⟩ : ∃ j, k = j + 1 := ⟨k - 1, by omega⟩
        have ej : (((j + 1 : Nat) : Int) - 1) = (j : Int) := by omega
        rw [ej]
        have hjx : j < (Num.limbs A).length := by rw [HLA.out]; omega
        have hjx' : (j : Int) < (la : Int) := by omega
        obtain ⟨g, o, rfl, hg, hc⟩ := seg_cell (HA.out.below hZ.out) j hjx
        have hxs := Num.small_at (Num.limbs_small A) hjx
        have HST := hide (dso_stepB hS.out hjx rfl hxs)
        have HQL : Hid (qs.length = la) := hide (by rw [hS.out.1, HLA.out])
        have HQJ := hide (hQ.out j (by omega))
        have HQR : Hid (∀ d i, i < j → (qs.set j d)[i]? = some 0) := hide (fun d i hi => by rw [List.getElem?_set_ne (by omega)]; exact hQ.out i (by omega))
        have HRB := hide hS.out.2.2.1
        clear hS hQ
        generalize (Num.limbs A)[j] = x at *
        have hsz := hZ.out.size
        have HROW := hide (own_one wr x hxs)
        have HZa := hide (bl_alloc hZ.out (Obj.cells #[Value.int .u32 (x : Int)] 83))
        have HBa := hide (hBk.out.below (bl_alloc (bl_refl wr) (Obj.cells #[Value.int .u32 (x : Int)] 83)))
        have HRa := hide (hR.out.below (bl_alloc (bl_refl wr) (Obj.cells #[Value.int .u32 (x : Int)] 83)))
        have hnil : ar = none → cr = 0 := fun e => by rcases hR.out.cases with ⟨_, _, h, _⟩ | ⟨g, h, _⟩; exact h; rw [e] at h; cases h
        have HNIL := hide hnil
        have ysz : (wr.alloc (Obj.cells #[Value.int .u32 (x : Int)] 83)).heap.size = wr.heap.size + 1 := by simp only [World.size_alloc]
        have hlw := hBk.out.lt
        clear hnil hR hBk
        go_wp2_with (at_builtin; refine wp_app rfl _ _ rfl wr.heap.size (some ⟨wr.heap.size, 0, none⟩) 1 1 [x] rfl HROW.out ar _ cr (Num.limbs R) rfl HRa.out.seg HNIL.out (by omega) (by omega) ?_; intro aa cc w4 ho4 hg4; have HO4 := hide ho4; have HG4 := hide (show (wr.alloc (Obj.cells #[Value.int .u32 (x : Int)] 83)).grownBy w4 (some wr.heap.size) from hg4); clear ho4 hg4)
        have hlen4 : 1 + (Num.limbs R).length ≤ 100001 := by omega
        have HZ4 := hide (HZa.out.grown HG4.out HZa.out.size (fun q e => by cases e; exact hsz))
        have HB4 := hide (HBa.out.kept HG4.out (by simp; omega))
        clear HG4 HZa HBa HRa HROW HNIL
        refine (makeS false aa _ cc ([x] ++ Num.limbs R) _ HO4.out.seg (by omega)).mono ?_
        rintro e w5 ⟨v5, rfl, hn5, hb5⟩
        have hv5 : Num.nat ([x] ++ Num.limbs R) = R * 4294967296 + x := by rw [Num.nat_append, Num.nat_limbs]; simp [Num.nat]; omega
        rw [hv5, mk_false] at hn5
        have HR5 : Hid (R * 4294967296 + x < 4294967296 * B) := hide (by have := HRB.out; omega)
        have hlR5 : (Num.limbs (R * 4294967296 + x)).length ≤ 100001 := by
          have h := limbs_len_le (xs := [x] ++ Num.limbs R) HO4.out.2
          rw [hv5] at h
          simp only [List.length_append, List.length_singleton] at h
          omega
        have hb45 := hb5.size
        have hl4 := HB4.out.lt
        replace HB4 := hide (HB4.out.below hb5)
        replace HZ4 := hide (bl_trans HZ4.out hb5)
        have hs4 := HZ4.out.size
        clear hv5 HO4
        generalize R * 4294967296 + x = R' at *
        obtain ⟨a5, c5, rfl, ho5⟩ := hn5
        rw [lms_nat] at ho5 ⊢
        have HO5 := hide (ho5.mono (base' := w.heap.size + 1) (by omega))
        have hfl := field_limbs (.bool (sgn (R' : Int))) (.slice a5 (Num.limbs R').length c5) w5 ⟨_, _, _, rfl⟩
        clear ho5 hb5
        go_wp2_with fail
        clear hfl
        refine (leastS R' B a5 b _ _ c5 cb _ HO5.out.seg (HB.out.below HZ4.out)).mono ?_
        rintro e w6 ⟨rfl, d6, hw6⟩
        have hb6 : Below w5.heap.size w5 w6 := by rw [hw6]; exact below_drewN (bl_refl w5) d6
        replace HB4 := hide (HB4.out.below hb6)
        replace HZ4 := hide (bl_trans HZ4.out hb6)
        replace HO5 := hide (HO5.out.below hb6)
        clear hw6 hb6
        by_cases hlt : R' < B
        · rw [cmp_lt (by omega)]
          have hst := HST.out
          rw [Nat.div_eq_of_lt hlt, Nat.mod_eq_of_lt hlt, set_self HQJ.out] at hst
          have HST2 := hide hst
          have HQ2 := HQR.out 0
          rw [set_self HQJ.out] at HQ2
          have HQ3 := hide HQ2
          clear hst HQ2
          go_wp2
          exact ⟨⟨j, R', a5, c5, qs, by omega, by go_num, rfl, HST2, HQ3, HO5, HB4, HZ4⟩, by simp [intOf]⟩
        · have hcv : ¬ cmpZ R' B < 0 := by unfold cmpZ; rw [if_neg (by omega)]; split <;> omega
          generalize cmpZ (R' : Int) (B : Int) = cv at *
          go_wp2_with fail
          refine (digitS a5 b _ _ c5 cb R' B _ HO5.out.seg (HB.out.below HZ4.out) (by omega) (by omega) (by omega) HR5.out).mono ?_
          rintro e w7 ⟨rfl, hb7⟩
          replace HB4 := hide (HB4.out.below hb7)
          replace HZ4 := hide (bl_trans HZ4.out hb7)
          replace HO5 := hide (HO5.out.below hb7)
          have hd : R' / B < 4294967296 := by rw [Nat.div_lt_iff_lt_mul (by omega)]; exact HR5.out
          have HBD : Hid (B * (R' / B) ≤ R' ∧ R' - B * (R' / B) = R' % B) := hide ⟨Nat.mul_div_le _ _, by have := Nat.div_add_mod R' B; omega⟩
          clear hb7
          generalize hdd : R' / B = d at *
          generalize hrr : R' % B = R2 at *
          have hcl := HB4.out.cell j (by rw [HQL.out]; omega)
          have hfz := HB4.out.frozen j
          obtain ⟨y, hy⟩ : ∃ y, qs[j]'(by rw [HQL.out]; omega) = y := ⟨_, rfl⟩
          rw [hy] at hcl
          have HSB := hide (HB4.out.set j d hd)
          have hl7 := HB4.out.lt
          have h7 : (w7.setCell ⟨w.heap.size, j, none⟩ (.int .u32 (d : Int))).heap.size = w7.heap.size := by simp
          have HO7 := hide (HO5.out.setCell (p := ⟨w.heap.size, j, none⟩) (by dsimp only; omega) (.int .u32 (d : Int)))
          have HZ7 := hide (HZ4.out.setCell (p := ⟨w.heap.size, j, none⟩) (Nat.le_refl _) (.int .u32 (d : Int)))
          have hjl : (j : Int) < (la : Int) := hjx'
          clear hdd hrr HB4 HZ4 HO5 hy
          go_wp2_with fail
          clear hcl hfz
          have B8 := hide HSB.out.1
          clear HSB
          generalize w7.setCell ⟨w.heap.size, j, none⟩ (.int .u32 (d : Int)) = w8 at *
          rw [← h7] at *
          have hb9 := bl_alloc (bl_refl w8) (Obj.cells #[Value.int .u32 (d : Int)] 83)
          have hone := own_one w8 d hd
          replace B8 := hide (B8.out.below hb9)
          replace HO7 := hide (HO7.out.below hb9)
          replace HZ7 := hide (bl_trans HZ7.out hb9)
          have hs9 := hb9.size
          generalize w8.alloc (Obj.cells #[Value.int .u32 (d : Int)] 83) = w9 at *
          clear hb9
          refine (timesS b (some ⟨w8.heap.size, 0, none⟩) _ 1 cb 1 (Num.limbs B) [d] _ (HB.out.below HZ7.out) hone.seg (by omega) (by omega)).mono ?_
          rintro e w10 ⟨zs, rfl, ho10, hv10, hb10⟩
          have hv10' : Num.nat zs = B * d := by rw [hv10, Num.nat_limbs]; simp [Num.nat]
          have HO10 := hide ho10.seg
          replace B8 := hide (B8.out.below hb10)
          replace HO7 := hide (HO7.out.below hb10)
          replace HZ7 := hide (bl_trans HZ7.out hb10)
          clear hone hv10 ho10 hb10
          go_wp2_with fail
          refine (makeS false _ _ _ zs _ HO10.out (by omega)).mono ?_
          rintro e w11 ⟨v11, rfl, hn11, hb11⟩
          rw [hv10', mk_false] at hn11
          obtain ⟨a11, c11, rfl, ho11⟩ := hn11
          rw [lms_nat] at ho11 ⊢
          have hlen11 : (Num.limbs (B * d)).length ≤ (Num.limbs R').length := Nat.le_of_not_lt fun h => by have := Num.len_lt h; have := HBD.out.1; omega
          have hfl := field_limbs (.bool (sgn ((B * d : Nat) : Int))) (.slice a11 (Num.limbs (B * d)).length c11) w11 ⟨_, _, _, rfl⟩
          rw [Int.natCast_mul] at hfl
          have HO11 := hide ho11.seg
          replace B8 := hide (B8.out.below hb11)
          replace HO7 := hide (HO7.out.below hb11)
          replace HZ7 := hide (bl_trans HZ7.out hb11)
          clear ho11 hb11 HO10 hv10'
          go_wp2_with fail
          clear hfl
          refine (lessS a5 a11 _ _ c5 c11 (Num.limbs R') (Num.limbs (B * d)) _ HO7.out.seg HO11.out (by omega) (by omega) (by rw [Num.nat_limbs, Num.nat_limbs]; exact HBD.out.1) hlen11).mono ?_
          rintro e w12 ⟨a12, n12, c12, zs2, rfl, ho12, hn12, hv12, hb12⟩
          rw [Num.nat_limbs, Num.nat_limbs, HBD.out.2] at hv12
          have HO12 := hide ho12.seg
          have HV12 := hide hv12
          replace B8 := hide (B8.out.below hb12)
          replace HZ7 := hide (bl_trans HZ7.out hb12)
          clear ho12 hb12 hv12 HO11 HO7
          go_wp2_with fail
          refine (makeS false _ _ _ zs2 _ HO12.out (by omega)).mono ?_
          rintro e w13 ⟨v13, rfl, hn13, hb13⟩
          rw [HV12.out, mk_false] at hn13
          obtain ⟨a13, c13, rfl, ho13⟩ := hn13
          rw [lms_nat] at ho13 ⊢
          have hfl := field_limbs (.bool (sgn ((R2 : Nat) : Int))) (.slice a13 (Num.limbs R2).length c13) w13 ⟨_, _, _, rfl⟩
          have HO13 := hide (ho13.mono (base' := w.heap.size + 1) (by have := B8.out.lt; omega))
          replace B8 := hide (B8.out.below hb13)
          replace HZ7 := hide (bl_trans HZ7.out hb13)
          clear ho13 hb13 HO12 HV12
          go_wp2
          exact ⟨⟨j, R2, a13, c13, _, by omega, by go_num, rfl, HST, hide (HQR.out d), HO13, B8, HZ7⟩, by simp [intOf]⟩
end Go.Proofs.YtlknhheafmifnaaGreatDoor

/- The walk of l02DivMod. -/
namespace Go.Proofs.YtlknhheafmifnaaGreatDoor
open Go.RowKit
set_option linter.unusedVariables false

theorem own_lit1 (w : World) : Own (w.alloc (Obj.cells #[Value.int .u32 1] 83)) w.heap.size (some ⟨w.heap.size, 0, none⟩) 1 1 [1] := own_one w 1 (by decide)
theorem frozen_two {w : World} {N : Nat} {x y : Value} {p : Addr} (h : p.block ≠ N) : ((w.setCell ⟨N, 0, none⟩ x).setCell ⟨N, 1, none⟩ y).frozen? p = w.frozen? p := by
  rw [World.frozen?_setCell, World.frozen?_setCell]
theorem fin_two'' {w w1 : World} {N M base n1 c1 n2 c2 : Nat} {a1 a2 : Option Addr} {xs1 xs2 : List Nat} (h1 : Own w1 base a1 n1 c1 xs1) (h2 : Own w1 base a2 n2 c2 xs2) (hN : N < base) (hM : M < base) (wN : w.heap.size ≤ N) (wM : w.heap.size ≤ M) (hb : Below w.heap.size w w1) (x y z t : Value) :
    Own ((((w1.setCell ⟨N, 0, none⟩ x).setCell ⟨N, 1, none⟩ y).setCell ⟨M, 0, none⟩ z).setCell ⟨M, 1, none⟩ t) w.heap.size a1 n1 c1 xs1 ∧ Own ((((w1.setCell ⟨N, 0, none⟩ x).setCell ⟨N, 1, none⟩ y).setCell ⟨M, 0, none⟩ z).setCell ⟨M, 1, none⟩ t) w.heap.size a2 n2 c2 xs2 ∧
      Below w.heap.size w ((((w1.setCell ⟨N, 0, none⟩ x).setCell ⟨N, 1, none⟩ y).setCell ⟨M, 0, none⟩ z).setCell ⟨M, 1, none⟩ t) :=
  ⟨((((h1.setCell (p := ⟨N, 0, none⟩) hN x).setCell (p := ⟨N, 1, none⟩) hN y).setCell (p := ⟨M, 0, none⟩) hM z).setCell (p := ⟨M, 1, none⟩) hM t).mono (by omega),
   ((((h2.setCell (p := ⟨N, 0, none⟩) hN x).setCell (p := ⟨N, 1, none⟩) hN y).setCell (p := ⟨M, 0, none⟩) hM z).setCell (p := ⟨M, 1, none⟩) hM t).mono (by omega),
   (((hb.setCell (p := ⟨N, 0, none⟩) wN x).setCell (p := ⟨N, 1, none⟩) wN y).setCell (p := ⟨M, 0, none⟩) wM z).setCell (p := ⟨M, 1, none⟩) wM t⟩
theorem fin_drew' {w W : World} {b n1 c1 n2 c2 : Nat} {a1 a2 : Option Addr} {xs1 xs2 : List Nat} (h : Own W b a1 n1 c1 xs1 ∧ Own W b a2 n2 c2 xs2 ∧ Below w.heap.size w W) : Own W.drew b a1 n1 c1 xs1 ∧ Own W.drew b a2 n2 c2 xs2 ∧ Below w.heap.size w W.drew :=
  ⟨h.1.below (bl_refl _).drew, h.2.1.below (bl_refl _).drew, bl_trans h.2.2 (bl_refl _).drew⟩

set_option maxHeartbeats 4000000 in
set_option maxRecDepth 20000 in
theorem divS (v1 v2 : Value) (x y : Int) (w : World) (h1 : Is w v1 x) (h2 : Is w v2 y) (hy : y ≠ 0) (l1 : (lms x).length ≤ 100000) (l2 : (lms y).length ≤ 100000) :
    Calls Tryz.prog 66 #[v1, v2] w fun e w' => ∃ a1 c1 a2 c2, e = .returned (.tuple #[.agg #[.bool (sgn (x / y)), .slice a1 (lms (x / y)).length c1], .agg #[.bool (sgn (x % y)), .slice a2 (lms (x % y)).length c2]]) ∧ Own w' w.heap.size a1 (lms (x / y)).length c1 (lms (x / y)) ∧ Own w' w.heap.size a2 (lms (x % y)).length c2 (lms (x % y)) ∧ Below w.heap.size w w' := by
  obtain ⟨a, ca, rfl, ha⟩ := h1
  obtain ⟨b, cb, rfl, hb⟩ := h2
  have HA := hide ha
  have HBB := hide hb
  clear ha hb
  have kA0 : ((((w.alloc (Obj.cells #[Value.bool (sgn x), Value.slice a (lms x).length ca] 32)).alloc (Obj.cells #[Value.bool (sgn y), Value.slice b (lms y).length cb] 32)).alloc (Obj.cells #[Value.bool false, Value.slice none 0 0] 32)).alloc (Obj.cells #[Value.bool false, Value.slice none 0 0] 32)).cell? ⟨w.heap.size, 0, none⟩ = some (Value.bool (sgn x)) := by go_simp
  have kA1 : ((((w.alloc (Obj.cells #[Value.bool (sgn x), Value.slice a (lms x).length ca] 32)).alloc (Obj.cells #[Value.bool (sgn y), Value.slice b (lms y).length cb] 32)).alloc (Obj.cells #[Value.bool false, Value.slice none 0 0] 32)).alloc (Obj.cells #[Value.bool false, Value.slice none 0 0] 32)).cell? ⟨w.heap.size, 1, none⟩ = some (Value.slice a (lms x).length ca) := by go_simp
  have zA : w.heap.size < ((((w.alloc (Obj.cells #[Value.bool (sgn x), Value.slice a (lms x).length ca] 32)).alloc (Obj.cells #[Value.bool (sgn y), Value.slice b (lms y).length cb] 32)).alloc (Obj.cells #[Value.bool false, Value.slice none 0 0] 32)).alloc (Obj.cells #[Value.bool false, Value.slice none 0 0] 32)).heap.size := by simp only [World.size_alloc]; omega
  have kB0 : ((((w.alloc (Obj.cells #[Value.bool (sgn x), Value.slice a (lms x).length ca] 32)).alloc (Obj.cells #[Value.bool (sgn y), Value.slice b (lms y).length cb] 32)).alloc (Obj.cells #[Value.bool false, Value.slice none 0 0] 32)).alloc (Obj.cells #[Value.bool false, Value.slice none 0 0] 32)).cell? ⟨w.heap.size + 1, 0, none⟩ = some (Value.bool (sgn y)) := by go_simp
  have kB1 : ((((w.alloc (Obj.cells #[Value.bool (sgn x), Value.slice a (lms x).length ca] 32)).alloc (Obj.cells #[Value.bool (sgn y), Value.slice b (lms y).length cb] 32)).alloc (Obj.cells #[Value.bool false, Value.slice none 0 0] 32)).alloc (Obj.cells #[Value.bool false, Value.slice none 0 0] 32)).cell? ⟨w.heap.size + 1, 1, none⟩ = some (Value.slice b (lms y).length cb) := by go_simp
  have zB : w.heap.size + 1 < ((((w.alloc (Obj.cells #[Value.bool (sgn x), Value.slice a (lms x).length ca] 32)).alloc (Obj.cells #[Value.bool (sgn y), Value.slice b (lms y).length cb] 32)).alloc (Obj.cells #[Value.bool false, Value.slice none 0 0] 32)).alloc (Obj.cells #[Value.bool false, Value.slice none 0 0] 32)).heap.size := by simp only [World.size_alloc]; omega
  have kR0 : ((((w.alloc (Obj.cells #[Value.bool (sgn x), Value.slice a (lms x).length ca] 32)).alloc (Obj.cells #[Value.bool (sgn y), Value.slice b (lms y).length cb] 32)).alloc (Obj.cells #[Value.bool false, Value.slice none 0 0] 32)).alloc (Obj.cells #[Value.bool false, Value.slice none 0 0] 32)).cell? ⟨w.heap.size + 1 + 1, 0, none⟩ = some (Value.bool false) := by go_simp
  have fR0 : ((((w.alloc (Obj.cells #[Value.bool (sgn x), Value.slice a (lms x).length ca] 32)).alloc (Obj.cells #[Value.bool (sgn y), Value.slice b (lms y).length cb] 32)).alloc (Obj.cells #[Value.bool false, Value.slice none 0 0] 32)).alloc (Obj.cells #[Value.bool false, Value.slice none 0 0] 32)).frozen? ⟨w.heap.size + 1 + 1, 0, none⟩ = false := by go_simp
  have kR1 : ((((w.alloc (Obj.cells #[Value.bool (sgn x), Value.slice a (lms x).length ca] 32)).alloc (Obj.cells #[Value.bool (sgn y), Value.slice b (lms y).length cb] 32)).alloc (Obj.cells #[Value.bool false, Value.slice none 0 0] 32)).alloc (Obj.cells #[Value.bool false, Value.slice none 0 0] 32)).cell? ⟨w.heap.size + 1 + 1, 1, none⟩ = some (Value.slice none 0 0) := by go_simp
  have fR1 : ((((w.alloc (Obj.cells #[Value.bool (sgn x), Value.slice a (lms x).length ca] 32)).alloc (Obj.cells #[Value.bool (sgn y), Value.slice b (lms y).length cb] 32)).alloc (Obj.cells #[Value.bool false, Value.slice none 0 0] 32)).alloc (Obj.cells #[Value.bool false, Value.slice none 0 0] 32)).frozen? ⟨w.heap.size + 1 + 1, 1, none⟩ = false := by go_simp
  have zR : w.heap.size + 1 + 1 < ((((w.alloc (Obj.cells #[Value.bool (sgn x), Value.slice a (lms x).length ca] 32)).alloc (Obj.cells #[Value.bool (sgn y), Value.slice b (lms y).length cb] 32)).alloc (Obj.cells #[Value.bool false, Value.slice none 0 0] 32)).alloc (Obj.cells #[Value.bool false, Value.slice none 0 0] 32)).heap.size := by simp only [World.size_alloc]; omega
  have kT0 : ((((w.alloc (Obj.cells #[Value.bool (sgn x), Value.slice a (lms x).length ca] 32)).alloc (Obj.cells #[Value.bool (sgn y), Value.slice b (lms y).length cb] 32)).alloc (Obj.cells #[Value.bool false, Value.slice none 0 0] 32)).alloc (Obj.cells #[Value.bool false, Value.slice none 0 0] 32)).cell? ⟨w.heap.size + 1 + 1 + 1, 0, none⟩ = some (Value.bool false) := by go_simp
  have fT0 : ((((w.alloc (Obj.cells #[Value.bool (sgn x), Value.slice a (lms x).length ca] 32)).alloc (Obj.cells #[Value.bool (sgn y), Value.slice b (lms y).length cb] 32)).alloc (Obj.cells #[Value.bool false, Value.slice none 0 0] 32)).alloc (Obj.cells #[Value.bool false, Value.slice none 0 0] 32)).frozen? ⟨w.heap.size + 1 + 1 + 1, 0, none⟩ = false := by go_simp
  have kT1 : ((((w.alloc (Obj.cells #[Value.bool (sgn x), Value.slice a (lms x).length ca] 32)).alloc (Obj.cells #[Value.bool (sgn y), Value.slice b (lms y).length cb] 32)).alloc (Obj.cells #[Value.bool false, Value.slice none 0 0] 32)).alloc (Obj.cells #[Value.bool false, Value.slice none 0 0] 32)).cell? ⟨w.heap.size + 1 + 1 + 1, 1, none⟩ = some (Value.slice none 0 0) := by go_simp
  have fT1 : ((((w.alloc (Obj.cells #[Value.bool (sgn x), Value.slice a (lms x).length ca] 32)).alloc (Obj.cells #[Value.bool (sgn y), Value.slice b (lms y).length cb] 32)).alloc (Obj.cells #[Value.bool false, Value.slice none 0 0] 32)).alloc (Obj.cells #[Value.bool false, Value.slice none 0 0] 32)).frozen? ⟨w.heap.size + 1 + 1 + 1, 1, none⟩ = false := by go_simp
  have zT : w.heap.size + 1 + 1 + 1 < ((((w.alloc (Obj.cells #[Value.bool (sgn x), Value.slice a (lms x).length ca] 32)).alloc (Obj.cells #[Value.bool (sgn y), Value.slice b (lms y).length cb] 32)).alloc (Obj.cells #[Value.bool false, Value.slice none 0 0] 32)).alloc (Obj.cells #[Value.bool false, Value.slice none 0 0] 32)).heap.size := by simp only [World.size_alloc]; omega
  have HB := hide (bl_alloc (bl_alloc (bl_alloc (bl_alloc (bl_refl w) (Obj.cells #[Value.bool (sgn x), Value.slice a (lms x).length ca] 32)) (Obj.cells #[Value.bool (sgn y), Value.slice b (lms y).length cb] 32)) (Obj.cells #[Value.bool false, Value.slice none 0 0] 32)) (Obj.cells #[Value.bool false, Value.slice none 0 0] 32))
  replace HA := hide (HA.out.below HB.out)
  replace HBB := hide (HBB.out.below HB.out)
  have y0 : w.heap.size + 4 ≤ ((((w.alloc (Obj.cells #[Value.bool (sgn x), Value.slice a (lms x).length ca] 32)).alloc (Obj.cells #[Value.bool (sgn y), Value.slice b (lms y).length cb] 32)).alloc (Obj.cells #[Value.bool false, Value.slice none 0 0] 32)).alloc (Obj.cells #[Value.bool false, Value.slice none 0 0] 32)).heap.size := by simp only [World.size_alloc]; omega
  go_enter Tryz.func66, Tryz.ntmps66
  go_wp2_with fail
  generalize ((((w.alloc (Obj.cells #[Value.bool (sgn x), Value.slice a (lms x).length ca] 32)).alloc (Obj.cells #[Value.bool (sgn y), Value.slice b (lms y).length cb] 32)).alloc (Obj.cells #[Value.bool false, Value.slice none 0 0] 32)).alloc (Obj.cells #[Value.bool false, Value.slice none 0 0] 32)) = w1 at *
  refine (longS a b _ _ ca cb x.natAbs y.natAbs _ HA.out HBB.out (by omega) l1 l2).mono ?_
  rintro e w2 ⟨aq, nq, cq, qs, ar, nr, cr, rs, rfl, hoq, hor, hnq, hnr, hvq, hvr, hbw2⟩
  have yw2 := hbw2.size
  replace kA0 := (hbw2.cell (p := ⟨w.heap.size, 0, none⟩) zA).trans kA0
  replace kA1 := (hbw2.cell (p := ⟨w.heap.size, 1, none⟩) zA).trans kA1
  replace zA := Nat.lt_of_lt_of_le zA hbw2.size
  replace kB0 := (hbw2.cell (p := ⟨w.heap.size + 1, 0, none⟩) zB).trans kB0
  replace kB1 := (hbw2.cell (p := ⟨w.heap.size + 1, 1, none⟩) zB).trans kB1
  replace zB := Nat.lt_of_lt_of_le zB hbw2.size
  replace kR0 := (hbw2.cell (p := ⟨w.heap.size + 1 + 1, 0, none⟩) zR).trans kR0
  replace fR0 := (hbw2.frozen (p := ⟨w.heap.size + 1 + 1, 0, none⟩) zR).trans fR0
  replace kR1 := (hbw2.cell (p := ⟨w.heap.size + 1 + 1, 1, none⟩) zR).trans kR1
  replace fR1 := (hbw2.frozen (p := ⟨w.heap.size + 1 + 1, 1, none⟩) zR).trans fR1
  replace zR := Nat.lt_of_lt_of_le zR hbw2.size
  replace kT0 := (hbw2.cell (p := ⟨w.heap.size + 1 + 1 + 1, 0, none⟩) zT).trans kT0
  replace fT0 := (hbw2.frozen (p := ⟨w.heap.size + 1 + 1 + 1, 0, none⟩) zT).trans fT0
  replace kT1 := (hbw2.cell (p := ⟨w.heap.size + 1 + 1 + 1, 1, none⟩) zT).trans kT1
  replace fT1 := (hbw2.frozen (p := ⟨w.heap.size + 1 + 1 + 1, 1, none⟩) zT).trans fT1
  replace zT := Nat.lt_of_lt_of_le zT hbw2.size
  replace HA := hide (HA.out.below hbw2)
  replace HBB := hide (HBB.out.below hbw2)
  replace HB := hide (bl_trans HB.out hbw2)
  clear hbw2
  have HQ := hide hoq
  have HR := hide hor
  have HVQ := hide hvq
  have HVR := hide hvr
  clear hoq hor hvq hvr
  go_wp2_with fail
  refine (makeS (!sgn x == sgn y) aq nq cq qs _ HQ.out.seg (by omega)).mono ?_
  rintro e w3 ⟨v3, rfl, hn3, hbw3⟩
  have yw3 := hbw3.size
  rw [HVQ.out] at hn3
  obtain ⟨a3, c3, rfl, ho3⟩ := hn3
  have H3 := hide (ho3.mono (base' := w1.heap.size) (by omega))
  clear ho3
  replace kA0 := (hbw3.cell (p := ⟨w.heap.size, 0, none⟩) zA).trans kA0
  replace kA1 := (hbw3.cell (p := ⟨w.heap.size, 1, none⟩) zA).trans kA1
  replace zA := Nat.lt_of_lt_of_le zA hbw3.size
  replace kB0 := (hbw3.cell (p := ⟨w.heap.size + 1, 0, none⟩) zB).trans kB0
  replace kB1 := (hbw3.cell (p := ⟨w.heap.size + 1, 1, none⟩) zB).trans kB1
  replace zB := Nat.lt_of_lt_of_le zB hbw3.size
  replace kR0 := (hbw3.cell (p := ⟨w.heap.size + 1 + 1, 0, none⟩) zR).trans kR0
  replace fR0 := (hbw3.frozen (p := ⟨w.heap.size + 1 + 1, 0, none⟩) zR).trans fR0
  replace kR1 := (hbw3.cell (p := ⟨w.heap.size + 1 + 1, 1, none⟩) zR).trans kR1
  replace fR1 := (hbw3.frozen (p := ⟨w.heap.size + 1 + 1, 1, none⟩) zR).trans fR1
  replace zR := Nat.lt_of_lt_of_le zR hbw3.size
  replace kT0 := (hbw3.cell (p := ⟨w.heap.size + 1 + 1 + 1, 0, none⟩) zT).trans kT0
  replace fT0 := (hbw3.frozen (p := ⟨w.heap.size + 1 + 1 + 1, 0, none⟩) zT).trans fT0
  replace kT1 := (hbw3.cell (p := ⟨w.heap.size + 1 + 1 + 1, 1, none⟩) zT).trans kT1
  replace fT1 := (hbw3.frozen (p := ⟨w.heap.size + 1 + 1 + 1, 1, none⟩) zT).trans fT1
  replace zT := Nat.lt_of_lt_of_le zT hbw3.size
  replace HA := hide (HA.out.below hbw3)
  replace HBB := hide (HBB.out.below hbw3)
  replace HQ := hide (HQ.out.below hbw3)
  replace HR := hide (HR.out.below hbw3)
  replace HB := hide (bl_trans HB.out hbw3)
  clear hbw3
  go_wp2_with fail
  refine (makeS false ar nr cr rs _ HR.out.seg (by omega)).mono ?_
  rintro e w4 ⟨v4, rfl, hn4, hbw4⟩
  have yw4 := hbw4.size
  rw [HVR.out] at hn4
  obtain ⟨a4, c4, rfl, ho4⟩ := hn4
  have H4 := hide (ho4.mono (base' := w1.heap.size) (by omega))
  clear ho4
  replace kA0 := (hbw4.cell (p := ⟨w.heap.size, 0, none⟩) zA).trans kA0
  replace kA1 := (hbw4.cell (p := ⟨w.heap.size, 1, none⟩) zA).trans kA1
  replace zA := Nat.lt_of_lt_of_le zA hbw4.size
  replace kB0 := (hbw4.cell (p := ⟨w.heap.size + 1, 0, none⟩) zB).trans kB0
  replace kB1 := (hbw4.cell (p := ⟨w.heap.size + 1, 1, none⟩) zB).trans kB1
  replace zB := Nat.lt_of_lt_of_le zB hbw4.size
  replace kR0 := (hbw4.cell (p := ⟨w.heap.size + 1 + 1, 0, none⟩) zR).trans kR0
  replace fR0 := (hbw4.frozen (p := ⟨w.heap.size + 1 + 1, 0, none⟩) zR).trans fR0
  replace kR1 := (hbw4.cell (p := ⟨w.heap.size + 1 + 1, 1, none⟩) zR).trans kR1
  replace fR1 := (hbw4.frozen (p := ⟨w.heap.size + 1 + 1, 1, none⟩) zR).trans fR1
  replace zR := Nat.lt_of_lt_of_le zR hbw4.size
  replace kT0 := (hbw4.cell (p := ⟨w.heap.size + 1 + 1 + 1, 0, none⟩) zT).trans kT0
  replace fT0 := (hbw4.frozen (p := ⟨w.heap.size + 1 + 1 + 1, 0, none⟩) zT).trans fT0
  replace kT1 := (hbw4.cell (p := ⟨w.heap.size + 1 + 1 + 1, 1, none⟩) zT).trans kT1
  replace fT1 := (hbw4.frozen (p := ⟨w.heap.size + 1 + 1 + 1, 1, none⟩) zT).trans fT1
  replace zT := Nat.lt_of_lt_of_le zT hbw4.size
  replace HA := hide (HA.out.below hbw4)
  replace HBB := hide (HBB.out.below hbw4)
  replace HQ := hide (HQ.out.below hbw4)
  replace HR := hide (HR.out.below hbw4)
  replace H3 := hide (H3.out.below hbw4)
  replace HB := hide (bl_trans HB.out hbw4)
  clear hbw4
  go_upto_region 3 with fail
  have HQ4 := HQ
  have H44 := H4
  have HBB4 := HBB
  have HB4 := HB
  have kQ0 : ((w4.alloc (Obj.cells #[Value.bool (sgn (mk (!sgn x == sgn y) (x.natAbs / y.natAbs))), Value.slice a3 (lms (mk (!sgn x == sgn y) (x.natAbs / y.natAbs))).length c3] 32)).alloc (Obj.cells #[Value.bool (sgn (mk false (x.natAbs % y.natAbs))), Value.slice a4 (lms (mk false (x.natAbs % y.natAbs))).length c4] 32)).cell? ⟨w4.heap.size, 0, none⟩ = some (Value.bool (sgn (mk (!sgn x == sgn y) (x.natAbs / y.natAbs)))) := by go_simp
  have fQ0 : ((w4.alloc (Obj.cells #[Value.bool (sgn (mk (!sgn x == sgn y) (x.natAbs / y.natAbs))), Value.slice a3 (lms (mk (!sgn x == sgn y) (x.natAbs / y.natAbs))).length c3] 32)).alloc (Obj.cells #[Value.bool (sgn (mk false (x.natAbs % y.natAbs))), Value.slice a4 (lms (mk false (x.natAbs % y.natAbs))).length c4] 32)).frozen? ⟨w4.heap.size, 0, none⟩ = false := by go_simp
  have kQ1 : ((w4.alloc (Obj.cells #[Value.bool (sgn (mk (!sgn x == sgn y) (x.natAbs / y.natAbs))), Value.slice a3 (lms (mk (!sgn x == sgn y) (x.natAbs / y.natAbs))).length c3] 32)).alloc (Obj.cells #[Value.bool (sgn (mk false (x.natAbs % y.natAbs))), Value.slice a4 (lms (mk false (x.natAbs % y.natAbs))).length c4] 32)).cell? ⟨w4.heap.size, 1, none⟩ = some (Value.slice a3 (lms (mk (!sgn x == sgn y) (x.natAbs / y.natAbs))).length c3) := by go_simp
  have fQ1 : ((w4.alloc (Obj.cells #[Value.bool (sgn (mk (!sgn x == sgn y) (x.natAbs / y.natAbs))), Value.slice a3 (lms (mk (!sgn x == sgn y) (x.natAbs / y.natAbs))).length c3] 32)).alloc (Obj.cells #[Value.bool (sgn (mk false (x.natAbs % y.natAbs))), Value.slice a4 (lms (mk false (x.natAbs % y.natAbs))).length c4] 32)).frozen? ⟨w4.heap.size, 1, none⟩ = false := by go_simp
  have zQ : w4.heap.size < ((w4.alloc (Obj.cells #[Value.bool (sgn (mk (!sgn x == sgn y) (x.natAbs / y.natAbs))), Value.slice a3 (lms (mk (!sgn x == sgn y) (x.natAbs / y.natAbs))).length c3] 32)).alloc (Obj.cells #[Value.bool (sgn (mk false (x.natAbs % y.natAbs))), Value.slice a4 (lms (mk false (x.natAbs % y.natAbs))).length c4] 32)).heap.size := by simp only [World.size_alloc]; omega
  have kS0 : ((w4.alloc (Obj.cells #[Value.bool (sgn (mk (!sgn x == sgn y) (x.natAbs / y.natAbs))), Value.slice a3 (lms (mk (!sgn x == sgn y) (x.natAbs / y.natAbs))).length c3] 32)).alloc (Obj.cells #[Value.bool (sgn (mk false (x.natAbs % y.natAbs))), Value.slice a4 (lms (mk false (x.natAbs % y.natAbs))).length c4] 32)).cell? ⟨w4.heap.size + 1, 0, none⟩ = some (Value.bool (sgn (mk false (x.natAbs % y.natAbs)))) := by go_simp
  have fS0 : ((w4.alloc (Obj.cells #[Value.bool (sgn (mk (!sgn x == sgn y) (x.natAbs / y.natAbs))), Value.slice a3 (lms (mk (!sgn x == sgn y) (x.natAbs / y.natAbs))).length c3] 32)).alloc (Obj.cells #[Value.bool (sgn (mk false (x.natAbs % y.natAbs))), Value.slice a4 (lms (mk false (x.natAbs % y.natAbs))).length c4] 32)).frozen? ⟨w4.heap.size + 1, 0, none⟩ = false := by go_simp
  have kS1 : ((w4.alloc (Obj.cells #[Value.bool (sgn (mk (!sgn x == sgn y) (x.natAbs / y.natAbs))), Value.slice a3 (lms (mk (!sgn x == sgn y) (x.natAbs / y.natAbs))).length c3] 32)).alloc (Obj.cells #[Value.bool (sgn (mk false (x.natAbs % y.natAbs))), Value.slice a4 (lms (mk false (x.natAbs % y.natAbs))).length c4] 32)).cell? ⟨w4.heap.size + 1, 1, none⟩ = some (Value.slice a4 (lms (mk false (x.natAbs % y.natAbs))).length c4) := by go_simp
  have fS1 : ((w4.alloc (Obj.cells #[Value.bool (sgn (mk (!sgn x == sgn y) (x.natAbs / y.natAbs))), Value.slice a3 (lms (mk (!sgn x == sgn y) (x.natAbs / y.natAbs))).length c3] 32)).alloc (Obj.cells #[Value.bool (sgn (mk false (x.natAbs % y.natAbs))), Value.slice a4 (lms (mk false (x.natAbs % y.natAbs))).length c4] 32)).frozen? ⟨w4.heap.size + 1, 1, none⟩ = false := by go_simp
  have zS : w4.heap.size + 1 < ((w4.alloc (Obj.cells #[Value.bool (sgn (mk (!sgn x == sgn y) (x.natAbs / y.natAbs))), Value.slice a3 (lms (mk (!sgn x == sgn y) (x.natAbs / y.natAbs))).length c3] 32)).alloc (Obj.cells #[Value.bool (sgn (mk false (x.natAbs % y.natAbs))), Value.slice a4 (lms (mk false (x.natAbs % y.natAbs))).length c4] 32)).heap.size := by simp only [World.size_alloc]; omega
  have yw5 : w4.heap.size + 2 ≤ ((w4.alloc (Obj.cells #[Value.bool (sgn (mk (!sgn x == sgn y) (x.natAbs / y.natAbs))), Value.slice a3 (lms (mk (!sgn x == sgn y) (x.natAbs / y.natAbs))).length c3] 32)).alloc (Obj.cells #[Value.bool (sgn (mk false (x.natAbs % y.natAbs))), Value.slice a4 (lms (mk false (x.natAbs % y.natAbs))).length c4] 32)).heap.size := by simp only [World.size_alloc]; omega
  have hbw5 := (bl_alloc (bl_alloc (bl_refl w4) (Obj.cells #[Value.bool (sgn (mk (!sgn x == sgn y) (x.natAbs / y.natAbs))), Value.slice a3 (lms (mk (!sgn x == sgn y) (x.natAbs / y.natAbs))).length c3] 32)) (Obj.cells #[Value.bool (sgn (mk false (x.natAbs % y.natAbs))), Value.slice a4 (lms (mk false (x.natAbs % y.natAbs))).length c4] 32))
  generalize ((w4.alloc (Obj.cells #[Value.bool (sgn (mk (!sgn x == sgn y) (x.natAbs / y.natAbs))), Value.slice a3 (lms (mk (!sgn x == sgn y) (x.natAbs / y.natAbs))).length c3] 32)).alloc (Obj.cells #[Value.bool (sgn (mk false (x.natAbs % y.natAbs))), Value.slice a4 (lms (mk false (x.natAbs % y.natAbs))).length c4] 32)) = w5 at *
  have BW := hide hbw5
  replace kA0 := (hbw5.cell (p := ⟨w.heap.size, 0, none⟩) zA).trans kA0
  replace kA1 := (hbw5.cell (p := ⟨w.heap.size, 1, none⟩) zA).trans kA1
  replace zA := Nat.lt_of_lt_of_le zA hbw5.size
  replace kB0 := (hbw5.cell (p := ⟨w.heap.size + 1, 0, none⟩) zB).trans kB0
  replace kB1 := (hbw5.cell (p := ⟨w.heap.size + 1, 1, none⟩) zB).trans kB1
  replace zB := Nat.lt_of_lt_of_le zB hbw5.size
  replace kR0 := (hbw5.cell (p := ⟨w.heap.size + 1 + 1, 0, none⟩) zR).trans kR0
  replace fR0 := (hbw5.frozen (p := ⟨w.heap.size + 1 + 1, 0, none⟩) zR).trans fR0
  replace kR1 := (hbw5.cell (p := ⟨w.heap.size + 1 + 1, 1, none⟩) zR).trans kR1
  replace fR1 := (hbw5.frozen (p := ⟨w.heap.size + 1 + 1, 1, none⟩) zR).trans fR1
  replace zR := Nat.lt_of_lt_of_le zR hbw5.size
  replace kT0 := (hbw5.cell (p := ⟨w.heap.size + 1 + 1 + 1, 0, none⟩) zT).trans kT0
  replace fT0 := (hbw5.frozen (p := ⟨w.heap.size + 1 + 1 + 1, 0, none⟩) zT).trans fT0
  replace kT1 := (hbw5.cell (p := ⟨w.heap.size + 1 + 1 + 1, 1, none⟩) zT).trans kT1
  replace fT1 := (hbw5.frozen (p := ⟨w.heap.size + 1 + 1 + 1, 1, none⟩) zT).trans fT1
  replace zT := Nat.lt_of_lt_of_le zT hbw5.size
  replace HA := hide (HA.out.below hbw5)
  replace HBB := hide (HBB.out.below hbw5)
  replace HQ := hide (HQ.out.below hbw5)
  replace HR := hide (HR.out.below hbw5)
  replace H3 := hide (H3.out.below hbw5)
  replace H4 := hide (H4.out.below hbw5)
  replace HB := hide (bl_trans HB.out hbw5)
  clear hbw5
  by_cases hx : x < 0
  · have hsx : sgn x = true := decide_eq_true hx
    by_cases hm : x.natAbs % y.natAbs = 0
    · obtain ⟨e1, e2⟩ := div_same x y hy (.inr hm)
      have e3 : mk false (x.natAbs % y.natAbs) = x % y := e2.symm
      have hl0 : ¬ (0 : Int) < ((lms (mk false (x.natAbs % y.natAbs))).length : Int) := by rw [mk_lms, hm, Num.limbs_zero]; simp
      have HE1 := hide e1
      have HE2 := hide e3
      clear e1 e2 e3
      generalize mk (!sgn x == sgn y) (x.natAbs / y.natAbs) = q at *
      generalize mk false (x.natAbs % y.natAbs) = r at *
      go_upto_region 6 with fail
      clear hsx
      have hq' := HE2.out; subst hq'
      have hq' := HE1.out.symm; subst hq'
      clear HE1 HE2
      go_region_held3 (fun w' => w'.cell? ⟨w4.heap.size, 0, none⟩ = some (Value.bool (sgn (x / y))) ∧ w'.cell? ⟨w4.heap.size, 1, none⟩ = some (Value.slice a3 (lms (x / y)).length c3) ∧ w'.cell? ⟨w4.heap.size + 1, 0, none⟩ = some (Value.bool (sgn (x % y))) ∧ w'.cell? ⟨w4.heap.size + 1, 1, none⟩ = some (Value.slice a4 (lms (x % y)).length c4))
        (first
          | exact ⟨(by (try rw [World.cell?_drew]); first | with_reducible assumption | (rw [cell_two (N := w.heap.size + 1 + 1) (p := ⟨w4.heap.size, 0, none⟩) (by dsimp only; omega)]; with_reducible assumption) | (rw [cell_two (N := w.heap.size + 1 + 1 + 1) (p := ⟨w4.heap.size, 0, none⟩) (by dsimp only; omega)]; with_reducible assumption) | (rw [cell_two (N := w.heap.size + 1 + 1) (p := ⟨w4.heap.size, 0, none⟩) (by dsimp only; omega), cell_two (N := w.heap.size + 1 + 1 + 1) (p := ⟨w4.heap.size, 0, none⟩) (by dsimp only; omega)]; with_reducible assumption) | (rw [cell_two (N := w.heap.size + 1 + 1 + 1) (p := ⟨w4.heap.size, 0, none⟩) (by dsimp only; omega), cell_two (N := w.heap.size + 1 + 1) (p := ⟨w4.heap.size, 0, none⟩) (by dsimp only; omega)]; with_reducible assumption)), (by (try rw [World.cell?_drew]); first | with_reducible assumption | (rw [cell_two (N := w.heap.size + 1 + 1) (p := ⟨w4.heap.size, 1, none⟩) (by dsimp only; omega)]; with_reducible assumption) | (rw [cell_two (N := w.heap.size + 1 + 1 + 1) (p := ⟨w4.heap.size, 1, none⟩) (by dsimp only; omega)]; with_reducible assumption) | (rw [cell_two (N := w.heap.size + 1 + 1) (p := ⟨w4.heap.size, 1, none⟩) (by dsimp only; omega), cell_two (N := w.heap.size + 1 + 1 + 1) (p := ⟨w4.heap.size, 1, none⟩) (by dsimp only; omega)]; with_reducible assumption) | (rw [cell_two (N := w.heap.size + 1 + 1 + 1) (p := ⟨w4.heap.size, 1, none⟩) (by dsimp only; omega), cell_two (N := w.heap.size + 1 + 1) (p := ⟨w4.heap.size, 1, none⟩) (by dsimp only; omega)]; with_reducible assumption)), (by (try rw [World.cell?_drew]); first | with_reducible assumption | (rw [cell_two (N := w.heap.size + 1 + 1) (p := ⟨w4.heap.size + 1, 0, none⟩) (by dsimp only; omega)]; with_reducible assumption) | (rw [cell_two (N := w.heap.size + 1 + 1 + 1) (p := ⟨w4.heap.size + 1, 0, none⟩) (by dsimp only; omega)]; with_reducible assumption) | (rw [cell_two (N := w.heap.size + 1 + 1) (p := ⟨w4.heap.size + 1, 0, none⟩) (by dsimp only; omega), cell_two (N := w.heap.size + 1 + 1 + 1) (p := ⟨w4.heap.size + 1, 0, none⟩) (by dsimp only; omega)]; with_reducible assumption) | (rw [cell_two (N := w.heap.size + 1 + 1 + 1) (p := ⟨w4.heap.size + 1, 0, none⟩) (by dsimp only; omega), cell_two (N := w.heap.size + 1 + 1) (p := ⟨w4.heap.size + 1, 0, none⟩) (by dsimp only; omega)]; with_reducible assumption)), (by (try rw [World.cell?_drew]); first | with_reducible assumption | (rw [cell_two (N := w.heap.size + 1 + 1) (p := ⟨w4.heap.size + 1, 1, none⟩) (by dsimp only; omega)]; with_reducible assumption) | (rw [cell_two (N := w.heap.size + 1 + 1 + 1) (p := ⟨w4.heap.size + 1, 1, none⟩) (by dsimp only; omega)]; with_reducible assumption) | (rw [cell_two (N := w.heap.size + 1 + 1) (p := ⟨w4.heap.size + 1, 1, none⟩) (by dsimp only; omega), cell_two (N := w.heap.size + 1 + 1 + 1) (p := ⟨w4.heap.size + 1, 1, none⟩) (by dsimp only; omega)]; with_reducible assumption) | (rw [cell_two (N := w.heap.size + 1 + 1 + 1) (p := ⟨w4.heap.size + 1, 1, none⟩) (by dsimp only; omega), cell_two (N := w.heap.size + 1 + 1) (p := ⟨w4.heap.size + 1, 1, none⟩) (by dsimp only; omega)]; with_reducible assumption))⟩)
        (fail)
      all_goals go_wp2_with fail
      all_goals refine bodyPost_ret (v := .tuple #[.agg #[.bool (sgn (x / y)), .slice a3 (lms (x / y)).length c3], .agg #[.bool (sgn (x % y)), .slice a4 (lms (x % y)).length c4]]) (by simp [results, Tryz.results66, go_sem, kR0, kR1, kT0, kT1]) rfl ?_
      all_goals refine ⟨a3, c3, a4, c4, rfl, ?_⟩
      all_goals first | exact fin_two'' (N := w.heap.size + 1 + 1) (M := w.heap.size + 1 + 1 + 1) (base := w1.heap.size) H3.out H4.out (by omega) (by omega) (by omega) (by omega) HB.out _ _ _ _ | exact fin_drew' (fin_two'' (N := w.heap.size + 1 + 1) (M := w.heap.size + 1 + 1 + 1) (base := w1.heap.size) H3.out H4.out (by omega) (by omega) (by omega) (by omega) HB.out _ _ _ _)
    · obtain ⟨e1, e2⟩ := div_more x y hy hx hm
      have hl0 : (0 : Int) < ((lms (mk false (x.natAbs % y.natAbs))).length : Int) := by rw [mk_lms]; have : Num.limbs (x.natAbs % y.natAbs) ≠ [] := fun e => hm (Num.limbs_eq_nil.1 e); have := List.length_pos_iff.2 this; omega
      have HLR : Hid ((lms (mk false (x.natAbs % y.natAbs))).length ≤ (lms y).length) := hide (by rw [mk_lms]; exact Nat.le_of_not_lt fun hc => by have := Num.len_lt hc; have := Nat.mod_lt x.natAbs (show 0 < y.natAbs by omega); omega)
      have HLE : Hid (Num.nat (lms (mk false (x.natAbs % y.natAbs))) ≤ Num.nat (lms y)) := hide (by rw [mk_lms, Num.nat_limbs, nat_lms]; exact Nat.le_of_lt (Nat.mod_lt _ (by omega)))
      have HE1 : Hid (mk (!sgn x == sgn y) (Num.nat qs + Num.nat [1]) = x / y) := hide (by rw [e1, HVQ.out]; rfl)
      have HE2 : Hid (mk false (Num.nat (lms y) - Num.nat (lms (mk false (x.natAbs % y.natAbs)))) = x % y) := hide (by rw [e2, nat_lms, mk_lms, Num.nat_limbs]; rfl)
      clear e1 e2 hm hx
      generalize mk (!sgn x == sgn y) (x.natAbs / y.natAbs) = q at *
      generalize mk false (x.natAbs % y.natAbs) = r at *
      go_upto_region 4 with fail
      clear hsx hl0
      rename (0 : Nat) < _ => hlr0
      clear hlr0
      have KP : Hid (∀ w', Below w5.heap.size w5 w' → (w'.cell? ⟨w.heap.size, 0, none⟩ = some (Value.bool (sgn x)) ∧ w'.cell? ⟨w.heap.size + 1, 0, none⟩ = some (Value.bool (sgn y)) ∧ Hid (Below w4.heap.size w4 w'))) := hide (fun w' hb => ⟨(hb.cell (p := ⟨w.heap.size, 0, none⟩) zA).trans kA0, (hb.cell (p := ⟨w.heap.size + 1, 0, none⟩) zB).trans kB0, bl_trans BW.out hb⟩)
      go_region_held3 (fun w' => w'.cell? ⟨w.heap.size, 0, none⟩ = some (Value.bool (sgn x)) ∧ w'.cell? ⟨w.heap.size + 1, 0, none⟩ = some (Value.bool (sgn y)) ∧ Hid (Below w4.heap.size w4 w'))
        (first
          | exact KP.out _ (bl_refl w5).drew
          | exact KP.out _ bB
          | exact KP.out _ bA
          | exact KP.out _ (bl_alloc (bl_refl w5).drew _)
          | exact KP.out _ (bl_alloc (bl_refl w5) _)
          | exact ⟨(cell_two (N := w4.heap.size) (p := ⟨w.heap.size, 0, none⟩) (by dsimp only; omega)).trans ((bB.cell (p := ⟨w.heap.size, 0, none⟩) zA).trans kA0), (cell_two (N := w4.heap.size) (p := ⟨w.heap.size + 1, 0, none⟩) (by dsimp only; omega)).trans ((bB.cell (p := ⟨w.heap.size + 1, 0, none⟩) zB).trans kB0), hide (Below.setCell (Below.setCell (bl_trans BW.out bB) (Nat.le_refl _) _) (Nat.le_refl _) _)⟩)
        (first
          | (go_at_call 75; refine (plusS aq (some ⟨_, 0, none⟩) nq 1 cq 1 qs [1] _ (HQ4.out.seg.below (Hid.out (And.right (And.right (by assumption))))) (by first | exact (own_lit1 _).seg | exact (own_lit1 _).seg.below (bl_refl _).drew) (by omega) (by decide)).mono ?_; rintro e wA ⟨ao, ko, co, zs, rfl, hoA, hkA, hvA, hbA⟩; have bA : Below w5.heap.size w5 wA := (by first | exact bl_trans (bl_alloc (bl_refl w5).drew _) hbA | exact bl_trans (bl_alloc (bl_refl w5) _) hbA | exact bl_trans (bl_trans (bl_alloc (bl_refl w5) _) (bl_refl _).drew) hbA); have yA := bA.size; have HOA := hide hoA.seg; have HVA := hide hvA; clear hoA hvA hbA)
          | (go_at_call 65; refine (makeS (!sgn x == sgn y) ao ko co zs _ HOA.out (by omega)).mono ?_; rintro e wB ⟨vB, rfl, hnB, hbB⟩; have bB : Below w5.heap.size w5 wB := bl_trans bA hbB; have yB := hbB.size; rw [HVA.out, HE1.out] at hnB; obtain ⟨aB, cB, rfl, hoB⟩ := hnB; have HOB := hide (hoB.mono (base' := w5.heap.size) yA); have kQ0 := (bB.cell (p := ⟨w4.heap.size, 0, none⟩) zQ).trans kQ0; have kQ1 := (bB.cell (p := ⟨w4.heap.size, 1, none⟩) zQ).trans kQ1; have fQ0 := (bB.frozen (p := ⟨w4.heap.size, 0, none⟩) zQ).trans fQ0; have fQ1 := (bB.frozen (p := ⟨w4.heap.size, 1, none⟩) zQ).trans fQ1; clear hoB hbB))
      clear KP kA0 kA1 zA HA HQ HR H3
      replace kB0 := (cell_two (N := w4.heap.size) (x := (Value.bool (sgn (x / y)))) (y := (Value.slice aB (lms (x / y)).length cB)) (p := ⟨w.heap.size + 1, 0, none⟩) (by dsimp only; omega)).trans ((bB.cell (p := ⟨w.heap.size + 1, 0, none⟩) zB).trans kB0)
      replace kB1 := (cell_two (N := w4.heap.size) (x := (Value.bool (sgn (x / y)))) (y := (Value.slice aB (lms (x / y)).length cB)) (p := ⟨w.heap.size + 1, 1, none⟩) (by dsimp only; omega)).trans ((bB.cell (p := ⟨w.heap.size + 1, 1, none⟩) zB).trans kB1)
      replace kR0 := (cell_two (N := w4.heap.size) (x := (Value.bool (sgn (x / y)))) (y := (Value.slice aB (lms (x / y)).length cB)) (p := ⟨w.heap.size + 1 + 1, 0, none⟩) (by dsimp only; omega)).trans ((bB.cell (p := ⟨w.heap.size + 1 + 1, 0, none⟩) zR).trans kR0)
      replace fR0 := (frozen_two (N := w4.heap.size) (x := (Value.bool (sgn (x / y)))) (y := (Value.slice aB (lms (x / y)).length cB)) (p := ⟨w.heap.size + 1 + 1, 0, none⟩) (by dsimp only; omega)).trans ((bB.frozen (p := ⟨w.heap.size + 1 + 1, 0, none⟩) zR).trans fR0)
      replace kR1 := (cell_two (N := w4.heap.size) (x := (Value.bool (sgn (x / y)))) (y := (Value.slice aB (lms (x / y)).length cB)) (p := ⟨w.heap.size + 1 + 1, 1, none⟩) (by dsimp only; omega)).trans ((bB.cell (p := ⟨w.heap.size + 1 + 1, 1, none⟩) zR).trans kR1)
      replace fR1 := (frozen_two (N := w4.heap.size) (x := (Value.bool (sgn (x / y)))) (y := (Value.slice aB (lms (x / y)).length cB)) (p := ⟨w.heap.size + 1 + 1, 1, none⟩) (by dsimp only; omega)).trans ((bB.frozen (p := ⟨w.heap.size + 1 + 1, 1, none⟩) zR).trans fR1)
      replace kT0 := (cell_two (N := w4.heap.size) (x := (Value.bool (sgn (x / y)))) (y := (Value.slice aB (lms (x / y)).length cB)) (p := ⟨w.heap.size + 1 + 1 + 1, 0, none⟩) (by dsimp only; omega)).trans ((bB.cell (p := ⟨w.heap.size + 1 + 1 + 1, 0, none⟩) zT).trans kT0)
      replace fT0 := (frozen_two (N := w4.heap.size) (x := (Value.bool (sgn (x / y)))) (y := (Value.slice aB (lms (x / y)).length cB)) (p := ⟨w.heap.size + 1 + 1 + 1, 0, none⟩) (by dsimp only; omega)).trans ((bB.frozen (p := ⟨w.heap.size + 1 + 1 + 1, 0, none⟩) zT).trans fT0)
      replace kT1 := (cell_two (N := w4.heap.size) (x := (Value.bool (sgn (x / y)))) (y := (Value.slice aB (lms (x / y)).length cB)) (p := ⟨w.heap.size + 1 + 1 + 1, 1, none⟩) (by dsimp only; omega)).trans ((bB.cell (p := ⟨w.heap.size + 1 + 1 + 1, 1, none⟩) zT).trans kT1)
      replace fT1 := (frozen_two (N := w4.heap.size) (x := (Value.bool (sgn (x / y)))) (y := (Value.slice aB (lms (x / y)).length cB)) (p := ⟨w.heap.size + 1 + 1 + 1, 1, none⟩) (by dsimp only; omega)).trans ((bB.frozen (p := ⟨w.heap.size + 1 + 1 + 1, 1, none⟩) zT).trans fT1)
      replace kS0 := (cell_two (N := w4.heap.size) (x := (Value.bool (sgn (x / y)))) (y := (Value.slice aB (lms (x / y)).length cB)) (p := ⟨w4.heap.size + 1, 0, none⟩) (by dsimp only; omega)).trans ((bB.cell (p := ⟨w4.heap.size + 1, 0, none⟩) zS).trans kS0)
      replace fS0 := (frozen_two (N := w4.heap.size) (x := (Value.bool (sgn (x / y)))) (y := (Value.slice aB (lms (x / y)).length cB)) (p := ⟨w4.heap.size + 1, 0, none⟩) (by dsimp only; omega)).trans ((bB.frozen (p := ⟨w4.heap.size + 1, 0, none⟩) zS).trans fS0)
      replace kS1 := (cell_two (N := w4.heap.size) (x := (Value.bool (sgn (x / y)))) (y := (Value.slice aB (lms (x / y)).length cB)) (p := ⟨w4.heap.size + 1, 1, none⟩) (by dsimp only; omega)).trans ((bB.cell (p := ⟨w4.heap.size + 1, 1, none⟩) zS).trans kS1)
      replace fS1 := (frozen_two (N := w4.heap.size) (x := (Value.bool (sgn (x / y)))) (y := (Value.slice aB (lms (x / y)).length cB)) (p := ⟨w4.heap.size + 1, 1, none⟩) (by dsimp only; omega)).trans ((bB.frozen (p := ⟨w4.heap.size + 1, 1, none⟩) zS).trans fS1)
      have m0 : ((wB.setCell ⟨w4.heap.size, 0, none⟩ (Value.bool (sgn (x / y)))).setCell ⟨w4.heap.size, 1, none⟩ (Value.slice aB (lms (x / y)).length cB)).cell? ⟨w4.heap.size, 0, none⟩ = some (Value.bool (sgn (x / y))) := by go_simp
      have m1 : ((wB.setCell ⟨w4.heap.size, 0, none⟩ (Value.bool (sgn (x / y)))).setCell ⟨w4.heap.size, 1, none⟩ (Value.slice aB (lms (x / y)).length cB)).cell? ⟨w4.heap.size, 1, none⟩ = some (Value.slice aB (lms (x / y)).length cB) := by go_simp
      clear kQ0 kQ1 fQ0 fQ1
      replace HOB := hide ((HOB.out.setCell (p := ⟨w4.heap.size, 0, none⟩) (by dsimp only; omega) (Value.bool (sgn (x / y)))).setCell (p := ⟨w4.heap.size, 1, none⟩) (by dsimp only; omega) (Value.slice aB (lms (x / y)).length cB))
      have B8 := hide (Below.setCell (Below.setCell (bl_trans BW.out bB) (p := ⟨w4.heap.size, 0, none⟩) (Nat.le_refl _) (Value.bool (sgn (x / y)))) (p := ⟨w4.heap.size, 1, none⟩) (Nat.le_refl _) (Value.slice aB (lms (x / y)).length cB))
      have y8 : wB.heap.size ≤ ((wB.setCell ⟨w4.heap.size, 0, none⟩ (Value.bool (sgn (x / y)))).setCell ⟨w4.heap.size, 1, none⟩ (Value.slice aB (lms (x / y)).length cB)).heap.size := by simp
      clear bA BW
      go_wp2_with fail
      generalize ((wB.setCell ⟨w4.heap.size, 0, none⟩ (Value.bool (sgn (x / y)))).setCell ⟨w4.heap.size, 1, none⟩ (Value.slice aB (lms (x / y)).length cB)) = w8 at *
      clear kB0 kB1 HBB HB H4
      refine (lessS b a4 _ _ cb c4 (lms y) (lms r) _ (HBB4.out.below B8.out) (H44.out.seg.below B8.out) (by omega) (by have := HLR.out; omega) HLE.out HLR.out).mono ?_
      rintro e w9 ⟨a9, n9, c9, zs9, rfl, ho9, hn9, hv9, hb9⟩
      have HO9 := hide ho9.seg
      have HV9 := hide hv9
      have y9 := hb9.size
      have HLR' := HLR.out
      go_wp2_with fail
      refine (makeS false a9 n9 c9 zs9 _ HO9.out (by omega)).mono ?_
      rintro e w10 ⟨v10, rfl, hn10, hb10⟩
      rw [HV9.out, HE2.out] at hn10
      obtain ⟨a10, c10, rfl, ho10⟩ := hn10
      have y10 := hb10.size
      have hb := bl_trans hb9 hb10
      have B10 := hide (bl_trans B8.out hb)
      replace HOB := hide (HOB.out.below hb)
      have HO10 := hide (ho10.mono (base' := w5.heap.size) (by omega))
      have z8 := hb.size
      replace zR : w.heap.size + 1 + 1 < w8.heap.size := by omega
      replace zT : w.heap.size + 1 + 1 + 1 < w8.heap.size := by omega
      replace zS : w4.heap.size + 1 < w8.heap.size := by omega
      have zQ8 : w4.heap.size < w8.heap.size := by omega
      have kQ0 := m0
      have kQ1 := m1
      replace zQ := zQ8
      clear m0 m1 zQ8
      have s0 := (hb.cell (p := ⟨w4.heap.size + 1, 0, none⟩) zS).trans kS0
      have s1 := (hb.cell (p := ⟨w4.heap.size + 1, 1, none⟩) zS).trans kS1
      have t0 := (hb.frozen (p := ⟨w4.heap.size + 1, 0, none⟩) zS).trans fS0
      have t1 := (hb.frozen (p := ⟨w4.heap.size + 1, 1, none⟩) zS).trans fS1
      go_upto_region 6 with fail
      replace kR0 := (cell_two (N := w4.heap.size + 1) (x := (Value.bool (sgn (x % y)))) (y := (Value.slice a10 (lms (x % y)).length c10)) (p := ⟨w.heap.size + 1 + 1, 0, none⟩) (by dsimp only; omega)).trans ((hb.cell (p := ⟨w.heap.size + 1 + 1, 0, none⟩) zR).trans kR0)
      replace fR0 := (frozen_two (N := w4.heap.size + 1) (x := (Value.bool (sgn (x % y)))) (y := (Value.slice a10 (lms (x % y)).length c10)) (p := ⟨w.heap.size + 1 + 1, 0, none⟩) (by dsimp only; omega)).trans ((hb.frozen (p := ⟨w.heap.size + 1 + 1, 0, none⟩) zR).trans fR0)
      replace kR1 := (cell_two (N := w4.heap.size + 1) (x := (Value.bool (sgn (x % y)))) (y := (Value.slice a10 (lms (x % y)).length c10)) (p := ⟨w.heap.size + 1 + 1, 1, none⟩) (by dsimp only; omega)).trans ((hb.cell (p := ⟨w.heap.size + 1 + 1, 1, none⟩) zR).trans kR1)
      replace fR1 := (frozen_two (N := w4.heap.size + 1) (x := (Value.bool (sgn (x % y)))) (y := (Value.slice a10 (lms (x % y)).length c10)) (p := ⟨w.heap.size + 1 + 1, 1, none⟩) (by dsimp only; omega)).trans ((hb.frozen (p := ⟨w.heap.size + 1 + 1, 1, none⟩) zR).trans fR1)
      replace kT0 := (cell_two (N := w4.heap.size + 1) (x := (Value.bool (sgn (x % y)))) (y := (Value.slice a10 (lms (x % y)).length c10)) (p := ⟨w.heap.size + 1 + 1 + 1, 0, none⟩) (by dsimp only; omega)).trans ((hb.cell (p := ⟨w.heap.size + 1 + 1 + 1, 0, none⟩) zT).trans kT0)
      replace fT0 := (frozen_two (N := w4.heap.size + 1) (x := (Value.bool (sgn (x % y)))) (y := (Value.slice a10 (lms (x % y)).length c10)) (p := ⟨w.heap.size + 1 + 1 + 1, 0, none⟩) (by dsimp only; omega)).trans ((hb.frozen (p := ⟨w.heap.size + 1 + 1 + 1, 0, none⟩) zT).trans fT0)
      replace kT1 := (cell_two (N := w4.heap.size + 1) (x := (Value.bool (sgn (x % y)))) (y := (Value.slice a10 (lms (x % y)).length c10)) (p := ⟨w.heap.size + 1 + 1 + 1, 1, none⟩) (by dsimp only; omega)).trans ((hb.cell (p := ⟨w.heap.size + 1 + 1 + 1, 1, none⟩) zT).trans kT1)
      replace fT1 := (frozen_two (N := w4.heap.size + 1) (x := (Value.bool (sgn (x % y)))) (y := (Value.slice a10 (lms (x % y)).length c10)) (p := ⟨w.heap.size + 1 + 1 + 1, 1, none⟩) (by dsimp only; omega)).trans ((hb.frozen (p := ⟨w.heap.size + 1 + 1 + 1, 1, none⟩) zT).trans fT1)
      replace kQ0 := (cell_two (N := w4.heap.size + 1) (x := (Value.bool (sgn (x % y)))) (y := (Value.slice a10 (lms (x % y)).length c10)) (p := ⟨w4.heap.size, 0, none⟩) (by dsimp only; omega)).trans ((hb.cell (p := ⟨w4.heap.size, 0, none⟩) zQ).trans kQ0)
      replace kQ1 := (cell_two (N := w4.heap.size + 1) (x := (Value.bool (sgn (x % y)))) (y := (Value.slice a10 (lms (x % y)).length c10)) (p := ⟨w4.heap.size, 1, none⟩) (by dsimp only; omega)).trans ((hb.cell (p := ⟨w4.heap.size, 1, none⟩) zQ).trans kQ1)
      have m0 : ((w10.setCell ⟨w4.heap.size + 1, 0, none⟩ (Value.bool (sgn (x % y)))).setCell ⟨w4.heap.size + 1, 1, none⟩ (Value.slice a10 (lms (x % y)).length c10)).cell? ⟨w4.heap.size + 1, 0, none⟩ = some (Value.bool (sgn (x % y))) := by go_simp
      have m1 : ((w10.setCell ⟨w4.heap.size + 1, 0, none⟩ (Value.bool (sgn (x % y)))).setCell ⟨w4.heap.size + 1, 1, none⟩ (Value.slice a10 (lms (x % y)).length c10)).cell? ⟨w4.heap.size + 1, 1, none⟩ = some (Value.slice a10 (lms (x % y)).length c10) := by go_simp
      replace HOB := hide ((HOB.out.setCell (p := ⟨w4.heap.size + 1, 0, none⟩) (by dsimp only; omega) (Value.bool (sgn (x % y)))).setCell (p := ⟨w4.heap.size + 1, 1, none⟩) (by dsimp only; omega) (Value.slice a10 (lms (x % y)).length c10))
      replace HO10 := hide ((HO10.out.setCell (p := ⟨w4.heap.size + 1, 0, none⟩) (by dsimp only; omega) (Value.bool (sgn (x % y)))).setCell (p := ⟨w4.heap.size + 1, 1, none⟩) (by dsimp only; omega) (Value.slice a10 (lms (x % y)).length c10))
      replace B10 := hide (Below.setCell (Below.setCell B10.out (p := ⟨w4.heap.size + 1, 0, none⟩) (by dsimp only; omega) (Value.bool (sgn (x % y)))) (p := ⟨w4.heap.size + 1, 1, none⟩) (by dsimp only; omega) (Value.slice a10 (lms (x % y)).length c10))
      clear s0 s1 t0 t1 kS0 kS1 fS0 fS1 ho9 hv9 ho10 hb9 hb10 hb HO9 HV9
      generalize ((w10.setCell ⟨w4.heap.size + 1, 0, none⟩ (Value.bool (sgn (x % y)))).setCell ⟨w4.heap.size + 1, 1, none⟩ (Value.slice a10 (lms (x % y)).length c10)) = w11 at *
      have kS0 := m0
      have kS1 := m1
      clear m0 m1
      have HB := hide (bl_trans HB4.out B10.out)
      go_region_held3 (fun w' => w'.cell? ⟨w4.heap.size, 0, none⟩ = some (Value.bool (sgn (x / y))) ∧ w'.cell? ⟨w4.heap.size, 1, none⟩ = some (Value.slice aB (lms (x / y)).length cB) ∧ w'.cell? ⟨w4.heap.size + 1, 0, none⟩ = some ((Value.bool (sgn (x % y)))) ∧ w'.cell? ⟨w4.heap.size + 1, 1, none⟩ = some ((Value.slice a10 (lms (x % y)).length c10)))
        (first
          | exact ⟨(by (try rw [World.cell?_drew]); first | with_reducible assumption | (rw [cell_two (N := w.heap.size + 1 + 1) (p := ⟨w4.heap.size, 0, none⟩) (by dsimp only; omega)]; with_reducible assumption) | (rw [cell_two (N := w.heap.size + 1 + 1 + 1) (p := ⟨w4.heap.size, 0, none⟩) (by dsimp only; omega)]; with_reducible assumption) | (rw [cell_two (N := w.heap.size + 1 + 1) (p := ⟨w4.heap.size, 0, none⟩) (by dsimp only; omega), cell_two (N := w.heap.size + 1 + 1 + 1) (p := ⟨w4.heap.size, 0, none⟩) (by dsimp only; omega)]; with_reducible assumption) | (rw [cell_two (N := w.heap.size + 1 + 1 + 1) (p := ⟨w4.heap.size, 0, none⟩) (by dsimp only; omega), cell_two (N := w.heap.size + 1 + 1) (p := ⟨w4.heap.size, 0, none⟩) (by dsimp only; omega)]; with_reducible assumption)), (by (try rw [World.cell?_drew]); first | with_reducible assumption | (rw [cell_two (N := w.heap.size + 1 + 1) (p := ⟨w4.heap.size, 1, none⟩) (by dsimp only; omega)]; with_reducible assumption) | (rw [cell_two (N := w.heap.size + 1 + 1 + 1) (p := ⟨w4.heap.size, 1, none⟩) (by dsimp only; omega)]; with_reducible assumption) | (rw [cell_two (N := w.heap.size + 1 + 1) (p := ⟨w4.heap.size, 1, none⟩) (by dsimp only; omega), cell_two (N := w.heap.size + 1 + 1 + 1) (p := ⟨w4.heap.size, 1, none⟩) (by dsimp only; omega)]; with_reducible assumption) | (rw [cell_two (N := w.heap.size + 1 + 1 + 1) (p := ⟨w4.heap.size, 1, none⟩) (by dsimp only; omega), cell_two (N := w.heap.size + 1 + 1) (p := ⟨w4.heap.size, 1, none⟩) (by dsimp only; omega)]; with_reducible assumption)), (by (try rw [World.cell?_drew]); first | with_reducible assumption | (rw [cell_two (N := w.heap.size + 1 + 1) (p := ⟨w4.heap.size + 1, 0, none⟩) (by dsimp only; omega)]; with_reducible assumption) | (rw [cell_two (N := w.heap.size + 1 + 1 + 1) (p := ⟨w4.heap.size + 1, 0, none⟩) (by dsimp only; omega)]; with_reducible assumption) | (rw [cell_two (N := w.heap.size + 1 + 1) (p := ⟨w4.heap.size + 1, 0, none⟩) (by dsimp only; omega), cell_two (N := w.heap.size + 1 + 1 + 1) (p := ⟨w4.heap.size + 1, 0, none⟩) (by dsimp only; omega)]; with_reducible assumption) | (rw [cell_two (N := w.heap.size + 1 + 1 + 1) (p := ⟨w4.heap.size + 1, 0, none⟩) (by dsimp only; omega), cell_two (N := w.heap.size + 1 + 1) (p := ⟨w4.heap.size + 1, 0, none⟩) (by dsimp only; omega)]; with_reducible assumption)), (by (try rw [World.cell?_drew]); first | with_reducible assumption | (rw [cell_two (N := w.heap.size + 1 + 1) (p := ⟨w4.heap.size + 1, 1, none⟩) (by dsimp only; omega)]; with_reducible assumption) | (rw [cell_two (N := w.heap.size + 1 + 1 + 1) (p := ⟨w4.heap.size + 1, 1, none⟩) (by dsimp only; omega)]; with_reducible assumption) | (rw [cell_two (N := w.heap.size + 1 + 1) (p := ⟨w4.heap.size + 1, 1, none⟩) (by dsimp only; omega), cell_two (N := w.heap.size + 1 + 1 + 1) (p := ⟨w4.heap.size + 1, 1, none⟩) (by dsimp only; omega)]; with_reducible assumption) | (rw [cell_two (N := w.heap.size + 1 + 1 + 1) (p := ⟨w4.heap.size + 1, 1, none⟩) (by dsimp only; omega), cell_two (N := w.heap.size + 1 + 1) (p := ⟨w4.heap.size + 1, 1, none⟩) (by dsimp only; omega)]; with_reducible assumption))⟩)
        (fail)
      all_goals go_wp2_with fail
      all_goals refine bodyPost_ret (v := .tuple #[.agg #[.bool (sgn (x / y)), .slice aB (lms (x / y)).length cB], .agg #[.bool (sgn (x % y)), .slice a10 (lms (x % y)).length c10]]) (by simp [results, Tryz.results66, go_sem, kR0, kR1, kT0, kT1]) rfl ?_
      all_goals refine ⟨aB, cB, a10, c10, rfl, ?_⟩
      all_goals first | exact fin_two'' (N := w.heap.size + 1 + 1) (M := w.heap.size + 1 + 1 + 1) (base := w1.heap.size) (HOB.out.mono (base' := w1.heap.size) (by omega)) (HO10.out.mono (base' := w1.heap.size) (by omega)) (by omega) (by omega) (by omega) (by omega) HB.out _ _ _ _ | exact fin_drew' (fin_two'' (N := w.heap.size + 1 + 1) (M := w.heap.size + 1 + 1 + 1) (base := w1.heap.size) (HOB.out.mono (base' := w1.heap.size) (by omega)) (HO10.out.mono (base' := w1.heap.size) (by omega)) (by omega) (by omega) (by omega) (by omega) HB.out _ _ _ _)
  · have hsx : sgn x = false := decide_eq_false hx
    obtain ⟨e1, e2⟩ := div_same x y hy (.inl (by omega))
    have e3 : mk false (x.natAbs % y.natAbs) = x % y := e2.symm
    have HE1 := hide e1
    have HE2 := hide e3
    clear e1 e2 e3
    generalize mk (!sgn x == sgn y) (x.natAbs / y.natAbs) = q at *
    generalize mk false (x.natAbs % y.natAbs) = r at *
    go_upto_region 6 with fail
    clear hsx
    have hq' := HE2.out; subst hq'
    have hq' := HE1.out.symm; subst hq'
    clear HE1 HE2
    go_region_held3 (fun w' => w'.cell? ⟨w4.heap.size, 0, none⟩ = some (Value.bool (sgn (x / y))) ∧ w'.cell? ⟨w4.heap.size, 1, none⟩ = some (Value.slice a3 (lms (x / y)).length c3) ∧ w'.cell? ⟨w4.heap.size + 1, 0, none⟩ = some (Value.bool (sgn (x % y))) ∧ w'.cell? ⟨w4.heap.size + 1, 1, none⟩ = some (Value.slice a4 (lms (x % y)).length c4))
      (first
        | exact ⟨(by (try rw [World.cell?_drew]); first | with_reducible assumption | (rw [cell_two (N := w.heap.size + 1 + 1) (p := ⟨w4.heap.size, 0, none⟩) (by dsimp only; omega)]; with_reducible assumption) | (rw [cell_two (N := w.heap.size + 1 + 1 + 1) (p := ⟨w4.heap.size, 0, none⟩) (by dsimp only; omega)]; with_reducible assumption) | (rw [cell_two (N := w.heap.size + 1 + 1) (p := ⟨w4.heap.size, 0, none⟩) (by dsimp only; omega), cell_two (N := w.heap.size + 1 + 1 + 1) (p := ⟨w4.heap.size, 0, none⟩) (by dsimp only; omega)]; with_reducible assumption) | (rw [cell_two (N := w.heap.size + 1 + 1 + 1) (p := ⟨w4.heap.size, 0, none⟩) (by dsimp only; omega), cell_two (N := w.heap.size + 1 + 1) (p := ⟨w4.heap.size, 0, none⟩) (by dsimp only; omega)]; with_reducible assumption)), (by (try rw [World.cell?_drew]); first | with_reducible assumption | (rw [cell_two (N := w.heap.size + 1 + 1) (p := ⟨w4.heap.size, 1, none⟩) (by dsimp only; omega)]; with_reducible assumption) | (rw [cell_two (N := w.heap.size + 1 + 1 + 1) (p := ⟨w4.heap.size, 1, none⟩) (by dsimp only; omega)]; with_reducible assumption) | (rw [cell_two (N := w.heap.size + 1 + 1) (p := ⟨w4.heap.size, 1, none⟩) (by dsimp only; omega), cell_two (N := w.heap.size + 1 + 1 + 1) (p := ⟨w4.heap.size, 1, none⟩) (by dsimp only; omega)]; with_reducible assumption) | (rw [cell_two (N := w.heap.size + 1 + 1 + 1) (p := ⟨w4.heap.size, 1, none⟩) (by dsimp only; omega), cell_two (N := w.heap.size + 1 + 1) (p := ⟨w4.heap.size, 1, none⟩) (by dsimp only; omega)]; with_reducible assumption)), (by (try rw [World.cell?_drew]); first | with_reducible assumption | (rw [cell_two (N := w.heap.size + 1 + 1) (p := ⟨w4.heap.size + 1, 0, none⟩) (by dsimp only; omega)]; with_reducible assumption) | (rw [cell_two (N := w.heap.size + 1 + 1 + 1) (p := ⟨w4.heap.size + 1, 0, none⟩) (by dsimp only; omega)]; with_reducible assumption) | (rw [cell_two (N := w.heap.size + 1 + 1) (p := ⟨w4.heap.size + 1, 0, none⟩) (by dsimp only; omega), cell_two (N := w.heap.size + 1 + 1 + 1) (p := ⟨w4.heap.size + 1, 0, none⟩) (by dsimp only; omega)]; with_reducible assumption) | (rw [cell_two (N := w.heap.size + 1 + 1 + 1) (p := ⟨w4.heap.size + 1, 0, none⟩) (by dsimp only; omega), cell_two (N := w.heap.size + 1 + 1) (p := ⟨w4.heap.size + 1, 0, none⟩) (by dsimp only; omega)]; with_reducible assumption)), (by (try rw [World.cell?_drew]); first | with_reducible assumption | (rw [cell_two (N := w.heap.size + 1 + 1) (p := ⟨w4.heap.size + 1, 1, none⟩) (by dsimp only; omega)]; with_reducible assumption) | (rw [cell_two (N := w.heap.size + 1 + 1 + 1) (p := ⟨w4.heap.size + 1, 1, none⟩) (by dsimp only; omega)]; with_reducible assumption) | (rw [cell_two (N := w.heap.size + 1 + 1) (p := ⟨w4.heap.size + 1, 1, none⟩) (by dsimp only; omega), cell_two (N := w.heap.size + 1 + 1 + 1) (p := ⟨w4.heap.size + 1, 1, none⟩) (by dsimp only; omega)]; with_reducible assumption) | (rw [cell_two (N := w.heap.size + 1 + 1 + 1) (p := ⟨w4.heap.size + 1, 1, none⟩) (by dsimp only; omega), cell_two (N := w.heap.size + 1 + 1) (p := ⟨w4.heap.size + 1, 1, none⟩) (by dsimp only; omega)]; with_reducible assumption))⟩)
      (fail)
    all_goals go_wp2_with fail
    all_goals refine bodyPost_ret (v := .tuple #[.agg #[.bool (sgn (x / y)), .slice a3 (lms (x / y)).length c3], .agg #[.bool (sgn (x % y)), .slice a4 (lms (x % y)).length c4]]) (by simp [results, Tryz.results66, go_sem, kR0, kR1, kT0, kT1]) rfl ?_
    all_goals refine ⟨a3, c3, a4, c4, rfl, ?_⟩
    all_goals first | exact fin_two'' (N := w.heap.size + 1 + 1) (M := w.heap.size + 1 + 1 + 1) (base := w1.heap.size) H3.out H4.out (by omega) (by omega) (by omega) (by omega) HB.out _ _ _ _ | exact fin_drew' (fin_two'' (N := w.heap.size + 1 + 1) (M := w.heap.size + 1 + 1 + 1) (base := w1.heap.size) H3.out H4.out (by omega) (by omega) (by omega) (by omega) HB.out _ _ _ _)
end Go.Proofs.YtlknhheafmifnaaGreatDoor

/- Boxes that a region makes at any place among its calls: what is known of one that a call finds. -/
namespace Go.Proofs.YtlknhheafmifnaaGreatDoor
open Go.RowKit
set_option linter.unusedVariables false

/-- a box of a number that nothing is stored in yet -/
def Zr (w : World) (N : Nat) : Prop := N < w.heap.size ∧ w.cell? ⟨N, 0, none⟩ = some (.bool false) ∧ w.cell? ⟨N, 1, none⟩ = some (.slice none 0 0) ∧ w.frozen? ⟨N, 0, none⟩ = false ∧ w.frozen? ⟨N, 1, none⟩ = false
theorem Zr.below {w w' : World} {N : Nat} (h : Zr w N) (hb : Below w.heap.size w w') : Zr w' N :=
  ⟨Nat.lt_of_lt_of_le h.1 hb.size, (hb.cell (p := ⟨N, 0, none⟩) h.1).trans h.2.1, (hb.cell (p := ⟨N, 1, none⟩) h.1).trans h.2.2.1, (hb.frozen (p := ⟨N, 0, none⟩) h.1).trans h.2.2.2.1, (hb.frozen (p := ⟨N, 1, none⟩) h.1).trans h.2.2.2.2⟩
theorem zr_alloc (W : World) : Zr (W.alloc (Obj.cells #[Value.bool false, Value.slice none 0 0] 32)) W.heap.size :=
  ⟨by simp only [World.size_alloc]; omega, by go_simp, by go_simp, by go_simp, by go_simp⟩
theorem born1 {W w : World} (hb : Below (W.alloc (Obj.cells #[Value.bool false, Value.slice none 0 0] 32)).heap.size (W.alloc (Obj.cells #[Value.bool false, Value.slice none 0 0] 32)) w) : Zr w W.heap.size := (zr_alloc W).below hb
theorem born2 {W w : World} (hb : Below ((W.alloc (Obj.cells #[Value.bool false, Value.slice none 0 0] 32)).alloc (Obj.cells #[Value.bool false, Value.slice none 0 0] 32)).heap.size ((W.alloc (Obj.cells #[Value.bool false, Value.slice none 0 0] 32)).alloc (Obj.cells #[Value.bool false, Value.slice none 0 0] 32)) w) : Zr w W.heap.size ∧ Zr w (W.heap.size + 1) :=
  ⟨((zr_alloc W).below (bl_alloc (bl_refl _) _)).below hb, by have := (zr_alloc (W.alloc (Obj.cells #[Value.bool false, Value.slice none 0 0] 32))).below hb; rw [World.size_alloc] at this; exact this⟩
/-- where the world at hand stands against the one behind the call before -/
theorem bl_one {W : World} {o : Obj} {w : World} (hb : Below (W.alloc o).heap.size (W.alloc o) w) : Below W.heap.size W w := bl_trans (bl_alloc (bl_refl W) o) hb
theorem bl_two {W : World} {o o' : Obj} {w : World} (hb : Below ((W.alloc o).alloc o').heap.size ((W.alloc o).alloc o') w) : Below W.heap.size W w := bl_trans (bl_alloc (bl_alloc (bl_refl W) o) o') hb
end Go.Proofs.YtlknhheafmifnaaGreatDoor

/- Two numbers in two boxes, wherever these lie, that are stored into in a loop, and a third box for the answer; the numbers' lists are only read. -/
namespace Go.Proofs.YtlknhheafmifnaaGreatDoor
open Go.RowKit
set_option linter.unusedVariables false

/-- a list that is read, in a block from lo on to below hi -/
def RgS (W : World) (lo hi : Nat) (a : Option Addr) (n cap : Nat) (xs : List Nat) : Prop := Seg W a n cap xs ∧ (0 < n → ∀ g o s, a = some ⟨g, o, s⟩ → lo ≤ g ∧ g < hi)
/-- a list that is read and lies from L on in none of three blocks -/
def Lk (W : World) (L N M R : Nat) (a : Option Addr) (n cap : Nat) (xs : List Nat) : Prop := Seg W a n cap xs ∧ (0 < n → ∀ g o s, a = some ⟨g, o, s⟩ → L ≤ g ∧ g ≠ N ∧ g ≠ M ∧ g ≠ R)
theorem Lk.below {W W' : World} {L N M R : Nat} {a : Option Addr} {n cap : Nat} {xs : List Nat} (h : Lk W L N M R a n cap xs) (hb : Below W.heap.size W W') : Lk W' L N M R a n cap xs := ⟨h.1.below hb, h.2⟩
theorem Seg.setOff {W : World} {a : Option Addr} {n cap : Nat} {xs : List Nat} (h : Seg W a n cap xs) {p : Addr} (hp : 0 < n → ∀ g o s, a = some ⟨g, o, s⟩ → g ≠ p.block) (v : Value) : Seg (W.setCell p v) a n cap xs := by
  obtain ⟨h1, h2, h3, h4, h5⟩ := h
  refine ⟨h1, h2, h3, h4, ?_⟩
  rcases h5 with h5 | ⟨g, o, ha, hg, hc⟩
  · exact .inl h5
  · by_cases h0 : n = 0
    · exact .inl h0
    · refine .inr ⟨g, o, ha, by simp; exact hg, fun j hj => ?_⟩
      rw [World.cell?_of_block (Below.heap_setCell W p v g (hp (by omega) _ _ _ ha))]
      exact hc j hj
theorem Lk.set {W : World} {L N M R : Nat} {a : Option Addr} {n cap : Nat} {xs : List Nat} (h : Lk W L N M R a n cap xs) {p : Addr} (hp : p.block = N ∨ p.block = M ∨ p.block = R) (v : Value) : Lk (W.setCell p v) L N M R a n cap xs := by
  refine ⟨h.1.setOff (fun h0 g o s e => ?_) v, h.2⟩
  obtain ⟨_, h1, h2, h3⟩ := h.2 h0 g o s e
  rcases hp with hp | hp | hp <;> omega
/-- a list in memory of its own behind the three blocks -/
theorem Own.lk {W : World} {base L N M R : Nat} {a : Option Addr} {n cap : Nat} {xs : List Nat} (h : Own W base a n cap xs) (hL : L ≤ base) (hN : N < base) (hM : M < base) (hR : R < base) : Lk W L N M R a n cap xs := by
  refine ⟨h.seg, fun _ g o s e => ?_⟩
  rcases h.cases with ⟨rfl, _⟩ | ⟨g', rfl, h1, h2⟩
  · cases e
  · cases e; omega
/-- .. or between them -/
theorem OwnR.lk {W : World} {lo hi L N M R : Nat} {a : Option Addr} {n cap : Nat} {xs : List Nat} (h : OwnR W lo hi a n cap xs) (hL : L ≤ lo) (hN : N < lo ∨ hi ≤ N) (hM : M < lo ∨ hi ≤ M) (hR : R < lo ∨ hi ≤ R) : Lk W L N M R a n cap xs := by
  refine ⟨h.seg, fun _ g o s e => ?_⟩
  rcases h.1.cases with ⟨rfl, _⟩ | ⟨g', rfl, h1, h2⟩
  · cases e
  · have := h.2 g' rfl
    cases e; omega
theorem Seg.lt {W : World} {a : Option Addr} {n cap : Nat} {xs : List Nat} (h : Seg W a n cap xs) (h0 : 0 < n) {g o : Nat} {s : Option Nat} (e : a = some ⟨g, o, s⟩) : g < W.heap.size := by
  rcases h.2.2.2.2 with h5 | ⟨g', o', ha, hg, _⟩
  · omega
  · rw [ha] at e; cases e; exact hg
theorem Lk.rgs {W : World} {L N M R : Nat} {a : Option Addr} {n cap : Nat} {xs : List Nat} (h : Lk W L N M R a n cap xs) : RgS W L W.heap.size a n cap xs := ⟨h.1, fun h0 g o s e => ⟨(h.2 h0 g o s e).1, h.1.lt h0 e⟩⟩
theorem Own.rgs {W : World} {base : Nat} {a : Option Addr} {n cap : Nat} {xs : List Nat} (h : Own W base a n cap xs) : RgS W base W.heap.size a n cap xs := by
  refine ⟨h.seg, fun h0 g o s e => ⟨?_, h.seg.lt h0 e⟩⟩
  rcases h.cases with ⟨rfl, _⟩ | ⟨g', rfl, h1, h2⟩
  · cases e
  · cases e; exact h1
theorem RgS.below {W W' : World} {lo hi : Nat} {a : Option Addr} {n cap : Nat} {xs : List Nat} (h : RgS W lo hi a n cap xs) (hb : Below W.heap.size W W') : RgS W' lo hi a n cap xs := ⟨h.1.below hb, h.2⟩
theorem RgS.alloc {W : World} {lo hi : Nat} {a : Option Addr} {n cap : Nat} {xs : List Nat} (h : RgS W lo hi a n cap xs) (o : Obj) : RgS (W.alloc o) lo hi a n cap xs := h.below (bl_alloc (bl_refl W) o)
theorem RgS.drew {W : World} {lo hi : Nat} {a : Option Addr} {n cap : Nat} {xs : List Nat} (h : RgS W lo hi a n cap xs) : RgS W.drew lo hi a n cap xs := h.below (bl_refl W).drew
theorem RgS.set {W : World} {lo hi : Nat} {a : Option Addr} {n cap : Nat} {xs : List Nat} (h : RgS W lo hi a n cap xs) {p : Addr} (hp : p.block < lo ∨ hi ≤ p.block) (v : Value) : RgS (W.setCell p v) lo hi a n cap xs :=
  ⟨h.1.setOff (fun h0 g o s e => by have := h.2 h0 g o s e; omega) v, h.2⟩
theorem RgS.mono {W : World} {lo lo' hi hi' : Nat} {a : Option Addr} {n cap : Nat} {xs : List Nat} (h : RgS W lo hi a n cap xs) (h1 : lo' ≤ lo) (h2 : hi ≤ hi') : RgS W lo' hi' a n cap xs := ⟨h.1, fun h0 g o s e => by have := h.2 h0 g o s e; omega⟩
/-- a number that is read, its list from lo on -/
def IsB (W : World) (lo : Nat) (v : Value) (z : Int) : Prop := ∃ a c, v = .agg #[.bool (sgn z), .slice a (lms z).length c] ∧ RgS W lo W.heap.size a (lms z).length c (lms z)
theorem IsB.is {W : World} {lo : Nat} {v : Value} {z : Int} (h : IsB W lo v z) : Is W v z := by obtain ⟨a, c, rfl, h⟩ := h; exact ⟨a, c, rfl, h.1⟩
theorem New.isB {W : World} {lo : Nat} {v : Value} {z : Int} (h : New W lo v z) : IsB W lo v z := by obtain ⟨a, c, rfl, h⟩ := h; exact ⟨a, c, rfl, h.rgs⟩
structure SSt (w W : World) (N M R : Nat) (p q : Int) (ap : Option Addr) (cp : Nat) (aq : Option Addr) (cq : Nat) : Prop where
  kA0 : W.cell? ⟨N, 0, none⟩ = some (.bool (sgn p))
  kA1 : W.cell? ⟨N, 1, none⟩ = some (.slice ap (lms p).length cp)
  kB0 : W.cell? ⟨M, 0, none⟩ = some (.bool (sgn q))
  kB1 : W.cell? ⟨M, 1, none⟩ = some (.slice aq (lms q).length cq)
  kR0 : W.cell? ⟨R, 0, none⟩ = some (.bool false)
  kR1 : W.cell? ⟨R, 1, none⟩ = some (.slice none 0 0)
  fA0 : W.frozen? ⟨N, 0, none⟩ = false
  fA1 : W.frozen? ⟨N, 1, none⟩ = false
  fB0 : W.frozen? ⟨M, 0, none⟩ = false
  fB1 : W.frozen? ⟨M, 1, none⟩ = false
  fR0 : W.frozen? ⟨R, 0, none⟩ = false
  fR1 : W.frozen? ⟨R, 1, none⟩ = false
  zN : N < W.heap.size
  zM : M < W.heap.size
  zR : R < W.heap.size
  hN : w.heap.size ≤ N
  hM : w.heap.size ≤ M
  hR : w.heap.size ≤ R
  n1 : N ≠ M
  n2 : N ≠ R
  n3 : M ≠ R
  oA : Lk W w.heap.size N M R ap (lms p).length cp (lms p)
  oB : Lk W w.heap.size N M R aq (lms q).length cq (lms q)
  bel : Below w.heap.size w W
theorem SSt.below {w W W' : World} {N M R : Nat} {p q : Int} {ap aq : Option Addr} {cp cq : Nat} (h : SSt w W N M R p q ap cp aq cq) (hb : Below W.heap.size W W') : SSt w W' N M R p q ap cp aq cq := by
  obtain ⟨a, b, c, d, e, f, g, h, i, j, k, l, zN, zM, zR, hN, hM, hR, n1, n2, n3, o1, o2, bl⟩ := h
  have := hb.size
  exact ⟨(hb.cell (p := ⟨N, 0, none⟩) zN).trans a, (hb.cell (p := ⟨N, 1, none⟩) zN).trans b, (hb.cell (p := ⟨M, 0, none⟩) zM).trans c, (hb.cell (p := ⟨M, 1, none⟩) zM).trans d, (hb.cell (p := ⟨R, 0, none⟩) zR).trans e, (hb.cell (p := ⟨R, 1, none⟩) zR).trans f,
    (hb.frozen (p := ⟨N, 0, none⟩) zN).trans g, (hb.frozen (p := ⟨N, 1, none⟩) zN).trans h, (hb.frozen (p := ⟨M, 0, none⟩) zM).trans i, (hb.frozen (p := ⟨M, 1, none⟩) zM).trans j, (hb.frozen (p := ⟨R, 0, none⟩) zR).trans k, (hb.frozen (p := ⟨R, 1, none⟩) zR).trans l,
    by omega, by omega, by omega, hN, hM, hR, n1, n2, n3, o1.below hb, o2.below hb, bl_trans bl hb⟩
theorem SSt.set1 {w W : World} {N M R : Nat} {p q r : Int} {ap aq ar : Option Addr} {cp cq cr : Nat} (h : SSt w W N M R p q ap cp aq cq) (ho : Lk W w.heap.size N M R ar (lms r).length cr (lms r)) :
    SSt w ((W.setCell ⟨N, 0, none⟩ (.bool (sgn r))).setCell ⟨N, 1, none⟩ (.slice ar (lms r).length cr)) N M R r q ar cr aq cq := by
  obtain ⟨a, b, c, d, e, f, g, h, i, j, k, l, zN, zM, zR, hN, hM, hR, n1, n2, n3, o1, o2, bl⟩ := h
  exact ⟨by go_simp, by go_simp, (cell_two (N := N) (p := ⟨M, 0, none⟩) (Ne.symm n1)).trans c, (cell_two (N := N) (p := ⟨M, 1, none⟩) (Ne.symm n1)).trans d, (cell_two (N := N) (p := ⟨R, 0, none⟩) (Ne.symm n2)).trans e, (cell_two (N := N) (p := ⟨R, 1, none⟩) (Ne.symm n2)).trans f,
    by simp [g], by simp [h], by simp [i], by simp [j], by simp [k], by simp [l], by simp; omega, by simp; omega, by simp; omega, hN, hM, hR, n1, n2, n3, (ho.set (p := ⟨N, 0, none⟩) (.inl rfl) _).set (p := ⟨N, 1, none⟩) (.inl rfl) _, (o2.set (p := ⟨N, 0, none⟩) (.inl rfl) _).set (p := ⟨N, 1, none⟩) (.inl rfl) _, (bl.setCell (p := ⟨N, 0, none⟩) hN _).setCell (p := ⟨N, 1, none⟩) hN _⟩
theorem SSt.set2 {w W : World} {N M R : Nat} {p q r : Int} {ap aq ar : Option Addr} {cp cq cr : Nat} (h : SSt w W N M R p q ap cp aq cq) (ho : Lk W w.heap.size N M R ar (lms r).length cr (lms r)) :
    SSt w ((W.setCell ⟨M, 0, none⟩ (.bool (sgn r))).setCell ⟨M, 1, none⟩ (.slice ar (lms r).length cr)) N M R p r ap cp ar cr := by
  obtain ⟨a, b, c, d, e, f, g, h, i, j, k, l, zN, zM, zR, hN, hM, hR, n1, n2, n3, o1, o2, bl⟩ := h
  exact ⟨(cell_two (N := M) (p := ⟨N, 0, none⟩) n1).trans a, (cell_two (N := M) (p := ⟨N, 1, none⟩) n1).trans b, by go_simp, by go_simp, (cell_two (N := M) (p := ⟨R, 0, none⟩) (Ne.symm n3)).trans e, (cell_two (N := M) (p := ⟨R, 1, none⟩) (Ne.symm n3)).trans f,
    by simp [g], by simp [h], by simp [i], by simp [j], by simp [k], by simp [l], by simp; omega, by simp; omega, by simp; omega, hN, hM, hR, n1, n2, n3, (o1.set (p := ⟨M, 0, none⟩) (.inr (.inl rfl)) _).set (p := ⟨M, 1, none⟩) (.inr (.inl rfl)) _, (ho.set (p := ⟨M, 0, none⟩) (.inr (.inl rfl)) _).set (p := ⟨M, 1, none⟩) (.inr (.inl rfl)) _, (bl.setCell (p := ⟨M, 0, none⟩) hM _).setCell (p := ⟨M, 1, none⟩) hM _⟩
theorem SSt.fin {w W : World} {N M R : Nat} {p q : Int} {ap aq : Option Addr} {cp cq : Nat} (h : SSt w W N M R p q ap cp aq cq) (x y : Value) :
    IsB ((W.setCell ⟨R, 0, none⟩ x).setCell ⟨R, 1, none⟩ y) w.heap.size (.agg #[.bool (sgn p), .slice ap (lms p).length cp]) p ∧ Below w.heap.size w ((W.setCell ⟨R, 0, none⟩ x).setCell ⟨R, 1, none⟩ y) :=
  ⟨⟨ap, cp, rfl, ((h.oA.set (p := ⟨R, 0, none⟩) (.inr (.inr rfl)) x).set (p := ⟨R, 1, none⟩) (.inr (.inr rfl)) y).rgs⟩, (h.bel.setCell (p := ⟨R, 0, none⟩) h.hR x).setCell (p := ⟨R, 1, none⟩) h.hR y⟩
theorem sst_bb {w W : World} {R loA hiA loB hiB : Nat} {p q : Int} {ap aq : Option Addr} {cp cq : Nat} (kR0 : W.cell? ⟨R, 0, none⟩ = some (.bool false)) (kR1 : W.cell? ⟨R, 1, none⟩ = some (.slice none 0 0)) (fR0 : W.frozen? ⟨R, 0, none⟩ = false) (fR1 : W.frozen? ⟨R, 1, none⟩ = false) (zR : R < W.heap.size) (hR : w.heap.size ≤ R) (oA : OwnR W loA hiA ap (lms p).length cp (lms p)) (oB : OwnR W loB hiB aq (lms q).length cq (lms q)) (rA : R < loA ∨ hiA ≤ R) (rB : R < loB ∨ hiB ≤ R) (hA : hiA ≤ W.heap.size) (hB : hiB ≤ W.heap.size) (lA : w.heap.size ≤ loA) (lB : w.heap.size ≤ loB) (bl : Below w.heap.size w W)  : SSt w ((W.alloc (Obj.cells #[Value.bool (sgn p), Value.slice ap (lms p).length cp] 32)).alloc (Obj.cells #[Value.bool (sgn q), Value.slice aq (lms q).length cq] 32)) (W.heap.size) (W.heap.size + 1) R p q ap cp aq cq := by
  have e1 : ¬ R = W.heap.size := by omega
  have e2 : ¬ R = W.heap.size + 1 := by omega
  have e3 : ¬ W.heap.size = R := by omega
  have e4 : ¬ W.heap.size + 1 = R := by omega
  have hw := bl.size
  exact ⟨(by go_simp), (by go_simp), (by go_simp), (by go_simp), (by go_simp), (by go_simp), (by go_simp), (by go_simp), (by go_simp), (by go_simp), (by go_simp), (by go_simp), (by simp only [World.size_alloc]; omega), (by simp only [World.size_alloc]; omega), (by simp only [World.size_alloc]; omega), (by omega), (by omega), (by omega), (by omega), (by omega), (by omega), (by refine OwnR.lk (lo := loA) (hi := hiA) ?_ (by omega) (by omega) (by omega) (by omega); repeat first | refine OwnR.set ?_ (by first | omega | (dsimp only; omega)) _ | refine OwnR.alloc ?_ _ | exact oA), (by refine OwnR.lk (lo := loB) (hi := hiB) ?_ (by omega) (by omega) (by omega) (by omega); repeat first | refine OwnR.set ?_ (by first | omega | (dsimp only; omega)) _ | refine OwnR.alloc ?_ _ | exact oB), (by repeat first | refine Below.setCell ?_ (by first | omega | (dsimp only; omega)) _ | refine bl_alloc ?_ _ | exact bl)⟩
theorem sst_bb2 {w W : World} {R loA hiA loB hiB : Nat} {p q : Int} {ap aq : Option Addr} {cp cq : Nat} (kR0 : W.cell? ⟨R, 0, none⟩ = some (.bool false)) (kR1 : W.cell? ⟨R, 1, none⟩ = some (.slice none 0 0)) (fR0 : W.frozen? ⟨R, 0, none⟩ = false) (fR1 : W.frozen? ⟨R, 1, none⟩ = false) (zR : R < W.heap.size) (hR : w.heap.size ≤ R) (oA : OwnR W loA hiA ap (lms p).length cp (lms p)) (oB : OwnR W loB hiB aq (lms q).length cq (lms q)) (rA : R < loA ∨ hiA ≤ R) (rB : R < loB ∨ hiB ≤ R) (hA : hiA ≤ W.heap.size) (hB : hiB ≤ W.heap.size) (lA : w.heap.size ≤ loA) (lB : w.heap.size ≤ loB) (bl : Below w.heap.size w W)  : SSt w ((W.alloc (Obj.cells #[Value.bool (sgn q), Value.slice aq (lms q).length cq] 32)).alloc (Obj.cells #[Value.bool (sgn p), Value.slice ap (lms p).length cp] 32)) (W.heap.size + 1) (W.heap.size) R p q ap cp aq cq := by
  have e1 : ¬ R = W.heap.size := by omega
  have e2 : ¬ R = W.heap.size + 1 := by omega
  have e3 : ¬ W.heap.size = R := by omega
  have e4 : ¬ W.heap.size + 1 = R := by omega
  have hw := bl.size
  exact ⟨(by go_simp), (by go_simp), (by go_simp), (by go_simp), (by go_simp), (by go_simp), (by go_simp), (by go_simp), (by go_simp), (by go_simp), (by go_simp), (by go_simp), (by simp only [World.size_alloc]; omega), (by simp only [World.size_alloc]; omega), (by simp only [World.size_alloc]; omega), (by omega), (by omega), (by omega), (by omega), (by omega), (by omega), (by refine OwnR.lk (lo := loA) (hi := hiA) ?_ (by omega) (by omega) (by omega) (by omega); repeat first | refine OwnR.set ?_ (by first | omega | (dsimp only; omega)) _ | refine OwnR.alloc ?_ _ | exact oA), (by refine OwnR.lk (lo := loB) (hi := hiB) ?_ (by omega) (by omega) (by omega) (by omega); repeat first | refine OwnR.set ?_ (by first | omega | (dsimp only; omega)) _ | refine OwnR.alloc ?_ _ | exact oB), (by repeat first | refine Below.setCell ?_ (by first | omega | (dsimp only; omega)) _ | refine bl_alloc ?_ _ | exact bl)⟩
theorem sst_ab {w W : World} {R loA hiA loB hiB : Nat} {p q : Int} {ap aq : Option Addr} {cp cq : Nat} (kR0 : W.cell? ⟨R, 0, none⟩ = some (.bool false)) (kR1 : W.cell? ⟨R, 1, none⟩ = some (.slice none 0 0)) (fR0 : W.frozen? ⟨R, 0, none⟩ = false) (fR1 : W.frozen? ⟨R, 1, none⟩ = false) (zR : R < W.heap.size) (hR : w.heap.size ≤ R) (oA : OwnR W loA hiA ap (lms p).length cp (lms p)) (oB : OwnR W loB hiB aq (lms q).length cq (lms q)) (rA : R < loA ∨ hiA ≤ R) (rB : R < loB ∨ hiB ≤ R) (hA : hiA ≤ W.heap.size) (hB : hiB ≤ W.heap.size) (lA : w.heap.size ≤ loA) (lB : w.heap.size ≤ loB) (bl : Below w.heap.size w W) {N : Nat} (zN : Zr W N) (hN : w.heap.size ≤ N) (nA : N < loA ∨ hiA ≤ N) (nB : N < loB ∨ hiB ≤ N) (nR : N ≠ R) : SSt w (((W.setCell ⟨N, 0, none⟩ (.bool (sgn p))).setCell ⟨N, 1, none⟩ (.slice ap (lms p).length cp)).alloc (Obj.cells #[Value.bool (sgn q), Value.slice aq (lms q).length cq] 32)) (N) (W.heap.size) R p q ap cp aq cq := by
  obtain ⟨gN, cN0, cN1, fN0, fN1⟩ := zN
  have e1 : ¬ R = W.heap.size := by omega
  have e2 : ¬ R = W.heap.size + 1 := by omega
  have e3 : ¬ W.heap.size = R := by omega
  have e4 : ¬ W.heap.size + 1 = R := by omega
  have dN1 : ¬ N = W.heap.size := by omega
  have dN2 : ¬ W.heap.size = N := by omega
  have dN3 : ¬ R = N := fun e => nR e.symm
  have dN4 : ¬ N = R := nR
  have hw := bl.size
  exact ⟨(by go_simp), (by go_simp), (by go_simp), (by go_simp), (by go_simp), (by go_simp), (by go_simp), (by go_simp), (by go_simp), (by go_simp), (by go_simp), (by go_simp), (by simp only [World.size_alloc, World.size_setCell]; omega), (by simp only [World.size_alloc, World.size_setCell]; omega), (by simp only [World.size_alloc, World.size_setCell]; omega), (by omega), (by omega), (by omega), (by omega), (by omega), (by omega), (by refine OwnR.lk (lo := loA) (hi := hiA) ?_ (by omega) (by omega) (by omega) (by omega); repeat first | refine OwnR.set ?_ (by first | omega | (dsimp only; omega)) _ | refine OwnR.alloc ?_ _ | exact oA), (by refine OwnR.lk (lo := loB) (hi := hiB) ?_ (by omega) (by omega) (by omega) (by omega); repeat first | refine OwnR.set ?_ (by first | omega | (dsimp only; omega)) _ | refine OwnR.alloc ?_ _ | exact oB), (by repeat first | refine Below.setCell ?_ (by first | omega | (dsimp only; omega)) _ | refine bl_alloc ?_ _ | exact bl)⟩
theorem sst_ba {w W : World} {R loA hiA loB hiB : Nat} {p q : Int} {ap aq : Option Addr} {cp cq : Nat} (kR0 : W.cell? ⟨R, 0, none⟩ = some (.bool false)) (kR1 : W.cell? ⟨R, 1, none⟩ = some (.slice none 0 0)) (fR0 : W.frozen? ⟨R, 0, none⟩ = false) (fR1 : W.frozen? ⟨R, 1, none⟩ = false) (zR : R < W.heap.size) (hR : w.heap.size ≤ R) (oA : OwnR W loA hiA ap (lms p).length cp (lms p)) (oB : OwnR W loB hiB aq (lms q).length cq (lms q)) (rA : R < loA ∨ hiA ≤ R) (rB : R < loB ∨ hiB ≤ R) (hA : hiA ≤ W.heap.size) (hB : hiB ≤ W.heap.size) (lA : w.heap.size ≤ loA) (lB : w.heap.size ≤ loB) (bl : Below w.heap.size w W) {M : Nat} (zM : Zr W M) (hM : w.heap.size ≤ M) (mA : M < loA ∨ hiA ≤ M) (mB : M < loB ∨ hiB ≤ M) (mR : M ≠ R) : SSt w (((W.setCell ⟨M, 0, none⟩ (.bool (sgn q))).setCell ⟨M, 1, none⟩ (.slice aq (lms q).length cq)).alloc (Obj.cells #[Value.bool (sgn p), Value.slice ap (lms p).length cp] 32)) (W.heap.size) (M) R p q ap cp aq cq := by
  obtain ⟨gM, cM0, cM1, fM0, fM1⟩ := zM
  have e1 : ¬ R = W.heap.size := by omega
  have e2 : ¬ R = W.heap.size + 1 := by omega
  have e3 : ¬ W.heap.size = R := by omega
  have e4 : ¬ W.heap.size + 1 = R := by omega
  have dM1 : ¬ M = W.heap.size := by omega
  have dM2 : ¬ W.heap.size = M := by omega
  have dM3 : ¬ R = M := fun e => mR e.symm
  have dM4 : ¬ M = R := mR
  have hw := bl.size
  exact ⟨(by go_simp), (by go_simp), (by go_simp), (by go_simp), (by go_simp), (by go_simp), (by go_simp), (by go_simp), (by go_simp), (by go_simp), (by go_simp), (by go_simp), (by simp only [World.size_alloc, World.size_setCell]; omega), (by simp only [World.size_alloc, World.size_setCell]; omega), (by simp only [World.size_alloc, World.size_setCell]; omega), (by omega), (by omega), (by omega), (by omega), (by omega), (by omega), (by refine OwnR.lk (lo := loA) (hi := hiA) ?_ (by omega) (by omega) (by omega) (by omega); repeat first | refine OwnR.set ?_ (by first | omega | (dsimp only; omega)) _ | refine OwnR.alloc ?_ _ | exact oA), (by refine OwnR.lk (lo := loB) (hi := hiB) ?_ (by omega) (by omega) (by omega) (by omega); repeat first | refine OwnR.set ?_ (by first | omega | (dsimp only; omega)) _ | refine OwnR.alloc ?_ _ | exact oB), (by repeat first | refine Below.setCell ?_ (by first | omega | (dsimp only; omega)) _ | refine bl_alloc ?_ _ | exact bl)⟩
theorem sst_aa {w W : World} {R loA hiA loB hiB : Nat} {p q : Int} {ap aq : Option Addr} {cp cq : Nat} (kR0 : W.cell? ⟨R, 0, none⟩ = some (.bool false)) (kR1 : W.cell? ⟨R, 1, none⟩ = some (.slice none 0 0)) (fR0 : W.frozen? ⟨R, 0, none⟩ = false) (fR1 : W.frozen? ⟨R, 1, none⟩ = false) (zR : R < W.heap.size) (hR : w.heap.size ≤ R) (oA : OwnR W loA hiA ap (lms p).length cp (lms p)) (oB : OwnR W loB hiB aq (lms q).length cq (lms q)) (rA : R < loA ∨ hiA ≤ R) (rB : R < loB ∨ hiB ≤ R) (hA : hiA ≤ W.heap.size) (hB : hiB ≤ W.heap.size) (lA : w.heap.size ≤ loA) (lB : w.heap.size ≤ loB) (bl : Below w.heap.size w W) {N : Nat} (zN : Zr W N) (hN : w.heap.size ≤ N) (nA : N < loA ∨ hiA ≤ N) (nB : N < loB ∨ hiB ≤ N) (nR : N ≠ R) {M : Nat} (zM : Zr W M) (hM : w.heap.size ≤ M) (mA : M < loA ∨ hiA ≤ M) (mB : M < loB ∨ hiB ≤ M) (mR : M ≠ R) (nM : N ≠ M) : SSt w ((((W.setCell ⟨N, 0, none⟩ (.bool (sgn p))).setCell ⟨N, 1, none⟩ (.slice ap (lms p).length cp)).setCell ⟨M, 0, none⟩ (.bool (sgn q))).setCell ⟨M, 1, none⟩ (.slice aq (lms q).length cq)) (N) (M) R p q ap cp aq cq := by
  obtain ⟨gN, cN0, cN1, fN0, fN1⟩ := zN
  obtain ⟨gM, cM0, cM1, fM0, fM1⟩ := zM
  have dN1 : ¬ N = W.heap.size := by omega
  have dN2 : ¬ W.heap.size = N := by omega
  have dN3 : ¬ R = N := fun e => nR e.symm
  have dN4 : ¬ N = R := nR
  have dM1 : ¬ M = W.heap.size := by omega
  have dM2 : ¬ W.heap.size = M := by omega
  have dM3 : ¬ R = M := fun e => mR e.symm
  have dM4 : ¬ M = R := mR
  have dNM : ¬ M = N := fun e => nM e.symm
  have hw := bl.size
  exact ⟨(by go_simp), (by go_simp), (by go_simp), (by go_simp), (by go_simp), (by go_simp), (by go_simp), (by go_simp), (by go_simp), (by go_simp), (by go_simp), (by go_simp), (by simp only [World.size_setCell]; omega), (by simp only [World.size_setCell]; omega), (by simp only [World.size_setCell]; omega), (by omega), (by omega), (by omega), (by omega), (by omega), (by omega), (by refine OwnR.lk (lo := loA) (hi := hiA) ?_ (by omega) (by omega) (by omega) (by omega); repeat first | refine OwnR.set ?_ (by first | omega | (dsimp only; omega)) _ | refine OwnR.alloc ?_ _ | exact oA), (by refine OwnR.lk (lo := loB) (hi := hiB) ?_ (by omega) (by omega) (by omega) (by omega); repeat first | refine OwnR.set ?_ (by first | omega | (dsimp only; omega)) _ | refine OwnR.alloc ?_ _ | exact oB), (by repeat first | refine Below.setCell ?_ (by first | omega | (dsimp only; omega)) _ | refine bl_alloc ?_ _ | exact bl)⟩
end Go.Proofs.YtlknhheafmifnaaGreatDoor

/- What the law asks of fractions. -/
namespace Go.Proofs.YtlknhheafmifnaaGreatDoor
open Go.RowKit
set_option linter.unusedVariables false

set_option maxHeartbeats 4000000 in
set_option maxRecDepth 20000 in
theorem szR (n : Bool) (a : Option Addr) (l c : Nat) (m : Bool) (b : Option Addr) (k d : Nat) (left : Int) (w : World) (hl : l ≤ 9223372036854775807) (hk : k ≤ 9223372036854775807) (h0 : 0 ≤ left) (h1 : left ≤ 1048576) :
    Calls Tryz.prog 12 #[(.agg #[.bool n, .slice a l c, .bool m, .slice b k d]), .int .i64 left] w fun e w' => e = .returned (.int .i64 (if left < l then -1 else if left - l < k then -1 else left - l - k)) ∧ Below w.heap.size w w' := by
  have kA0 : (w.alloc (Obj.cells #[Value.bool n, Value.slice a l c, Value.bool m, Value.slice b k d] 26)).cell? ⟨w.heap.size, 0, none⟩ = some (Value.bool n) := by go_simp
  have kA1 : (w.alloc (Obj.cells #[Value.bool n, Value.slice a l c, Value.bool m, Value.slice b k d] 26)).cell? ⟨w.heap.size, 1, none⟩ = some (Value.slice a l c) := by go_simp
  have kA2 : (w.alloc (Obj.cells #[Value.bool n, Value.slice a l c, Value.bool m, Value.slice b k d] 26)).cell? ⟨w.heap.size, 2, none⟩ = some (Value.bool m) := by go_simp
  have kA3 : (w.alloc (Obj.cells #[Value.bool n, Value.slice a l c, Value.bool m, Value.slice b k d] 26)).cell? ⟨w.heap.size, 3, none⟩ = some (Value.slice b k d) := by go_simp
  have zA : w.heap.size < (w.alloc (Obj.cells #[Value.bool n, Value.slice a l c, Value.bool m, Value.slice b k d] 26)).heap.size := by simp only [World.size_alloc]; omega
  have HB := hide (bl_alloc (bl_refl w) (Obj.cells #[Value.bool n, Value.slice a l c, Value.bool m, Value.slice b k d] 26))
  have y0 : w.heap.size + 1 ≤ (w.alloc (Obj.cells #[Value.bool n, Value.slice a l c, Value.bool m, Value.slice b k d] 26)).heap.size := by simp only [World.size_alloc]; omega
  go_enter Tryz.func12, Tryz.ntmps12
  go_wp2_with fail
  generalize (w.alloc (Obj.cells #[Value.bool n, Value.slice a l c, Value.bool m, Value.slice b k d] 26)) = w1 at *
  refine (szB n a l c left _ hl h0 h1).mono ?_
  rintro e w2 ⟨rfl, hbw2⟩
  have yw2 := hbw2.size
  replace kA0 := (hbw2.cell (p := ⟨w.heap.size, 0, none⟩) zA).trans kA0
  replace kA1 := (hbw2.cell (p := ⟨w.heap.size, 1, none⟩) zA).trans kA1
  replace kA2 := (hbw2.cell (p := ⟨w.heap.size, 2, none⟩) zA).trans kA2
  replace kA3 := (hbw2.cell (p := ⟨w.heap.size, 3, none⟩) zA).trans kA3
  replace zA := Nat.lt_of_lt_of_le zA hbw2.size
  replace HB := hide (bl_trans HB.out hbw2)
  clear hbw2
  by_cases c1 : left < (l : Int)
  · rw [if_pos c1]
    go_wp2
    go_ret
    exact ⟨ret_int (by (repeat' split) <;> omega), HB.out⟩
  rw [if_neg c1]
  go_wp2_with fail
  refine (szB m b k d (left - (l : Int)) _ hk (by omega) (by omega)).mono ?_
  rintro e w3 ⟨rfl, hbw3⟩
  have yw3 := hbw3.size
  replace kA0 := (hbw3.cell (p := ⟨w.heap.size, 0, none⟩) zA).trans kA0
  replace kA1 := (hbw3.cell (p := ⟨w.heap.size, 1, none⟩) zA).trans kA1
  replace kA2 := (hbw3.cell (p := ⟨w.heap.size, 2, none⟩) zA).trans kA2
  replace kA3 := (hbw3.cell (p := ⟨w.heap.size, 3, none⟩) zA).trans kA3
  replace zA := Nat.lt_of_lt_of_le zA hbw3.size
  replace HB := hide (bl_trans HB.out hbw3)
  clear hbw3
  by_cases c2 : left - (l : Int) < (k : Int)
  · rw [if_pos c2]
    go_wp2
    go_ret
    exact ⟨ret_int (by (repeat' split) <;> omega), HB.out⟩
  rw [if_neg c2]
  go_wp2
  go_ret
  exact ⟨ret_int (by (repeat' split) <;> omega), HB.out⟩

set_option maxHeartbeats 4000000 in
set_option maxRecDepth 20000 in
theorem eqR (n : Bool) (xs : List Nat) (m : Bool) (ys : List Nat) (a1 : Option Addr) (c1 : Nat) (a2 : Option Addr) (c2 : Nat) (a3 : Option Addr) (c3 : Nat) (a4 : Option Addr) (c4 : Nat) (w : World) (s1 : Seg w a1 xs.length c1 xs) (s2 : Seg w a2 ys.length c2 ys) (s3 : Seg w a3 xs.length c3 xs) (s4 : Seg w a4 ys.length c4 ys) :
    Calls Tryz.prog 18 #[.agg #[.bool n, .slice a1 xs.length c1, .bool m, .slice a2 ys.length c2], .agg #[.bool n, .slice a3 xs.length c3, .bool m, .slice a4 ys.length c4]] w fun e w' => e = .returned (.bool true) ∧ Below w.heap.size w w' := by
  have H1 := hide s1
  have H2 := hide s2
  have H3 := hide s3
  have H4 := hide s4
  clear s1 s2 s3 s4
  have kA0 : ((w.alloc (Obj.cells #[Value.bool n, Value.slice a1 xs.length c1, Value.bool m, Value.slice a2 ys.length c2] 34)).alloc (Obj.cells #[Value.bool n, Value.slice a3 xs.length c3, Value.bool m, Value.slice a4 ys.length c4] 34)).cell? ⟨w.heap.size, 0, none⟩ = some (Value.bool n) := by go_simp
  have kA1 : ((w.alloc (Obj.cells #[Value.bool n, Value.slice a1 xs.length c1, Value.bool m, Value.slice a2 ys.length c2] 34)).alloc (Obj.cells #[Value.bool n, Value.slice a3 xs.length c3, Value.bool m, Value.slice a4 ys.length c4] 34)).cell? ⟨w.heap.size, 1, none⟩ = some (Value.slice a1 xs.length c1) := by go_simp
  have kA2 : ((w.alloc (Obj.cells #[Value.bool n, Value.slice a1 xs.length c1, Value.bool m, Value.slice a2 ys.length c2] 34)).alloc (Obj.cells #[Value.bool n, Value.slice a3 xs.length c3, Value.bool m, Value.slice a4 ys.length c4] 34)).cell? ⟨w.heap.size, 2, none⟩ = some (Value.bool m) := by go_simp
  have kA3 : ((w.alloc (Obj.cells #[Value.bool n, Value.slice a1 xs.length c1, Value.bool m, Value.slice a2 ys.length c2] 34)).alloc (Obj.cells #[Value.bool n, Value.slice a3 xs.length c3, Value.bool m, Value.slice a4 ys.length c4] 34)).cell? ⟨w.heap.size, 3, none⟩ = some (Value.slice a2 ys.length c2) := by go_simp
  have zA : w.heap.size < ((w.alloc (Obj.cells #[Value.bool n, Value.slice a1 xs.length c1, Value.bool m, Value.slice a2 ys.length c2] 34)).alloc (Obj.cells #[Value.bool n, Value.slice a3 xs.length c3, Value.bool m, Value.slice a4 ys.length c4] 34)).heap.size := by simp only [World.size_alloc]; omega
  have kB0 : ((w.alloc (Obj.cells #[Value.bool n, Value.slice a1 xs.length c1, Value.bool m, Value.slice a2 ys.length c2] 34)).alloc (Obj.cells #[Value.bool n, Value.slice a3 xs.length c3, Value.bool m, Value.slice a4 ys.length c4] 34)).cell? ⟨w.heap.size + 1, 0, none⟩ = some (Value.bool n) := by go_simp
  have kB1 : ((w.alloc (Obj.cells #[Value.bool n, Value.slice a1 xs.length c1, Value.bool m, Value.slice a2 ys.length c2] 34)).alloc (Obj.cells #[Value.bool n, Value.slice a3 xs.length c3, Value.bool m, Value.slice a4 ys.length c4] 34)).cell? ⟨w.heap.size + 1, 1, none⟩ = some (Value.slice a3 xs.length c3) := by go_simp
  have kB2 : ((w.alloc (Obj.cells #[Value.bool n, Value.slice a1 xs.length c1, Value.bool m, Value.slice a2 ys.length c2] 34)).alloc (Obj.cells #[Value.bool n, Value.slice a3 xs.length c3, Value.bool m, Value.slice a4 ys.length c4] 34)).cell? ⟨w.heap.size + 1, 2, none⟩ = some (Value.bool m) := by go_simp
  have kB3 : ((w.alloc (Obj.cells #[Value.bool n, Value.slice a1 xs.length c1, Value.bool m, Value.slice a2 ys.length c2] 34)).alloc (Obj.cells #[Value.bool n, Value.slice a3 xs.length c3, Value.bool m, Value.slice a4 ys.length c4] 34)).cell? ⟨w.heap.size + 1, 3, none⟩ = some (Value.slice a4 ys.length c4) := by go_simp
  have zB : w.heap.size + 1 < ((w.alloc (Obj.cells #[Value.bool n, Value.slice a1 xs.length c1, Value.bool m, Value.slice a2 ys.length c2] 34)).alloc (Obj.cells #[Value.bool n, Value.slice a3 xs.length c3, Value.bool m, Value.slice a4 ys.length c4] 34)).heap.size := by simp only [World.size_alloc]; omega
  have HB := hide (bl_alloc (bl_alloc (bl_refl w) (Obj.cells #[Value.bool n, Value.slice a1 xs.length c1, Value.bool m, Value.slice a2 ys.length c2] 34)) (Obj.cells #[Value.bool n, Value.slice a3 xs.length c3, Value.bool m, Value.slice a4 ys.length c4] 34))
  replace H1 := hide (H1.out.below HB.out)
  replace H2 := hide (H2.out.below HB.out)
  replace H3 := hide (H3.out.below HB.out)
  replace H4 := hide (H4.out.below HB.out)
  have y0 : w.heap.size + 2 ≤ ((w.alloc (Obj.cells #[Value.bool n, Value.slice a1 xs.length c1, Value.bool m, Value.slice a2 ys.length c2] 34)).alloc (Obj.cells #[Value.bool n, Value.slice a3 xs.length c3, Value.bool m, Value.slice a4 ys.length c4] 34)).heap.size := by simp only [World.size_alloc]; omega
  go_enter Tryz.func18, Tryz.ntmps18
  go_wp2_with fail
  generalize ((w.alloc (Obj.cells #[Value.bool n, Value.slice a1 xs.length c1, Value.bool m, Value.slice a2 ys.length c2] 34)).alloc (Obj.cells #[Value.bool n, Value.slice a3 xs.length c3, Value.bool m, Value.slice a4 ys.length c4] 34)) = w1 at *
  refine (eqB _ _ n xs _ ⟨a1, c1, rfl, H1.out⟩ ⟨a3, c3, rfl, H3.out⟩).mono ?_
  rintro e w2 ⟨rfl, hbw2⟩
  have yw2 := hbw2.size
  replace kA0 := (hbw2.cell (p := ⟨w.heap.size, 0, none⟩) zA).trans kA0
  replace kA1 := (hbw2.cell (p := ⟨w.heap.size, 1, none⟩) zA).trans kA1
  replace kA2 := (hbw2.cell (p := ⟨w.heap.size, 2, none⟩) zA).trans kA2
  replace kA3 := (hbw2.cell (p := ⟨w.heap.size, 3, none⟩) zA).trans kA3
  replace zA := Nat.lt_of_lt_of_le zA hbw2.size
  replace kB0 := (hbw2.cell (p := ⟨w.heap.size + 1, 0, none⟩) zB).trans kB0
  replace kB1 := (hbw2.cell (p := ⟨w.heap.size + 1, 1, none⟩) zB).trans kB1
  replace kB2 := (hbw2.cell (p := ⟨w.heap.size + 1, 2, none⟩) zB).trans kB2
  replace kB3 := (hbw2.cell (p := ⟨w.heap.size + 1, 3, none⟩) zB).trans kB3
  replace zB := Nat.lt_of_lt_of_le zB hbw2.size
  replace H1 := hide (H1.out.below hbw2)
  replace H2 := hide (H2.out.below hbw2)
  replace H3 := hide (H3.out.below hbw2)
  replace H4 := hide (H4.out.below hbw2)
  replace HB := hide (bl_trans HB.out hbw2)
  clear hbw2
  go_wp2_with fail
  refine (eqB _ _ m ys _ ⟨a2, c2, rfl, H2.out⟩ ⟨a4, c4, rfl, H4.out⟩).mono ?_
  rintro e w3 ⟨rfl, hbw3⟩
  have yw3 := hbw3.size
  replace kA0 := (hbw3.cell (p := ⟨w.heap.size, 0, none⟩) zA).trans kA0
  replace kA1 := (hbw3.cell (p := ⟨w.heap.size, 1, none⟩) zA).trans kA1
  replace kA2 := (hbw3.cell (p := ⟨w.heap.size, 2, none⟩) zA).trans kA2
  replace kA3 := (hbw3.cell (p := ⟨w.heap.size, 3, none⟩) zA).trans kA3
  replace zA := Nat.lt_of_lt_of_le zA hbw3.size
  replace kB0 := (hbw3.cell (p := ⟨w.heap.size + 1, 0, none⟩) zB).trans kB0
  replace kB1 := (hbw3.cell (p := ⟨w.heap.size + 1, 1, none⟩) zB).trans kB1
  replace kB2 := (hbw3.cell (p := ⟨w.heap.size + 1, 2, none⟩) zB).trans kB2
  replace kB3 := (hbw3.cell (p := ⟨w.heap.size + 1, 3, none⟩) zB).trans kB3
  replace zB := Nat.lt_of_lt_of_le zB hbw3.size
  replace H1 := hide (H1.out.below hbw3)
  replace H2 := hide (H2.out.below hbw3)
  replace H3 := hide (H3.out.below hbw3)
  replace H4 := hide (H4.out.below hbw3)
  replace HB := hide (bl_trans HB.out hbw3)
  clear hbw3
  go_wp2
  go_ret
  exact ⟨rfl, HB.out⟩

set_option maxHeartbeats 4000000 in
set_option maxRecDepth 20000 in
theorem toR (n : Bool) (a : Option Addr) (c : Nat) (xs : List Nat) (m : Bool) (b : Option Addr) (d : Nat) (ys : List Nat) (w : World) (s1 : Seg w a xs.length c xs) (s2 : Seg w b ys.length d ys) (h1 : xs.length ≤ 1048576) (h2 : ys.length ≤ 1048576) :
    Calls Tryz.prog 15 #[.agg #[.bool n, .slice a xs.length c, .bool m, .slice b ys.length d]] w fun e w' => ∃ a1 c1 a2 c2, e = .returned (.agg #[.bool n, .slice a1 xs.length c1, .bool m, .slice a2 ys.length c2]) ∧ Own w' w.heap.size a1 xs.length c1 xs ∧ Own w' w.heap.size a2 ys.length c2 ys ∧ Apart a1 a2 ∧ Below w.heap.size w w' := by
  have H1 := hide s1
  have H2 := hide s2
  clear s1 s2
  have kA0 : (((w.alloc (Obj.cells #[Value.bool n, Value.slice a xs.length c, Value.bool m, Value.slice b ys.length d] 26)).alloc (Obj.cells #[Value.bool false, Value.slice none 0 0, Value.bool false, Value.slice none 0 0] 34)).alloc (Obj.cells #[Value.bool false, Value.slice none 0 0, Value.bool false, Value.slice none 0 0] 34)).cell? ⟨w.heap.size, 0, none⟩ = some (Value.bool n) := by go_simp
  have kA1 : (((w.alloc (Obj.cells #[Value.bool n, Value.slice a xs.length c, Value.bool m, Value.slice b ys.length d] 26)).alloc (Obj.cells #[Value.bool false, Value.slice none 0 0, Value.bool false, Value.slice none 0 0] 34)).alloc (Obj.cells #[Value.bool false, Value.slice none 0 0, Value.bool false, Value.slice none 0 0] 34)).cell? ⟨w.heap.size, 1, none⟩ = some (Value.slice a xs.length c) := by go_simp
  have kA2 : (((w.alloc (Obj.cells #[Value.bool n, Value.slice a xs.length c, Value.bool m, Value.slice b ys.length d] 26)).alloc (Obj.cells #[Value.bool false, Value.slice none 0 0, Value.bool false, Value.slice none 0 0] 34)).alloc (Obj.cells #[Value.bool false, Value.slice none 0 0, Value.bool false, Value.slice none 0 0] 34)).cell? ⟨w.heap.size, 2, none⟩ = some (Value.bool m) := by go_simp
  have kA3 : (((w.alloc (Obj.cells #[Value.bool n, Value.slice a xs.length c, Value.bool m, Value.slice b ys.length d] 26)).alloc (Obj.cells #[Value.bool false, Value.slice none 0 0, Value.bool false, Value.slice none 0 0] 34)).alloc (Obj.cells #[Value.bool false, Value.slice none 0 0, Value.bool false, Value.slice none 0 0] 34)).cell? ⟨w.heap.size, 3, none⟩ = some (Value.slice b ys.length d) := by go_simp
  have zA : w.heap.size < (((w.alloc (Obj.cells #[Value.bool n, Value.slice a xs.length c, Value.bool m, Value.slice b ys.length d] 26)).alloc (Obj.cells #[Value.bool false, Value.slice none 0 0, Value.bool false, Value.slice none 0 0] 34)).alloc (Obj.cells #[Value.bool false, Value.slice none 0 0, Value.bool false, Value.slice none 0 0] 34)).heap.size := by simp only [World.size_alloc]; omega
  have kR0 : (((w.alloc (Obj.cells #[Value.bool n, Value.slice a xs.length c, Value.bool m, Value.slice b ys.length d] 26)).alloc (Obj.cells #[Value.bool false, Value.slice none 0 0, Value.bool false, Value.slice none 0 0] 34)).alloc (Obj.cells #[Value.bool false, Value.slice none 0 0, Value.bool false, Value.slice none 0 0] 34)).cell? ⟨w.heap.size + 1, 0, none⟩ = some (Value.bool false) := by go_simp
  have fR0 : (((w.alloc (Obj.cells #[Value.bool n, Value.slice a xs.length c, Value.bool m, Value.slice b ys.length d] 26)).alloc (Obj.cells #[Value.bool false, Value.slice none 0 0, Value.bool false, Value.slice none 0 0] 34)).alloc (Obj.cells #[Value.bool false, Value.slice none 0 0, Value.bool false, Value.slice none 0 0] 34)).frozen? ⟨w.heap.size + 1, 0, none⟩ = false := by go_simp
  have kR1 : (((w.alloc (Obj.cells #[Value.bool n, Value.slice a xs.length c, Value.bool m, Value.slice b ys.length d] 26)).alloc (Obj.cells #[Value.bool false, Value.slice none 0 0, Value.bool false, Value.slice none 0 0] 34)).alloc (Obj.cells #[Value.bool false, Value.slice none 0 0, Value.bool false, Value.slice none 0 0] 34)).cell? ⟨w.heap.size + 1, 1, none⟩ = some (Value.slice none 0 0) := by go_simp
  have fR1 : (((w.alloc (Obj.cells #[Value.bool n, Value.slice a xs.length c, Value.bool m, Value.slice b ys.length d] 26)).alloc (Obj.cells #[Value.bool false, Value.slice none 0 0, Value.bool false, Value.slice none 0 0] 34)).alloc (Obj.cells #[Value.bool false, Value.slice none 0 0, Value.bool false, Value.slice none 0 0] 34)).frozen? ⟨w.heap.size + 1, 1, none⟩ = false := by go_simp
  have kR2 : (((w.alloc (Obj.cells #[Value.bool n, Value.slice a xs.length c, Value.bool m, Value.slice b ys.length d] 26)).alloc (Obj.cells #[Value.bool false, Value.slice none 0 0, Value.bool false, Value.slice none 0 0] 34)).alloc (Obj.cells #[Value.bool false, Value.slice none 0 0, Value.bool false, Value.slice none 0 0] 34)).cell? ⟨w.heap.size + 1, 2, none⟩ = some (Value.bool false) := by go_simp
  have fR2 : (((w.alloc (Obj.cells #[Value.bool n, Value.slice a xs.length c, Value.bool m, Value.slice b ys.length d] 26)).alloc (Obj.cells #[Value.bool false, Value.slice none 0 0, Value.bool false, Value.slice none 0 0] 34)).alloc (Obj.cells #[Value.bool false, Value.slice none 0 0, Value.bool false, Value.slice none 0 0] 34)).frozen? ⟨w.heap.size + 1, 2, none⟩ = false := by go_simp
  have kR3 : (((w.alloc (Obj.cells #[Value.bool n, Value.slice a xs.length c, Value.bool m, Value.slice b ys.length d] 26)).alloc (Obj.cells #[Value.bool false, Value.slice none 0 0, Value.bool false, Value.slice none 0 0] 34)).alloc (Obj.cells #[Value.bool false, Value.slice none 0 0, Value.bool false, Value.slice none 0 0] 34)).cell? ⟨w.heap.size + 1, 3, none⟩ = some (Value.slice none 0 0) := by go_simp
  have fR3 : (((w.alloc (Obj.cells #[Value.bool n, Value.slice a xs.length c, Value.bool m, Value.slice b ys.length d] 26)).alloc (Obj.cells #[Value.bool false, Value.slice none 0 0, Value.bool false, Value.slice none 0 0] 34)).alloc (Obj.cells #[Value.bool false, Value.slice none 0 0, Value.bool false, Value.slice none 0 0] 34)).frozen? ⟨w.heap.size + 1, 3, none⟩ = false := by go_simp
  have zR : w.heap.size + 1 < (((w.alloc (Obj.cells #[Value.bool n, Value.slice a xs.length c, Value.bool m, Value.slice b ys.length d] 26)).alloc (Obj.cells #[Value.bool false, Value.slice none 0 0, Value.bool false, Value.slice none 0 0] 34)).alloc (Obj.cells #[Value.bool false, Value.slice none 0 0, Value.bool false, Value.slice none 0 0] 34)).heap.size := by simp only [World.size_alloc]; omega
  have kT0 : (((w.alloc (Obj.cells #[Value.bool n, Value.slice a xs.length c, Value.bool m, Value.slice b ys.length d] 26)).alloc (Obj.cells #[Value.bool false, Value.slice none 0 0, Value.bool false, Value.slice none 0 0] 34)).alloc (Obj.cells #[Value.bool false, Value.slice none 0 0, Value.bool false, Value.slice none 0 0] 34)).cell? ⟨w.heap.size + 1 + 1, 0, none⟩ = some (Value.bool false) := by go_simp
  have fT0 : (((w.alloc (Obj.cells #[Value.bool n, Value.slice a xs.length c, Value.bool m, Value.slice b ys.length d] 26)).alloc (Obj.cells #[Value.bool false, Value.slice none 0 0, Value.bool false, Value.slice none 0 0] 34)).alloc (Obj.cells #[Value.bool false, Value.slice none 0 0, Value.bool false, Value.slice none 0 0] 34)).frozen? ⟨w.heap.size + 1 + 1, 0, none⟩ = false := by go_simp
  have kT1 : (((w.alloc (Obj.cells #[Value.bool n, Value.slice a xs.length c, Value.bool m, Value.slice b ys.length d] 26)).alloc (Obj.cells #[Value.bool false, Value.slice none 0 0, Value.bool false, Value.slice none 0 0] 34)).alloc (Obj.cells #[Value.bool false, Value.slice none 0 0, Value.bool false, Value.slice none 0 0] 34)).cell? ⟨w.heap.size + 1 + 1, 1, none⟩ = some (Value.slice none 0 0) := by go_simp
  have fT1 : (((w.alloc (Obj.cells #[Value.bool n, Value.slice a xs.length c, Value.bool m, Value.slice b ys.length d] 26)).alloc (Obj.cells #[Value.bool false, Value.slice none 0 0, Value.bool false, Value.slice none 0 0] 34)).alloc (Obj.cells #[Value.bool false, Value.slice none 0 0, Value.bool false, Value.slice none 0 0] 34)).frozen? ⟨w.heap.size + 1 + 1, 1, none⟩ = false := by go_simp
  have kT2 : (((w.alloc (Obj.cells #[Value.bool n, Value.slice a xs.length c, Value.bool m, Value.slice b ys.length d] 26)).alloc (Obj.cells #[Value.bool false, Value.slice none 0 0, Value.bool false, Value.slice none 0 0] 34)).alloc (Obj.cells #[Value.bool false, Value.slice none 0 0, Value.bool false, Value.slice none 0 0] 34)).cell? ⟨w.heap.size + 1 + 1, 2, none⟩ = some (Value.bool false) := by go_simp
  have fT2 : (((w.alloc (Obj.cells #[Value.bool n, Value.slice a xs.length c, Value.bool m, Value.slice b ys.length d] 26)).alloc (Obj.cells #[Value.bool false, Value.slice none 0 0, Value.bool false, Value.slice none 0 0] 34)).alloc (Obj.cells #[Value.bool false, Value.slice none 0 0, Value.bool false, Value.slice none 0 0] 34)).frozen? ⟨w.heap.size + 1 + 1, 2, none⟩ = false := by go_simp
  have kT3 : (((w.alloc (Obj.cells #[Value.bool n, Value.slice a xs.length c, Value.bool m, Value.slice b ys.length d] 26)).alloc (Obj.cells #[Value.bool false, Value.slice none 0 0, Value.bool false, Value.slice none 0 0] 34)).alloc (Obj.cells #[Value.bool false, Value.slice none 0 0, Value.bool false, Value.slice none 0 0] 34)).cell? ⟨w.heap.size + 1 + 1, 3, none⟩ = some (Value.slice none 0 0) := by go_simp
  have fT3 : (((w.alloc (Obj.cells #[Value.bool n, Value.slice a xs.length c, Value.bool m, Value.slice b ys.length d] 26)).alloc (Obj.cells #[Value.bool false, Value.slice none 0 0, Value.bool false, Value.slice none 0 0] 34)).alloc (Obj.cells #[Value.bool false, Value.slice none 0 0, Value.bool false, Value.slice none 0 0] 34)).frozen? ⟨w.heap.size + 1 + 1, 3, none⟩ = false := by go_simp
  have zT : w.heap.size + 1 + 1 < (((w.alloc (Obj.cells #[Value.bool n, Value.slice a xs.length c, Value.bool m, Value.slice b ys.length d] 26)).alloc (Obj.cells #[Value.bool false, Value.slice none 0 0, Value.bool false, Value.slice none 0 0] 34)).alloc (Obj.cells #[Value.bool false, Value.slice none 0 0, Value.bool false, Value.slice none 0 0] 34)).heap.size := by simp only [World.size_alloc]; omega
  have HB := hide (bl_alloc (bl_alloc (bl_alloc (bl_refl w) (Obj.cells #[Value.bool n, Value.slice a xs.length c, Value.bool m, Value.slice b ys.length d] 26)) (Obj.cells #[Value.bool false, Value.slice none 0 0, Value.bool false, Value.slice none 0 0] 34)) (Obj.cells #[Value.bool false, Value.slice none 0 0, Value.bool false, Value.slice none 0 0] 34))
  have y0 : w.heap.size + 3 ≤ (((w.alloc (Obj.cells #[Value.bool n, Value.slice a xs.length c, Value.bool m, Value.slice b ys.length d] 26)).alloc (Obj.cells #[Value.bool false, Value.slice none 0 0, Value.bool false, Value.slice none 0 0] 34)).alloc (Obj.cells #[Value.bool false, Value.slice none 0 0, Value.bool false, Value.slice none 0 0] 34)).heap.size := by simp only [World.size_alloc]; omega
  go_enter Tryz.func15, Tryz.ntmps15
  go_wp2_with fail
  generalize (((w.alloc (Obj.cells #[Value.bool n, Value.slice a xs.length c, Value.bool m, Value.slice b ys.length d] 26)).alloc (Obj.cells #[Value.bool false, Value.slice none 0 0, Value.bool false, Value.slice none 0 0] 34)).alloc (Obj.cells #[Value.bool false, Value.slice none 0 0, Value.bool false, Value.slice none 0 0] 34)) = w1 at *
  refine (toB n a _ c xs _ (H1.out.below HB.out) h1).mono ?_
  rintro e w2 ⟨u1, rfl, ⟨a1, c1, rfl, ho1⟩, hbw2⟩
  have yw2 := hbw2.size
  replace kA0 := (hbw2.cell (p := ⟨w.heap.size, 0, none⟩) zA).trans kA0
  replace kA1 := (hbw2.cell (p := ⟨w.heap.size, 1, none⟩) zA).trans kA1
  replace kA2 := (hbw2.cell (p := ⟨w.heap.size, 2, none⟩) zA).trans kA2
  replace kA3 := (hbw2.cell (p := ⟨w.heap.size, 3, none⟩) zA).trans kA3
  replace zA := Nat.lt_of_lt_of_le zA hbw2.size
  replace kR0 := (hbw2.cell (p := ⟨w.heap.size + 1, 0, none⟩) zR).trans kR0
  replace fR0 := (hbw2.frozen (p := ⟨w.heap.size + 1, 0, none⟩) zR).trans fR0
  replace kR1 := (hbw2.cell (p := ⟨w.heap.size + 1, 1, none⟩) zR).trans kR1
  replace fR1 := (hbw2.frozen (p := ⟨w.heap.size + 1, 1, none⟩) zR).trans fR1
  replace kR2 := (hbw2.cell (p := ⟨w.heap.size + 1, 2, none⟩) zR).trans kR2
  replace fR2 := (hbw2.frozen (p := ⟨w.heap.size + 1, 2, none⟩) zR).trans fR2
  replace kR3 := (hbw2.cell (p := ⟨w.heap.size + 1, 3, none⟩) zR).trans kR3
  replace fR3 := (hbw2.frozen (p := ⟨w.heap.size + 1, 3, none⟩) zR).trans fR3
  replace zR := Nat.lt_of_lt_of_le zR hbw2.size
  replace kT0 := (hbw2.cell (p := ⟨w.heap.size + 1 + 1, 0, none⟩) zT).trans kT0
  replace fT0 := (hbw2.frozen (p := ⟨w.heap.size + 1 + 1, 0, none⟩) zT).trans fT0
  replace kT1 := (hbw2.cell (p := ⟨w.heap.size + 1 + 1, 1, none⟩) zT).trans kT1
  replace fT1 := (hbw2.frozen (p := ⟨w.heap.size + 1 + 1, 1, none⟩) zT).trans fT1
  replace kT2 := (hbw2.cell (p := ⟨w.heap.size + 1 + 1, 2, none⟩) zT).trans kT2
  replace fT2 := (hbw2.frozen (p := ⟨w.heap.size + 1 + 1, 2, none⟩) zT).trans fT2
  replace kT3 := (hbw2.cell (p := ⟨w.heap.size + 1 + 1, 3, none⟩) zT).trans kT3
  replace fT3 := (hbw2.frozen (p := ⟨w.heap.size + 1 + 1, 3, none⟩) zT).trans fT3
  replace zT := Nat.lt_of_lt_of_le zT hbw2.size
  replace HB := hide (bl_trans HB.out hbw2)
  clear hbw2
  have O1 := hide ((ho1.setCell (p := ⟨w.heap.size + 1 + 1, 0, none⟩) (by dsimp only; omega) (Value.bool n)).setCell (p := ⟨w.heap.size + 1 + 1, 1, none⟩) (by dsimp only; omega) (Value.slice a1 xs.length c1))
  have HB3 := hide ((HB.out.setCell (p := ⟨w.heap.size + 1 + 1, 0, none⟩) (by dsimp only; omega) (Value.bool n)).setCell (p := ⟨w.heap.size + 1 + 1, 1, none⟩) (by dsimp only; omega) (Value.slice a1 xs.length c1))
  clear ho1
  go_wp2_with fail
  replace kA0 := (cell_two (N := w.heap.size + 1 + 1) (x := Value.bool n) (y := Value.slice a1 xs.length c1) (p := ⟨w.heap.size, 0, none⟩) (by dsimp only; omega)).trans kA0
  replace kA1 := (cell_two (N := w.heap.size + 1 + 1) (x := Value.bool n) (y := Value.slice a1 xs.length c1) (p := ⟨w.heap.size, 1, none⟩) (by dsimp only; omega)).trans kA1
  replace kA2 := (cell_two (N := w.heap.size + 1 + 1) (x := Value.bool n) (y := Value.slice a1 xs.length c1) (p := ⟨w.heap.size, 2, none⟩) (by dsimp only; omega)).trans kA2
  replace kA3 := (cell_two (N := w.heap.size + 1 + 1) (x := Value.bool n) (y := Value.slice a1 xs.length c1) (p := ⟨w.heap.size, 3, none⟩) (by dsimp only; omega)).trans kA3
  replace kR0 := (cell_two (N := w.heap.size + 1 + 1) (x := Value.bool n) (y := Value.slice a1 xs.length c1) (p := ⟨w.heap.size + 1, 0, none⟩) (by dsimp only; omega)).trans kR0
  have gR0 : ((w2.setCell ⟨w.heap.size + 1 + 1, 0, none⟩ (Value.bool n)).setCell ⟨w.heap.size + 1 + 1, 1, none⟩ (Value.slice a1 xs.length c1)).frozen? ⟨w.heap.size + 1, 0, none⟩ = false := by go_simp
  replace kR1 := (cell_two (N := w.heap.size + 1 + 1) (x := Value.bool n) (y := Value.slice a1 xs.length c1) (p := ⟨w.heap.size + 1, 1, none⟩) (by dsimp only; omega)).trans kR1
  have gR1 : ((w2.setCell ⟨w.heap.size + 1 + 1, 0, none⟩ (Value.bool n)).setCell ⟨w.heap.size + 1 + 1, 1, none⟩ (Value.slice a1 xs.length c1)).frozen? ⟨w.heap.size + 1, 1, none⟩ = false := by go_simp
  replace kR2 := (cell_two (N := w.heap.size + 1 + 1) (x := Value.bool n) (y := Value.slice a1 xs.length c1) (p := ⟨w.heap.size + 1, 2, none⟩) (by dsimp only; omega)).trans kR2
  have gR2 : ((w2.setCell ⟨w.heap.size + 1 + 1, 0, none⟩ (Value.bool n)).setCell ⟨w.heap.size + 1 + 1, 1, none⟩ (Value.slice a1 xs.length c1)).frozen? ⟨w.heap.size + 1, 2, none⟩ = false := by go_simp
  replace kR3 := (cell_two (N := w.heap.size + 1 + 1) (x := Value.bool n) (y := Value.slice a1 xs.length c1) (p := ⟨w.heap.size + 1, 3, none⟩) (by dsimp only; omega)).trans kR3
  have gR3 : ((w2.setCell ⟨w.heap.size + 1 + 1, 0, none⟩ (Value.bool n)).setCell ⟨w.heap.size + 1 + 1, 1, none⟩ (Value.slice a1 xs.length c1)).frozen? ⟨w.heap.size + 1, 3, none⟩ = false := by go_simp
  have mT0 : ((w2.setCell ⟨w.heap.size + 1 + 1, 0, none⟩ (Value.bool n)).setCell ⟨w.heap.size + 1 + 1, 1, none⟩ (Value.slice a1 xs.length c1)).cell? ⟨w.heap.size + 1 + 1, 0, none⟩ = some (Value.bool n) := by go_simp
  have gT0 : ((w2.setCell ⟨w.heap.size + 1 + 1, 0, none⟩ (Value.bool n)).setCell ⟨w.heap.size + 1 + 1, 1, none⟩ (Value.slice a1 xs.length c1)).frozen? ⟨w.heap.size + 1 + 1, 0, none⟩ = false := by go_simp
  have mT1 : ((w2.setCell ⟨w.heap.size + 1 + 1, 0, none⟩ (Value.bool n)).setCell ⟨w.heap.size + 1 + 1, 1, none⟩ (Value.slice a1 xs.length c1)).cell? ⟨w.heap.size + 1 + 1, 1, none⟩ = some (Value.slice a1 xs.length c1) := by go_simp
  have gT1 : ((w2.setCell ⟨w.heap.size + 1 + 1, 0, none⟩ (Value.bool n)).setCell ⟨w.heap.size + 1 + 1, 1, none⟩ (Value.slice a1 xs.length c1)).frozen? ⟨w.heap.size + 1 + 1, 1, none⟩ = false := by go_simp
  have mT2 : ((w2.setCell ⟨w.heap.size + 1 + 1, 0, none⟩ (Value.bool n)).setCell ⟨w.heap.size + 1 + 1, 1, none⟩ (Value.slice a1 xs.length c1)).cell? ⟨w.heap.size + 1 + 1, 2, none⟩ = some (Value.bool false) := by go_simp
  have gT2 : ((w2.setCell ⟨w.heap.size + 1 + 1, 0, none⟩ (Value.bool n)).setCell ⟨w.heap.size + 1 + 1, 1, none⟩ (Value.slice a1 xs.length c1)).frozen? ⟨w.heap.size + 1 + 1, 2, none⟩ = false := by go_simp
  have mT3 : ((w2.setCell ⟨w.heap.size + 1 + 1, 0, none⟩ (Value.bool n)).setCell ⟨w.heap.size + 1 + 1, 1, none⟩ (Value.slice a1 xs.length c1)).cell? ⟨w.heap.size + 1 + 1, 3, none⟩ = some (Value.slice none 0 0) := by go_simp
  have gT3 : ((w2.setCell ⟨w.heap.size + 1 + 1, 0, none⟩ (Value.bool n)).setCell ⟨w.heap.size + 1 + 1, 1, none⟩ (Value.slice a1 xs.length c1)).frozen? ⟨w.heap.size + 1 + 1, 3, none⟩ = false := by go_simp
  have y3 : w2.heap.size ≤ ((w2.setCell ⟨w.heap.size + 1 + 1, 0, none⟩ (Value.bool n)).setCell ⟨w.heap.size + 1 + 1, 1, none⟩ (Value.slice a1 xs.length c1)).heap.size := by simp
  clear kT0 kT1 kT2 kT3 fT0 fT1 fT2 fT3 fR0 fR1 fR2 fR3 HB
  generalize ((w2.setCell ⟨w.heap.size + 1 + 1, 0, none⟩ (Value.bool n)).setCell ⟨w.heap.size + 1 + 1, 1, none⟩ (Value.slice a1 xs.length c1)) = w3 at *
  refine (toB m b _ d ys _ (H2.out.below HB3.out) h2).mono ?_
  rintro e w4 ⟨u2, rfl, ⟨a2, c2, rfl, ho2⟩, hb4⟩
  have y4 := hb4.size
  have HAP := hide (apart_own O1.out ho2)
  replace mT0 := (hb4.cell (p := ⟨w.heap.size + 1 + 1, 0, none⟩) (by dsimp only; omega)).trans mT0
  replace gT0 := (hb4.frozen (p := ⟨w.heap.size + 1 + 1, 0, none⟩) (by dsimp only; omega)).trans gT0
  replace kR0 := (hb4.cell (p := ⟨w.heap.size + 1, 0, none⟩) (by dsimp only; omega)).trans kR0
  replace gR0 := (hb4.frozen (p := ⟨w.heap.size + 1, 0, none⟩) (by dsimp only; omega)).trans gR0
  replace mT1 := (hb4.cell (p := ⟨w.heap.size + 1 + 1, 1, none⟩) (by dsimp only; omega)).trans mT1
  replace gT1 := (hb4.frozen (p := ⟨w.heap.size + 1 + 1, 1, none⟩) (by dsimp only; omega)).trans gT1
  replace kR1 := (hb4.cell (p := ⟨w.heap.size + 1, 1, none⟩) (by dsimp only; omega)).trans kR1
  replace gR1 := (hb4.frozen (p := ⟨w.heap.size + 1, 1, none⟩) (by dsimp only; omega)).trans gR1
  replace mT2 := (hb4.cell (p := ⟨w.heap.size + 1 + 1, 2, none⟩) (by dsimp only; omega)).trans mT2
  replace gT2 := (hb4.frozen (p := ⟨w.heap.size + 1 + 1, 2, none⟩) (by dsimp only; omega)).trans gT2
  replace kR2 := (hb4.cell (p := ⟨w.heap.size + 1, 2, none⟩) (by dsimp only; omega)).trans kR2
  replace gR2 := (hb4.frozen (p := ⟨w.heap.size + 1, 2, none⟩) (by dsimp only; omega)).trans gR2
  replace mT3 := (hb4.cell (p := ⟨w.heap.size + 1 + 1, 3, none⟩) (by dsimp only; omega)).trans mT3
  replace gT3 := (hb4.frozen (p := ⟨w.heap.size + 1 + 1, 3, none⟩) (by dsimp only; omega)).trans gT3
  replace kR3 := (hb4.cell (p := ⟨w.heap.size + 1, 3, none⟩) (by dsimp only; omega)).trans kR3
  replace gR3 := (hb4.frozen (p := ⟨w.heap.size + 1, 3, none⟩) (by dsimp only; omega)).trans gR3
  replace O1 := hide (O1.out.below hb4)
  have O2 := hide ho2
  have HB4 := hide (bl_trans HB3.out hb4)
  clear ho2 hb4 kA0 kA1 kA2 kA3
  go_wp2
  refine bodyPost_ret (v := .agg #[.bool n, .slice a1 xs.length c1, .bool m, .slice a2 ys.length c2]) (by simp [results, Tryz.results15, go_sem, kR0, kR1, kR2, kR3]) rfl ?_
  refine ⟨a1, c1, a2, c2, rfl, ?_, ?_, HAP.out, ?_⟩
  · exact ((((((O1.out.setCell (p := ⟨w.heap.size + 1 + 1, 2, none⟩) (by dsimp only; omega) _).setCell (p := ⟨w.heap.size + 1 + 1, 3, none⟩) (by dsimp only; omega) _).setCell (p := ⟨w.heap.size + 1, 0, none⟩) (by dsimp only; omega) _).setCell (p := ⟨w.heap.size + 1, 1, none⟩) (by dsimp only; omega) _).setCell (p := ⟨w.heap.size + 1, 2, none⟩) (by dsimp only; omega) _).setCell (p := ⟨w.heap.size + 1, 3, none⟩) (by dsimp only; omega) _).mono (by omega)
  · exact ((((((O2.out.setCell (p := ⟨w.heap.size + 1 + 1, 2, none⟩) (by dsimp only; omega) _).setCell (p := ⟨w.heap.size + 1 + 1, 3, none⟩) (by dsimp only; omega) _).setCell (p := ⟨w.heap.size + 1, 0, none⟩) (by dsimp only; omega) _).setCell (p := ⟨w.heap.size + 1, 1, none⟩) (by dsimp only; omega) _).setCell (p := ⟨w.heap.size + 1, 2, none⟩) (by dsimp only; omega) _).setCell (p := ⟨w.heap.size + 1, 3, none⟩) (by dsimp only; omega) _).mono (by omega)
  · exact ((((((HB4.out.setCell (p := ⟨w.heap.size + 1 + 1, 2, none⟩) (by dsimp only; omega) _).setCell (p := ⟨w.heap.size + 1 + 1, 3, none⟩) (by dsimp only; omega) _).setCell (p := ⟨w.heap.size + 1, 0, none⟩) (by dsimp only; omega) _).setCell (p := ⟨w.heap.size + 1, 1, none⟩) (by dsimp only; omega) _).setCell (p := ⟨w.heap.size + 1, 2, none⟩) (by dsimp only; omega) _).setCell (p := ⟨w.heap.size + 1, 3, none⟩) (by dsimp only; omega) _)


end Go.Proofs.YtlknhheafmifnaaGreatDoor
