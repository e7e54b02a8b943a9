/- My texts DLimb, DivZ, in this order. -/
import Derived.Test.YthjapjbiclkhcaaPk09
import Derived.Test.YthjapjbiclkhcaaPk12
import Derived.WalkMore
import Derived.ScopeJumps
import Derived.Test.YthjapjbiclkhcaaPk02
/- The walk of divideLimbs: limbs divided by limbs, quotient and rest in memory of their own, apart from one another. -/
namespace Go.Proofs.Ythjapjbiclkhcaa
open Go.RowKit
set_option linter.unusedVariables false

/-- two lists lie in two blocks -/
def Apart (a b : Option Addr) : Prop := ∀ g o s g' o' s', a = some ⟨g, o, s⟩ → b = some ⟨g', o', s'⟩ → g ≠ g'
theorem Apart.none (b : Option Addr) : Apart none b := fun _ _ _ _ _ _ h => by cases h
theorem Apart.none' (b : Option Addr) : Apart b .none := fun _ _ _ _ _ _ _ h => by cases h
theorem Apart.sub {a b a' b' : Option Addr} (h : Apart a b) (ha : a' = .none ∨ a' = a) (hb : b' = .none ∨ b' = b) : Apart a' b' := by
  rcases ha with rfl | rfl
  · exact Apart.none _
  · rcases hb with rfl | rfl
    · exact Apart.none' _
    · exact h
theorem Apart.blocks {g g' : Nat} (h : g ≠ g') : Apart (some ⟨g, 0, .none⟩) (some ⟨g', 0, .none⟩) := fun _ _ _ _ _ _ h1 h2 => by
  cases h1; cases h2; exact h
theorem Apart.own {a b : Option Addr} (h : Apart a b) (n c n' c' : Nat) : (Value.slice a n c).ownBlock = .none ∨ (Value.slice a n c).ownBlock ≠ (Value.slice b n' c').ownBlock := by
  cases a with
  | none => exact .inl rfl
  | some x =>
    cases b with
    | none => exact .inr (by simp [Value.ownBlock])
    | some y =>
      obtain ⟨g, o, s⟩ := x
      obtain ⟨g', o', s'⟩ := y
      exact .inr (fun e => h _ _ _ _ _ _ rfl rfl (by simpa [Value.ownBlock] using e))
theorem short_val {d r : Nat} {xs qs : List Nat} (h : DSo d xs qs 0 r) : Num.nat qs = Num.nat xs / d ∧ r = Num.nat xs % d := by
  obtain ⟨_, _, h3, h4⟩ := h
  rw [List.drop_zero, List.drop_zero] at h4
  have hd : 0 < d := by omega
  rw [h4, Nat.mul_comm]
  refine ⟨?_, ?_⟩
  · rw [Nat.mul_add_div hd, Nat.div_eq_of_lt h3, Nat.add_zero]
  · rw [Nat.mul_add_mod, Nat.mod_eq_of_lt h3]
theorem limbs_one {B t : Nat} (hl : (Num.limbs B).length = 1) (ht : (Num.limbs B)[0]? = some t) : B = t ∧ 0 < t ∧ t < 4294967296 := by
  have hs := Num.limbs_small B
  have hn := Num.nat_limbs B
  have ht0 := Num.limbs_tidy B
  revert ht hs hn ht0
  match h : Num.limbs B, hl with
  | [x], _ =>
    intro ht hs hn ht0
    simp at ht
    subst ht
    have := hs x (by simp)
    have h0 := ht0 (by simp)
    simp at h0
    simp [Num.nat] at hn
    exact ⟨hn.symm, by omega, this⟩

set_option maxHeartbeats 4000000 in
set_option maxRecDepth 20000 in
theorem dlimbsI (a b : Option Addr) (n m ca cb A B : Nat) (w : World) (ha : Seg w a n ca (Num.limbs A)) (hb : Seg w b m cb (Num.limbs B)) (hB : B ≠ 0) (hn : n ≤ 400000) (hm : m ≤ 400000) :
    Calls Try.prog 83 #[.slice a n ca, .slice b m cb] w fun e w' => ∃ a1 c1 a2 c2, e = .returned (.tuple #[.slice a1 (Num.limbs (A / B)).length c1, .slice a2 (Num.limbs (A % B)).length c2]) ∧ Own w' w.heap.size a1 (Num.limbs (A / B)).length c1 (Num.limbs (A / B)) ∧ Own w' w.heap.size a2 (Num.limbs (A % B)).length c2 (Num.limbs (A % B)) ∧ Apart a1 a2 ∧ Below w.heap.size w w' := by
  obtain ⟨i0, hi, hz0, hz1, hz2⟩ := info_parts Try.info56
  have hca := ha.2.1
  have hcm := ha.2.2.1
  have hcb := hb.2.1
  have hcbm := hb.2.2.1
  have HLA := hide ha.1
  have HLB := hide hb.1
  have HA := hide ha
  have HB := hide hb
  clear ha hb
  go_enter Try.func83, Try.ntmps83
  go_wp2_with fail
  refine wp_scope_jumps 0 (fun a' w' => ∃ (a1 : Option Addr) (n1 c1 : Nat) (xs1 : List Nat) (a2 : Option Addr) (n2 c2 : Nat) (xs2 : List Nat), (∃ u2 u3 u6 u7 u8 u9 u10 u11 u12 u13 u14 u15 u16 u17 u18 u19 u20 u21 u22 u23 u24 u25 u26 u27 u28 u29 u30 u31 u32 u33 u34 u35 : Value, a' = { tmps := #[.slice a n ca, .slice b m cb, u2, u3, .slice a1 n1 c1, .slice a2 n2 c2, u6, u7, u8, u9, u10, u11, u12, u13, u14, u15, u16, u17, u18, u19, u20, u21, u22, u23, u24, u25, u26, u27, u28, u29, u30, u31, u32, u33, u34, u35], defers := [] }) ∧ Hid (Own w' w.heap.size a1 n1 c1 xs1) ∧ Hid (Own w' w.heap.size a2 n2 c2 xs2) ∧ Hid (Num.nat xs1 = A / B ∧ Num.nat xs2 = A % B) ∧ Hid (Apart a1 a2) ∧ Hid (Below w.heap.size w w')) (fun _ _ => 0) rfl ?_ ?_
  · go_wp2_with fail
    refine (leastI A B a b n m ca cb _ HA.out HB.out).mono ?_
    rintro e w1 ⟨rfl, d, hw⟩
    have hb1 : Below w.heap.size w w1 := by rw [hw]; exact below_drewN (bl_refl w) d
    have HZ := hide hb1
    replace HA := hide (HA.out.below hb1)
    replace HB := hide (HB.out.below hb1)
    clear hw hb1
    by_cases hlt : A < B
    · rw [cmp_lt (by omega)]
      have HV : Hid (Num.nat [] = A / B ∧ Num.nat (Num.limbs A) = A % B) := hide ⟨(Nat.div_eq_of_lt hlt).symm, by rw [Num.nat_limbs, Nat.mod_eq_of_lt hlt]⟩
      go_wp2_with fail
      refine (cloneI a n ca (Num.limbs A) _ HA.out (by omega)).mono ?_
      rintro e w2 ⟨a2, c2, rfl, ho2, hb2⟩
      have HO2 := hide (ho2.mono (base' := w.heap.size) HZ.out.size)
      replace HZ := hide (bl_trans HZ.out hb2)
      clear ho2 hb2
      go_wp2_with fail
      go_step3
      exact ⟨rfl, _, _, _, _, _, _, _, _, ⟨_, _, _, _, _, _, _, _, _, _, _, _, _, _, _, _, _, _, _, _, _, _, _, _, _, _, _, _, _, _, _, _, rfl⟩, hide (Own.nil _ _), HO2, HV, hide (Apart.none _), HZ⟩
    · rw [show ((cmpZ A B : Int)) = (if B < A then 1 else 0) by unfold cmpZ; rw [if_neg (by omega)]; by_cases h : B < A <;> simp [h]]
      have hge : (Num.limbs B).length ≤ (Num.limbs A).length := Nat.le_of_not_lt fun h => by have := Num.len_lt h; omega
      rw [HLA.out, HLB.out] at hge
      have hc0 : ¬ ((if B < A then 1 else 0 : Int) < 0) := by split <;> omega
      generalize (if B < A then 1 else 0 : Int) = cv at *
      have hm0 : 0 < m := by
        have h : Num.limbs B ≠ [] := fun e => hB (Num.limbs_eq_nil.1 e)
        have := List.length_pos_iff.2 h
        rw [HLB.out] at this
        exact this
      by_cases h1 : m = 1
      · subst h1
        obtain ⟨t, ht⟩ : ∃ t, (Num.limbs B)[0]? = some t := ⟨_, List.getElem?_eq_getElem (by rw [HLB.out]; exact hm0)⟩
        obtain ⟨hBt, ht0, ht1⟩ := limbs_one HLB.out ht
        obtain ⟨h0, ht⟩ := List.getElem?_eq_some_iff.1 ht
        obtain ⟨gb, ob, rfl, hgb, hcl⟩ := seg_cell HB.out 0 h0
        rw [ht, Nat.add_zero] at hcl
        clear ht h0
        have HBT := hide hBt
        clear hBt
        go_wp2_with (at_make; refine wpList_make_full _ rfl _ _ 24 rfl w1.heap.size 56 i0 (.int .u32 0) 1 Try.underlying24 hi hz0 hz1 _ _ _ _ 1 rfl rfl rfl rfl (by rw [hz2]; omega) (by unfold maxLen; omega) (Nat.le_refl _) ?_; intro w2 hown hgrow; have hb2 := ((bl_refl w1).grown hgrow (Nat.le_refl _) (by simp)); have B2 := hide (own_made2 hown).blk; have hcl := (hb2.cell (p := ⟨gb, ob, none⟩) hgb).trans hcl; replace HA := hide (HA.out.below hb2); have HZ2 := hide (bl_trans HZ.out hb2); clear hown hgrow hb2)
        have hsz := HZ.out.size
        have hgn : w1.heap.size ≠ w2.heap.size := by have := B2.out.lt; omega
        have hsz2 := HZ2.out.size
        refine (shortI a n ca t (Num.limbs A) _ HA.out (by omega) ht0 ht1).mono ?_
        rintro e w3 ⟨qs, r, rfl, hD, ho3, hb3⟩
        have B3 := hide (B2.out.below hb3)
        have hc3 := B3.out.cell 0 (by simp)
        have hf3 := B3.out.frozen 0
        have hr : r < 4294967296 := by have := hD.2.2.1; omega
        have HST := hide (B3.out.set 0 r hr)
        have hv := short_val hD
        rw [Num.nat_limbs, ← HBT.out] at hv
        have HV : Hid (Num.nat qs = A / B ∧ Num.nat ((List.replicate 1 0).set 0 r) = A % B) := hide ⟨hv.1, by rw [← hv.2]; simp [Num.nat]⟩
        have HO4 := hide ((ho3.mono hsz2).kept HST.out.2 (.inr (by simp [Value.ownBlock]; omega)))
        have HO5 := hide (HST.out.1.own (base := w.heap.size) hsz (by simp))
        have HZ3 := hide ((bl_trans HZ2.out hb3).setCell (p := ⟨w1.heap.size, 0, none⟩) hsz (.int .u32 r))
        have HAP := hide (Apart.blocks (Ne.symm hgn))
        clear hD ho3 hb3 HA B2 B3 HZ2 hv
        simp only [List.replicate_one, List.getElem_cons_zero] at hc3
        go_wp2_with fail
        go_step3
        exact ⟨rfl, _, _, _, _, _, _, _, _, ⟨_, _, _, _, _, _, _, _, _, _, _, _, _, _, _, _, _, _, _, _, _, _, _, _, _, _, _, _, _, _, _, _, rfl⟩, HO4, HO5, HV, HAP, HZ3⟩
      · have hb1 : ((m : Int) == 1) = false := by rw [beq_eq_false_iff_ne]; omega
        go_wp2_with fail
        refine (longI a b n m (n + 1 - m) ca cb A B _ HA.out HB.out (by omega) (by omega) (by omega) (by omega)).mono ?_
        rintro e w2 ⟨g1, g2, qs, rs, rfl, hne, ho1, ho2, hv1, hv2, hb2⟩
        have O1 := hide (ho1.mono (base' := w.heap.size) HZ.out.size)
        have O2 := hide (ho2.mono (base' := w.heap.size) HZ.out.size)
        have HV := hide (And.intro hv1 hv2)
        have HAP := hide (Apart.blocks hne)
        replace HZ := hide (bl_trans HZ.out hb2)
        clear ho1 ho2 hv1 hv2 hb2
        have ha1 : some (⟨g1, 0, none⟩ : Addr) = some ⟨g1, 0, none⟩ := rfl
        go_wp2_with fail
        go_step3
        generalize (some (⟨g1, 0, none⟩ : Addr)) = a1 at *
        generalize (some (⟨g2, 0, none⟩ : Addr)) = a2 at *
        generalize n + 1 - m = n1 at *
        go_wp2_with fail
        refine (trimI2 a1 n1 n1 qs w.heap.size _ O1.out).mono ?_
        rintro e w3 ⟨hw3, a3, c3, rfl, ho3, ha3⟩
        subst w3
        have ho3 := ho3 _ O1.out
        rw [HV.out.1] at ho3 ⊢
        have HO3 := hide ho3
        have HA3 := hide ha3
        clear ho3 ha3
        go_wp2_with fail
        refine (trimI2 a2 m m rs w.heap.size _ O2.out).mono ?_
        rintro e w4 ⟨hw4, a4, c4, rfl, ho4, ha4⟩
        subst w4
        have ho4 := ho4 _ O2.out
        rw [HV.out.2] at ho4 ⊢
        have HO4 := hide ho4
        have HA4 := hide ha4
        clear ho4 ha4
        go_wp2
        simp only [Exit.jump]
        go_ret2
        exact ⟨a3, c3, a4, c4, rfl, HO3.out, HO4.out, HAP.out.sub HA3.out HA4.out, HZ.out⟩
  · rintro a' w' ⟨a1, n1, c1, xs1, a2, n2, c2, xs2, ⟨u2, u3, u6, u7, u8, u9, u10, u11, u12, u13, u14, u15, u16, u17, u18, u19, u20, u21, u22, u23, u24, u25, u26, u27, u28, u29, u30, u31, u32, u33, u34, u35, rfl⟩, O1, O2, HV, HAP, HZ⟩
    go_wp2_with fail
    refine (trimI2 a1 n1 c1 xs1 w.heap.size _ O1.out).mono ?_
    rintro e w3 ⟨hw3, a3, c3, rfl, ho3, ha3⟩
    subst w3
    have ho3 := ho3 _ O1.out
    rw [HV.out.1] at ho3 ⊢
    have HO3 := hide ho3
    have HA3 := hide ha3
    clear ho3 ha3
    go_wp2_with fail
    refine (trimI2 a2 n2 c2 xs2 w.heap.size _ O2.out).mono ?_
    rintro e w4 ⟨hw4, a4, c4, rfl, ho4, ha4⟩
    subst w4
    have ho4 := ho4 _ O2.out
    rw [HV.out.2] at ho4 ⊢
    have HO4 := hide ho4
    have HA4 := hide ha4
    clear ho4 ha4
    go_wp2
    simp only [Exit.jump]
    go_ret2
    exact ⟨a3, c3, a4, c4, rfl, HO3.out, HO4.out, HAP.out.sub HA3.out HA4.out, HZ.out⟩
end Go.Proofs.Ythjapjbiclkhcaa

/- Plain facts on a quotient and a rest of whole numbers with signs; nothing of the program stands here. -/
namespace Go.Proofs.Ythjapjbiclkhcaa
set_option linter.unusedVariables false
theorem div_uniq {x y q r : Int} (h : q * y + r = x) (h0 : 0 ≤ r) (h1 : r < (y.natAbs : Int)) : x / y = q ∧ x % y = r := by
  have hy : y ≠ 0 := by intro e; subst e; simp at h1; omega
  have hr : r % y = r := by
    by_cases hp : 0 ≤ y
    · exact Int.emod_eq_of_lt h0 (by omega)
    · have : r % (-y) = r := Int.emod_eq_of_lt h0 (by omega)
      rwa [Int.emod_neg] at this
  have h2 : x % y = r := by rw [← h, Int.add_comm, Int.add_mul_emod_self_right, hr]
  refine ⟨?_, h2⟩
  have h3 := Int.mul_ediv_add_emod x y
  rw [h2, ← h, Int.mul_comm q y] at h3
  have h4 : y * (x / y) = y * q := by
    have e : y * q + r = x := by rw [Int.mul_comm]; exact h
    rw [e] at h3
    omega
  exact Int.eq_of_mul_eq_mul_left hy h4
theorem bxor (a b : Bool) : (!a == b) = (a != b) := by cases a <;> cases b <;> rfl
theorem div_eq (x y : Int) : x.natAbs = y.natAbs * (x.natAbs / y.natAbs) + x.natAbs % y.natAbs := (Nat.div_add_mod _ _).symm
theorem mk_prod (x y : Int) (k : Nat) : mk (!sgn x == sgn y) k * y = if x < 0 then -((y.natAbs * k : Nat) : Int) else ((y.natAbs * k : Nat) : Int) := by
  unfold mk sgn
  by_cases hx : x < 0 <;> by_cases hy : y < 0 <;> simp [hx, hy]
  · have : (y.natAbs : Int) = -y := by omega
    rw [this, Int.neg_mul, Int.neg_neg, Int.mul_comm]
  · have : (y.natAbs : Int) = y := by omega
    rw [this, Int.mul_comm y, Int.neg_mul]
  · have : (y.natAbs : Int) = -y := by omega
    rw [this, Int.neg_mul, Int.neg_mul, Int.mul_comm]
  · have : (y.natAbs : Int) = y := by omega
    rw [this, Int.mul_comm]
theorem div_same (x y : Int) (hy : y ≠ 0) (h : 0 ≤ x ∨ x.natAbs % y.natAbs = 0) : x / y = mk (!sgn x == sgn y) (x.natAbs / y.natAbs) ∧ x % y = ((x.natAbs % y.natAbs : Nat) : Int) := by
  have hp : 0 < y.natAbs := by omega
  have hlt := Nat.mod_lt x.natAbs hp
  refine div_uniq ?_ (by omega) (by omega)
  have e := div_eq x y
  rw [mk_prod]
  generalize y.natAbs * (x.natAbs / y.natAbs) = P at *
  generalize x.natAbs % y.natAbs = r at *
  by_cases hx : x < 0
  · rw [if_pos hx]; omega
  · rw [if_neg hx]; omega
theorem div_more (x y : Int) (hy : y ≠ 0) (hx : x < 0) (h : x.natAbs % y.natAbs ≠ 0) : x / y = mk (!sgn x == sgn y) (x.natAbs / y.natAbs + 1) ∧ x % y = ((y.natAbs - x.natAbs % y.natAbs : Nat) : Int) := by
  have hp : 0 < y.natAbs := by omega
  have hlt := Nat.mod_lt x.natAbs hp
  refine div_uniq ?_ (by omega) (by omega)
  have e := div_eq x y
  rw [mk_prod, if_pos hx, Nat.mul_add, Nat.mul_one]
  generalize y.natAbs * (x.natAbs / y.natAbs) = P at *
  generalize x.natAbs % y.natAbs = r at *
  omega
/-- what bigDivide makes where the rest is below 0 -/
theorem div_back (x y : Int) (hy : y ≠ 0) (hx : x < 0) (h : x.natAbs % y.natAbs ≠ 0) :
    (y < 0 → mk (!sgn x == sgn y) (x.natAbs / y.natAbs) + 1 = x / y ∧ mk (sgn x) (x.natAbs % y.natAbs) - y = x % y) ∧ (0 < y → mk (!sgn x == sgn y) (x.natAbs / y.natAbs) - 1 = x / y ∧ mk (sgn x) (x.natAbs % y.natAbs) + y = x % y) := by
  obtain ⟨h1, h2⟩ := div_more x y hy hx h
  have hlt := Nat.mod_lt x.natAbs (show 0 < y.natAbs by omega)
  rw [h1, h2]
  unfold mk sgn
  generalize x.natAbs / y.natAbs = q at *
  generalize x.natAbs % y.natAbs = r at *
  refine ⟨fun h => ?_, fun h => ?_⟩
  · simp [hx, h]; omega
  · have : ¬ y < 0 := by omega
    simp [hx, this]; omega
end Go.Proofs.Ythjapjbiclkhcaa
