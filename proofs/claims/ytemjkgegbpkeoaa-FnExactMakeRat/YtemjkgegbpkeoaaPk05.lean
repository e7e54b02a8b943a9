/- My texts DLimb, LawKit, DivZ, Plus, CmpB, AddS, in this order. -/
import Derived.Test.YtemjkgegbpkeoaaPk03
import Derived.Test.YtemjkgegbpkeoaaPk04
import Derived.WalkMore
import Derived.ScopeJumps
import Derived.Test.YtemjkgegbpkeoaaPk01
import Derived.Test.YtemjkgegbpkeoaaPk02
/- The walk of divideLimbs: limbs divided by limbs, quotient and rest in memory of their own, apart from one another. -/
namespace Go.Proofs.Ytemjkgegbpkeoaa
open Go.RowKit
set_option linter.unusedVariables false

/-- two lists lie in two blocks -/
def Apart (a b : Option Addr) : Prop := ∀ g o s g' o' s', a = some ⟨g, o, s⟩ → b = some ⟨g', o', s'⟩ → g ≠ g'
theorem Apart.none (b : Option Addr) : Apart none b := fun _ _ _ _ _ _ h => by cases h
theorem Apart.none' (b : Option Addr) : Apart b .none := fun _ _ _ _ _ _ _ h => by cases h
theorem Apart.sub {a b a' b' : Option Addr} (h : Apart a b) (ha : a' = .none ∨ a' = a) (hb : b' = .none ∨ b' = b) : Apart a' b' := by
  rcases ha with rfl | rfl
  · exact Apart.none _
  · rcases hb with rfl | rfl
    · exact Apart.none' _
    · exact h
theorem Apart.blocks {g g' : Nat} (h : g ≠ g') : Apart (some ⟨g, 0, .none⟩) (some ⟨g', 0, .none⟩) := fun _ _ _ _ _ _ h1 h2 => by
  cases h1; cases h2; exact h
theorem Apart.own {a b : Option Addr} (h : Apart a b) (n c n' c' : Nat) : (Value.slice a n c).ownBlock = .none ∨ (Value.slice a n c).ownBlock ≠ (Value.slice b n' c').ownBlock := by
  cases a with
  | none => exact .inl rfl
  | some x =>
    cases b with
    | none => exact .inr (by simp [Value.ownBlock])
    | some y =>
      obtain ⟨g, o, s⟩ := x
      obtain ⟨g', o', s'⟩ := y
      exact .inr (fun e => h _ _ _ _ _ _ rfl rfl (by simpa [Value.ownBlock] using e))
theorem short_val {d r : Nat} {xs qs : List Nat} (h : DSo d xs qs 0 r) : Num.nat qs = Num.nat xs / d ∧ r = Num.nat xs % d := by
  obtain ⟨_, _, h3, h4⟩ := h
  rw [List.drop_zero, List.drop_zero] at h4
  have hd : 0 < d := by omega
  rw [h4, Nat.mul_comm]
  refine ⟨?_, ?_⟩
  · rw [Nat.mul_add_div hd, Nat.div_eq_of_lt h3, Nat.add_zero]
  · rw [Nat.mul_add_mod, Nat.mod_eq_of_lt h3]
theorem limbs_one {B t : Nat} (hl : (Num.limbs B).length = 1) (ht : (Num.limbs B)[0]? = some t) : B = t ∧ 0 < t ∧ t < 4294967296 := by
  have hs := Num.limbs_small B
  have hn := Num.nat_limbs B
  have ht0 := Num.limbs_tidy B
  revert ht hs hn ht0
  match h : Num.limbs B, hl with
  | [x], _ =>
    intro ht hs hn ht0
    simp at ht
    subst ht
    have := hs x (by simp)
    have h0 := ht0 (by simp)
    simp at h0
    simp [Num.nat] at hn
    exact ⟨hn.symm, by omega, this⟩

set_option maxHeartbeats 4000000 in
set_option maxRecDepth 20000 in
theorem dlimbsI (a b : Option Addr) (n m ca cb A B : Nat) (w : World) (ha : Seg w a n ca (Num.limbs A)) (hb : Seg w b m cb (Num.limbs B)) (hB : B ≠ 0) (hn : n ≤ 400000) (hm : m ≤ 400000) :
    Calls Try.prog 66 #[.slice a n ca, .slice b m cb] w fun e w' => ∃ a1 c1 a2 c2, e = .returned (.tuple #[.slice a1 (Num.limbs (A / B)).length c1, .slice a2 (Num.limbs (A % B)).length c2]) ∧ Own w' w.heap.size a1 (Num.limbs (A / B)).length c1 (Num.limbs (A / B)) ∧ Own w' w.heap.size a2 (Num.limbs (A % B)).length c2 (Num.limbs (A % B)) ∧ Apart a1 a2 ∧ Below w.heap.size w w' := by
  obtain ⟨i0, hi, hz0, hz1, hz2⟩ := info_parts Try.info54
  have hca := ha.2.1
  have hcm := ha.2.2.1
  have hcb := hb.2.1
  have hcbm := hb.2.2.1
  have HLA := hide ha.1
  have HLB := hide hb.1
  have HA := hide ha
  have HB := hide hb
  clear ha hb
  go_enter Try.func66, Try.ntmps66
  go_wp2_with fail
  refine wp_scope_jumps 0 (fun a' w' => ∃ (a1 : Option Addr) (n1 c1 : Nat) (xs1 : List Nat) (a2 : Option Addr) (n2 c2 : Nat) (xs2 : List Nat), (∃ u2 u3 u6 u7 u8 u9 u10 u11 u12 u13 u14 u15 u16 u17 u18 u19 u20 u21 u22 u23 u24 u25 u26 u27 u28 u29 u30 u31 u32 u33 u34 u35 : Value, a' = { tmps := #[.slice a n ca, .slice b m cb, u2, u3, .slice a1 n1 c1, .slice a2 n2 c2, u6, u7, u8, u9, u10, u11, u12, u13, u14, u15, u16, u17, u18, u19, u20, u21, u22, u23, u24, u25, u26, u27, u28, u29, u30, u31, u32, u33, u34, u35], defers := [] }) ∧ Hid (Own w' w.heap.size a1 n1 c1 xs1) ∧ Hid (Own w' w.heap.size a2 n2 c2 xs2) ∧ Hid (Num.nat xs1 = A / B ∧ Num.nat xs2 = A % B) ∧ Hid (Apart a1 a2) ∧ Hid (Below w.heap.size w w')) (fun _ _ => 0) rfl ?_ ?_
  · go_wp2_with fail
    refine (leastI A B a b n m ca cb _ HA.out HB.out).mono ?_
    rintro e w1 ⟨rfl, d, hw⟩
    have hb1 : Below w.heap.size w w1 := by rw [hw]; exact below_drewN (bl_refl w) d
    have HZ := hide hb1
    replace HA := hide (HA.out.below hb1)
    replace HB := hide (HB.out.below hb1)
    clear hw hb1
    by_cases hlt : A < B
    · rw [cmp_lt (by omega)]
      have HV : Hid (Num.nat [] = A / B ∧ Num.nat (Num.limbs A) = A % B) := hide ⟨(Nat.div_eq_of_lt hlt).symm, by rw [Num.nat_limbs, Nat.mod_eq_of_lt hlt]⟩
      go_wp2_with fail
      refine (cloneI a n ca (Num.limbs A) _ HA.out (by omega)).mono ?_
      rintro e w2 ⟨a2, c2, rfl, ho2, hb2⟩
      have HO2 := hide (ho2.mono (base' := w.heap.size) HZ.out.size)
      replace HZ := hide (bl_trans HZ.out hb2)
      clear ho2 hb2
      go_wp2_with fail
      go_step3
      exact ⟨rfl, _, _, _, _, _, _, _, _, ⟨_, _, _, _, _, _, _, _, _, _, _, _, _, _, _, _, _, _, _, _, _, _, _, _, _, _, _, _, _, _, _, _, rfl⟩, hide (Own.nil _ _), HO2, HV, hide (Apart.none _), HZ⟩
    · rw [show ((cmpZ A B : Int)) = (if B < A then 1 else 0) by unfold cmpZ; rw [if_neg (by omega)]; by_cases h : B < A <;> simp [h]]
      have hge : (Num.limbs B).length ≤ (Num.limbs A).length := Nat.le_of_not_lt fun h => by have := Num.len_lt h; omega
      rw [HLA.out, HLB.out] at hge
      have hc0 : ¬ ((if B < A then 1 else 0 : Int) < 0) := by split <;> omega
      generalize (if B < A then 1 else 0 : Int) = cv at *
      have hm0 : 0 < m := by
        have h : Num.limbs B ≠ [] := fun e => hB (Num.limbs_eq_nil.1 e)
        have := List.length_pos_iff.2 h
        rw [HLB.out] at this
        exact this
      by_cases h1 : m = 1
      · subst h1
        obtain ⟨t, ht⟩ : ∃ t, (Num.limbs B)[0]? = some t := ⟨_, List.getElem?_eq_getElem (by rw [HLB.out]; exact hm0)⟩
        obtain ⟨hBt, ht0, ht1⟩ := limbs_one HLB.out ht
        obtain ⟨h0, ht⟩ := List.getElem?_eq_some_iff.1 ht
        obtain ⟨gb, ob, rfl, hgb, hcl⟩ := seg_cell HB.out 0 h0
        rw [ht, Nat.add_zero] at hcl
        clear ht h0
        have HBT := hide hBt
        clear hBt
        go_wp2_with (at_make; refine wpList_make_full _ rfl _ _ 22 rfl w1.heap.size 54 i0 (.int .u32 0) 1 Try.underlying22 hi hz0 hz1 _ _ _ _ 1 rfl rfl rfl rfl (by rw [hz2]; omega) (by unfold maxLen; omega) (Nat.le_refl _) ?_; intro w2 hown hgrow; have hb2 := ((bl_refl w1).grown hgrow (Nat.le_refl _) (by simp)); have B2 := hide (own_made2 hown).blk; have hcl := (hb2.cell (p := ⟨gb, ob, none⟩) hgb).trans hcl; replace HA := hide (HA.out.below hb2); have HZ2 := hide (bl_trans HZ.out hb2); clear hown hgrow hb2)
        have hsz := HZ.out.size
        have hgn : w1.heap.size ≠ w2.heap.size := by have := B2.out.lt; omega
        have hsz2 := HZ2.out.size
        refine (shortI a n ca t (Num.limbs A) _ HA.out (by omega) ht0 ht1).mono ?_
        rintro e w3 ⟨qs, r, rfl, hD, ho3, hb3⟩
        have B3 := hide (B2.out.below hb3)
        have hc3 := B3.out.cell 0 (by simp)
        have hf3 := B3.out.frozen 0
        have hr : r < 4294967296 := by have := hD.2.2.1; omega
        have HST := hide (B3.out.set 0 r hr)
        have hv := short_val hD
        rw [Num.nat_limbs, ← HBT.out] at hv
        have HV : Hid (Num.nat qs = A / B ∧ Num.nat ((List.replicate 1 0).set 0 r) = A % B) := hide ⟨hv.1, by rw [← hv.2]; simp [Num.nat]⟩
        have HO4 := hide ((ho3.mono hsz2).kept HST.out.2 (.inr (by simp [Value.ownBlock]; omega)))
        have HO5 := hide (HST.out.1.own (base := w.heap.size) hsz (by simp))
        have HZ3 := hide ((bl_trans HZ2.out hb3).setCell (p := ⟨w1.heap.size, 0, none⟩) hsz (.int .u32 r))
        have HAP := hide (Apart.blocks (Ne.symm hgn))
        clear hD ho3 hb3 HA B2 B3 HZ2 hv
        simp only [List.replicate_one, List.getElem_cons_zero] at hc3
        go_wp2_with fail
        go_step3
        exact ⟨rfl, _, _, _, _, _, _, _, _, ⟨_, _, _, _, _, _, _, _, _, _, _, _, _, _, _, _, _, _, _, _, _, _, _, _, _, _, _, _, _, _, _, _, rfl⟩, HO4, HO5, HV, HAP, HZ3⟩
      · have hb1 : ((m : Int) == 1) = false := by rw [beq_eq_false_iff_ne]; omega
        go_wp2_with fail
        refine (longI a b n m (n + 1 - m) ca cb A B _ HA.out HB.out (by omega) (by omega) (by omega) (by omega)).mono ?_
        rintro e w2 ⟨g1, g2, qs, rs, rfl, hne, ho1, ho2, hv1, hv2, hb2⟩
        have O1 := hide (ho1.mono (base' := w.heap.size) HZ.out.size)
        have O2 := hide (ho2.mono (base' := w.heap.size) HZ.out.size)
        have HV := hide (And.intro hv1 hv2)
        have HAP := hide (Apart.blocks hne)
        replace HZ := hide (bl_trans HZ.out hb2)
        clear ho1 ho2 hv1 hv2 hb2
        have ha1 : some (⟨g1, 0, none⟩ : Addr) = some ⟨g1, 0, none⟩ := rfl
        go_wp2_with fail
        go_step3
        generalize (some (⟨g1, 0, none⟩ : Addr)) = a1 at *
        generalize (some (⟨g2, 0, none⟩ : Addr)) = a2 at *
        generalize n + 1 - m = n1 at *
        go_wp2_with fail
        refine (trimI2 a1 n1 n1 qs w.heap.size _ O1.out).mono ?_
        rintro e w3 ⟨hw3, a3, c3, rfl, ho3, ha3⟩
        subst w3
        have ho3 := ho3 _ O1.out
        rw [HV.out.1] at ho3 ⊢
        have HO3 := hide ho3
        have HA3 := hide ha3
        clear ho3 ha3
        go_wp2_with fail
        refine (trimI2 a2 m m rs w.heap.size _ O2.out).mono ?_
        rintro e w4 ⟨hw4, a4, c4, rfl, ho4, ha4⟩
        subst w4
        have ho4 := ho4 _ O2.out
        rw [HV.out.2] at ho4 ⊢
        have HO4 := hide ho4
        have HA4 := hide ha4
        clear ho4 ha4
        go_wp2
        simp only [Exit.jump]
        go_ret2
        exact ⟨a3, c3, a4, c4, rfl, HO3.out, HO4.out, HAP.out.sub HA3.out HA4.out, HZ.out⟩
  · rintro a' w' ⟨a1, n1, c1, xs1, a2, n2, c2, xs2, ⟨u2, u3, u6, u7, u8, u9, u10, u11, u12, u13, u14, u15, u16, u17, u18, u19, u20, u21, u22, u23, u24, u25, u26, u27, u28, u29, u30, u31, u32, u33, u34, u35, rfl⟩, O1, O2, HV, HAP, HZ⟩
    go_wp2_with fail
    refine (trimI2 a1 n1 c1 xs1 w.heap.size _ O1.out).mono ?_
    rintro e w3 ⟨hw3, a3, c3, rfl, ho3, ha3⟩
    subst w3
    have ho3 := ho3 _ O1.out
    rw [HV.out.1] at ho3 ⊢
    have HO3 := hide ho3
    have HA3 := hide ha3
    clear ho3 ha3
    go_wp2_with fail
    refine (trimI2 a2 n2 c2 xs2 w.heap.size _ O2.out).mono ?_
    rintro e w4 ⟨hw4, a4, c4, rfl, ho4, ha4⟩
    subst w4
    have ho4 := ho4 _ O2.out
    rw [HV.out.2] at ho4 ⊢
    have HO4 := hide ho4
    have HA4 := hide ha4
    clear ho4 ha4
    go_wp2
    simp only [Exit.jump]
    go_ret2
    exact ⟨a3, c3, a4, c4, rfl, HO3.out, HO4.out, HAP.out.sub HA3.out HA4.out, HZ.out⟩
end Go.Proofs.Ytemjkgegbpkeoaa

/- What the walks of exact laws share: owned lists with the range in which they lie, marks from any number on. -/
namespace Go.Proofs.Ytemjkgegbpkeoaa
open Go.RowKit
set_option linter.unusedVariables false

/-- a list in memory of its own, in a block from lo on to below hi -/
def OwnR (W : World) (lo hi : Nat) (a : Option Addr) (n cap : Nat) (xs : List Nat) : Prop := Own W lo a n cap xs ∧ ∀ k, (Value.slice a n cap).ownBlock = some k → k < hi
theorem Own.range {W : World} {lo : Nat} {a : Option Addr} {n cap : Nat} {xs : List Nat} (h : Own W lo a n cap xs) : OwnR W lo W.heap.size a n cap xs := ⟨h, fun k e => (h.1.lt k e).2⟩
theorem OwnR.alloc {W : World} {lo hi : Nat} {a : Option Addr} {n cap : Nat} {xs : List Nat} (h : OwnR W lo hi a n cap xs) (o : Obj) : OwnR (W.alloc o) lo hi a n cap xs := ⟨h.1.below (bl_alloc (bl_refl W) o), h.2⟩
theorem OwnR.drew {W : World} {lo hi : Nat} {a : Option Addr} {n cap : Nat} {xs : List Nat} (h : OwnR W lo hi a n cap xs) : OwnR W.drew lo hi a n cap xs := ⟨h.1.below (bl_refl W).drew, h.2⟩
theorem grown_set (W : World) (p : Addr) (v : Value) : W.grownBy (W.setCell p v) (some p.block) :=
  ⟨rfl, rfl, rfl, by simp, fun k _ hk => heap_setCell_other W p k _ (fun e => hk (by simp [e]))⟩
theorem OwnR.set {W : World} {lo hi : Nat} {a : Option Addr} {n cap : Nat} {xs : List Nat} (h : OwnR W lo hi a n cap xs) {p : Addr} (hp : p.block < lo ∨ hi ≤ p.block) (v : Value) : OwnR (W.setCell p v) lo hi a n cap xs := by
  refine ⟨h.1.kept (grown_set W p v) ?_, h.2⟩
  cases hk : (Value.slice a n cap).ownBlock with
  | none => exact .inl rfl
  | some k =>
    refine .inr fun e => ?_
    have h1 := (h.1.1.lt k hk).1
    have h2 := h.2 k hk
    cases e
    omega
theorem OwnR.seg {W : World} {lo hi : Nat} {a : Option Addr} {n cap : Nat} {xs : List Nat} (h : OwnR W lo hi a n cap xs) : Seg W a n cap xs := h.1.seg
theorem markBe (neg : Bool) (a : Option Addr) (n cap : Nat) (xs : List Nat) (base k : Nat) (k0 : Int) (w : World) (hk : k0 = 1 + (k : Int)) (h2 : k + n ≤ 2000000) (hown : Own w base a n cap xs) :
    Calls Try.prog 14 #[.agg #[.bool neg, .slice a n cap], .int .i64 k0] w fun e w' => e = .returned (.int .i64 (k0 + (n : Int))) ∧ Own w' base a n cap (marks (1 + k) n) ∧ w.grownBy w' (Value.slice a n cap).ownBlock := by
  subst hk
  exact markBk neg a n cap xs base k w h2 hown
theorem heldBe (neg : Bool) (a : Option Addr) (n cap k : Nat) (k0 : Int) (w : World) (hk : k0 = 1 + (k : Int)) (h2 : k + n ≤ 2000000) (hs : Seg w a n cap (marks (1 + k) n)) :
    Calls Try.prog 38 #[.agg #[.bool neg, .slice a n cap], .int .i64 k0] w fun e w' => e = .returned (.int .i64 (k0 + (n : Int))) ∧ Below w.heap.size w w' := by
  subst hk
  have := heldB neg a n cap (1 + k) w (by omega) hs
  rw [show ((1 + k : Nat) : Int) = 1 + (k : Int) by omega] at this
  exact this.mono fun e w' ⟨he, h⟩ => ⟨by rw [he]; exact ret_int (by omega), h⟩
end Go.Proofs.Ytemjkgegbpkeoaa

/- Plain facts on a quotient and a rest of whole numbers with signs; nothing of the program stands here. -/
namespace Go.Proofs.Ytemjkgegbpkeoaa
set_option linter.unusedVariables false
theorem div_uniq {x y q r : Int} (h : q * y + r = x) (h0 : 0 ≤ r) (h1 : r < (y.natAbs : Int)) : x / y = q ∧ x % y = r := by
  have hy : y ≠ 0 := by intro e; subst e; simp at h1; omega
  have hr : r % y = r := by
    by_cases hp : 0 ≤ y
    · exact Int.emod_eq_of_lt h0 (by omega)
    · have : r % (-y) = r := Int.emod_eq_of_lt h0 (by omega)
      rwa [Int.emod_neg] at this
  have h2 : x % y = r := by rw [← h, Int.add_comm, Int.add_mul_emod_self_right, hr]
  refine ⟨?_, h2⟩
  have h3 := Int.mul_ediv_add_emod x y
  rw [h2, ← h, Int.mul_comm q y] at h3
  have h4 : y * (x / y) = y * q := by
    have e : y * q + r = x := by rw [Int.mul_comm]; exact h
    rw [e] at h3
    omega
  exact Int.eq_of_mul_eq_mul_left hy h4
theorem bxor (a b : Bool) : (!a == b) = (a != b) := by cases a <;> cases b <;> rfl
theorem div_eq (x y : Int) : x.natAbs = y.natAbs * (x.natAbs / y.natAbs) + x.natAbs % y.natAbs := (Nat.div_add_mod _ _).symm
theorem mk_prod (x y : Int) (k : Nat) : mk (!sgn x == sgn y) k * y = if x < 0 then -((y.natAbs * k : Nat) : Int) else ((y.natAbs * k : Nat) : Int) := by
  unfold mk sgn
  by_cases hx : x < 0 <;> by_cases hy : y < 0 <;> simp [hx, hy]
  · have : (y.natAbs : Int) = -y := by omega
    rw [this, Int.neg_mul, Int.neg_neg, Int.mul_comm]
  · have : (y.natAbs : Int) = y := by omega
    rw [this, Int.mul_comm y, Int.neg_mul]
  · have : (y.natAbs : Int) = -y := by omega
    rw [this, Int.neg_mul, Int.neg_mul, Int.mul_comm]
  · have : (y.natAbs : Int) = y := by omega
    rw [this, Int.mul_comm]
theorem div_same (x y : Int) (hy : y ≠ 0) (h : 0 ≤ x ∨ x.natAbs % y.natAbs = 0) : x / y = mk (!sgn x == sgn y) (x.natAbs / y.natAbs) ∧ x % y = ((x.natAbs % y.natAbs : Nat) : Int) := by
  have hp : 0 < y.natAbs := by omega
  have hlt := Nat.mod_lt x.natAbs hp
  refine div_uniq ?_ (by omega) (by omega)
  have e := div_eq x y
  rw [mk_prod]
  generalize y.natAbs * (x.natAbs / y.natAbs) = P at *
  generalize x.natAbs % y.natAbs = r at *
  by_cases hx : x < 0
  · rw [if_pos hx]; omega
  · rw [if_neg hx]; omega
theorem div_more (x y : Int) (hy : y ≠ 0) (hx : x < 0) (h : x.natAbs % y.natAbs ≠ 0) : x / y = mk (!sgn x == sgn y) (x.natAbs / y.natAbs + 1) ∧ x % y = ((y.natAbs - x.natAbs % y.natAbs : Nat) : Int) := by
  have hp : 0 < y.natAbs := by omega
  have hlt := Nat.mod_lt x.natAbs hp
  refine div_uniq ?_ (by omega) (by omega)
  have e := div_eq x y
  rw [mk_prod, if_pos hx, Nat.mul_add, Nat.mul_one]
  generalize y.natAbs * (x.natAbs / y.natAbs) = P at *
  generalize x.natAbs % y.natAbs = r at *
  omega
/-- what bigDivide makes where the rest is below 0 -/
theorem div_back (x y : Int) (hy : y ≠ 0) (hx : x < 0) (h : x.natAbs % y.natAbs ≠ 0) :
    (y < 0 → mk (!sgn x == sgn y) (x.natAbs / y.natAbs) + 1 = x / y ∧ mk (sgn x) (x.natAbs % y.natAbs) - y = x % y) ∧ (0 < y → mk (!sgn x == sgn y) (x.natAbs / y.natAbs) - 1 = x / y ∧ mk (sgn x) (x.natAbs % y.natAbs) + y = x % y) := by
  obtain ⟨h1, h2⟩ := div_more x y hy hx h
  have hlt := Nat.mod_lt x.natAbs (show 0 < y.natAbs by omega)
  rw [h1, h2]
  unfold mk sgn
  generalize x.natAbs / y.natAbs = q at *
  generalize x.natAbs % y.natAbs = r at *
  refine ⟨fun h => ?_, fun h => ?_⟩
  · simp [hx, h]; omega
  · have : ¬ y < 0 := by omega
    simp [hx, this]; omega
end Go.Proofs.Ytemjkgegbpkeoaa

/- The walks of l02Limb, l02Plus and l02Less: the sum and the difference of two lists of limbs, in new memory. -/
namespace Go.Proofs.Ytemjkgegbpkeoaa
open Go.RowKit
set_option linter.unusedVariables false

theorem limbS (a : Option Addr) (n cap : Nat) (xs : List Nat) (i : Nat) (w : World) (hs : Seg w a n cap xs) :
    Calls Try.prog 78 #[.slice a n cap, .int .i64 i] w fun e w' => e = .returned (.int .u64 (xs.getD i 0)) ∧ w' = w := by
  obtain rfl := hs.1
  have hn := Nat.le_trans hs.2.1 hs.2.2.1
  by_cases h : i < xs.length
  · have h' : (i : Int) < (xs.length : Int) := by omega
    obtain ⟨g, o, rfl, hg, hc⟩ := seg_cell hs i h
    have HE : Hid (xs.getD i 0 = xs[i]) := hide (by simp [h])
    have hx := Num.small_at hs.2.2.2.1 h
    clear hs
    generalize xs[i] = x at *
    go_enter Try.func78, Try.ntmps78
    go_wp2
    go_ret
    rw [HE.out]
    exact ⟨rfl, rfl⟩
  · have HE : Hid (xs.getD i 0 = 0) := hide (by simp [List.getD, List.getElem?_eq_none (Nat.le_of_not_lt h)])
    clear hs
    go_enter Try.func78, Try.ntmps78
    go_wp2
    go_ret
    rw [HE.out]
    exact ⟨rfl, rfl⟩
theorem getD_lt {xs : List Nat} (h : Num.Small xs) (k : Nat) : xs.getD k 0 < 4294967296 := by
  by_cases hk : k < xs.length
  · have : xs.getD k 0 = xs[k] := by simp [hk]
    rw [this]; exact Num.small_at h hk
  · have : xs.getD k 0 = 0 := by simp [List.getD, List.getElem?_eq_none (Nat.le_of_not_lt hk)]
    rw [this]; decide
theorem own_snoc {W : World} {base k : Nat} {a' : Option Addr} {c' x : Nat} {zs : List Nat} {v : Int} (hs : Num.Small zs) (hx : x < 4294967296) (hv : v = (x : Int)) (h : W.ownsRow base 54 1 (.slice a' (k + 1) c') (k + 1) (zs.map lim ++ [.int .u32 v])) : Own W base a' (k + 1) c' (zs ++ [x]) := by
  subst hv
  refine ⟨?_, Num.small_append hs (by intro y hy; simp at hy; omega)⟩
  rw [List.map_append]; exact h

theorem less_val {xs ys zs : List Nat} {c : Nat} (h : Sofar true xs ys zs xs.length c) (hl : ys.length ≤ xs.length) (hle : Num.nat ys ≤ Num.nat xs) : Num.nat zs = Num.nat xs - Num.nat ys := by
  obtain ⟨h1, h2, h3, h4⟩ := h
  rw [if_pos rfl, List.take_of_length_le hl, List.take_of_length_le (Nat.le_refl _)] at h4
  have hz := Num.nat_lt h2
  rw [h1] at hz
  generalize 4294967296 ^ xs.length = B at *
  have hc : c = 0 ∨ c = 1 := by clear h4; omega
  rcases hc with rfl | rfl
  · rw [Nat.mul_zero] at h4; omega
  · rw [Nat.mul_one] at h4; omega
theorem plus_val {xs ys zs : List Nat} {k c : Nat} (h : Sofar false xs ys zs k c) (hx : xs.length ≤ k) (hy : ys.length ≤ k) : Num.nat (zs ++ [c]) = Num.nat xs + Num.nat ys := by
  obtain ⟨h1, h2, h3, h4⟩ := h
  rw [if_neg (by simp), List.take_of_length_le hx, List.take_of_length_le hy] at h4
  rw [Num.nat_append, h1, ← h4, show Num.nat [c] = c from by simp [Num.nat]]

set_option maxHeartbeats 4000000 in
set_option maxRecDepth 20000 in
theorem plusS (a b : Option Addr) (n m ca cb : Nat) (xs ys : List Nat) (w : World) (ha : Seg w a n ca xs) (hb : Seg w b m cb ys) (hn : n ≤ 1048576) (hm : m ≤ 1048576) :
    Calls Try.prog 63 #[.slice a n ca, .slice b m cb] w fun e w' => ∃ ao k co zs, e = .returned (.slice ao k co) ∧ Own w' w.heap.size ao k co zs ∧ k ≤ n + m + 1 ∧ Num.nat zs = Num.nat xs + Num.nat ys ∧ Below w.heap.size w w' := by
  obtain ⟨i0, hi, hz0, hz1, hz2⟩ := info_parts Try.info54
  obtain rfl := ha.1
  obtain rfl := hb.1
  have HA := hide ha
  have HB := hide hb
  clear ha hb
  go_enter Try.func63, Try.ntmps63
  go_wp2
  go_loopw [5, 6, 7, 8] (fun o cv i _ wr => ∃ (k c : Nat) (ao : Option Addr) (co : Nat) (zs : List Nat), k ≤ (max xs.length ys.length) ∧ i = .int .i64 k ∧ cv = .int .u64 c ∧ c ≤ 1 ∧ o = .slice ao k co ∧ Hid (Sofar false xs ys zs k c) ∧ Hid (Own wr w.heap.size ao k co zs) ∧ Hid (Below w.heap.size w wr)) (fun _ _ i _ _ => (max xs.length ys.length) - (intOf i).toNat)
  case atStart =>
    refine ⟨0, 0, some ⟨w.heap.size, 0, none⟩, 0, [], Nat.zero_le _, rfl, rfl, by omega, rfl, hide ⟨rfl, (fun x hx => by cases hx), by omega, by simp [Num.nat]⟩, hide ⟨?_, fun x hx => by cases hx⟩, hide (bl_alloc (bl_refl w) _)⟩
    exact World.ownsRow_lit w #[] 0 (Nat.le_refl _) (by unfold maxLen; omega) rfl
  case round =>
    obtain ⟨k, c, ao, co, zs, hk, rfl, rfl, hc, rfl, hS, hO, hBl⟩ := hrel
    have HA' := hide (HA.out.below hBl.out)
    have HB' := hide (HB.out.below hBl.out)
    have hbs := hBl.out.size
    by_cases hlt : k < (max xs.length ys.length)
    · by_cases hA : (k : Int) < (xs.length : Int)
      · have hA0 := hA
        have hx := getD_lt HA.out.2.2.2.1 k
        have hy := getD_lt HB.out.2.2.2.1 k
        obtain ⟨x, hxe⟩ : ∃ x, xs.getD k 0 = x := ⟨_, rfl⟩
        obtain ⟨y, hye⟩ : ∃ y, ys.getD k 0 = y := ⟨_, rfl⟩
        have HXE := hide hxe
        have HYE := hide hye
        rw [hxe] at hx
        rw [hye] at hy
        clear hxe hye
        have e32 := and32 ((x : Int) + y + c) (by omega) (by omega)
        have hown := hO.out
        have HS0 := hide (show Num.Small zs from hO.out.2)
        go_wp2_with (first
          | (go_at_call_of 78 (Value.slice a xs.length ca); refine (limbS a _ ca xs k _ HA'.out).mono ?_; rintro e w3 ⟨rfl, hw3⟩; subst w3; rw [HXE.out])
          | (go_at_call_of 78 (Value.slice b ys.length cb); refine (limbS b _ cb ys k _ HB'.out).mono ?_; rintro e w3 ⟨rfl, hw3⟩; subst w3; rw [HYE.out])
          | (at_builtin; refine wpList_append_own _ rfl _ _ 22 rfl w.heap.size 54 i0 (.int .u32 0) 1 4 Try.underlying22 hi hz0 hz1 hz2 rfl (by decide) _ _ _ rfl (hown.1.alloc _) ⟨wr.heap.size, 0, none⟩ 1 1 [_] rfl rfl (cell_one_new _ _ _) (by simp [Value.oneCell']) (by unfold maxLen; omega) (by omega) (by simp only [World.size_alloc]; omega) ?_; intro v' w1 hown' hgrow' _; obtain ⟨a', c', rfl⟩ := row_val hown'; have hg2 := (show (wr.alloc _).grownBy w1 (Value.slice ao k co).ownBlock from hgrow'); clear hgrow'))
        refine ⟨⟨k + 1, (x + y + c) / 4294967296, a', c', zs ++ [(x + y + c) % 4294967296], by omega, by go_num, by go_num, by omega, rfl, hide (sofar_step hS.out HXE.out HYE.out hy (by omega) (by omega) (by rw [oth_false]; omega)), hide (own_snoc HS0.out (by omega) (by omega) hown'), hide ((bl_alloc hBl.out _).grown hg2 (by simp only [World.size_alloc]; omega) (fun j e => (hO.out.1.lt j e).1))⟩, by simp [intOf]; omega⟩
      · have hB : (k : Int) < (ys.length : Int) := by omega
        have hx := getD_lt HA.out.2.2.2.1 k
        have hy := getD_lt HB.out.2.2.2.1 k
        obtain ⟨x, hxe⟩ : ∃ x, xs.getD k 0 = x := ⟨_, rfl⟩
        obtain ⟨y, hye⟩ : ∃ y, ys.getD k 0 = y := ⟨_, rfl⟩
        have HXE := hide hxe
        have HYE := hide hye
        rw [hxe] at hx
        rw [hye] at hy
        clear hxe hye
        have e32 := and32 ((x : Int) + y + c) (by omega) (by omega)
        have hown := hO.out
        have HS0 := hide (show Num.Small zs from hO.out.2)
        go_wp2_with (first
          | (go_at_call_of 78 (Value.slice a xs.length ca); refine (limbS a _ ca xs k _ HA'.out).mono ?_; rintro e w3 ⟨rfl, hw3⟩; subst w3; rw [HXE.out])
          | (go_at_call_of 78 (Value.slice b ys.length cb); refine (limbS b _ cb ys k _ HB'.out).mono ?_; rintro e w3 ⟨rfl, hw3⟩; subst w3; rw [HYE.out])
          | (at_builtin; refine wpList_append_own _ rfl _ _ 22 rfl w.heap.size 54 i0 (.int .u32 0) 1 4 Try.underlying22 hi hz0 hz1 hz2 rfl (by decide) _ _ _ rfl (hown.1.alloc _) ⟨wr.heap.size, 0, none⟩ 1 1 [_] rfl rfl (cell_one_new _ _ _) (by simp [Value.oneCell']) (by unfold maxLen; omega) (by omega) (by simp only [World.size_alloc]; omega) ?_; intro v' w1 hown' hgrow' _; obtain ⟨a', c', rfl⟩ := row_val hown'; have hg2 := (show (wr.alloc _).grownBy w1 (Value.slice ao k co).ownBlock from hgrow'); clear hgrow'))
        refine ⟨⟨k + 1, (x + y + c) / 4294967296, a', c', zs ++ [(x + y + c) % 4294967296], by omega, by go_num, by go_num, by omega, rfl, hide (sofar_step hS.out HXE.out HYE.out hy (by omega) (by omega) (by rw [oth_false]; omega)), hide (own_snoc HS0.out (by omega) (by omega) hown'), hide ((bl_alloc hBl.out _).grown hg2 (by simp only [World.size_alloc]; omega) (fun j e => (hO.out.1.lt j e).1))⟩, by simp [intOf]; omega⟩
    · obtain rfl : k = (max xs.length ys.length) := by omega
      have hown := hO.out
      have HS0 := hide (show Num.Small zs from hO.out.2)
      obtain ⟨k, hke⟩ : ∃ k, k = max xs.length ys.length := ⟨_, rfl⟩
      have h1 : ¬ (k : Int) < (xs.length : Int) := by omega
      have h2 : ¬ (k : Int) < (ys.length : Int) := by omega
      have hk2 : k ≤ 1048576 := by omega
      have hk3 : k ≤ xs.length + ys.length := by omega
      have HKX : Hid (xs.length ≤ k ∧ ys.length ≤ k) := hide ⟨by omega, by omega⟩
      rw [← hke] at hown hS hO hlt hk ⊢
      clear hke
      go_wp2_with (at_builtin; refine wpList_append_own _ rfl _ _ 22 rfl w.heap.size 54 i0 (.int .u32 0) 1 4 Try.underlying22 hi hz0 hz1 hz2 rfl (by decide) _ _ _ rfl (hown.1.alloc _) ⟨wr.heap.size, 0, none⟩ 1 1 [_] rfl rfl (cell_one_new _ _ _) (by simp [Value.oneCell']) (by unfold maxLen; omega) (by omega) (by simp only [World.size_alloc]; omega) ?_; intro v' w1 hown' hgrow' _; obtain ⟨a', c', rfl⟩ := row_val hown'; have hg2 := (show (wr.alloc _).grownBy w1 (Value.slice ao k co).ownBlock from hgrow'); clear hgrow')
      go_ret
      exact ⟨a', k + 1, c', rfl, zs ++ [c], own_snoc HS0.out (by omega) (by omega) hown', by omega, plus_val hS.out HKX.out.1 HKX.out.2, (bl_alloc hBl.out _).grown hg2 (by simp only [World.size_alloc]; omega) (fun j e => (hO.out.1.lt j e).1)⟩

set_option maxHeartbeats 4000000 in
set_option maxRecDepth 20000 in
theorem lessS (a b : Option Addr) (n m ca cb : Nat) (xs ys : List Nat) (w : World) (ha : Seg w a n ca xs) (hb : Seg w b m cb ys) (hn : n ≤ 1048576) (hm : m ≤ 1048576) (hle : Num.nat ys ≤ Num.nat xs) (hml : m ≤ n) :
    Calls Try.prog 64 #[.slice a n ca, .slice b m cb] w fun e w' => ∃ ao k co zs, e = .returned (.slice ao k co) ∧ Own w' w.heap.size ao k co zs ∧ k ≤ n + m + 1 ∧ Num.nat zs = Num.nat xs - Num.nat ys ∧ Below w.heap.size w w' := by
  obtain ⟨i0, hi, hz0, hz1, hz2⟩ := info_parts Try.info54
  obtain rfl := ha.1
  obtain rfl := hb.1
  have HA := hide ha
  have HB := hide hb
  clear ha hb
  go_enter Try.func64, Try.ntmps64
  go_wp2
  go_loopw [5, 6, 7, 8] (fun o cv i _ wr => ∃ (k c : Nat) (ao : Option Addr) (co : Nat) (zs : List Nat), k ≤ xs.length ∧ i = .int .i64 k ∧ cv = .int .u64 (1 - (c : Int)) ∧ c ≤ 1 ∧ o = .slice ao k co ∧ Hid (Sofar true xs ys zs k c) ∧ Hid (Own wr w.heap.size ao k co zs) ∧ Hid (Below w.heap.size w wr)) (fun _ _ i _ _ => xs.length - (intOf i).toNat)
  case atStart =>
    refine ⟨0, 1, some ⟨w.heap.size, 0, none⟩, 0, [], Nat.zero_le _, rfl, rfl, by omega, rfl, hide ⟨rfl, (fun x hx => by cases hx), by omega, by simp [Num.nat]⟩, hide ⟨?_, fun x hx => by cases hx⟩, hide (bl_alloc (bl_refl w) _)⟩
    exact World.ownsRow_lit w #[] 0 (Nat.le_refl _) (by unfold maxLen; omega) rfl
  case round =>
    obtain ⟨k, c, ao, co, zs, hk, rfl, rfl, hc, rfl, hS, hO, hBl⟩ := hrel
    have HA' := hide (HA.out.below hBl.out)
    have HB' := hide (HB.out.below hBl.out)
    have hbs := hBl.out.size
    by_cases hlt : k < xs.length
    · have hcond : (k : Int) < (xs.length : Int) := by omega
      have hx := getD_lt HA.out.2.2.2.1 k
      have hy := getD_lt HB.out.2.2.2.1 k
      obtain ⟨x, hxe⟩ : ∃ x, xs.getD k 0 = x := ⟨_, rfl⟩
      obtain ⟨y, hye⟩ : ∃ y, ys.getD k 0 = y := ⟨_, rfl⟩
      have HXE := hide hxe
      have HYE := hide hye
      rw [hxe] at hx
      rw [hye] at hy
      clear hxe hye
      have e32 := and32 ((x : Int) + 4294967296 - y - (1 - (c : Int))) (by omega) (by omega)
      have hown := hO.out
      have HS0 := hide (show Num.Small zs from hO.out.2)
      go_wp2_with (first
        | (go_at_call_of 78 (Value.slice a xs.length ca); refine (limbS a _ ca xs k _ HA'.out).mono ?_; rintro e w3 ⟨rfl, hw3⟩; subst w3; rw [HXE.out])
        | (go_at_call_of 78 (Value.slice b ys.length cb); refine (limbS b _ cb ys k _ HB'.out).mono ?_; rintro e w3 ⟨rfl, hw3⟩; subst w3; rw [HYE.out])
        | (at_builtin; refine wpList_append_own _ rfl _ _ 22 rfl w.heap.size 54 i0 (.int .u32 0) 1 4 Try.underlying22 hi hz0 hz1 hz2 rfl (by decide) _ _ _ rfl (hown.1.alloc _) ⟨wr.heap.size, 0, none⟩ 1 1 [_] rfl rfl (cell_one_new _ _ _) (by simp [Value.oneCell']) (by unfold maxLen; omega) (by omega) (by simp only [World.size_alloc]; omega) ?_; intro v' w1 hown' hgrow' _; obtain ⟨a', c', rfl⟩ := row_val hown'; have hg2 := (show (wr.alloc _).grownBy w1 (Value.slice ao k co).ownBlock from hgrow'); clear hgrow'))
      refine ⟨⟨k + 1, (x + 4294967295 - y + c) / 4294967296, a', c', zs ++ [(x + 4294967295 - y + c) % 4294967296], by omega, by go_num, by go_num, by omega, rfl, hide (sofar_step hS.out HXE.out HYE.out hy (by omega) (by omega) (by rw [oth_true]; omega)), hide (own_snoc HS0.out (by omega) (by omega) hown'), hide ((bl_alloc hBl.out _).grown hg2 (by simp only [World.size_alloc]; omega) (fun j e => (hO.out.1.lt j e).1))⟩, by simp [intOf]; omega⟩
    · obtain rfl : k = xs.length := by omega
      go_wp2
      go_ret
      exact ⟨ao, _, co, zs, rfl, hO.out, by omega, less_val hS.out hml hle, hBl.out⟩

end Go.Proofs.Ytemjkgegbpkeoaa

/- The walks of what compares two numbers: l02Cmp, bigCompare, and what they call; nothing that was there turns. -/
namespace Go.Proofs.Ytemjkgegbpkeoaa
open Go.RowKit
set_option linter.unusedVariables false

theorem noughtI (v : Value) (neg : Bool) (xs : List Nat) (w : World) (h : Raw w v neg xs) :
    Calls Try.prog 33 #[v] w fun e w' => e = .returned (.bool (decide (xs.length = 0))) ∧ Below w.heap.size w w' := by
  obtain ⟨a, cap, rfl, hs⟩ := h
  have hn := Nat.le_trans hs.2.1 hs.2.2.1
  clear hs
  by_cases h0 : xs.length = 0
  · rw [decide_eq_true h0]
    go_enter Try.func33, Try.ntmps33
    go_wp2
    go_ret
    exact ⟨rfl, bl_alloc (bl_refl w) _⟩
  · rw [decide_eq_false h0]
    go_enter Try.func33, Try.ntmps33
    go_wp2
    go_ret
    exact ⟨ret_bool (by rw [beq_eq_false_iff_ne]; omega), bl_alloc (bl_refl w) _⟩

theorem len_zero (z : Int) : decide ((lms z).length = 0) = decide (z = 0) := by
  by_cases h : z = 0
  · subst h; rw [show lms 0 = [] from Num.limbs_zero]; rfl
  · rw [decide_eq_false h, decide_eq_false]
    intro e; exact h (sgn_lms_nil e)

set_option maxHeartbeats 1000000 in
theorem signI (v : Value) (z : Int) (w : World) (h : Is w v z) :
    Calls Try.prog 71 #[v] w fun e w' => e = .returned (.int .i64 (Int.sign z)) ∧ Below w.heap.size w w' := by
  obtain ⟨a, cap, rfl, hs⟩ := h
  have HS := hide hs
  clear hs
  have HZ := hide (len_zero z)
  go_enter Try.func71, Try.ntmps71
  go_wp2_with fail
  refine (noughtI (.agg #[.bool (sgn z), .slice a (lms z).length cap]) (sgn z) (lms z) _ ⟨a, cap, rfl, HS.out.below (bl_alloc (bl_refl w) _)⟩).mono ?_
  rintro e w1 ⟨rfl, hb⟩
  rw [HZ.out]
  have HB := hide (bl_trans (bl_alloc (bl_refl w) _) hb)
  have k0 : w1.cell? ⟨w.heap.size, 0, none⟩ = some (.bool (sgn z)) := (hb.cell (p := ⟨w.heap.size, 0, none⟩) (by simp only [World.size_alloc]; omega)).trans (by go_simp)
  clear hb
  rcases Int.lt_trichotomy z 0 with h | h | h
  · have e1 : sgn z = true := decide_eq_true h
    have e2 : decide (z = 0) = false := decide_eq_false (by omega)
    rw [e1] at k0
    rw [e2]
    have HE := hide (Int.sign_eq_neg_one_of_neg h)
    go_wp2
    go_ret
    exact ⟨ret_int HE.out.symm, HB.out⟩
  · subst h
    go_wp2
    go_ret
    exact ⟨rfl, HB.out⟩
  · have e1 : sgn z = false := decide_eq_false (by omega)
    have e2 : decide (z = 0) = false := decide_eq_false (by omega)
    rw [e1] at k0
    rw [e2]
    have HE := hide (Int.sign_eq_one_of_pos h)
    go_wp2
    go_ret
    exact ⟨ret_int HE.out.symm, HB.out⟩

theorem cmp_flip (x y : Int) (hx : x < 0) (hy : y < 0) : cmpZ (y.natAbs : Int) (x.natAbs : Int) = cmpZ x y := by
  unfold cmpZ
  have h1 : (((y.natAbs : Nat) : Int) < ((x.natAbs : Nat) : Int)) ↔ x < y := by omega
  have h2 : (((x.natAbs : Nat) : Int) < ((y.natAbs : Nat) : Int)) ↔ y < x := by omega
  simp only [h1, h2]
theorem cmp_same (x y : Int) (hx : 0 ≤ x) (hy : 0 ≤ y) : cmpZ (x.natAbs : Int) (y.natAbs : Int) = cmpZ x y := by
  rw [show ((x.natAbs : Nat) : Int) = x by omega, show ((y.natAbs : Nat) : Int) = y by omega]
theorem below2 (w : World) (o1 o2 : Obj) : Below w.heap.size w ((w.alloc o1).alloc o2) := bl_alloc (bl_alloc (bl_refl w) _) _

theorem cmp_sign (x y : Int) (h : sgn x ≠ sgn y) : cmpZ (Int.sign x) (Int.sign y) = cmpZ x y := by
  unfold sgn at h
  by_cases hx : x < 0
  · have hy : 0 ≤ y := by
      refine Classical.byContradiction fun hc => h ?_
      rw [decide_eq_true hx, decide_eq_true (by omega)]
    rw [Int.sign_eq_neg_one_of_neg hx, cmp_lt (a := x) (b := y) (by omega)]
    refine cmp_lt ?_
    rcases Int.lt_or_eq_of_le hy with h' | h'
    · rw [Int.sign_eq_one_of_pos h']; decide
    · subst h'; decide
  · have hy : y < 0 := by
      refine Classical.byContradiction fun hc => h ?_
      rw [decide_eq_false hx, decide_eq_false hc]
    rw [Int.sign_eq_neg_one_of_neg hy, cmp_gt (a := x) (b := y) (by omega)]
    refine cmp_gt ?_
    rcases Int.lt_or_eq_of_le (Int.not_lt.1 hx) with h' | h'
    · rw [Int.sign_eq_one_of_pos h']; decide
    · subst h'; decide

set_option maxHeartbeats 1000000 in
set_option maxRecDepth 20000 in
theorem cmpBI (v1 v2 : Value) (x y : Int) (w : World) (h1 : Is w v1 x) (h2 : Is w v2 y) :
    Calls Try.prog 83 #[v1, v2] w fun e w' => e = .returned (.int .i64 (cmpZ x y)) ∧ Below w.heap.size w w' := by
  obtain ⟨a, ca, rfl, ha⟩ := h1
  obtain ⟨b, cb, rfl, hb⟩ := h2
  have HA := hide (fun o1 o2 => ha.below (below2 w o1 o2))
  have HB := hide (fun o1 o2 => hb.below (below2 w o1 o2))
  clear ha hb
  by_cases hs : sgn x = sgn y
  · by_cases hx : x < 0
    · have hy : y < 0 := by unfold sgn at hs; rw [decide_eq_true hx] at hs; exact of_decide_eq_true hs.symm
      have ex : sgn x = true := decide_eq_true hx
      have ey : sgn y = true := decide_eq_true hy
      have HE := hide (cmp_flip x y hx hy)
      clear hs
      rw [ex, ey]
      go_enter Try.func83, Try.ntmps83
      go_wp2_with fail
      refine (leastI y.natAbs x.natAbs b a _ _ cb ca _ (HB.out _ _) (HA.out _ _)).mono ?_
      rintro e w1 ⟨rfl, d, hw⟩
      subst w1
      go_wp2
      go_ret
      exact ⟨ret_int HE.out, below_drewN (below2 w _ _) d⟩
    · have hy : ¬ y < 0 := by unfold sgn at hs; rw [decide_eq_false hx] at hs; exact of_decide_eq_false hs.symm
      have ex : sgn x = false := decide_eq_false hx
      have ey : sgn y = false := decide_eq_false hy
      have HE := hide (cmp_same x y (by omega) (by omega))
      clear hs
      rw [ex, ey]
      go_enter Try.func83, Try.ntmps83
      go_wp2_with fail
      refine (leastI x.natAbs y.natAbs a b _ _ ca cb _ (HA.out _ _) (HB.out _ _)).mono ?_
      rintro e w1 ⟨rfl, d, hw⟩
      subst w1
      go_wp2
      go_ret
      exact ⟨ret_int HE.out, below_drewN (below2 w _ _) d⟩
  · have HE := hide (cmp_sign x y hs)
    have hne : (!sgn x == sgn y) = true := by
      cases h1 : sgn x <;> cases h2 : sgn y <;> first | rfl | exact absurd (h1.trans h2.symm) hs
    clear hs
    go_enter Try.func83, Try.ntmps83
    go_wp2_with fail
    have hB0 := below2 w (Obj.cells #[Value.bool (sgn x), Value.slice a (lms x).length ca] 26) (Obj.cells #[Value.bool (sgn y), Value.slice b (lms y).length cb] 26)
    have k0 : ((w.alloc (Obj.cells #[Value.bool (sgn x), Value.slice a (lms x).length ca] 26)).alloc (Obj.cells #[Value.bool (sgn y), Value.slice b (lms y).length cb] 26)).cell? ⟨w.heap.size, 0, none⟩ = some (.bool (sgn x)) := by go_simp
    have k1 : ((w.alloc (Obj.cells #[Value.bool (sgn x), Value.slice a (lms x).length ca] 26)).alloc (Obj.cells #[Value.bool (sgn y), Value.slice b (lms y).length cb] 26)).cell? ⟨w.heap.size, 1, none⟩ = some (.slice a (lms x).length ca) := by go_simp
    have k2 : ((w.alloc (Obj.cells #[Value.bool (sgn x), Value.slice a (lms x).length ca] 26)).alloc (Obj.cells #[Value.bool (sgn y), Value.slice b (lms y).length cb] 26)).cell? ⟨w.heap.size + 1, 0, none⟩ = some (.bool (sgn y)) := by go_simp
    have k3 : ((w.alloc (Obj.cells #[Value.bool (sgn x), Value.slice a (lms x).length ca] 26)).alloc (Obj.cells #[Value.bool (sgn y), Value.slice b (lms y).length cb] 26)).cell? ⟨w.heap.size + 1, 1, none⟩ = some (.slice b (lms y).length cb) := by go_simp
    have z1 : w.heap.size + 1 < ((w.alloc (Obj.cells #[Value.bool (sgn x), Value.slice a (lms x).length ca] 26)).alloc (Obj.cells #[Value.bool (sgn y), Value.slice b (lms y).length cb] 26)).heap.size := by simp only [World.size_alloc]; omega
    have ia : Is ((w.alloc (Obj.cells #[Value.bool (sgn x), Value.slice a (lms x).length ca] 26)).alloc (Obj.cells #[Value.bool (sgn y), Value.slice b (lms y).length cb] 26)) (.agg #[.bool (sgn x), .slice a (lms x).length ca]) x := ⟨a, ca, rfl, HA.out _ _⟩
    have ib : Is ((w.alloc (Obj.cells #[Value.bool (sgn x), Value.slice a (lms x).length ca] 26)).alloc (Obj.cells #[Value.bool (sgn y), Value.slice b (lms y).length cb] 26)) (.agg #[.bool (sgn y), .slice b (lms y).length cb]) y := ⟨b, cb, rfl, HB.out _ _⟩
    generalize (w.alloc (Obj.cells #[Value.bool (sgn x), Value.slice a (lms x).length ca] 26)).alloc (Obj.cells #[Value.bool (sgn y), Value.slice b (lms y).length cb] 26) = w1 at *
    have z0 : w.heap.size < w1.heap.size := by omega
    have HIA := hide ia
    have HIB := hide ib
    have HB0 := hide hB0
    clear ia ib hB0
    go_region_held3 (fun w' => w'.cell? ⟨w.heap.size, 0, none⟩ = some (.bool (sgn x)) ∧ w'.cell? ⟨w.heap.size, 1, none⟩ = some (.slice a (lms x).length ca) ∧ w'.cell? ⟨w.heap.size + 1, 0, none⟩ = some (.bool (sgn y)) ∧ w'.cell? ⟨w.heap.size + 1, 1, none⟩ = some (.slice b (lms y).length cb))
      (first
        | exact ⟨k0, k1, k2, k3⟩
        | exact ⟨(hb3.cell (p := ⟨w.heap.size, 0, none⟩) z0).trans k0, (hb3.cell (p := ⟨w.heap.size, 1, none⟩) z0).trans k1, (hb3.cell (p := ⟨w.heap.size + 1, 0, none⟩) z1).trans k2, (hb3.cell (p := ⟨w.heap.size + 1, 1, none⟩) z1).trans k3⟩
        | exact ⟨(hb2.cell (p := ⟨w.heap.size, 0, none⟩) z0).trans k0, (hb2.cell (p := ⟨w.heap.size, 1, none⟩) z0).trans k1, (hb2.cell (p := ⟨w.heap.size + 1, 0, none⟩) z1).trans k2, (hb2.cell (p := ⟨w.heap.size + 1, 1, none⟩) z1).trans k3⟩)
      (first
        | (go_at_call 84; refine (cmpI _ _ _).mono ?_; rintro e w4 ⟨rfl, hw4⟩; subst w4)
        | (go_at_call 71; refine (signI _ x _ (HIA.out.below (bl_refl w1).drew)).mono ?_; rintro e w2 ⟨rfl, hb2'⟩; have hb2 : Below w1.heap.size w1 w2 := (bl_refl w1).drew.trans hb2')
        | (go_at_call 71; refine (signI _ y _ (HIB.out.below hb2)).mono ?_; rintro e w3 ⟨rfl, hb3'⟩; have hb3 : Below w1.heap.size w1 w3 := bl_trans hb2 hb3'))
    have HB3 := hide (bl_trans HB0.out hb3)
    clear hb2 hb3 hb2' hb3'
    go_wp2
    go_ret
    exact ⟨ret_int HE.out, HB3.out⟩
end Go.Proofs.Ytemjkgegbpkeoaa

/- The walks of l02Add, l02Neg and l02Sub: sums and differences of numbers of any size, in new memory. -/
namespace Go.Proofs.Ytemjkgegbpkeoaa
open Go.RowKit
set_option linter.unusedVariables false

theorem cell_two {w : World} {N : Nat} {x y : Value} {p : Addr} (h : p.block ≠ N) : ((w.setCell ⟨N, 0, none⟩ x).setCell ⟨N, 1, none⟩ y).cell? p = w.cell? p :=
  World.cell?_of_block ((Below.heap_setCell (w.setCell ⟨N, 0, none⟩ x) ⟨N, 1, none⟩ y p.block h).trans (Below.heap_setCell w ⟨N, 0, none⟩ x p.block h))
theorem mk_add_same (x y : Int) (h : sgn x = sgn y) : mk (sgn x) (Num.nat (lms x) + Num.nat (lms y)) = x + y := by
  rw [nat_lms, nat_lms]
  unfold sgn mk at *
  by_cases hx : x < 0
  · have hy : y < 0 := by rw [decide_eq_true hx] at h; exact of_decide_eq_true h.symm
    rw [decide_eq_true hx, if_pos rfl]; omega
  · have hy : ¬ y < 0 := by rw [decide_eq_false hx] at h; exact of_decide_eq_false h.symm
    rw [decide_eq_false hx, if_neg (by simp)]; omega
theorem mk_add_diff (x y : Int) (h : sgn x ≠ sgn y) (hl : y.natAbs ≤ x.natAbs) : mk (sgn x) (Num.nat (lms x) - Num.nat (lms y)) = x + y := by
  rw [nat_lms, nat_lms]
  unfold sgn mk at *
  by_cases hx : x < 0
  · have hy : ¬ y < 0 := fun hc => h (by rw [decide_eq_true hx, decide_eq_true hc])
    rw [decide_eq_true hx, if_pos rfl]; omega
  · have hy : y < 0 := by
      refine Classical.byContradiction fun hc => h ?_
      rw [decide_eq_false hx, decide_eq_false hc]
    rw [decide_eq_false hx, if_neg (by simp)]; omega

set_option maxHeartbeats 4000000 in
set_option maxRecDepth 20000 in
theorem addS (v1 v2 : Value) (x y : Int) (w : World) (h1 : Is w v1 x) (h2 : Is w v2 y) (l1 : (lms x).length ≤ 500000) (l2 : (lms y).length ≤ 500000) :
    Calls Try.prog 55 #[v1, v2] w fun e w' => ∃ v, e = .returned v ∧ New w' w.heap.size v (x + y) ∧ Below w.heap.size w w' := by
  obtain ⟨a, ca, rfl, ha⟩ := h1
  obtain ⟨b, cb, rfl, hb⟩ := h2
  have HZ := hide (bl_alloc (bl_alloc (bl_alloc (bl_refl w) (Obj.cells #[Value.bool (sgn x), Value.slice a (lms x).length ca] 26)) (Obj.cells #[Value.bool (sgn y), Value.slice b (lms y).length cb] 26)) (Obj.cells #[Value.bool false, Value.slice none 0 0] 26))
  have HA := hide (ha.below HZ.out)
  have HBB := hide (hb.below HZ.out)
  clear ha hb
  have kP0 : (((w.alloc (Obj.cells #[Value.bool (sgn x), Value.slice a (lms x).length ca] 26)).alloc (Obj.cells #[Value.bool (sgn y), Value.slice b (lms y).length cb] 26)).alloc (Obj.cells #[Value.bool false, Value.slice none 0 0] 26)).cell? ⟨w.heap.size, 0, none⟩ = some (Value.bool (sgn x)) := by go_simp
  have kP1 : (((w.alloc (Obj.cells #[Value.bool (sgn x), Value.slice a (lms x).length ca] 26)).alloc (Obj.cells #[Value.bool (sgn y), Value.slice b (lms y).length cb] 26)).alloc (Obj.cells #[Value.bool false, Value.slice none 0 0] 26)).cell? ⟨w.heap.size, 1, none⟩ = some (Value.slice a (lms x).length ca) := by go_simp
  have kQ0 : (((w.alloc (Obj.cells #[Value.bool (sgn x), Value.slice a (lms x).length ca] 26)).alloc (Obj.cells #[Value.bool (sgn y), Value.slice b (lms y).length cb] 26)).alloc (Obj.cells #[Value.bool false, Value.slice none 0 0] 26)).cell? ⟨w.heap.size + 1, 0, none⟩ = some (Value.bool (sgn y)) := by go_simp
  have kQ1 : (((w.alloc (Obj.cells #[Value.bool (sgn x), Value.slice a (lms x).length ca] 26)).alloc (Obj.cells #[Value.bool (sgn y), Value.slice b (lms y).length cb] 26)).alloc (Obj.cells #[Value.bool false, Value.slice none 0 0] 26)).cell? ⟨w.heap.size + 1, 1, none⟩ = some (Value.slice b (lms y).length cb) := by go_simp
  have kR0 : (((w.alloc (Obj.cells #[Value.bool (sgn x), Value.slice a (lms x).length ca] 26)).alloc (Obj.cells #[Value.bool (sgn y), Value.slice b (lms y).length cb] 26)).alloc (Obj.cells #[Value.bool false, Value.slice none 0 0] 26)).cell? ⟨w.heap.size + 1 + 1, 0, none⟩ = some (Value.bool false) := by go_simp
  have kR1 : (((w.alloc (Obj.cells #[Value.bool (sgn x), Value.slice a (lms x).length ca] 26)).alloc (Obj.cells #[Value.bool (sgn y), Value.slice b (lms y).length cb] 26)).alloc (Obj.cells #[Value.bool false, Value.slice none 0 0] 26)).cell? ⟨w.heap.size + 1 + 1, 1, none⟩ = some (Value.slice none 0 0) := by go_simp
  have fR0 : (((w.alloc (Obj.cells #[Value.bool (sgn x), Value.slice a (lms x).length ca] 26)).alloc (Obj.cells #[Value.bool (sgn y), Value.slice b (lms y).length cb] 26)).alloc (Obj.cells #[Value.bool false, Value.slice none 0 0] 26)).frozen? ⟨w.heap.size + 1 + 1, 0, none⟩ = false := by go_simp
  have fR1 : (((w.alloc (Obj.cells #[Value.bool (sgn x), Value.slice a (lms x).length ca] 26)).alloc (Obj.cells #[Value.bool (sgn y), Value.slice b (lms y).length cb] 26)).alloc (Obj.cells #[Value.bool false, Value.slice none 0 0] 26)).frozen? ⟨w.heap.size + 1 + 1, 1, none⟩ = false := by go_simp
  have zR : w.heap.size + 1 + 1 < (((w.alloc (Obj.cells #[Value.bool (sgn x), Value.slice a (lms x).length ca] 26)).alloc (Obj.cells #[Value.bool (sgn y), Value.slice b (lms y).length cb] 26)).alloc (Obj.cells #[Value.bool false, Value.slice none 0 0] 26)).heap.size := by simp only [World.size_alloc]; omega
  by_cases hs : sgn x = sgn y
  · have HV := hide (mk_add_same x y hs)
    have hse : (sgn x == sgn y) = true := by rw [hs]; simp
    have HSE := hide hse
    clear hs
    go_enter Try.func55, Try.ntmps55
    go_wp2_with fail
    generalize (((w.alloc (Obj.cells #[Value.bool (sgn x), Value.slice a (lms x).length ca] 26)).alloc (Obj.cells #[Value.bool (sgn y), Value.slice b (lms y).length cb] 26)).alloc (Obj.cells #[Value.bool false, Value.slice none 0 0] 26)) = w1 at *
    go_region_held3 (fun w' => w'.cell? ⟨w.heap.size, 0, none⟩ = some (Value.bool (sgn x)) ∧ w'.cell? ⟨w.heap.size, 1, none⟩ = some (Value.slice a (lms x).length ca) ∧ w'.cell? ⟨w.heap.size + 1, 0, none⟩ = some (Value.bool (sgn y)) ∧ w'.cell? ⟨w.heap.size + 1, 1, none⟩ = some (Value.slice b (lms y).length cb))
      (first
        | exact ⟨kP0, kP1, kQ0, kQ1⟩
        | exact ⟨(hb4.cell (p := ⟨w.heap.size, 0, none⟩) (by dsimp only; omega)).trans kP0, (hb4.cell (p := ⟨w.heap.size, 1, none⟩) (by dsimp only; omega)).trans kP1, (hb4.cell (p := ⟨w.heap.size + 1, 0, none⟩) (by dsimp only; omega)).trans kQ0, (hb4.cell (p := ⟨w.heap.size + 1, 1, none⟩) (by dsimp only; omega)).trans kQ1⟩
        | exact ⟨(hb3.cell (p := ⟨w.heap.size, 0, none⟩) (by dsimp only; omega)).trans kP0, (hb3.cell (p := ⟨w.heap.size, 1, none⟩) (by dsimp only; omega)).trans kP1, (hb3.cell (p := ⟨w.heap.size + 1, 0, none⟩) (by dsimp only; omega)).trans kQ0, (hb3.cell (p := ⟨w.heap.size + 1, 1, none⟩) (by dsimp only; omega)).trans kQ1⟩
        | exact ⟨(cell_two (p := ⟨w.heap.size, 0, none⟩) (by dsimp only; omega)).trans ((hb4.cell (p := ⟨w.heap.size, 0, none⟩) (by dsimp only; omega)).trans kP0), (cell_two (p := ⟨w.heap.size, 1, none⟩) (by dsimp only; omega)).trans ((hb4.cell (p := ⟨w.heap.size, 1, none⟩) (by dsimp only; omega)).trans kP1), (cell_two (p := ⟨w.heap.size + 1, 0, none⟩) (by dsimp only; omega)).trans ((hb4.cell (p := ⟨w.heap.size + 1, 0, none⟩) (by dsimp only; omega)).trans kQ0), (cell_two (p := ⟨w.heap.size + 1, 1, none⟩) (by dsimp only; omega)).trans ((hb4.cell (p := ⟨w.heap.size + 1, 1, none⟩) (by dsimp only; omega)).trans kQ1)⟩)
      (first
        | (go_at_call 63; refine (plusS a b _ _ ca cb (lms x) (lms y) _ (HA.out.below (bl_refl w1).drew) (HBB.out.below (bl_refl w1).drew) (by omega) (by omega)).mono ?_; rintro e w3 ⟨ao, ko, co, zs, rfl, ho3, hko, hval, hb3'⟩; have hb3 : Below w1.heap.size w1 w3 := (bl_refl w1).drew.trans hb3')
        | (go_at_call 61; refine (makeS (sgn x) ao ko co zs _ ho3.seg (by omega)).mono ?_; rintro e w4 ⟨v4, rfl, hn4, hb4'⟩; have hb4 : Below w1.heap.size w1 w4 := bl_trans hb3 hb4'; have kR0' := (hb4.cell (p := ⟨w.heap.size + 1 + 1, 0, none⟩) (by dsimp only; omega)).trans kR0; have kR1' := (hb4.cell (p := ⟨w.heap.size + 1 + 1, 1, none⟩) (by dsimp only; omega)).trans kR1; have fR0' := (hb4.frozen (p := ⟨w.heap.size + 1 + 1, 0, none⟩) (by dsimp only; omega)).trans fR0; have fR1' := (hb4.frozen (p := ⟨w.heap.size + 1 + 1, 1, none⟩) (by dsimp only; omega)).trans fR1; rw [hval, HV.out] at hn4; have HF := hide (fun p r => fin_box (N := w.heap.size + 1 + 1) (x := p) (y := r) hn4 (Nat.lt_of_lt_of_le zR hb3.size) (by omega) (bl_trans HZ.out hb4)); obtain ⟨a4, c4, rfl, ho4⟩ := hn4; clear ho4))
    clear hb3 hb4 hb3' hb4' ho3
    go_wp2
    refine bodyPost_ret (v := .agg #[.bool (sgn (x + y)), .slice a4 (lms (x + y)).length c4]) (by simp [results, Try.results55, go_sem, *]) rfl ?_
    exact ⟨_, rfl, HF.out _ _⟩
  · have hse : (sgn x == sgn y) = false := by rw [beq_eq_false_iff_ne]; exact hs
    have HS := hide hs
    clear hs
    go_enter Try.func55, Try.ntmps55
    go_wp2_with fail
    generalize (((w.alloc (Obj.cells #[Value.bool (sgn x), Value.slice a (lms x).length ca] 26)).alloc (Obj.cells #[Value.bool (sgn y), Value.slice b (lms y).length cb] 26)).alloc (Obj.cells #[Value.bool false, Value.slice none 0 0] 26)) = w1 at *
    refine (leastS x.natAbs y.natAbs a b _ _ ca cb _ HA.out HBB.out).mono ?_
    rintro e w2 ⟨rfl, d, hw2⟩
    replace kP0 : w2.cell? ⟨w.heap.size, 0, none⟩ = some (Value.bool (sgn x)) := by rw [hw2]; exact kP0
    replace kP1 : w2.cell? ⟨w.heap.size, 1, none⟩ = some (Value.slice a (lms x).length ca) := by rw [hw2]; exact kP1
    replace kQ0 : w2.cell? ⟨w.heap.size + 1, 0, none⟩ = some (Value.bool (sgn y)) := by rw [hw2]; exact kQ0
    replace kQ1 : w2.cell? ⟨w.heap.size + 1, 1, none⟩ = some (Value.slice b (lms y).length cb) := by rw [hw2]; exact kQ1
    replace kR0 : w2.cell? ⟨w.heap.size + 1 + 1, 0, none⟩ = some (Value.bool false) := by rw [hw2]; exact kR0
    replace kR1 : w2.cell? ⟨w.heap.size + 1 + 1, 1, none⟩ = some (Value.slice none 0 0) := by rw [hw2]; exact kR1
    replace fR0 : w2.frozen? ⟨w.heap.size + 1 + 1, 0, none⟩ = false := by rw [hw2]; exact fR0
    replace fR1 : w2.frozen? ⟨w.heap.size + 1 + 1, 1, none⟩ = false := by rw [hw2]; exact fR1
    replace HZ : Hid (Below w.heap.size w w2) := hide (by rw [hw2]; exact below_drewN HZ.out d)
    replace HA : Hid (Seg w2 a (lms x).length ca (lms x)) := hide (by rw [hw2]; exact HA.out.below (below_drewN (bl_refl w1) d))
    replace HBB : Hid (Seg w2 b (lms y).length cb (lms y)) := hide (by rw [hw2]; exact HBB.out.below (below_drewN (bl_refl w1) d))
    replace zR : w.heap.size + 1 + 1 < w2.heap.size := by rw [hw2]; exact zR
    clear hw2
    by_cases hxy : x.natAbs < y.natAbs
    · rw [cmp_lt (by omega)]
      have HV : Hid (mk (sgn y) (Num.nat (lms y) - Num.nat (lms x)) = x + y) := hide (by rw [mk_add_diff y x (fun e => HS.out e.symm) (by omega)]; omega)
      have hll : (lms x).length ≤ (lms y).length := Num.limbs_len.2 (Nat.lt_trans hxy (Num.limbs_len.1 (Nat.le_refl _)))
      go_wp2_with fail
      go_region_held3 (fun w' => w'.cell? ⟨w.heap.size, 0, none⟩ = some (Value.bool (sgn x)) ∧ w'.cell? ⟨w.heap.size, 1, none⟩ = some (Value.slice a (lms x).length ca) ∧ w'.cell? ⟨w.heap.size + 1, 0, none⟩ = some (Value.bool (sgn y)) ∧ w'.cell? ⟨w.heap.size + 1, 1, none⟩ = some (Value.slice b (lms y).length cb))
        (first
          | exact ⟨kP0, kP1, kQ0, kQ1⟩
          | exact ⟨(hb4.cell (p := ⟨w.heap.size, 0, none⟩) (by dsimp only; omega)).trans kP0, (hb4.cell (p := ⟨w.heap.size, 1, none⟩) (by dsimp only; omega)).trans kP1, (hb4.cell (p := ⟨w.heap.size + 1, 0, none⟩) (by dsimp only; omega)).trans kQ0, (hb4.cell (p := ⟨w.heap.size + 1, 1, none⟩) (by dsimp only; omega)).trans kQ1⟩
          | exact ⟨(hb3.cell (p := ⟨w.heap.size, 0, none⟩) (by dsimp only; omega)).trans kP0, (hb3.cell (p := ⟨w.heap.size, 1, none⟩) (by dsimp only; omega)).trans kP1, (hb3.cell (p := ⟨w.heap.size + 1, 0, none⟩) (by dsimp only; omega)).trans kQ0, (hb3.cell (p := ⟨w.heap.size + 1, 1, none⟩) (by dsimp only; omega)).trans kQ1⟩
          | exact ⟨(cell_two (p := ⟨w.heap.size, 0, none⟩) (by dsimp only; omega)).trans ((hb4.cell (p := ⟨w.heap.size, 0, none⟩) (by dsimp only; omega)).trans kP0), (cell_two (p := ⟨w.heap.size, 1, none⟩) (by dsimp only; omega)).trans ((hb4.cell (p := ⟨w.heap.size, 1, none⟩) (by dsimp only; omega)).trans kP1), (cell_two (p := ⟨w.heap.size + 1, 0, none⟩) (by dsimp only; omega)).trans ((hb4.cell (p := ⟨w.heap.size + 1, 0, none⟩) (by dsimp only; omega)).trans kQ0), (cell_two (p := ⟨w.heap.size + 1, 1, none⟩) (by dsimp only; omega)).trans ((hb4.cell (p := ⟨w.heap.size + 1, 1, none⟩) (by dsimp only; omega)).trans kQ1)⟩)
        (first
          | (go_at_call 64; refine (lessS b a _ _ cb ca (lms y) (lms x) _ (HBB.out.below (bl_refl w2).drew) (HA.out.below (bl_refl w2).drew) (by omega) (by omega) (by rw [nat_lms, nat_lms]; omega) hll).mono ?_; rintro e w3 ⟨ao, ko, co, zs, rfl, ho3, hko, hval, hb3'⟩; have hb3 : Below w2.heap.size w2 w3 := (bl_refl w2).drew.trans hb3')
          | (go_at_call 61; refine (makeS (sgn y) ao ko co zs _ ho3.seg (by omega)).mono ?_; rintro e w4 ⟨v4, rfl, hn4, hb4'⟩; have hb4 : Below w2.heap.size w2 w4 := bl_trans hb3 hb4'; have kR0' := (hb4.cell (p := ⟨w.heap.size + 1 + 1, 0, none⟩) (by dsimp only; omega)).trans kR0; have kR1' := (hb4.cell (p := ⟨w.heap.size + 1 + 1, 1, none⟩) (by dsimp only; omega)).trans kR1; have fR0' := (hb4.frozen (p := ⟨w.heap.size + 1 + 1, 0, none⟩) (by dsimp only; omega)).trans fR0; have fR1' := (hb4.frozen (p := ⟨w.heap.size + 1 + 1, 1, none⟩) (by dsimp only; omega)).trans fR1; rw [hval, HV.out] at hn4; have HF := hide (fun p r => fin_box (N := w.heap.size + 1 + 1) (x := p) (y := r) hn4 (Nat.lt_of_lt_of_le zR hb3.size) (by omega) (bl_trans HZ.out hb4)); obtain ⟨a4, c4, rfl, ho4⟩ := hn4; clear ho4))
      clear hb3 hb4 hb3' hb4' ho3
      go_wp2
      refine bodyPost_ret (v := .agg #[.bool (sgn (x + y)), .slice a4 (lms (x + y)).length c4]) (by simp [results, Try.results55, go_sem, *]) rfl ?_
      exact ⟨_, rfl, HF.out _ _⟩
    · have hc : 0 ≤ cmpZ ((x.natAbs : Nat) : Int) ((y.natAbs : Nat) : Int) := by
        by_cases h : x.natAbs = y.natAbs
        · rw [cmp_eq (by omega)]; decide
        · rw [cmp_gt (by omega)]; decide
      generalize cmpZ ((x.natAbs : Nat) : Int) ((y.natAbs : Nat) : Int) = r at *
      have HV : Hid (mk (sgn x) (Num.nat (lms x) - Num.nat (lms y)) = x + y) := hide (mk_add_diff x y HS.out (by omega))
      have hll : (lms y).length ≤ (lms x).length := Num.limbs_len.2 (Nat.lt_of_le_of_lt (by omega) (Num.limbs_len.1 (Nat.le_refl (lms x).length)))
      go_wp2_with fail
      go_region_held3 (fun w' => w'.cell? ⟨w.heap.size, 0, none⟩ = some (Value.bool (sgn x)) ∧ w'.cell? ⟨w.heap.size, 1, none⟩ = some (Value.slice a (lms x).length ca) ∧ w'.cell? ⟨w.heap.size + 1, 0, none⟩ = some (Value.bool (sgn y)) ∧ w'.cell? ⟨w.heap.size + 1, 1, none⟩ = some (Value.slice b (lms y).length cb))
        (first
          | exact ⟨kP0, kP1, kQ0, kQ1⟩
          | exact ⟨(hb4.cell (p := ⟨w.heap.size, 0, none⟩) (by dsimp only; omega)).trans kP0, (hb4.cell (p := ⟨w.heap.size, 1, none⟩) (by dsimp only; omega)).trans kP1, (hb4.cell (p := ⟨w.heap.size + 1, 0, none⟩) (by dsimp only; omega)).trans kQ0, (hb4.cell (p := ⟨w.heap.size + 1, 1, none⟩) (by dsimp only; omega)).trans kQ1⟩
          | exact ⟨(hb3.cell (p := ⟨w.heap.size, 0, none⟩) (by dsimp only; omega)).trans kP0, (hb3.cell (p := ⟨w.heap.size, 1, none⟩) (by dsimp only; omega)).trans kP1, (hb3.cell (p := ⟨w.heap.size + 1, 0, none⟩) (by dsimp only; omega)).trans kQ0, (hb3.cell (p := ⟨w.heap.size + 1, 1, none⟩) (by dsimp only; omega)).trans kQ1⟩
          | exact ⟨(cell_two (p := ⟨w.heap.size, 0, none⟩) (by dsimp only; omega)).trans ((hb4.cell (p := ⟨w.heap.size, 0, none⟩) (by dsimp only; omega)).trans kP0), (cell_two (p := ⟨w.heap.size, 1, none⟩) (by dsimp only; omega)).trans ((hb4.cell (p := ⟨w.heap.size, 1, none⟩) (by dsimp only; omega)).trans kP1), (cell_two (p := ⟨w.heap.size + 1, 0, none⟩) (by dsimp only; omega)).trans ((hb4.cell (p := ⟨w.heap.size + 1, 0, none⟩) (by dsimp only; omega)).trans kQ0), (cell_two (p := ⟨w.heap.size + 1, 1, none⟩) (by dsimp only; omega)).trans ((hb4.cell (p := ⟨w.heap.size + 1, 1, none⟩) (by dsimp only; omega)).trans kQ1)⟩)
        (first
          | (go_at_call 64; refine (lessS a b _ _ ca cb (lms x) (lms y) _ (HA.out.below (bl_refl w2).drew) (HBB.out.below (bl_refl w2).drew) (by omega) (by omega) (by rw [nat_lms, nat_lms]; omega) hll).mono ?_; rintro e w3 ⟨ao, ko, co, zs, rfl, ho3, hko, hval, hb3'⟩; have hb3 : Below w2.heap.size w2 w3 := (bl_refl w2).drew.trans hb3')
          | (go_at_call 61; refine (makeS (sgn x) ao ko co zs _ ho3.seg (by omega)).mono ?_; rintro e w4 ⟨v4, rfl, hn4, hb4'⟩; have hb4 : Below w2.heap.size w2 w4 := bl_trans hb3 hb4'; have kR0' := (hb4.cell (p := ⟨w.heap.size + 1 + 1, 0, none⟩) (by dsimp only; omega)).trans kR0; have kR1' := (hb4.cell (p := ⟨w.heap.size + 1 + 1, 1, none⟩) (by dsimp only; omega)).trans kR1; have fR0' := (hb4.frozen (p := ⟨w.heap.size + 1 + 1, 0, none⟩) (by dsimp only; omega)).trans fR0; have fR1' := (hb4.frozen (p := ⟨w.heap.size + 1 + 1, 1, none⟩) (by dsimp only; omega)).trans fR1; rw [hval, HV.out] at hn4; have HF := hide (fun p r => fin_box (N := w.heap.size + 1 + 1) (x := p) (y := r) hn4 (Nat.lt_of_lt_of_le zR hb3.size) (by omega) (bl_trans HZ.out hb4)); obtain ⟨a4, c4, rfl, ho4⟩ := hn4; clear ho4))
      clear hb3 hb4 hb3' hb4' ho3
      go_wp2
      refine bodyPost_ret (v := .agg #[.bool (sgn (x + y)), .slice a4 (lms (x + y)).length c4]) (by simp [results, Try.results55, go_sem, *]) rfl ?_
      exact ⟨_, rfl, HF.out _ _⟩
end Go.Proofs.Ytemjkgegbpkeoaa
