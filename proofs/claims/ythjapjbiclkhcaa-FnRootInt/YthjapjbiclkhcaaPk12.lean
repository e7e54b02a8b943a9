/- My texts DLimb, LawKit, Float, LongS, in this order. -/
import Derived.Test.YthjapjbiclkhcaaPk01
import Derived.Test.YthjapjbiclkhcaaPk11
import Derived.WalkMore
import Derived.ScopeJumps
import Derived.Test.YthjapjbiclkhcaaPk06
/- The walk of divideLimbs: limbs divided by limbs, quotient and rest in memory of their own, apart from one another. -/
namespace Go.Proofs.Ythjapjbiclkhcaa
open Go.RowKit
set_option linter.unusedVariables false

/-- two lists lie in two blocks -/
def Apart (a b : Option Addr) : Prop := ∀ g o s g' o' s', a = some ⟨g, o, s⟩ → b = some ⟨g', o', s'⟩ → g ≠ g'
theorem Apart.none (b : Option Addr) : Apart none b := fun _ _ _ _ _ _ h => by cases h
theorem Apart.none' (b : Option Addr) : Apart b .none := fun _ _ _ _ _ _ _ h => by cases h
theorem Apart.sub {a b a' b' : Option Addr} (h : Apart a b) (ha : a' = .none ∨ a' = a) (hb : b' = .none ∨ b' = b) : Apart a' b' := by
  rcases ha with rfl | rfl
  · exact Apart.none _
  · rcases hb with rfl | rfl
    · exact Apart.none' _
    · exact h
theorem Apart.blocks {g g' : Nat} (h : g ≠ g') : Apart (some ⟨g, 0, .none⟩) (some ⟨g', 0, .none⟩) := fun _ _ _ _ _ _ h1 h2 => by
  cases h1; cases h2; exact h
theorem Apart.own {a b : Option Addr} (h : Apart a b) (n c n' c' : Nat) : (Value.slice a n c).ownBlock = .none ∨ (Value.slice a n c).ownBlock ≠ (Value.slice b n' c').ownBlock := by
  cases a with
  | none => exact .inl rfl
  | some x =>
    cases b with
    | none => exact .inr (by simp [Value.ownBlock])
    | some y =>
      obtain ⟨g, o, s⟩ := x
      obtain ⟨g', o', s'⟩ := y
      exact .inr (fun e => h _ _ _ _ _ _ rfl rfl (by simpa [Value.ownBlock] using e))
theorem short_val {d r : Nat} {xs qs : List Nat} (h : DSo d xs qs 0 r) : Num.nat qs = Num.nat xs / d ∧ r = Num.nat xs % d := by
  obtain ⟨_, _, h3, h4⟩ := h
  rw [List.drop_zero, List.drop_zero] at h4
  have hd : 0 < d := by omega
  rw [h4, Nat.mul_comm]
  refine ⟨?_, ?_⟩
  · rw [Nat.mul_add_div hd, Nat.div_eq_of_lt h3, Nat.add_zero]
  · rw [Nat.mul_add_mod, Nat.mod_eq_of_lt h3]
theorem limbs_one {B t : Nat} (hl : (Num.limbs B).length = 1) (ht : (Num.limbs B)[0]? = some t) : B = t ∧ 0 < t ∧ t < 4294967296 := by
  have hs := Num.limbs_small B
  have hn := Num.nat_limbs B
  have ht0 := Num.limbs_tidy B
  revert ht hs hn ht0
  match h : Num.limbs B, hl with
  | [x], _ =>
    intro ht hs hn ht0
    simp at ht
    subst ht
    have := hs x (by simp)
    have h0 := ht0 (by simp)
    simp at h0
    simp [Num.nat] at hn
    exact ⟨hn.symm, by omega, this⟩

set_option maxHeartbeats 4000000 in
set_option maxRecDepth 20000 in
theorem dlimbsI (a b : Option Addr) (n m ca cb A B : Nat) (w : World) (ha : Seg w a n ca (Num.limbs A)) (hb : Seg w b m cb (Num.limbs B)) (hB : B ≠ 0) (hn : n ≤ 400000) (hm : m ≤ 400000) :
    Calls Try.prog 83 #[.slice a n ca, .slice b m cb] w fun e w' => ∃ a1 c1 a2 c2, e = .returned (.tuple #[.slice a1 (Num.limbs (A / B)).length c1, .slice a2 (Num.limbs (A % B)).length c2]) ∧ Own w' w.heap.size a1 (Num.limbs (A / B)).length c1 (Num.limbs (A / B)) ∧ Own w' w.heap.size a2 (Num.limbs (A % B)).length c2 (Num.limbs (A % B)) ∧ Apart a1 a2 ∧ Below w.heap.size w w' := by
  obtain ⟨i0, hi, hz0, hz1, hz2⟩ := info_parts Try.info56
  have hca := ha.2.1
  have hcm := ha.2.2.1
  have hcb := hb.2.1
  have hcbm := hb.2.2.1
  have HLA := hide ha.1
  have HLB := hide hb.1
  have HA := hide ha
  have HB := hide hb
  clear ha hb
  go_enter Try.func83, Try.ntmps83
  go_wp2_with fail
  refine wp_scope_jumps 0 (fun a' w' => ∃ (a1 : Option Addr) (n1 c1 : Nat) (xs1 : List Nat) (a2 : Option Addr) (n2 c2 : Nat) (xs2 : List Nat), (∃ u2 u3 u6 u7 u8 u9 u10 u11 u12 u13 u14 u15 u16 u17 u18 u19 u20 u21 u22 u23 u24 u25 u26 u27 u28 u29 u30 u31 u32 u33 u34 u35 : Value, a' = { tmps := #[.slice a n ca, .slice b m cb, u2, u3, .slice a1 n1 c1, .slice a2 n2 c2, u6, u7, u8, u9, u10, u11, u12, u13, u14, u15, u16, u17, u18, u19, u20, u21, u22, u23, u24, u25, u26, u27, u28, u29, u30, u31, u32, u33, u34, u35], defers := [] }) ∧ Hid (Own w' w.heap.size a1 n1 c1 xs1) ∧ Hid (Own w' w.heap.size a2 n2 c2 xs2) ∧ Hid (Num.nat xs1 = A / B ∧ Num.nat xs2 = A % B) ∧ Hid (Apart a1 a2) ∧ Hid (Below w.heap.size w w')) (fun _ _ => 0) rfl ?_ ?_
  · go_wp2_with fail
    refine (leastI A B a b n m ca cb _ HA.out HB.out).mono ?_
    rintro e w1 ⟨rfl, d, hw⟩
    have hb1 : Below w.heap.size w w1 := by rw [hw]; exact below_drewN (bl_refl w) d
    have HZ := hide hb1
    replace HA := hide (HA.out.below hb1)
    replace HB := hide (HB.out.below hb1)
    clear hw hb1
    by_cases hlt : A < B
    · rw [cmp_lt (by omega)]
      have HV : Hid (Num.nat [] = A / B ∧ Num.nat (Num.limbs A) = A % B) := hide ⟨(Nat.div_eq_of_lt hlt).symm, by rw [Num.nat_limbs, Nat.mod_eq_of_lt hlt]⟩
      go_wp2_with fail
      refine (cloneI a n ca (Num.limbs A) _ HA.out (by omega)).mono ?_
      rintro e w2 ⟨a2, c2, rfl, ho2, hb2⟩
      have HO2 := hide (ho2.mono (base' := w.heap.size) HZ.out.size)
      replace HZ := hide (bl_trans HZ.out hb2)
      clear ho2 hb2
      go_wp2_with fail
      go_step3
      exact ⟨rfl, _, _, _, _, _, _, _, _, ⟨_, _, _, _, _, _, _, _, _, _, _, _, _, _, _, _, _, _, _, _, _, _, _, _, _, _, _, _, _, _, _, _, rfl⟩, hide (Own.nil _ _), HO2, HV, hide (Apart.none _), HZ⟩
    · rw [show ((cmpZ A B : Int)) = (if B < A then 1 else 0) by unfold cmpZ; rw [if_neg (by omega)]; by_cases h : B < A <;> simp [h]]
      have hge : (Num.limbs B).length ≤ (Num.limbs A).length := Nat.le_of_not_lt fun h => by have := Num.len_lt h; omega
      rw [HLA.out, HLB.out] at hge
      have hc0 : ¬ ((if B < A then 1 else 0 : Int) < 0) := by split <;> omega
      generalize (if B < A then 1 else 0 : Int) = cv at *
      have hm0 : 0 < m := by
        have h : Num.limbs B ≠ [] := fun e => hB (Num.limbs_eq_nil.1 e)
        have := List.length_pos_iff.2 h
        rw [HLB.out] at this
        exact this
      by_cases h1 : m = 1
      · subst h1
        obtain ⟨t, ht⟩ : ∃ t, (Num.limbs B)[0]? = some t := ⟨_, List.getElem?_eq_getElem (by rw [HLB.out]; exact hm0)⟩
        obtain ⟨hBt, ht0, ht1⟩ := limbs_one HLB.out ht
        obtain ⟨h0, ht⟩ := List.getElem?_eq_some_iff.1 ht
        obtain ⟨gb, ob, rfl, hgb, hcl⟩ := seg_cell HB.out 0 h0
        rw [ht, Nat.add_zero] at hcl
        clear ht h0
        have HBT := hide hBt
        clear hBt
        go_wp2_with (at_make; refine wpList_make_full _ rfl _ _ 24 rfl w1.heap.size 56 i0 (.int .u32 0) 1 Try.underlying24 hi hz0 hz1 _ _ _ _ 1 rfl rfl rfl rfl (by rw [hz2]; omega) (by unfold maxLen; omega) (Nat.le_refl _) ?_; intro w2 hown hgrow; have hb2 := ((bl_refl w1).grown hgrow (Nat.le_refl _) (by simp)); have B2 := hide (own_made2 hown).blk; have hcl := (hb2.cell (p := ⟨gb, ob, none⟩) hgb).trans hcl; replace HA := hide (HA.out.below hb2); have HZ2 := hide (bl_trans HZ.out hb2); clear hown hgrow hb2)
        have hsz := HZ.out.size
        have hgn : w1.heap.size ≠ w2.heap.size := by have := B2.out.lt; omega
        have hsz2 := HZ2.out.size
        refine (shortI a n ca t (Num.limbs A) _ HA.out (by omega) ht0 ht1).mono ?_
        rintro e w3 ⟨qs, r, rfl, hD, ho3, hb3⟩
        have B3 := hide (B2.out.below hb3)
        have hc3 := B3.out.cell 0 (by simp)
        have hf3 := B3.out.frozen 0
        have hr : r < 4294967296 := by have := hD.2.2.1; omega
        have HST := hide (B3.out.set 0 r hr)
        have hv := short_val hD
        rw [Num.nat_limbs, ← HBT.out] at hv
        have HV : Hid (Num.nat qs = A / B ∧ Num.nat ((List.replicate 1 0).set 0 r) = A % B) := hide ⟨hv.1, by rw [← hv.2]; simp [Num.nat]⟩
        have HO4 := hide ((ho3.mono hsz2).kept HST.out.2 (.inr (by simp [Value.ownBlock]; omega)))
        have HO5 := hide (HST.out.1.own (base := w.heap.size) hsz (by simp))
        have HZ3 := hide ((bl_trans HZ2.out hb3).setCell (p := ⟨w1.heap.size, 0, none⟩) hsz (.int .u32 r))
        have HAP := hide (Apart.blocks (Ne.symm hgn))
        clear hD ho3 hb3 HA B2 B3 HZ2 hv
        simp only [List.replicate_one, List.getElem_cons_zero] at hc3
        go_wp2_with fail
        go_step3
        exact ⟨rfl, _, _, _, _, _, _, _, _, ⟨_, _, _, _, _, _, _, _, _, _, _, _, _, _, _, _, _, _, _, _, _, _, _, _, _, _, _, _, _, _, _, _, rfl⟩, HO4, HO5, HV, HAP, HZ3⟩
      · have hb1 : ((m : Int) == 1) = false := by rw [beq_eq_false_iff_ne]; omega
        go_wp2_with fail
        refine (longI a b n m (n + 1 - m) ca cb A B _ HA.out HB.out (by omega) (by omega) (by omega) (by omega)).mono ?_
        rintro e w2 ⟨g1, g2, qs, rs, rfl, hne, ho1, ho2, hv1, hv2, hb2⟩
        have O1 := hide (ho1.mono (base' := w.heap.size) HZ.out.size)
        have O2 := hide (ho2.mono (base' := w.heap.size) HZ.out.size)
        have HV := hide (And.intro hv1 hv2)
        have HAP := hide (Apart.blocks hne)
        replace HZ := hide (bl_trans HZ.out hb2)
        clear ho1 ho2 hv1 hv2 hb2
        have ha1 : some (⟨g1, 0, none⟩ : Addr) = some ⟨g1, 0, none⟩ := rfl
        go_wp2_with fail
        go_step3
        generalize (some (⟨g1, 0, none⟩ : Addr)) = a1 at *
        generalize (some (⟨g2, 0, none⟩ : Addr)) = a2 at *
        generalize n + 1 - m = n1 at *
        go_wp2_with fail
        refine (trimI2 a1 n1 n1 qs w.heap.size _ O1.out).mono ?_
        rintro e w3 ⟨hw3, a3, c3, rfl, ho3, ha3⟩
        subst w3
        have ho3 := ho3 _ O1.out
        rw [HV.out.1] at ho3 ⊢
        have HO3 := hide ho3
        have HA3 := hide ha3
        clear ho3 ha3
        go_wp2_with fail
        refine (trimI2 a2 m m rs w.heap.size _ O2.out).mono ?_
        rintro e w4 ⟨hw4, a4, c4, rfl, ho4, ha4⟩
        subst w4
        have ho4 := ho4 _ O2.out
        rw [HV.out.2] at ho4 ⊢
        have HO4 := hide ho4
        have HA4 := hide ha4
        clear ho4 ha4
        go_wp2
        simp only [Exit.jump]
        go_ret2
        exact ⟨a3, c3, a4, c4, rfl, HO3.out, HO4.out, HAP.out.sub HA3.out HA4.out, HZ.out⟩
  · rintro a' w' ⟨a1, n1, c1, xs1, a2, n2, c2, xs2, ⟨u2, u3, u6, u7, u8, u9, u10, u11, u12, u13, u14, u15, u16, u17, u18, u19, u20, u21, u22, u23, u24, u25, u26, u27, u28, u29, u30, u31, u32, u33, u34, u35, rfl⟩, O1, O2, HV, HAP, HZ⟩
    go_wp2_with fail
    refine (trimI2 a1 n1 c1 xs1 w.heap.size _ O1.out).mono ?_
    rintro e w3 ⟨hw3, a3, c3, rfl, ho3, ha3⟩
    subst w3
    have ho3 := ho3 _ O1.out
    rw [HV.out.1] at ho3 ⊢
    have HO3 := hide ho3
    have HA3 := hide ha3
    clear ho3 ha3
    go_wp2_with fail
    refine (trimI2 a2 n2 c2 xs2 w.heap.size _ O2.out).mono ?_
    rintro e w4 ⟨hw4, a4, c4, rfl, ho4, ha4⟩
    subst w4
    have ho4 := ho4 _ O2.out
    rw [HV.out.2] at ho4 ⊢
    have HO4 := hide ho4
    have HA4 := hide ha4
    clear ho4 ha4
    go_wp2
    simp only [Exit.jump]
    go_ret2
    exact ⟨a3, c3, a4, c4, rfl, HO3.out, HO4.out, HAP.out.sub HA3.out HA4.out, HZ.out⟩
end Go.Proofs.Ythjapjbiclkhcaa

/- What the walks of exact laws share: owned lists with the range in which they lie, marks from any number on. -/
namespace Go.Proofs.Ythjapjbiclkhcaa
open Go.RowKit
set_option linter.unusedVariables false

/-- a list in memory of its own, in a block from lo on to below hi -/
def OwnR (W : World) (lo hi : Nat) (a : Option Addr) (n cap : Nat) (xs : List Nat) : Prop := Own W lo a n cap xs ∧ ∀ k, (Value.slice a n cap).ownBlock = some k → k < hi
theorem Own.range {W : World} {lo : Nat} {a : Option Addr} {n cap : Nat} {xs : List Nat} (h : Own W lo a n cap xs) : OwnR W lo W.heap.size a n cap xs := ⟨h, fun k e => (h.1.lt k e).2⟩
theorem OwnR.alloc {W : World} {lo hi : Nat} {a : Option Addr} {n cap : Nat} {xs : List Nat} (h : OwnR W lo hi a n cap xs) (o : Obj) : OwnR (W.alloc o) lo hi a n cap xs := ⟨h.1.below (bl_alloc (bl_refl W) o), h.2⟩
theorem OwnR.drew {W : World} {lo hi : Nat} {a : Option Addr} {n cap : Nat} {xs : List Nat} (h : OwnR W lo hi a n cap xs) : OwnR W.drew lo hi a n cap xs := ⟨h.1.below (bl_refl W).drew, h.2⟩
theorem grown_set (W : World) (p : Addr) (v : Value) : W.grownBy (W.setCell p v) (some p.block) :=
  ⟨rfl, rfl, rfl, by simp, fun k _ hk => heap_setCell_other W p k _ (fun e => hk (by simp [e]))⟩
theorem OwnR.set {W : World} {lo hi : Nat} {a : Option Addr} {n cap : Nat} {xs : List Nat} (h : OwnR W lo hi a n cap xs) {p : Addr} (hp : p.block < lo ∨ hi ≤ p.block) (v : Value) : OwnR (W.setCell p v) lo hi a n cap xs := by
  refine ⟨h.1.kept (grown_set W p v) ?_, h.2⟩
  cases hk : (Value.slice a n cap).ownBlock with
  | none => exact .inl rfl
  | some k =>
    refine .inr fun e => ?_
    have h1 := (h.1.1.lt k hk).1
    have h2 := h.2 k hk
    cases e
    omega
theorem OwnR.seg {W : World} {lo hi : Nat} {a : Option Addr} {n cap : Nat} {xs : List Nat} (h : OwnR W lo hi a n cap xs) : Seg W a n cap xs := h.1.seg
end Go.Proofs.Ythjapjbiclkhcaa

/- Boxes that a region makes at any place among its calls: what is known of one that a call finds. -/
namespace Go.Proofs.Ythjapjbiclkhcaa
open Go.RowKit
set_option linter.unusedVariables false

/-- a box of a number that nothing is stored in yet -/
def Zr (w : World) (N : Nat) : Prop := N < w.heap.size ∧ w.cell? ⟨N, 0, none⟩ = some (.bool false) ∧ w.cell? ⟨N, 1, none⟩ = some (.slice none 0 0) ∧ w.frozen? ⟨N, 0, none⟩ = false ∧ w.frozen? ⟨N, 1, none⟩ = false
theorem Zr.below {w w' : World} {N : Nat} (h : Zr w N) (hb : Below w.heap.size w w') : Zr w' N :=
  ⟨Nat.lt_of_lt_of_le h.1 hb.size, (hb.cell (p := ⟨N, 0, none⟩) h.1).trans h.2.1, (hb.cell (p := ⟨N, 1, none⟩) h.1).trans h.2.2.1, (hb.frozen (p := ⟨N, 0, none⟩) h.1).trans h.2.2.2.1, (hb.frozen (p := ⟨N, 1, none⟩) h.1).trans h.2.2.2.2⟩
theorem zr_alloc (W : World) : Zr (W.alloc (Obj.cells #[Value.bool false, Value.slice none 0 0] 26)) W.heap.size :=
  ⟨by simp only [World.size_alloc]; omega, by go_simp, by go_simp, by go_simp, by go_simp⟩
theorem born1 {W w : World} (hb : Below (W.alloc (Obj.cells #[Value.bool false, Value.slice none 0 0] 26)).heap.size (W.alloc (Obj.cells #[Value.bool false, Value.slice none 0 0] 26)) w) : Zr w W.heap.size := (zr_alloc W).below hb
theorem born2 {W w : World} (hb : Below ((W.alloc (Obj.cells #[Value.bool false, Value.slice none 0 0] 26)).alloc (Obj.cells #[Value.bool false, Value.slice none 0 0] 26)).heap.size ((W.alloc (Obj.cells #[Value.bool false, Value.slice none 0 0] 26)).alloc (Obj.cells #[Value.bool false, Value.slice none 0 0] 26)) w) : Zr w W.heap.size ∧ Zr w (W.heap.size + 1) :=
  ⟨((zr_alloc W).below (bl_alloc (bl_refl _) _)).below hb, by have := (zr_alloc (W.alloc (Obj.cells #[Value.bool false, Value.slice none 0 0] 26))).below hb; rw [World.size_alloc] at this; exact this⟩
/-- where the world at hand stands against the one behind the call before -/
theorem bl_one {W : World} {o : Obj} {w : World} (hb : Below (W.alloc o).heap.size (W.alloc o) w) : Below W.heap.size W w := bl_trans (bl_alloc (bl_refl W) o) hb
theorem bl_two {W : World} {o o' : Obj} {w : World} (hb : Below ((W.alloc o).alloc o').heap.size ((W.alloc o).alloc o') w) : Below W.heap.size W w := bl_trans (bl_alloc (bl_alloc (bl_refl W) o) o') hb
end Go.Proofs.Ythjapjbiclkhcaa

/- The walk of l02Long: limbs divided by limbs in the specification's way; and append over lists of limbs. -/
namespace Go.Proofs.Ythjapjbiclkhcaa
open Go.RowKit
set_option linter.unusedVariables false

theorem wp_app {w : World} {ops : Array Oper} {rest : List Oper} {o : Oper} {a : Act} {Q : Exit → Act → World → Prop} (hgd : o.guard = none) (s x : Operand)
    (ho : o.op = .call { callee := .builtin .append, args := #[s, x], argTypes := #[24, 24] }) (base : Nat) (a0 : Option Addr) (n cs : Nat) (xs : List Nat) (hs : a.eval s = .slice a0 n cs) (hown : Own w base a0 n cs xs)
    (ax : Option Addr) (m cx : Nat) (ys : List Nat) (hx : a.eval x = .slice ax m cx) (hseg : Seg w ax m cx ys) (hnil : ax = none → cx = 0) (h63 : n + m ≤ 1000000) (hbase : base ≤ w.heap.size)
    (h : ∀ a' c' w', Own w' base a' (n + m) c' (xs ++ ys) → w.grownBy w' (Value.slice a0 n cs).ownBlock → wpList Try.prog ops Q rest (a.put o.dst (.slice a' (n + m) c')) w') : wpList Try.prog ops Q (o :: rest) a w := by
  obtain ⟨i0, hi, hz0, hz1, hz2⟩ := info_parts Try.info56
  cases ax with
  | some ad =>
    refine wpList_append_own w hgd s x 24 ho base 56 i0 (.int .u32 0) 1 4 Try.underlying24 hi hz0 hz1 hz2 rfl (by decide) _ n (xs.map lim) hs hown.1 ad m cx (ys.map lim) hx (by simp [hseg.1]) ?_ (one_lims _) (by unfold maxLen; omega) (by omega) hbase ?_
    · intro j u hu
      obtain ⟨hj, rfl⟩ := lims_at hu
      rcases hseg.2.2.2.2 with h0 | ⟨g, o, e, hg, hc⟩
      · have := hseg.1; omega
      · cases e
        rw [Addr.add_lit]
        exact hc j hj
    · intro v' w' ho' hg' _
      obtain ⟨a', c', rfl⟩ := row_val ho'
      refine h a' c' w' ⟨by rw [List.map_append]; exact ho', Num.small_append hown.2 hseg.2.2.2.1⟩ hg'
  | none =>
    have hc := hnil rfl
    have h0 : m = 0 := by
      rcases hseg.2.2.2.2 with h0 | ⟨g, o, e, _⟩
      · exact h0
      · cases e
    subst hc
    subst h0
    have hy : ys = [] := List.eq_nil_of_length_eq_zero hseg.1
    subst hy
    refine wpList_plain hgd fun K hK' => ?_
    have hrun := run_append_owned_none (P := Try.prog) w base 24 o.type 56 i0 1 Try.underlying24 hi _ n (xs.map lim) hown.1
    unfold Oper.wp
    simp [execOp, ho, resolve, invoke, builtin, hs, hx, hrun, Result.andThen]
    exact hK' _ _ (by simpa using h a0 cs w (by simpa using hown) (World.grownBy.refl _ _))

/-- one limb more of a quotient by any number -/
theorem dso_stepB {d : Nat} {xs qs : List Nat} {k r x : Nat} (h : DSo d xs qs (k + 1) r) (hk : k < xs.length) (hx : xs[k] = x) (hxs : x < 4294967296) :
    DSo d xs (qs.set k ((r * 4294967296 + x) / d)) k ((r * 4294967296 + x) % d) := by
  obtain ⟨h1, h2, h3, h4⟩ := h
  have hd : 0 < d := by omega
  refine ⟨by rw [List.length_set]; exact h1, Num.small_set h2 _ _ (quot_lt h3 hxs), Nat.mod_lt _ hd, ?_⟩
  have e1 : (qs.set k ((r * 4294967296 + x) / d)).drop k = ((r * 4294967296 + x) / d) :: qs.drop (k + 1) := by
    rw [List.drop_set, if_neg (by omega), Nat.sub_self, List.drop_eq_getElem_cons (by omega), List.set_cons_zero]
  rw [e1, Num.nat, Num.nat_drop xs k hk, hx, h4]
  have e2 := Nat.div_add_mod (r * 4294967296 + x) d
  generalize (r * 4294967296 + x) / d = q at *
  generalize (r * 4294967296 + x) % d = s at *
  generalize Num.nat (qs.drop (k + 1)) = Q at *
  have e3 : (q + 4294967296 * Q) * d = d * q + 4294967296 * (Q * d) := by rw [Nat.add_mul, Nat.mul_comm q, Nat.mul_assoc]
  rw [e3, Nat.mul_add]
  omega
theorem set_self {qs : List Nat} {k : Nat} (h : qs[k]? = some 0) : qs.set k 0 = qs := by
  obtain ⟨hk, e⟩ := List.getElem?_eq_some_iff.1 h
  rw [← e]; exact List.set_getElem_self hk

set_option maxHeartbeats 4000000 in
set_option maxRecDepth 20000 in
theorem longS (a b : Option Addr) (la n ca cb A B : Nat) (w : World) (ha : Seg w a la ca (Num.limbs A)) (hb : Seg w b n cb (Num.limbs B)) (hB : B ≠ 0) (hla : la ≤ 100000) (hn : n ≤ 100000) :
    Calls Try.prog 91 #[.slice a la ca, .slice b n cb] w fun e w' => ∃ a1 n1 c1 qs a2 n2 c2 rs, e = .returned (.tuple #[.slice a1 n1 c1, .slice a2 n2 c2]) ∧ Own w' w.heap.size a1 n1 c1 qs ∧ Own w' w.heap.size a2 n2 c2 rs ∧ n1 ≤ 100000 ∧ n2 ≤ 100000 ∧ Num.nat qs = A / B ∧ Num.nat rs = A % B ∧ Below w.heap.size w w' := by
  obtain ⟨i0, hi, hz0, hz1, hz2⟩ := info_parts Try.info56
  have hca := ha.2.1
  have hcm := ha.2.2.1
  have hcb := hb.2.1
  have hcbm := hb.2.2.1
  have HLA := hide ha.1
  have HLB := hide hb.1
  have HA := hide ha
  have HB := hide hb
  clear ha hb
  by_cases h1 : n = 1
  · subst h1
    obtain ⟨t, ht⟩ : ∃ t, (Num.limbs B)[0]? = some t := ⟨_, List.getElem?_eq_getElem (by rw [HLB.out]; decide)⟩
    obtain ⟨hBt, ht0, ht1⟩ := limbs_one HLB.out ht
    obtain ⟨h0, ht⟩ := List.getElem?_eq_some_iff.1 ht
    obtain ⟨gb, ob, rfl, hgb, hcl⟩ := seg_cell HB.out 0 h0
    rw [ht, Nat.add_zero] at hcl
    clear ht h0
    have HBT := hide hBt
    clear hBt
    go_enter Try.func91, Try.ntmps91
    go_wp2_with fail
    refine (shortS a la ca t (Num.limbs A) _ HA.out (by omega) ht0 ht1).mono ?_
    rintro e w1 ⟨g2, qs, r, rfl, hg2, hD, ho1, ho2, hb1⟩
    have hv := short_val hD
    rw [Num.nat_limbs, ← HBT.out] at hv
    have HV : Hid (Num.nat qs = A / B ∧ Num.nat [r] = A % B) := hide ⟨hv.1, by rw [← hv.2]; simp [Num.nat]⟩
    have HO1 := hide ho1
    have HO2 := hide (ho2.mono (base' := w.heap.size) (by omega))
    have HZ := hide hb1
    clear hD ho1 ho2 hb1 hv
    go_wp2
    go_ret2
    exact ⟨_, _, _, qs, _, _, _, [r], rfl, HO1.out, HO2.out, by omega, by omega, HV.out.1, HV.out.2, HZ.out⟩
  · have hb1 : ((n : Int) == 1) = false := by rw [beq_eq_false_iff_ne]; omega
    go_enter Try.func91, Try.ntmps91
    go_wp2_with (at_make; refine wpList_make_full _ rfl _ _ 24 rfl w.heap.size 56 i0 (.int .u32 0) 1 Try.underlying24 hi hz0 hz1 _ _ _ _ la rfl rfl rfl rfl (by rw [hz2]; omega) (by unfold maxLen; omega) (Nat.le_refl _) ?_; intro w2 hown hgrow; have HZ2 := hide ((bl_refl w).grown hgrow (Nat.le_refl _) (by simp)); have B2 := hide (own_made2 hown).blk; clear hown hgrow)
    have hl2 := B2.out.lt
    have HR0 : Hid (Own (w2.alloc (Obj.cells #[] 56)) (w.heap.size + 1) (some ⟨w2.heap.size, 0, none⟩) 0 0 []) := hide ⟨by
      have := World.ownsRow_lit (base := w.heap.size + 1) (e := 56) (size := 1) w2 #[] 0 (by omega) (by unfold maxLen; omega) rfl
      simpa using this, fun _ h => by cases h⟩
    have HZ3 := hide (bl_alloc HZ2.out (Obj.cells #[] 56))
    have B3 := hide (B2.out.below (bl_alloc (bl_refl w2) (Obj.cells #[] 56)))
    generalize w2.alloc (Obj.cells #[] 56) = w3 at *
    generalize (some (⟨w2.heap.size, 0, none⟩ : Addr)) = ar0 at *
    clear HZ2 B2
    go_loopw [7, 8] (fun rv i wr => ∃ (k R : Nat) (ar : Option Addr) (cr : Nat) (qs : List Nat), k ≤ la ∧ i = .int .i64 ((k : Int) - 1) ∧ rv = .slice ar (Num.limbs R).length cr ∧ Hid (DSo B (Num.limbs A) qs k R) ∧ Hid (∀ j, j < k → qs[j]? = some 0) ∧ Hid (Own wr (w.heap.size + 1) ar (Num.limbs R).length cr (Num.limbs R)) ∧ Hid (Blk wr w.heap.size qs) ∧ Hid (Below w.heap.size w wr)) (fun _ i _ => (intOf i + 1).toNat)
    case atStart =>
      refine ⟨la, 0, ar0, 0, List.replicate la 0, Nat.le_refl _, by go_num, ?_, hide ⟨by rw [List.length_replicate, HLA.out], Num.small_replicate _, by omega, ?_⟩, hide (fun j hj => by simp [hj]), ?_, B3, HZ3⟩
      · rw [Num.limbs_zero]; rfl
      · rw [List.drop_eq_nil_of_le (by rw [HLA.out]; exact Nat.le_refl _), List.drop_eq_nil_of_le (by simp)]; simp [Num.nat]
      · rw [Num.limbs_zero]; exact HR0
    case round =>
      clear HR0 HZ3 B3
      obtain ⟨k, R, ar, cr, qs, hk, rfl, rfl, hS, hQ, hR, hBk, hZ⟩ := hrel
      have hRl : (Num.limbs R).length ≤ n := by
        have h := hS.out.2.2.1
        rw [← HLB.out]
        exact Nat.le_of_not_lt fun hc => by have := Num.len_lt hc; omega
      by_cases h0 : k = 0
      · subst h0
        have hql : qs.length = la := by rw [hS.out.1, HLA.out]
        have HO := hide (hBk.out.own (base := w.heap.size) (Nat.le_refl _) (by omega))
        rw [hql] at HO
        have HV : Hid (Num.nat qs = A / B ∧ Num.nat (Num.limbs R) = A % B) := hide (by
          have h := short_val hS.out
          rw [Num.nat_limbs] at h
          exact ⟨h.1, by rw [Num.nat_limbs]; exact h.2⟩)
        have HO2 := hide (hR.out.mono (base' := w.heap.size) (by omega))
        clear hql
        go_wp2
        go_ret2
        exact ⟨_, _, _, qs, _, _, _, Num.limbs R, rfl, HO.out, HO2.out, hla, by omega, HV.out.1, HV.out.2, hZ.out⟩
      · obtain ⟨j, rfl⟩ : ∃ j, k = j + 1 := ⟨k - 1, by omega⟩
        have ej : (((j + 1 : Nat) : Int) - 1) = (j : Int) := by omega
        rw [ej]
        have hjx : j < (Num.limbs A).length := by rw [HLA.out]; omega
        have hjx' : (j : Int) < (la : Int) := by omega
        obtain ⟨g, o, rfl, hg, hc⟩ := seg_cell (HA.out.below hZ.out) j hjx
        have hxs := Num.small_at (Num.limbs_small A) hjx
        have HST := hide (dso_stepB hS.out hjx rfl hxs)
        have HQL : Hid (qs.length = la) := hide (by rw [hS.out.1, HLA.out])
        have HQJ := hide (hQ.out j (by omega))
        have HQR : Hid (∀ d i, i < j → (qs.set j d)[i]? = some 0) := hide (fun d i hi => by rw [List.getElem?_set_ne (by omega)]; exact hQ.out i (by omega))
        have HRB := hide hS.out.2.2.1
        clear hS hQ
        generalize (Num.limbs A)[j] = x at *
        have hsz := hZ.out.size
        have HROW := hide (own_one wr x hxs)
        have HZa := hide (bl_alloc hZ.out (Obj.cells #[Value.int .u32 (x : Int)] 56))
        have HBa := hide (hBk.out.below (bl_alloc (bl_refl wr) (Obj.cells #[Value.int .u32 (x : Int)] 56)))
        have HRa := hide (hR.out.below (bl_alloc (bl_refl wr) (Obj.cells #[Value.int .u32 (x : Int)] 56)))
        have hnil : ar = none → cr = 0 := fun e => by rcases hR.out.cases with ⟨_, _, h, _⟩ | ⟨g, h, _⟩; exact h; rw [e] at h; cases h
        have HNIL := hide hnil
        have ysz : (wr.alloc (Obj.cells #[Value.int .u32 (x : Int)] 56)).heap.size = wr.heap.size + 1 := by simp only [World.size_alloc]
        have hlw := hBk.out.lt
        clear hnil hR hBk
        go_wp2_with (at_builtin; refine wp_app rfl _ _ rfl wr.heap.size (some ⟨wr.heap.size, 0, none⟩) 1 1 [x] rfl HROW.out ar _ cr (Num.limbs R) rfl HRa.out.seg HNIL.out (by omega) (by omega) ?_; intro aa cc w4 ho4 hg4; have HO4 := hide ho4; have HG4 := hide (show (wr.alloc (Obj.cells #[Value.int .u32 (x : Int)] 56)).grownBy w4 (some wr.heap.size) from hg4); clear ho4 hg4)
        have hlen4 : 1 + (Num.limbs R).length ≤ 100001 := by omega
        have HZ4 := hide (HZa.out.grown HG4.out HZa.out.size (fun q e => by cases e; exact hsz))
        have HB4 := hide (HBa.out.kept HG4.out (by simp; omega))
        clear HG4 HZa HBa HRa HROW HNIL
        refine (makeS false aa _ cc ([x] ++ Num.limbs R) _ HO4.out.seg (by omega)).mono ?_
        rintro e w5 ⟨v5, rfl, hn5, hb5⟩
        have hv5 : Num.nat ([x] ++ Num.limbs R) = R * 4294967296 + x := by rw [Num.nat_append, Num.nat_limbs]; simp [Num.nat]; omega
        rw [hv5, mk_false] at hn5
        have HR5 : Hid (R * 4294967296 + x < 4294967296 * B) := hide (by have := HRB.out; omega)
        have hlR5 : (Num.limbs (R * 4294967296 + x)).length ≤ 100001 := by
          have h := limbs_len_le (xs := [x] ++ Num.limbs R) HO4.out.2
          rw [hv5] at h
          simp only [List.length_append, List.length_singleton] at h
          omega
        have hb45 := hb5.size
        have hl4 := HB4.out.lt
        replace HB4 := hide (HB4.out.below hb5)
        replace HZ4 := hide (bl_trans HZ4.out hb5)
        have hs4 := HZ4.out.size
        clear hv5 HO4
        generalize R * 4294967296 + x = R' at *
        obtain ⟨a5, c5, rfl, ho5⟩ := hn5
        rw [lms_nat] at ho5 ⊢
        have HO5 := hide (ho5.mono (base' := w.heap.size + 1) (by omega))
        have hfl := field_limbs (.bool (sgn (R' : Int))) (.slice a5 (Num.limbs R').length c5) w5 ⟨_, _, _, rfl⟩
        clear ho5 hb5
        go_wp2_with fail
        clear hfl
        refine (leastS R' B a5 b _ _ c5 cb _ HO5.out.seg (HB.out.below HZ4.out)).mono ?_
        rintro e w6 ⟨rfl, d6, hw6⟩
        have hb6 : Below w5.heap.size w5 w6 := by rw [hw6]; exact below_drewN (bl_refl w5) d6
        replace HB4 := hide (HB4.out.below hb6)
        replace HZ4 := hide (bl_trans HZ4.out hb6)
        replace HO5 := hide (HO5.out.below hb6)
        clear hw6 hb6
        by_cases hlt : R' < B
        · rw [cmp_lt (by omega)]
          have hst := HST.out
          rw [Nat.div_eq_of_lt hlt, Nat.mod_eq_of_lt hlt, set_self HQJ.out] at hst
          have HST2 := hide hst
          have HQ2 := HQR.out 0
          rw [set_self HQJ.out] at HQ2
          have HQ3 := hide HQ2
          clear hst HQ2
          go_wp2
          exact ⟨⟨j, R', a5, c5, qs, by omega, by go_num, rfl, HST2, HQ3, HO5, HB4, HZ4⟩, by simp [intOf]⟩
        · have hcv : ¬ cmpZ R' B < 0 := by unfold cmpZ; rw [if_neg (by omega)]; split <;> omega
          generalize cmpZ (R' : Int) (B : Int) = cv at *
          go_wp2_with fail
          refine (digitS a5 b _ _ c5 cb R' B _ HO5.out.seg (HB.out.below HZ4.out) (by omega) (by omega) (by omega) HR5.out).mono ?_
          rintro e w7 ⟨rfl, hb7⟩
          replace HB4 := hide (HB4.out.below hb7)
          replace HZ4 := hide (bl_trans HZ4.out hb7)
          replace HO5 := hide (HO5.out.below hb7)
          have hd : R' / B < 4294967296 := by rw [Nat.div_lt_iff_lt_mul (by omega)]; exact HR5.out
          have HBD : Hid (B * (R' / B) ≤ R' ∧ R' - B * (R' / B) = R' % B) := hide ⟨Nat.mul_div_le _ _, by have := Nat.div_add_mod R' B; omega⟩
          clear hb7
          generalize hdd : R' / B = d at *
          generalize hrr : R' % B = R2 at *
          have hcl := HB4.out.cell j (by rw [HQL.out]; omega)
          have hfz := HB4.out.frozen j
          obtain ⟨y, hy⟩ : ∃ y, qs[j]'(by rw [HQL.out]; omega) = y := ⟨_, rfl⟩
          rw [hy] at hcl
          have HSB := hide (HB4.out.set j d hd)
          have hl7 := HB4.out.lt
          have h7 : (w7.setCell ⟨w.heap.size, j, none⟩ (.int .u32 (d : Int))).heap.size = w7.heap.size := by simp
          have HO7 := hide (HO5.out.setCell (p := ⟨w.heap.size, j, none⟩) (by dsimp only; omega) (.int .u32 (d : Int)))
          have HZ7 := hide (HZ4.out.setCell (p := ⟨w.heap.size, j, none⟩) (Nat.le_refl _) (.int .u32 (d : Int)))
          have hjl : (j : Int) < (la : Int) := hjx'
          clear hdd hrr HB4 HZ4 HO5 hy
          go_wp2_with fail
          clear hcl hfz
          have B8 := hide HSB.out.1
          clear HSB
          generalize w7.setCell ⟨w.heap.size, j, none⟩ (.int .u32 (d : Int)) = w8 at *
          rw [← h7] at *
          have hb9 := bl_alloc (bl_refl w8) (Obj.cells #[Value.int .u32 (d : Int)] 56)
          have hone := own_one w8 d hd
          replace B8 := hide (B8.out.below hb9)
          replace HO7 := hide (HO7.out.below hb9)
          replace HZ7 := hide (bl_trans HZ7.out hb9)
          have hs9 := hb9.size
          generalize w8.alloc (Obj.cells #[Value.int .u32 (d : Int)] 56) = w9 at *
          clear hb9
          refine (timesS b (some ⟨w8.heap.size, 0, none⟩) _ 1 cb 1 (Num.limbs B) [d] _ (HB.out.below HZ7.out) hone.seg (by omega) (by omega)).mono ?_
          rintro e w10 ⟨zs, rfl, ho10, hv10, hb10⟩
          have hv10' : Num.nat zs = B * d := by rw [hv10, Num.nat_limbs]; simp [Num.nat]
          have HO10 := hide ho10.seg
          replace B8 := hide (B8.out.below hb10)
          replace HO7 := hide (HO7.out.below hb10)
          replace HZ7 := hide (bl_trans HZ7.out hb10)
          clear hone hv10 ho10 hb10
          go_wp2_with fail
          refine (makeS false _ _ _ zs _ HO10.out (by omega)).mono ?_
          rintro e w11 ⟨v11, rfl, hn11, hb11⟩
          rw [hv10', mk_false] at hn11
          obtain ⟨a11, c11, rfl, ho11⟩ := hn11
          rw [lms_nat] at ho11 ⊢
          have hlen11 : (Num.limbs (B * d)).length ≤ (Num.limbs R').length := Nat.le_of_not_lt fun h => by have := Num.len_lt h; have := HBD.out.1; omega
          have hfl := field_limbs (.bool (sgn ((B * d : Nat) : Int))) (.slice a11 (Num.limbs (B * d)).length c11) w11 ⟨_, _, _, rfl⟩
          rw [Int.natCast_mul] at hfl
          have HO11 := hide ho11.seg
          replace B8 := hide (B8.out.below hb11)
          replace HO7 := hide (HO7.out.below hb11)
          replace HZ7 := hide (bl_trans HZ7.out hb11)
          clear ho11 hb11 HO10 hv10'
          go_wp2_with fail
          clear hfl
          refine (lessS a5 a11 _ _ c5 c11 (Num.limbs R') (Num.limbs (B * d)) _ HO7.out.seg HO11.out (by omega) (by omega) (by rw [Num.nat_limbs, Num.nat_limbs]; exact HBD.out.1) hlen11).mono ?_
          rintro e w12 ⟨a12, n12, c12, zs2, rfl, ho12, hn12, hv12, hb12⟩
          rw [Num.nat_limbs, Num.nat_limbs, HBD.out.2] at hv12
          have HO12 := hide ho12.seg
          have HV12 := hide hv12
          replace B8 := hide (B8.out.below hb12)
          replace HZ7 := hide (bl_trans HZ7.out hb12)
          clear ho12 hb12 hv12 HO11 HO7
          go_wp2_with fail
          refine (makeS false _ _ _ zs2 _ HO12.out (by omega)).mono ?_
          rintro e w13 ⟨v13, rfl, hn13, hb13⟩
          rw [HV12.out, mk_false] at hn13
          obtain ⟨a13, c13, rfl, ho13⟩ := hn13
          rw [lms_nat] at ho13 ⊢
          have hfl := field_limbs (.bool (sgn ((R2 : Nat) : Int))) (.slice a13 (Num.limbs R2).length c13) w13 ⟨_, _, _, rfl⟩
          have HO13 := hide (ho13.mono (base' := w.heap.size + 1) (by have := B8.out.lt; omega))
          replace B8 := hide (B8.out.below hb13)
          replace HZ7 := hide (bl_trans HZ7.out hb13)
          clear ho13 hb13 HO12 HV12
          go_wp2
          exact ⟨⟨j, R2, a13, c13, _, by omega, by go_num, rfl, HST, hide (HQR.out d), HO13, B8, HZ7⟩, by simp [intOf]⟩
end Go.Proofs.Ythjapjbiclkhcaa
