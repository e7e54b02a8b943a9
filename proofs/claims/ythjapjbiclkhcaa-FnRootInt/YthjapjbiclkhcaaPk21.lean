/- My texts LongS, DivS, in this order. -/
import Derived.Test.YthjapjbiclkhcaaPk20
import Derived.Test.YthjapjbiclkhcaaPk13
import Derived.Test.YthjapjbiclkhcaaPk16
/- The walk of l02Long: limbs divided by limbs in the specification's way; and append over lists of limbs. -/
namespace Go.Proofs.Ythjapjbiclkhcaa
open Go.RowKit
set_option linter.unusedVariables false

theorem wp_app {w : World} {ops : Array Oper} {rest : List Oper} {o : Oper} {a : Act} {Q : Exit → Act → World → Prop} (hgd : o.guard = none) (s x : Operand)
    (ho : o.op = .call { callee := .builtin .append, args := #[s, x], argTypes := #[24, 24] }) (base : Nat) (a0 : Option Addr) (n cs : Nat) (xs : List Nat) (hs : a.eval s = .slice a0 n cs) (hown : Own w base a0 n cs xs)
    (ax : Option Addr) (m cx : Nat) (ys : List Nat) (hx : a.eval x = .slice ax m cx) (hseg : Seg w ax m cx ys) (hnil : ax = none → cx = 0) (h63 : n + m ≤ 1000000) (hbase : base ≤ w.heap.size)
    (h : ∀ a' c' w', Own w' base a' (n + m) c' (xs ++ ys) → w.grownBy w' (Value.slice a0 n cs).ownBlock → wpList Try.prog ops Q rest (a.put o.dst (.slice a' (n + m) c')) w') : wpList Try.prog ops Q (o :: rest) a w := by
  obtain ⟨i0, hi, hz0, hz1, hz2⟩ := info_parts Try.info56
  cases ax with
  | some ad =>
    refine wpList_append_own w hgd s x 24 ho base 56 i0 (.int .u32 0) 1 4 Try.underlying24 hi hz0 hz1 hz2 rfl (by decide) _ n (xs.map lim) hs hown.1 ad m cx (ys.map lim) hx (by simp [hseg.1]) ?_ (one_lims _) (by unfold maxLen; omega) (by omega) hbase ?_
    · intro j u hu
      obtain ⟨hj, rfl⟩ := lims_at hu
      rcases hseg.2.2.2.2 with h0 | ⟨g, o, e, hg, hc⟩
      · have := hseg.1; omega
      · cases e
        rw [Addr.add_lit]
        exact hc j hj
    · intro v' w' ho' hg' _
      obtain ⟨a', c', rfl⟩ := row_val ho'
      refine h a' c' w' ⟨by rw [List.map_append]; exact ho', Num.small_append hown.2 hseg.2.2.2.1⟩ hg'
  | none =>
    have hc := hnil rfl
    have h0 : m = 0 := by
      rcases hseg.2.2.2.2 with h0 | ⟨g, o, e, _⟩
      · exact h0
      · cases e
    subst hc
    subst h0
    have hy : ys = [] := List.eq_nil_of_length_eq_zero hseg.1
    subst hy
    refine wpList_plain hgd fun K hK' => ?_
    have hrun := run_append_owned_none (P := Try.prog) w base 24 o.type 56 i0 1 Try.underlying24 hi _ n (xs.map lim) hown.1
    unfold Oper.wp
    simp [execOp, ho, resolve, invoke, builtin, hs, hx, hrun, Result.andThen]
    exact hK' _ _ (by simpa using h a0 cs w (by simpa using hown) (World.grownBy.refl _ _))

/-- one limb more of a quotient by any number -/
theorem dso_stepB {d : Nat} {xs qs : List Nat} {k r x : Nat} (h : DSo d xs qs (k + 1) r) (hk : k < xs.length) (hx : xs[k] = x) (hxs : x < 4294967296) :
    DSo d xs (qs.set k ((r * 4294967296 + x) / d)) k ((r * 4294967296 + x) % d) := by
  obtain ⟨h1, h2, h3, h4⟩ := h
  have hd : 0 < d := by omega
  refine ⟨by rw [List.length_set]; exact h1, Num.small_set h2 _ _ (quot_lt h3 hxs), Nat.mod_lt _ hd, ?_⟩
  have e1 : (qs.set k ((r * 4294967296 + x) / d)).drop k = ((r * 4294967296 + x) / d) :: qs.drop (k + 1) := by
    rw [List.drop_set, if_neg (by omega), Nat.sub_self, List.drop_eq_getElem_cons (by omega), List.set_cons_zero]
  rw [e1, Num.nat, Num.nat_drop xs k hk, hx, h4]
  have e2 := Nat.div_add_mod (r * 4294967296 + x) d
  generalize (r * 4294967296 + x) / d = q at *
  generalize (r * 4294967296 + x) % d = s at *
  generalize Num.nat (qs.drop (k + 1)) = Q at *
  have e3 : (q + 4294967296 * Q) * d = d * q + 4294967296 * (Q * d) := by rw [Nat.add_mul, Nat.mul_comm q, Nat.mul_assoc]
  rw [e3, Nat.mul_add]
  omega
theorem set_self {qs : List Nat} {k : Nat} (h : qs[k]? = some 0) : qs.set k 0 = qs := by
  obtain ⟨hk, e⟩ := List.getElem?_eq_some_iff.1 h
  rw [← e]; exact List.set_getElem_self hk

set_option maxHeartbeats 4000000 in
set_option maxRecDepth 20000 in
theorem longS (a b : Option Addr) (la n ca cb A B : Nat) (w : World) (ha : Seg w a la ca (Num.limbs A)) (hb : Seg w b n cb (Num.limbs B)) (hB : B ≠ 0) (hla : la ≤ 100000) (hn : n ≤ 100000) :
    Calls Try.prog 91 #[.slice a la ca, .slice b n cb] w fun e w' => ∃ a1 n1 c1 qs a2 n2 c2 rs, e = .returned (.tuple #[.slice a1 n1 c1, .slice a2 n2 c2]) ∧ Own w' w.heap.size a1 n1 c1 qs ∧ Own w' w.heap.size a2 n2 c2 rs ∧ n1 ≤ 100000 ∧ n2 ≤ 100000 ∧ Num.nat qs = A / B ∧ Num.nat rs = A % B ∧ Below w.heap.size w w' := by
  obtain ⟨i0, hi, hz0, hz1, hz2⟩ := info_parts Try.info56
  have hca := ha.2.1
  have hcm := ha.2.2.1
  have hcb := hb.2.1
  have hcbm := hb.2.2.1
  have HLA := hide ha.1
  have HLB := hide hb.1
  have HA := hide ha
  have HB := hide hb
  clear ha hb
  by_cases h1 : n = 1
  · subst h1
    obtain ⟨t, ht⟩ : ∃ t, (Num.limbs B)[0]? = some t := ⟨_, List.getElem?_eq_getElem (by rw [HLB.out]; decide)⟩
    obtain ⟨hBt, ht0, ht1⟩ := limbs_one HLB.out ht
    obtain ⟨h0, ht⟩ := List.getElem?_eq_some_iff.1 ht
    obtain ⟨gb, ob, rfl, hgb, hcl⟩ := seg_cell HB.out 0 h0
    rw [ht, Nat.add_zero] at hcl
    clear ht h0
    have HBT := hide hBt
    clear hBt
    go_enter Try.func91, Try.ntmps91
    go_wp2_with fail
    refine (shortS a la ca t (Num.limbs A) _ HA.out (by omega) ht0 ht1).mono ?_
    rintro e w1 ⟨g2, qs, r, rfl, hg2, hD, ho1, ho2, hb1⟩
    have hv := short_val hD
    rw [Num.nat_limbs, ← HBT.out] at hv
    have HV : Hid (Num.nat qs = A / B ∧ Num.nat [r] = A % B) := hide ⟨hv.1, by rw [← hv.2]; simp [Num.nat]⟩
    have HO1 := hide ho1
    have HO2 := hide (ho2.mono (base' := w.heap.size) (by omega))
    have HZ := hide hb1
    clear hD ho1 ho2 hb1 hv
    go_wp2
    go_ret2
    exact ⟨_, _, _, qs, _, _, _, [r], rfl, HO1.out, HO2.out, by omega, by omega, HV.out.1, HV.out.2, HZ.out⟩
  · have hb1 : ((n : Int) == 1) = false := by rw [beq_eq_false_iff_ne]; omega
    go_enter Try.func91, Try.ntmps91
    go_wp2_with (at_make; refine wpList_make_full _ rfl _ _ 24 rfl w.heap.size 56 i0 (.int .u32 0) 1 Try.underlying24 hi hz0 hz1 _ _ _ _ la rfl rfl rfl rfl (by rw [hz2]; omega) (by unfold maxLen; omega) (Nat.le_refl _) ?_; intro w2 hown hgrow; have HZ2 := hide ((bl_refl w).grown hgrow (Nat.le_refl _) (by simp)); have B2 := hide (own_made2 hown).blk; clear hown hgrow)
    have hl2 := B2.out.lt
    have HR0 : Hid (Own (w2.alloc (Obj.cells #[] 56)) (w.heap.size + 1) (some ⟨w2.heap.size, 0, none⟩) 0 0 []) := hide ⟨by
      have := World.ownsRow_lit (base := w.heap.size + 1) (e := 56) (size := 1) w2 #[] 0 (by omega) (by unfold maxLen; omega) rfl
      simpa using this, fun _ h => by cases h⟩
    have HZ3 := hide (bl_alloc HZ2.out (Obj.cells #[] 56))
    have B3 := hide (B2.out.below (bl_alloc (bl_refl w2) (Obj.cells #[] 56)))
    generalize w2.alloc (Obj.cells #[] 56) = w3 at *
    generalize (some (⟨w2.heap.size, 0, none⟩ : Addr)) = ar0 at *
    clear HZ2 B2
    go_loopw [7, 8] (fun rv i wr => ∃ (k R : Nat) (ar : Option Addr) (cr : Nat) (qs : List Nat), k ≤ la ∧ i = .int .i64 ((k : Int) - 1) ∧ rv = .slice ar (Num.limbs R).length cr ∧ Hid (DSo B (Num.limbs A) qs k R) ∧ Hid (∀ j, j < k → qs[j]? = some 0) ∧ Hid (Own wr (w.heap.size + 1) ar (Num.limbs R).length cr (Num.limbs R)) ∧ Hid (Blk wr w.heap.size qs) ∧ Hid (Below w.heap.size w wr)) (fun _ i _ => (intOf i + 1).toNat)
    case atStart =>
      refine ⟨la, 0, ar0, 0, List.replicate la 0, Nat.le_refl _, by go_num, ?_, hide ⟨by rw [List.length_replicate, HLA.out], Num.small_replicate _, by omega, ?_⟩, hide (fun j hj => by simp [hj]), ?_, B3, HZ3⟩
      · rw [Num.limbs_zero]; rfl
      · rw [List.drop_eq_nil_of_le (by rw [HLA.out]; exact Nat.le_refl _), List.drop_eq_nil_of_le (by simp)]; simp [Num.nat]
      · rw [Num.limbs_zero]; exact HR0
    case round =>
      clear HR0 HZ3 B3
      obtain ⟨k, R, ar, cr, qs, hk, rfl, rfl, hS, hQ, hR, hBk, hZ⟩ := hrel
      have hRl : (Num.limbs R).length ≤ n := by
        have h := hS.out.2.2.1
        rw [← HLB.out]
        exact Nat.le_of_not_lt fun hc => by have := Num.len_lt hc; omega
      by_cases h0 : k = 0
      · subst h0
        have hql : qs.length = la := by rw [hS.out.1, HLA.out]
        have HO := hide (hBk.out.own (base := w.heap.size) (Nat.le_refl _) (by omega))
        rw [hql] at HO
        have HV : Hid (Num.nat qs = A / B ∧ Num.nat (Num.limbs R) = A % B) := hide (by
          have h := short_val hS.out
          rw [Num.nat_limbs] at h
          exact ⟨h.1, by rw [Num.nat_limbs]; exact h.2⟩)
        have HO2 := hide (hR.out.mono (base' := w.heap.size) (by omega))
        clear hql
        go_wp2
        go_ret2
        exact ⟨_, _, _, qs, _, _, _, Num.limbs R, rfl, HO.out, HO2.out, hla, by omega, HV.out.1, HV.out.2, hZ.out⟩
      · obtain ⟨j, rfl⟩ : ∃ j, k = j + 1 := ⟨k - 1, by omega⟩
        have ej : (((j + 1 : Nat) : Int) - 1) = (j : Int) := by omega
        rw [ej]
        have hjx : j < (Num.limbs A).length := by rw [HLA.out]; omega
        have hjx' : (j : Int) < (la : Int) := by omega
        obtain ⟨g, o, rfl, hg, hc⟩ := seg_cell (HA.out.below hZ.out) j hjx
        have hxs := Num.small_at (Num.limbs_small A) hjx
        have HST := hide (dso_stepB hS.out hjx rfl hxs)
        have HQL : Hid (qs.length = la) := hide (by rw [hS.out.1, HLA.out])
        have HQJ := hide (hQ.out j (by omega))
        have HQR : Hid (∀ d i, i < j → (qs.set j d)[i]? = some 0) := hide (fun d i hi => by rw [List.getElem?_set_ne (by omega)]; exact hQ.out i (by omega))
        have HRB := hide hS.out.2.2.1
        clear hS hQ
        generalize (Num.limbs A)[j] = x at *
        have hsz := hZ.out.size
        have HROW := hide (own_one wr x hxs)
        have HZa := hide (bl_alloc hZ.out (Obj.cells #[Value.int .u32 (x : Int)] 56))
        have HBa := hide (hBk.out.below (bl_alloc (bl_refl wr) (Obj.cells #[Value.int .u32 (x : Int)] 56)))
        have HRa := hide (hR.out.below (bl_alloc (bl_refl wr) (Obj.cells #[Value.int .u32 (x : Int)] 56)))
        have hnil : ar = none → cr = 0 := fun e => by rcases hR.out.cases with ⟨_, _, h, _⟩ | ⟨g, h, _⟩; exact h; rw [e] at h; cases h
        have HNIL := hide hnil
        have ysz : (wr.alloc (Obj.cells #[Value.int .u32 (x : Int)] 56)).heap.size = wr.heap.size + 1 := by simp only [World.size_alloc]
        have hlw := hBk.out.lt
        clear hnil hR hBk
        go_wp2_with (at_builtin; refine wp_app rfl _ _ rfl wr.heap.size (some ⟨wr.heap.size, 0, none⟩) 1 1 [x] rfl HROW.out ar _ cr (Num.limbs R) rfl HRa.out.seg HNIL.out (by omega) (by omega) ?_; intro aa cc w4 ho4 hg4; have HO4 := hide ho4; have HG4 := hide (show (wr.alloc (Obj.cells #[Value.int .u32 (x : Int)] 56)).grownBy w4 (some wr.heap.size) from hg4); clear ho4 hg4)
        have hlen4 : 1 + (Num.limbs R).length ≤ 100001 := by omega
        have HZ4 := hide (HZa.out.grown HG4.out HZa.out.size (fun q e => by cases e; exact hsz))
        have HB4 := hide (HBa.out.kept HG4.out (by simp; omega))
        clear HG4 HZa HBa HRa HROW HNIL
        refine (makeS false aa _ cc ([x] ++ Num.limbs R) _ HO4.out.seg (by omega)).mono ?_
        rintro e w5 ⟨v5, rfl, hn5, hb5⟩
        have hv5 : Num.nat ([x] ++ Num.limbs R) = R * 4294967296 + x := by rw [Num.nat_append, Num.nat_limbs]; simp [Num.nat]; omega
        rw [hv5, mk_false] at hn5
        have HR5 : Hid (R * 4294967296 + x < 4294967296 * B) := hide (by have := HRB.out; omega)
        have hlR5 : (Num.limbs (R * 4294967296 + x)).length ≤ 100001 := by
          have h := limbs_len_le (xs := [x] ++ Num.limbs R) HO4.out.2
          rw [hv5] at h
          simp only [List.length_append, List.length_singleton] at h
          omega
        have hb45 := hb5.size
        have hl4 := HB4.out.lt
        replace HB4 := hide (HB4.out.below hb5)
        replace HZ4 := hide (bl_trans HZ4.out hb5)
        have hs4 := HZ4.out.size
        clear hv5 HO4
        generalize R * 4294967296 + x = R' at *
        obtain ⟨a5, c5, rfl, ho5⟩ := hn5
        rw [lms_nat] at ho5 ⊢
        have HO5 := hide (ho5.mono (base' := w.heap.size + 1) (by omega))
        have hfl := field_limbs (.bool (sgn (R' : Int))) (.slice a5 (Num.limbs R').length c5) w5 ⟨_, _, _, rfl⟩
        clear ho5 hb5
        go_wp2_with fail
        clear hfl
        refine (leastS R' B a5 b _ _ c5 cb _ HO5.out.seg (HB.out.below HZ4.out)).mono ?_
        rintro e w6 ⟨rfl, d6, hw6⟩
        have hb6 : Below w5.heap.size w5 w6 := by rw [hw6]; exact below_drewN (bl_refl w5) d6
        replace HB4 := hide (HB4.out.below hb6)
        replace HZ4 := hide (bl_trans HZ4.out hb6)
        replace HO5 := hide (HO5.out.below hb6)
        clear hw6 hb6
        by_cases hlt : R' < B
        · rw [cmp_lt (by omega)]
          have hst := HST.out
          rw [Nat.div_eq_of_lt hlt, Nat.mod_eq_of_lt hlt, set_self HQJ.out] at hst
          have HST2 := hide hst
          have HQ2 := HQR.out 0
          rw [set_self HQJ.out] at HQ2
          have HQ3 := hide HQ2
          clear hst HQ2
          go_wp2
          exact ⟨⟨j, R', a5, c5, qs, by omega, by go_num, rfl, HST2, HQ3, HO5, HB4, HZ4⟩, by simp [intOf]⟩
        · have hcv : ¬ cmpZ R' B < 0 := by unfold cmpZ; rw [if_neg (by omega)]; split <;> omega
          generalize cmpZ (R' : Int) (B : Int) = cv at *
          go_wp2_with fail
          refine (digitS a5 b _ _ c5 cb R' B _ HO5.out.seg (HB.out.below HZ4.out) (by omega) (by omega) (by omega) HR5.out).mono ?_
          rintro e w7 ⟨rfl, hb7⟩
          replace HB4 := hide (HB4.out.below hb7)
          replace HZ4 := hide (bl_trans HZ4.out hb7)
          replace HO5 := hide (HO5.out.below hb7)
          have hd : R' / B < 4294967296 := by rw [Nat.div_lt_iff_lt_mul (by omega)]; exact HR5.out
          have HBD : Hid (B * (R' / B) ≤ R' ∧ R' - B * (R' / B) = R' % B) := hide ⟨Nat.mul_div_le _ _, by have := Nat.div_add_mod R' B; omega⟩
          clear hb7
          generalize hdd : R' / B = d at *
          generalize hrr : R' % B = R2 at *
          have hcl := HB4.out.cell j (by rw [HQL.out]; omega)
          have hfz := HB4.out.frozen j
          obtain ⟨y, hy⟩ : ∃ y, qs[j]'(by rw [HQL.out]; omega) = y := ⟨_, rfl⟩
          rw [hy] at hcl
          have HSB := hide (HB4.out.set j d hd)
          have hl7 := HB4.out.lt
          have h7 : (w7.setCell ⟨w.heap.size, j, none⟩ (.int .u32 (d : Int))).heap.size = w7.heap.size := by simp
          have HO7 := hide (HO5.out.setCell (p := ⟨w.heap.size, j, none⟩) (by dsimp only; omega) (.int .u32 (d : Int)))
          have HZ7 := hide (HZ4.out.setCell (p := ⟨w.heap.size, j, none⟩) (Nat.le_refl _) (.int .u32 (d : Int)))
          have hjl : (j : Int) < (la : Int) := hjx'
          clear hdd hrr HB4 HZ4 HO5 hy
          go_wp2_with fail
          clear hcl hfz
          have B8 := hide HSB.out.1
          clear HSB
          generalize w7.setCell ⟨w.heap.size, j, none⟩ (.int .u32 (d : Int)) = w8 at *
          rw [← h7] at *
          have hb9 := bl_alloc (bl_refl w8) (Obj.cells #[Value.int .u32 (d : Int)] 56)
          have hone := own_one w8 d hd
          replace B8 := hide (B8.out.below hb9)
          replace HO7 := hide (HO7.out.below hb9)
          replace HZ7 := hide (bl_trans HZ7.out hb9)
          have hs9 := hb9.size
          generalize w8.alloc (Obj.cells #[Value.int .u32 (d : Int)] 56) = w9 at *
          clear hb9
          refine (timesS b (some ⟨w8.heap.size, 0, none⟩) _ 1 cb 1 (Num.limbs B) [d] _ (HB.out.below HZ7.out) hone.seg (by omega) (by omega)).mono ?_
          rintro e w10 ⟨zs, rfl, ho10, hv10, hb10⟩
          have hv10' : Num.nat zs = B * d := by rw [hv10, Num.nat_limbs]; simp [Num.nat]
          have HO10 := hide ho10.seg
          replace B8 := hide (B8.out.below hb10)
          replace HO7 := hide (HO7.out.below hb10)
          replace HZ7 := hide (bl_trans HZ7.out hb10)
          clear hone hv10 ho10 hb10
          go_wp2_with fail
          refine (makeS false _ _ _ zs _ HO10.out (by omega)).mono ?_
          rintro e w11 ⟨v11, rfl, hn11, hb11⟩
          rw [hv10', mk_false] at hn11
          obtain ⟨a11, c11, rfl, ho11⟩ := hn11
          rw [lms_nat] at ho11 ⊢
          have hlen11 : (Num.limbs (B * d)).length ≤ (Num.limbs R').length := Nat.le_of_not_lt fun h => by have := Num.len_lt h; have := HBD.out.1; omega
          have hfl := field_limbs (.bool (sgn ((B * d : Nat) : Int))) (.slice a11 (Num.limbs (B * d)).length c11) w11 ⟨_, _, _, rfl⟩
          rw [Int.natCast_mul] at hfl
          have HO11 := hide ho11.seg
          replace B8 := hide (B8.out.below hb11)
          replace HO7 := hide (HO7.out.below hb11)
          replace HZ7 := hide (bl_trans HZ7.out hb11)
          clear ho11 hb11 HO10 hv10'
          go_wp2_with fail
          clear hfl
          refine (lessS a5 a11 _ _ c5 c11 (Num.limbs R') (Num.limbs (B * d)) _ HO7.out.seg HO11.out (by omega) (by omega) (by rw [Num.nat_limbs, Num.nat_limbs]; exact HBD.out.1) hlen11).mono ?_
          rintro e w12 ⟨a12, n12, c12, zs2, rfl, ho12, hn12, hv12, hb12⟩
          rw [Num.nat_limbs, Num.nat_limbs, HBD.out.2] at hv12
          have HO12 := hide ho12.seg
          have HV12 := hide hv12
          replace B8 := hide (B8.out.below hb12)
          replace HZ7 := hide (bl_trans HZ7.out hb12)
          clear ho12 hb12 hv12 HO11 HO7
          go_wp2_with fail
          refine (makeS false _ _ _ zs2 _ HO12.out (by omega)).mono ?_
          rintro e w13 ⟨v13, rfl, hn13, hb13⟩
          rw [HV12.out, mk_false] at hn13
          obtain ⟨a13, c13, rfl, ho13⟩ := hn13
          rw [lms_nat] at ho13 ⊢
          have hfl := field_limbs (.bool (sgn ((R2 : Nat) : Int))) (.slice a13 (Num.limbs R2).length c13) w13 ⟨_, _, _, rfl⟩
          have HO13 := hide (ho13.mono (base' := w.heap.size + 1) (by have := B8.out.lt; omega))
          replace B8 := hide (B8.out.below hb13)
          replace HZ7 := hide (bl_trans HZ7.out hb13)
          clear ho13 hb13 HO12 HV12
          go_wp2
          exact ⟨⟨j, R2, a13, c13, _, by omega, by go_num, rfl, HST, hide (HQR.out d), HO13, B8, HZ7⟩, by simp [intOf]⟩
end Go.Proofs.Ythjapjbiclkhcaa

/- The walk of l02DivMod. -/
namespace Go.Proofs.Ythjapjbiclkhcaa
open Go.RowKit
set_option linter.unusedVariables false

theorem own_lit1 (w : World) : Own (w.alloc (Obj.cells #[Value.int .u32 1] 56)) w.heap.size (some ⟨w.heap.size, 0, none⟩) 1 1 [1] := own_one w 1 (by decide)
theorem frozen_two {w : World} {N : Nat} {x y : Value} {p : Addr} (h : p.block ≠ N) : ((w.setCell ⟨N, 0, none⟩ x).setCell ⟨N, 1, none⟩ y).frozen? p = w.frozen? p := by
  rw [World.frozen?_setCell, World.frozen?_setCell]
theorem fin_two'' {w w1 : World} {N M base n1 c1 n2 c2 : Nat} {a1 a2 : Option Addr} {xs1 xs2 : List Nat} (h1 : Own w1 base a1 n1 c1 xs1) (h2 : Own w1 base a2 n2 c2 xs2) (hN : N < base) (hM : M < base) (wN : w.heap.size ≤ N) (wM : w.heap.size ≤ M) (hb : Below w.heap.size w w1) (x y z t : Value) :
    Own ((((w1.setCell ⟨N, 0, none⟩ x).setCell ⟨N, 1, none⟩ y).setCell ⟨M, 0, none⟩ z).setCell ⟨M, 1, none⟩ t) w.heap.size a1 n1 c1 xs1 ∧ Own ((((w1.setCell ⟨N, 0, none⟩ x).setCell ⟨N, 1, none⟩ y).setCell ⟨M, 0, none⟩ z).setCell ⟨M, 1, none⟩ t) w.heap.size a2 n2 c2 xs2 ∧
      Below w.heap.size w ((((w1.setCell ⟨N, 0, none⟩ x).setCell ⟨N, 1, none⟩ y).setCell ⟨M, 0, none⟩ z).setCell ⟨M, 1, none⟩ t) :=
  ⟨((((h1.setCell (p := ⟨N, 0, none⟩) hN x).setCell (p := ⟨N, 1, none⟩) hN y).setCell (p := ⟨M, 0, none⟩) hM z).setCell (p := ⟨M, 1, none⟩) hM t).mono (by omega),
   ((((h2.setCell (p := ⟨N, 0, none⟩) hN x).setCell (p := ⟨N, 1, none⟩) hN y).setCell (p := ⟨M, 0, none⟩) hM z).setCell (p := ⟨M, 1, none⟩) hM t).mono (by omega),
   (((hb.setCell (p := ⟨N, 0, none⟩) wN x).setCell (p := ⟨N, 1, none⟩) wN y).setCell (p := ⟨M, 0, none⟩) wM z).setCell (p := ⟨M, 1, none⟩) wM t⟩
theorem fin_drew' {w W : World} {b n1 c1 n2 c2 : Nat} {a1 a2 : Option Addr} {xs1 xs2 : List Nat} (h : Own W b a1 n1 c1 xs1 ∧ Own W b a2 n2 c2 xs2 ∧ Below w.heap.size w W) : Own W.drew b a1 n1 c1 xs1 ∧ Own W.drew b a2 n2 c2 xs2 ∧ Below w.heap.size w W.drew :=
  ⟨h.1.below (bl_refl _).drew, h.2.1.below (bl_refl _).drew, bl_trans h.2.2 (bl_refl _).drew⟩

set_option maxHeartbeats 4000000 in
set_option maxRecDepth 20000 in
theorem divS (v1 v2 : Value) (x y : Int) (w : World) (h1 : Is w v1 x) (h2 : Is w v2 y) (hy : y ≠ 0) (l1 : (lms x).length ≤ 100000) (l2 : (lms y).length ≤ 100000) :
    Calls Try.prog 71 #[v1, v2] w fun e w' => ∃ a1 c1 a2 c2, e = .returned (.tuple #[.agg #[.bool (sgn (x / y)), .slice a1 (lms (x / y)).length c1], .agg #[.bool (sgn (x % y)), .slice a2 (lms (x % y)).length c2]]) ∧ Own w' w.heap.size a1 (lms (x / y)).length c1 (lms (x / y)) ∧ Own w' w.heap.size a2 (lms (x % y)).length c2 (lms (x % y)) ∧ Below w.heap.size w w' := by
  obtain ⟨a, ca, rfl, ha⟩ := h1
  obtain ⟨b, cb, rfl, hb⟩ := h2
  have HA := hide ha
  have HBB := hide hb
  clear ha hb
  have kA0 : ((((w.alloc (Obj.cells #[Value.bool (sgn x), Value.slice a (lms x).length ca] 26)).alloc (Obj.cells #[Value.bool (sgn y), Value.slice b (lms y).length cb] 26)).alloc (Obj.cells #[Value.bool false, Value.slice none 0 0] 26)).alloc (Obj.cells #[Value.bool false, Value.slice none 0 0] 26)).cell? ⟨w.heap.size, 0, none⟩ = some (Value.bool (sgn x)) := by go_simp
  have kA1 : ((((w.alloc (Obj.cells #[Value.bool (sgn x), Value.slice a (lms x).length ca] 26)).alloc (Obj.cells #[Value.bool (sgn y), Value.slice b (lms y).length cb] 26)).alloc (Obj.cells #[Value.bool false, Value.slice none 0 0] 26)).alloc (Obj.cells #[Value.bool false, Value.slice none 0 0] 26)).cell? ⟨w.heap.size, 1, none⟩ = some (Value.slice a (lms x).length ca) := by go_simp
  have zA : w.heap.size < ((((w.alloc (Obj.cells #[Value.bool (sgn x), Value.slice a (lms x).length ca] 26)).alloc (Obj.cells #[Value.bool (sgn y), Value.slice b (lms y).length cb] 26)).alloc (Obj.cells #[Value.bool false, Value.slice none 0 0] 26)).alloc (Obj.cells #[Value.bool false, Value.slice none 0 0] 26)).heap.size := by simp only [World.size_alloc]; omega
  have kB0 : ((((w.alloc (Obj.cells #[Value.bool (sgn x), Value.slice a (lms x).length ca] 26)).alloc (Obj.cells #[Value.bool (sgn y), Value.slice b (lms y).length cb] 26)).alloc (Obj.cells #[Value.bool false, Value.slice none 0 0] 26)).alloc (Obj.cells #[Value.bool false, Value.slice none 0 0] 26)).cell? ⟨w.heap.size + 1, 0, none⟩ = some (Value.bool (sgn y)) := by go_simp
  have kB1 : ((((w.alloc (Obj.cells #[Value.bool (sgn x), Value.slice a (lms x).length ca] 26)).alloc (Obj.cells #[Value.bool (sgn y), Value.slice b (lms y).length cb] 26)).alloc (Obj.cells #[Value.bool false, Value.slice none 0 0] 26)).alloc (Obj.cells #[Value.bool false, Value.slice none 0 0] 26)).cell? ⟨w.heap.size + 1, 1, none⟩ = some (Value.slice b (lms y).length cb) := by go_simp
  have zB : w.heap.size + 1 < ((((w.alloc (Obj.cells #[Value.bool (sgn x), Value.slice a (lms x).length ca] 26)).alloc (Obj.cells #[Value.bool (sgn y), Value.slice b (lms y).length cb] 26)).alloc (Obj.cells #[Value.bool false, Value.slice none 0 0] 26)).alloc (Obj.cells #[Value.bool false, Value.slice none 0 0] 26)).heap.size := by simp only [World.size_alloc]; omega
  have kR0 : ((((w.alloc (Obj.cells #[Value.bool (sgn x), Value.slice a (lms x).length ca] 26)).alloc (Obj.cells #[Value.bool (sgn y), Value.slice b (lms y).length cb] 26)).alloc (Obj.cells #[Value.bool false, Value.slice none 0 0] 26)).alloc (Obj.cells #[Value.bool false, Value.slice none 0 0] 26)).cell? ⟨w.heap.size + 1 + 1, 0, none⟩ = some (Value.bool false) := by go_simp
  have fR0 : ((((w.alloc (Obj.cells #[Value.bool (sgn x), Value.slice a (lms x).length ca] 26)).alloc (Obj.cells #[Value.bool (sgn y), Value.slice b (lms y).length cb] 26)).alloc (Obj.cells #[Value.bool false, Value.slice none 0 0] 26)).alloc (Obj.cells #[Value.bool false, Value.slice none 0 0] 26)).frozen? ⟨w.heap.size + 1 + 1, 0, none⟩ = false := by go_simp
  have kR1 : ((((w.alloc (Obj.cells #[Value.bool (sgn x), Value.slice a (lms x).length ca] 26)).alloc (Obj.cells #[Value.bool (sgn y), Value.slice b (lms y).length cb] 26)).alloc (Obj.cells #[Value.bool false, Value.slice none 0 0] 26)).alloc (Obj.cells #[Value.bool false, Value.slice none 0 0] 26)).cell? ⟨w.heap.size + 1 + 1, 1, none⟩ = some (Value.slice none 0 0) := by go_simp
  have fR1 : ((((w.alloc (Obj.cells #[Value.bool (sgn x), Value.slice a (lms x).length ca] 26)).alloc (Obj.cells #[Value.bool (sgn y), Value.slice b (lms y).length cb] 26)).alloc (Obj.cells #[Value.bool false, Value.slice none 0 0] 26)).alloc (Obj.cells #[Value.bool false, Value.slice none 0 0] 26)).frozen? ⟨w.heap.size + 1 + 1, 1, none⟩ = false := by go_simp
  have zR : w.heap.size + 1 + 1 < ((((w.alloc (Obj.cells #[Value.bool (sgn x), Value.slice a (lms x).length ca] 26)).alloc (Obj.cells #[Value.bool (sgn y), Value.slice b (lms y).length cb] 26)).alloc (Obj.cells #[Value.bool false, Value.slice none 0 0] 26)).alloc (Obj.cells #[Value.bool false, Value.slice none 0 0] 26)).heap.size := by simp only [World.size_alloc]; omega
  have kT0 : ((((w.alloc (Obj.cells #[Value.bool (sgn x), Value.slice a (lms x).length ca] 26)).alloc (Obj.cells #[Value.bool (sgn y), Value.slice b (lms y).length cb] 26)).alloc (Obj.cells #[Value.bool false, Value.slice none 0 0] 26)).alloc (Obj.cells #[Value.bool false, Value.slice none 0 0] 26)).cell? ⟨w.heap.size + 1 + 1 + 1, 0, none⟩ = some (Value.bool false) := by go_simp
  have fT0 : ((((w.alloc (Obj.cells #[Value.bool (sgn x), Value.slice a (lms x).length ca] 26)).alloc (Obj.cells #[Value.bool (sgn y), Value.slice b (lms y).length cb] 26)).alloc (Obj.cells #[Value.bool false, Value.slice none 0 0] 26)).alloc (Obj.cells #[Value.bool false, Value.slice none 0 0] 26)).frozen? ⟨w.heap.size + 1 + 1 + 1, 0, none⟩ = false := by go_simp
  have kT1 : ((((w.alloc (Obj.cells #[Value.bool (sgn x), Value.slice a (lms x).length ca] 26)).alloc (Obj.cells #[Value.bool (sgn y), Value.slice b (lms y).length cb] 26)).alloc (Obj.cells #[Value.bool false, Value.slice none 0 0] 26)).alloc (Obj.cells #[Value.bool false, Value.slice none 0 0] 26)).cell? ⟨w.heap.size + 1 + 1 + 1, 1, none⟩ = some (Value.slice none 0 0) := by go_simp
  have fT1 : ((((w.alloc (Obj.cells #[Value.bool (sgn x), Value.slice a (lms x).length ca] 26)).alloc (Obj.cells #[Value.bool (sgn y), Value.slice b (lms y).length cb] 26)).alloc (Obj.cells #[Value.bool false, Value.slice none 0 0] 26)).alloc (Obj.cells #[Value.bool false, Value.slice none 0 0] 26)).frozen? ⟨w.heap.size + 1 + 1 + 1, 1, none⟩ = false := by go_simp
  have zT : w.heap.size + 1 + 1 + 1 < ((((w.alloc (Obj.cells #[Value.bool (sgn x), Value.slice a (lms x).length ca] 26)).alloc (Obj.cells #[Value.bool (sgn y), Value.slice b (lms y).length cb] 26)).alloc (Obj.cells #[Value.bool false, Value.slice none 0 0] 26)).alloc (Obj.cells #[Value.bool false, Value.slice none 0 0] 26)).heap.size := by simp only [World.size_alloc]; omega
  have HB := hide (bl_alloc (bl_alloc (bl_alloc (bl_alloc (bl_refl w) (Obj.cells #[Value.bool (sgn x), Value.slice a (lms x).length ca] 26)) (Obj.cells #[Value.bool (sgn y), Value.slice b (lms y).length cb] 26)) (Obj.cells #[Value.bool false, Value.slice none 0 0] 26)) (Obj.cells #[Value.bool false, Value.slice none 0 0] 26))
  replace HA := hide (HA.out.below HB.out)
  replace HBB := hide (HBB.out.below HB.out)
  have y0 : w.heap.size + 4 ≤ ((((w.alloc (Obj.cells #[Value.bool (sgn x), Value.slice a (lms x).length ca] 26)).alloc (Obj.cells #[Value.bool (sgn y), Value.slice b (lms y).length cb] 26)).alloc (Obj.cells #[Value.bool false, Value.slice none 0 0] 26)).alloc (Obj.cells #[Value.bool false, Value.slice none 0 0] 26)).heap.size := by simp only [World.size_alloc]; omega
  go_enter Try.func71, Try.ntmps71
  go_wp2_with fail
  generalize ((((w.alloc (Obj.cells #[Value.bool (sgn x), Value.slice a (lms x).length ca] 26)).alloc (Obj.cells #[Value.bool (sgn y), Value.slice b (lms y).length cb] 26)).alloc (Obj.cells #[Value.bool false, Value.slice none 0 0] 26)).alloc (Obj.cells #[Value.bool false, Value.slice none 0 0] 26)) = w1 at *
  refine (longS a b _ _ ca cb x.natAbs y.natAbs _ HA.out HBB.out (by omega) l1 l2).mono ?_
  rintro e w2 ⟨aq, nq, cq, qs, ar, nr, cr, rs, rfl, hoq, hor, hnq, hnr, hvq, hvr, hbw2⟩
  have yw2 := hbw2.size
  replace kA0 := (hbw2.cell (p := ⟨w.heap.size, 0, none⟩) zA).trans kA0
  replace kA1 := (hbw2.cell (p := ⟨w.heap.size, 1, none⟩) zA).trans kA1
  replace zA := Nat.lt_of_lt_of_le zA hbw2.size
  replace kB0 := (hbw2.cell (p := ⟨w.heap.size + 1, 0, none⟩) zB).trans kB0
  replace kB1 := (hbw2.cell (p := ⟨w.heap.size + 1, 1, none⟩) zB).trans kB1
  replace zB := Nat.lt_of_lt_of_le zB hbw2.size
  replace kR0 := (hbw2.cell (p := ⟨w.heap.size + 1 + 1, 0, none⟩) zR).trans kR0
  replace fR0 := (hbw2.frozen (p := ⟨w.heap.size + 1 + 1, 0, none⟩) zR).trans fR0
  replace kR1 := (hbw2.cell (p := ⟨w.heap.size + 1 + 1, 1, none⟩) zR).trans kR1
  replace fR1 := (hbw2.frozen (p := ⟨w.heap.size + 1 + 1, 1, none⟩) zR).trans fR1
  replace zR := Nat.lt_of_lt_of_le zR hbw2.size
  replace kT0 := (hbw2.cell (p := ⟨w.heap.size + 1 + 1 + 1, 0, none⟩) zT).trans kT0
  replace fT0 := (hbw2.frozen (p := ⟨w.heap.size + 1 + 1 + 1, 0, none⟩) zT).trans fT0
  replace kT1 := (hbw2.cell (p := ⟨w.heap.size + 1 + 1 + 1, 1, none⟩) zT).trans kT1
  replace fT1 := (hbw2.frozen (p := ⟨w.heap.size + 1 + 1 + 1, 1, none⟩) zT).trans fT1
  replace zT := Nat.lt_of_lt_of_le zT hbw2.size
  replace HA := hide (HA.out.below hbw2)
  replace HBB := hide (HBB.out.below hbw2)
  replace HB := hide (bl_trans HB.out hbw2)
  clear hbw2
  have HQ := hide hoq
  have HR := hide hor
  have HVQ := hide hvq
  have HVR := hide hvr
  clear hoq hor hvq hvr
  go_wp2_with fail
  refine (makeS (!sgn x == sgn y) aq nq cq qs _ HQ.out.seg (by omega)).mono ?_
  rintro e w3 ⟨v3, rfl, hn3, hbw3⟩
  have yw3 := hbw3.size
  rw [HVQ.out] at hn3
  obtain ⟨a3, c3, rfl, ho3⟩ := hn3
  have H3 := hide (ho3.mono (base' := w1.heap.size) (by omega))
  clear ho3
  replace kA0 := (hbw3.cell (p := ⟨w.heap.size, 0, none⟩) zA).trans kA0
  replace kA1 := (hbw3.cell (p := ⟨w.heap.size, 1, none⟩) zA).trans kA1
  replace zA := Nat.lt_of_lt_of_le zA hbw3.size
  replace kB0 := (hbw3.cell (p := ⟨w.heap.size + 1, 0, none⟩) zB).trans kB0
  replace kB1 := (hbw3.cell (p := ⟨w.heap.size + 1, 1, none⟩) zB).trans kB1
  replace zB := Nat.lt_of_lt_of_le zB hbw3.size
  replace kR0 := (hbw3.cell (p := ⟨w.heap.size + 1 + 1, 0, none⟩) zR).trans kR0
  replace fR0 := (hbw3.frozen (p := ⟨w.heap.size + 1 + 1, 0, none⟩) zR).trans fR0
  replace kR1 := (hbw3.cell (p := ⟨w.heap.size + 1 + 1, 1, none⟩) zR).trans kR1
  replace fR1 := (hbw3.frozen (p := ⟨w.heap.size + 1 + 1, 1, none⟩) zR).trans fR1
  replace zR := Nat.lt_of_lt_of_le zR hbw3.size
  replace kT0 := (hbw3.cell (p := ⟨w.heap.size + 1 + 1 + 1, 0, none⟩) zT).trans kT0
  replace fT0 := (hbw3.frozen (p := ⟨w.heap.size + 1 + 1 + 1, 0, none⟩) zT).trans fT0
  replace kT1 := (hbw3.cell (p := ⟨w.heap.size + 1 + 1 + 1, 1, none⟩) zT).trans kT1
  replace fT1 := (hbw3.frozen (p := ⟨w.heap.size + 1 + 1 + 1, 1, none⟩) zT).trans fT1
  replace zT := Nat.lt_of_lt_of_le zT hbw3.size
  replace HA := hide (HA.out.below hbw3)
  replace HBB := hide (HBB.out.below hbw3)
  replace HQ := hide (HQ.out.below hbw3)
  replace HR := hide (HR.out.below hbw3)
  replace HB := hide (bl_trans HB.out hbw3)
  clear hbw3
  go_wp2_with fail
  refine (makeS false ar nr cr rs _ HR.out.seg (by omega)).mono ?_
  rintro e w4 ⟨v4, rfl, hn4, hbw4⟩
  have yw4 := hbw4.size
  rw [HVR.out] at hn4
  obtain ⟨a4, c4, rfl, ho4⟩ := hn4
  have H4 := hide (ho4.mono (base' := w1.heap.size) (by omega))
  clear ho4
  replace kA0 := (hbw4.cell (p := ⟨w.heap.size, 0, none⟩) zA).trans kA0
  replace kA1 := (hbw4.cell (p := ⟨w.heap.size, 1, none⟩) zA).trans kA1
  replace zA := Nat.lt_of_lt_of_le zA hbw4.size
  replace kB0 := (hbw4.cell (p := ⟨w.heap.size + 1, 0, none⟩) zB).trans kB0
  replace kB1 := (hbw4.cell (p := ⟨w.heap.size + 1, 1, none⟩) zB).trans kB1
  replace zB := Nat.lt_of_lt_of_le zB hbw4.size
  replace kR0 := (hbw4.cell (p := ⟨w.heap.size + 1 + 1, 0, none⟩) zR).trans kR0
  replace fR0 := (hbw4.frozen (p := ⟨w.heap.size + 1 + 1, 0, none⟩) zR).trans fR0
  replace kR1 := (hbw4.cell (p := ⟨w.heap.size + 1 + 1, 1, none⟩) zR).trans kR1
  replace fR1 := (hbw4.frozen (p := ⟨w.heap.size + 1 + 1, 1, none⟩) zR).trans fR1
  replace zR := Nat.lt_of_lt_of_le zR hbw4.size
  replace kT0 := (hbw4.cell (p := ⟨w.heap.size + 1 + 1 + 1, 0, none⟩) zT).trans kT0
  replace fT0 := (hbw4.frozen (p := ⟨w.heap.size + 1 + 1 + 1, 0, none⟩) zT).trans fT0
  replace kT1 := (hbw4.cell (p := ⟨w.heap.size + 1 + 1 + 1, 1, none⟩) zT).trans kT1
  replace fT1 := (hbw4.frozen (p := ⟨w.heap.size + 1 + 1 + 1, 1, none⟩) zT).trans fT1
  replace zT := Nat.lt_of_lt_of_le zT hbw4.size
  replace HA := hide (HA.out.below hbw4)
  replace HBB := hide (HBB.out.below hbw4)
  replace HQ := hide (HQ.out.below hbw4)
  replace HR := hide (HR.out.below hbw4)
  replace H3 := hide (H3.out.below hbw4)
  replace HB := hide (bl_trans HB.out hbw4)
  clear hbw4
  go_upto_region 3 with fail
  have HQ4 := HQ
  have H44 := H4
  have HBB4 := HBB
  have HB4 := HB
  have kQ0 : ((w4.alloc (Obj.cells #[Value.bool (sgn (mk (!sgn x == sgn y) (x.natAbs / y.natAbs))), Value.slice a3 (lms (mk (!sgn x == sgn y) (x.natAbs / y.natAbs))).length c3] 26)).alloc (Obj.cells #[Value.bool (sgn (mk false (x.natAbs % y.natAbs))), Value.slice a4 (lms (mk false (x.natAbs % y.natAbs))).length c4] 26)).cell? ⟨w4.heap.size, 0, none⟩ = some (Value.bool (sgn (mk (!sgn x == sgn y) (x.natAbs / y.natAbs)))) := by go_simp
  have fQ0 : ((w4.alloc (Obj.cells #[Value.bool (sgn (mk (!sgn x == sgn y) (x.natAbs / y.natAbs))), Value.slice a3 (lms (mk (!sgn x == sgn y) (x.natAbs / y.natAbs))).length c3] 26)).alloc (Obj.cells #[Value.bool (sgn (mk false (x.natAbs % y.natAbs))), Value.slice a4 (lms (mk false (x.natAbs % y.natAbs))).length c4] 26)).frozen? ⟨w4.heap.size, 0, none⟩ = false := by go_simp
  have kQ1 : ((w4.alloc (Obj.cells #[Value.bool (sgn (mk (!sgn x == sgn y) (x.natAbs / y.natAbs))), Value.slice a3 (lms (mk (!sgn x == sgn y) (x.natAbs / y.natAbs))).length c3] 26)).alloc (Obj.cells #[Value.bool (sgn (mk false (x.natAbs % y.natAbs))), Value.slice a4 (lms (mk false (x.natAbs % y.natAbs))).length c4] 26)).cell? ⟨w4.heap.size, 1, none⟩ = some (Value.slice a3 (lms (mk (!sgn x == sgn y) (x.natAbs / y.natAbs))).length c3) := by go_simp
  have fQ1 : ((w4.alloc (Obj.cells #[Value.bool (sgn (mk (!sgn x == sgn y) (x.natAbs / y.natAbs))), Value.slice a3 (lms (mk (!sgn x == sgn y) (x.natAbs / y.natAbs))).length c3] 26)).alloc (Obj.cells #[Value.bool (sgn (mk false (x.natAbs % y.natAbs))), Value.slice a4 (lms (mk false (x.natAbs % y.natAbs))).length c4] 26)).frozen? ⟨w4.heap.size, 1, none⟩ = false := by go_simp
  have zQ : w4.heap.size < ((w4.alloc (Obj.cells #[Value.bool (sgn (mk (!sgn x == sgn y) (x.natAbs / y.natAbs))), Value.slice a3 (lms (mk (!sgn x == sgn y) (x.natAbs / y.natAbs))).length c3] 26)).alloc (Obj.cells #[Value.bool (sgn (mk false (x.natAbs % y.natAbs))), Value.slice a4 (lms (mk false (x.natAbs % y.natAbs))).length c4] 26)).heap.size := by simp only [World.size_alloc]; omega
  have kS0 : ((w4.alloc (Obj.cells #[Value.bool (sgn (mk (!sgn x == sgn y) (x.natAbs / y.natAbs))), Value.slice a3 (lms (mk (!sgn x == sgn y) (x.natAbs / y.natAbs))).length c3] 26)).alloc (Obj.cells #[Value.bool (sgn (mk false (x.natAbs % y.natAbs))), Value.slice a4 (lms (mk false (x.natAbs % y.natAbs))).length c4] 26)).cell? ⟨w4.heap.size + 1, 0, none⟩ = some (Value.bool (sgn (mk false (x.natAbs % y.natAbs)))) := by go_simp
  have fS0 : ((w4.alloc (Obj.cells #[Value.bool (sgn (mk (!sgn x == sgn y) (x.natAbs / y.natAbs))), Value.slice a3 (lms (mk (!sgn x == sgn y) (x.natAbs / y.natAbs))).length c3] 26)).alloc (Obj.cells #[Value.bool (sgn (mk false (x.natAbs % y.natAbs))), Value.slice a4 (lms (mk false (x.natAbs % y.natAbs))).length c4] 26)).frozen? ⟨w4.heap.size + 1, 0, none⟩ = false := by go_simp
  have kS1 : ((w4.alloc (Obj.cells #[Value.bool (sgn (mk (!sgn x == sgn y) (x.natAbs / y.natAbs))), Value.slice a3 (lms (mk (!sgn x == sgn y) (x.natAbs / y.natAbs))).length c3] 26)).alloc (Obj.cells #[Value.bool (sgn (mk false (x.natAbs % y.natAbs))), Value.slice a4 (lms (mk false (x.natAbs % y.natAbs))).length c4] 26)).cell? ⟨w4.heap.size + 1, 1, none⟩ = some (Value.slice a4 (lms (mk false (x.natAbs % y.natAbs))).length c4) := by go_simp
  have fS1 : ((w4.alloc (Obj.cells #[Value.bool (sgn (mk (!sgn x == sgn y) (x.natAbs / y.natAbs))), Value.slice a3 (lms (mk (!sgn x == sgn y) (x.natAbs / y.natAbs))).length c3] 26)).alloc (Obj.cells #[Value.bool (sgn (mk false (x.natAbs % y.natAbs))), Value.slice a4 (lms (mk false (x.natAbs % y.natAbs))).length c4] 26)).frozen? ⟨w4.heap.size + 1, 1, none⟩ = false := by go_simp
  have zS : w4.heap.size + 1 < ((w4.alloc (Obj.cells #[Value.bool (sgn (mk (!sgn x == sgn y) (x.natAbs / y.natAbs))), Value.slice a3 (lms (mk (!sgn x == sgn y) (x.natAbs / y.natAbs))).length c3] 26)).alloc (Obj.cells #[Value.bool (sgn (mk false (x.natAbs % y.natAbs))), Value.slice a4 (lms (mk false (x.natAbs % y.natAbs))).length c4] 26)).heap.size := by simp only [World.size_alloc]; omega
  have yw5 : w4.heap.size + 2 ≤ ((w4.alloc (Obj.cells #[Value.bool (sgn (mk (!sgn x == sgn y) (x.natAbs / y.natAbs))), Value.slice a3 (lms (mk (!sgn x == sgn y) (x.natAbs / y.natAbs))).length c3] 26)).alloc (Obj.cells #[Value.bool (sgn (mk false (x.natAbs % y.natAbs))), Value.slice a4 (lms (mk false (x.natAbs % y.natAbs))).length c4] 26)).heap.size := by simp only [World.size_alloc]; omega
  have hbw5 := (bl_alloc (bl_alloc (bl_refl w4) (Obj.cells #[Value.bool (sgn (mk (!sgn x == sgn y) (x.natAbs / y.natAbs))), Value.slice a3 (lms (mk (!sgn x == sgn y) (x.natAbs / y.natAbs))).length c3] 26)) (Obj.cells #[Value.bool (sgn (mk false (x.natAbs % y.natAbs))), Value.slice a4 (lms (mk false (x.natAbs % y.natAbs))).length c4] 26))
  generalize ((w4.alloc (Obj.cells #[Value.bool (sgn (mk (!sgn x == sgn y) (x.natAbs / y.natAbs))), Value.slice a3 (lms (mk (!sgn x == sgn y) (x.natAbs / y.natAbs))).length c3] 26)).alloc (Obj.cells #[Value.bool (sgn (mk false (x.natAbs % y.natAbs))), Value.slice a4 (lms (mk false (x.natAbs % y.natAbs))).length c4] 26)) = w5 at *
  have BW := hide hbw5
  replace kA0 := (hbw5.cell (p := ⟨w.heap.size, 0, none⟩) zA).trans kA0
  replace kA1 := (hbw5.cell (p := ⟨w.heap.size, 1, none⟩) zA).trans kA1
  replace zA := Nat.lt_of_lt_of_le zA hbw5.size
  replace kB0 := (hbw5.cell (p := ⟨w.heap.size + 1, 0, none⟩) zB).trans kB0
  replace kB1 := (hbw5.cell (p := ⟨w.heap.size + 1, 1, none⟩) zB).trans kB1
  replace zB := Nat.lt_of_lt_of_le zB hbw5.size
  replace kR0 := (hbw5.cell (p := ⟨w.heap.size + 1 + 1, 0, none⟩) zR).trans kR0
  replace fR0 := (hbw5.frozen (p := ⟨w.heap.size + 1 + 1, 0, none⟩) zR).trans fR0
  replace kR1 := (hbw5.cell (p := ⟨w.heap.size + 1 + 1, 1, none⟩) zR).trans kR1
  replace fR1 := (hbw5.frozen (p := ⟨w.heap.size + 1 + 1, 1, none⟩) zR).trans fR1
  replace zR := Nat.lt_of_lt_of_le zR hbw5.size
  replace kT0 := (hbw5.cell (p := ⟨w.heap.size + 1 + 1 + 1, 0, none⟩) zT).trans kT0
  replace fT0 := (hbw5.frozen (p := ⟨w.heap.size + 1 + 1 + 1, 0, none⟩) zT).trans fT0
  replace kT1 := (hbw5.cell (p := ⟨w.heap.size + 1 + 1 + 1, 1, none⟩) zT).trans kT1
  replace fT1 := (hbw5.frozen (p := ⟨w.heap.size + 1 + 1 + 1, 1, none⟩) zT).trans fT1
  replace zT := Nat.lt_of_lt_of_le zT hbw5.size
  replace HA := hide (HA.out.below hbw5)
  replace HBB := hide (HBB.out.below hbw5)
  replace HQ := hide (HQ.out.below hbw5)
  replace HR := hide (HR.out.below hbw5)
  replace H3 := hide (H3.out.below hbw5)
  replace H4 := hide (H4.out.below hbw5)
  replace HB := hide (bl_trans HB.out hbw5)
  clear hbw5
  by_cases hx : x < 0
  · have hsx : sgn x = true := decide_eq_true hx
    by_cases hm : x.natAbs % y.natAbs = 0
    · obtain ⟨e1, e2⟩ := div_same x y hy (.inr hm)
      have e3 : mk false (x.natAbs % y.natAbs) = x % y := e2.symm
      have hl0 : ¬ (0 : Int) < ((lms (mk false (x.natAbs % y.natAbs))).length : Int) := by rw [mk_lms, hm, Num.limbs_zero]; simp
      have HE1 := hide e1
      have HE2 := hide e3
      clear e1 e2 e3
      generalize mk (!sgn x == sgn y) (x.natAbs / y.natAbs) = q at *
      generalize mk false (x.natAbs % y.natAbs) = r at *
      go_upto_region 6 with fail
      clear hsx
      have hq' := HE2.out; subst hq'
      have hq' := HE1.out.symm; subst hq'
      clear HE1 HE2
      go_region_held3 (fun w' => w'.cell? ⟨w4.heap.size, 0, none⟩ = some (Value.bool (sgn (x / y))) ∧ w'.cell? ⟨w4.heap.size, 1, none⟩ = some (Value.slice a3 (lms (x / y)).length c3) ∧ w'.cell? ⟨w4.heap.size + 1, 0, none⟩ = some (Value.bool (sgn (x % y))) ∧ w'.cell? ⟨w4.heap.size + 1, 1, none⟩ = some (Value.slice a4 (lms (x % y)).length c4))
        (first
          | exact ⟨(by (try rw [World.cell?_drew]); first | with_reducible assumption | (rw [cell_two (N := w.heap.size + 1 + 1) (p := ⟨w4.heap.size, 0, none⟩) (by dsimp only; omega)]; with_reducible assumption) | (rw [cell_two (N := w.heap.size + 1 + 1 + 1) (p := ⟨w4.heap.size, 0, none⟩) (by dsimp only; omega)]; with_reducible assumption) | (rw [cell_two (N := w.heap.size + 1 + 1) (p := ⟨w4.heap.size, 0, none⟩) (by dsimp only; omega), cell_two (N := w.heap.size + 1 + 1 + 1) (p := ⟨w4.heap.size, 0, none⟩) (by dsimp only; omega)]; with_reducible assumption) | (rw [cell_two (N := w.heap.size + 1 + 1 + 1) (p := ⟨w4.heap.size, 0, none⟩) (by dsimp only; omega), cell_two (N := w.heap.size + 1 + 1) (p := ⟨w4.heap.size, 0, none⟩) (by dsimp only; omega)]; with_reducible assumption)), (by (try rw [World.cell?_drew]); first | with_reducible assumption | (rw [cell_two (N := w.heap.size + 1 + 1) (p := ⟨w4.heap.size, 1, none⟩) (by dsimp only; omega)]; with_reducible assumption) | (rw [cell_two (N := w.heap.size + 1 + 1 + 1) (p := ⟨w4.heap.size, 1, none⟩) (by dsimp only; omega)]; with_reducible assumption) | (rw [cell_two (N := w.heap.size + 1 + 1) (p := ⟨w4.heap.size, 1, none⟩) (by dsimp only; omega), cell_two (N := w.heap.size + 1 + 1 + 1) (p := ⟨w4.heap.size, 1, none⟩) (by dsimp only; omega)]; with_reducible assumption) | (rw [cell_two (N := w.heap.size + 1 + 1 + 1) (p := ⟨w4.heap.size, 1, none⟩) (by dsimp only; omega), cell_two (N := w.heap.size + 1 + 1) (p := ⟨w4.heap.size, 1, none⟩) (by dsimp only; omega)]; with_reducible assumption)), (by (try rw [World.cell?_drew]); first | with_reducible assumption | (rw [cell_two (N := w.heap.size + 1 + 1) (p := ⟨w4.heap.size + 1, 0, none⟩) (by dsimp only; omega)]; with_reducible assumption) | (rw [cell_two (N := w.heap.size + 1 + 1 + 1) (p := ⟨w4.heap.size + 1, 0, none⟩) (by dsimp only; omega)]; with_reducible assumption) | (rw [cell_two (N := w.heap.size + 1 + 1) (p := ⟨w4.heap.size + 1, 0, none⟩) (by dsimp only; omega), cell_two (N := w.heap.size + 1 + 1 + 1) (p := ⟨w4.heap.size + 1, 0, none⟩) (by dsimp only; omega)]; with_reducible assumption) | (rw [cell_two (N := w.heap.size + 1 + 1 + 1) (p := ⟨w4.heap.size + 1, 0, none⟩) (by dsimp only; omega), cell_two (N := w.heap.size + 1 + 1) (p := ⟨w4.heap.size + 1, 0, none⟩) (by dsimp only; omega)]; with_reducible assumption)), (by (try rw [World.cell?_drew]); first | with_reducible assumption | (rw [cell_two (N := w.heap.size + 1 + 1) (p := ⟨w4.heap.size + 1, 1, none⟩) (by dsimp only; omega)]; with_reducible assumption) | (rw [cell_two (N := w.heap.size + 1 + 1 + 1) (p := ⟨w4.heap.size + 1, 1, none⟩) (by dsimp only; omega)]; with_reducible assumption) | (rw [cell_two (N := w.heap.size + 1 + 1) (p := ⟨w4.heap.size + 1, 1, none⟩) (by dsimp only; omega), cell_two (N := w.heap.size + 1 + 1 + 1) (p := ⟨w4.heap.size + 1, 1, none⟩) (by dsimp only; omega)]; with_reducible assumption) | (rw [cell_two (N := w.heap.size + 1 + 1 + 1) (p := ⟨w4.heap.size + 1, 1, none⟩) (by dsimp only; omega), cell_two (N := w.heap.size + 1 + 1) (p := ⟨w4.heap.size + 1, 1, none⟩) (by dsimp only; omega)]; with_reducible assumption))⟩)
        (fail)
      all_goals go_wp2_with fail
      all_goals refine bodyPost_ret (v := .tuple #[.agg #[.bool (sgn (x / y)), .slice a3 (lms (x / y)).length c3], .agg #[.bool (sgn (x % y)), .slice a4 (lms (x % y)).length c4]]) (by simp [results, Try.results71, go_sem, kR0, kR1, kT0, kT1]) rfl ?_
      all_goals refine ⟨a3, c3, a4, c4, rfl, ?_⟩
      all_goals first | exact fin_two'' (N := w.heap.size + 1 + 1) (M := w.heap.size + 1 + 1 + 1) (base := w1.heap.size) H3.out H4.out (by omega) (by omega) (by omega) (by omega) HB.out _ _ _ _ | exact fin_drew' (fin_two'' (N := w.heap.size + 1 + 1) (M := w.heap.size + 1 + 1 + 1) (base := w1.heap.size) H3.out H4.out (by omega) (by omega) (by omega) (by omega) HB.out _ _ _ _)
    · obtain ⟨e1, e2⟩ := div_more x y hy hx hm
      have hl0 : (0 : Int) < ((lms (mk false (x.natAbs % y.natAbs))).length : Int) := by rw [mk_lms]; have : Num.limbs (x.natAbs % y.natAbs) ≠ [] := fun e => hm (Num.limbs_eq_nil.1 e); have := List.length_pos_iff.2 this; omega
      have HLR : Hid ((lms (mk false (x.natAbs % y.natAbs))).length ≤ (lms y).length) := hide (by rw [mk_lms]; exact Nat.le_of_not_lt fun hc => by have := Num.len_lt hc; have := Nat.mod_lt x.natAbs (show 0 < y.natAbs by omega); omega)
      have HLE : Hid (Num.nat (lms (mk false (x.natAbs % y.natAbs))) ≤ Num.nat (lms y)) := hide (by rw [mk_lms, Num.nat_limbs, nat_lms]; exact Nat.le_of_lt (Nat.mod_lt _ (by omega)))
      have HE1 : Hid (mk (!sgn x == sgn y) (Num.nat qs + Num.nat [1]) = x / y) := hide (by rw [e1, HVQ.out]; rfl)
      have HE2 : Hid (mk false (Num.nat (lms y) - Num.nat (lms (mk false (x.natAbs % y.natAbs)))) = x % y) := hide (by rw [e2, nat_lms, mk_lms, Num.nat_limbs]; rfl)
      clear e1 e2 hm hx
      generalize mk (!sgn x == sgn y) (x.natAbs / y.natAbs) = q at *
      generalize mk false (x.natAbs % y.natAbs) = r at *
      go_upto_region 4 with fail
      clear hsx hl0
      rename (0 : Nat) < _ => hlr0
      clear hlr0
      have KP : Hid (∀ w', Below w5.heap.size w5 w' → (w'.cell? ⟨w.heap.size, 0, none⟩ = some (Value.bool (sgn x)) ∧ w'.cell? ⟨w.heap.size + 1, 0, none⟩ = some (Value.bool (sgn y)) ∧ Hid (Below w4.heap.size w4 w'))) := hide (fun w' hb => ⟨(hb.cell (p := ⟨w.heap.size, 0, none⟩) zA).trans kA0, (hb.cell (p := ⟨w.heap.size + 1, 0, none⟩) zB).trans kB0, bl_trans BW.out hb⟩)
      go_region_held3 (fun w' => w'.cell? ⟨w.heap.size, 0, none⟩ = some (Value.bool (sgn x)) ∧ w'.cell? ⟨w.heap.size + 1, 0, none⟩ = some (Value.bool (sgn y)) ∧ Hid (Below w4.heap.size w4 w'))
        (first
          | exact KP.out _ (bl_refl w5).drew
          | exact KP.out _ bB
          | exact KP.out _ bA
          | exact KP.out _ (bl_alloc (bl_refl w5).drew _)
          | exact KP.out _ (bl_alloc (bl_refl w5) _)
          | exact ⟨(cell_two (N := w4.heap.size) (p := ⟨w.heap.size, 0, none⟩) (by dsimp only; omega)).trans ((bB.cell (p := ⟨w.heap.size, 0, none⟩) zA).trans kA0), (cell_two (N := w4.heap.size) (p := ⟨w.heap.size + 1, 0, none⟩) (by dsimp only; omega)).trans ((bB.cell (p := ⟨w.heap.size + 1, 0, none⟩) zB).trans kB0), hide (Below.setCell (Below.setCell (bl_trans BW.out bB) (Nat.le_refl _) _) (Nat.le_refl _) _)⟩)
        (first
          | (go_at_call 54; refine (plusS aq (some ⟨_, 0, none⟩) nq 1 cq 1 qs [1] _ (HQ4.out.seg.below (Hid.out (And.right (And.right (by assumption))))) (by first | exact (own_lit1 _).seg | exact (own_lit1 _).seg.below (bl_refl _).drew) (by omega) (by decide)).mono ?_; rintro e wA ⟨ao, ko, co, zs, rfl, hoA, hkA, hvA, hbA⟩; have bA : Below w5.heap.size w5 wA := (by first | exact bl_trans (bl_alloc (bl_refl w5).drew _) hbA | exact bl_trans (bl_alloc (bl_refl w5) _) hbA | exact bl_trans (bl_trans (bl_alloc (bl_refl w5) _) (bl_refl _).drew) hbA); have yA := bA.size; have HOA := hide hoA.seg; have HVA := hide hvA; clear hoA hvA hbA)
          | (go_at_call 25; refine (makeS (!sgn x == sgn y) ao ko co zs _ HOA.out (by omega)).mono ?_; rintro e wB ⟨vB, rfl, hnB, hbB⟩; have bB : Below w5.heap.size w5 wB := bl_trans bA hbB; have yB := hbB.size; rw [HVA.out, HE1.out] at hnB; obtain ⟨aB, cB, rfl, hoB⟩ := hnB; have HOB := hide (hoB.mono (base' := w5.heap.size) yA); have kQ0 := (bB.cell (p := ⟨w4.heap.size, 0, none⟩) zQ).trans kQ0; have kQ1 := (bB.cell (p := ⟨w4.heap.size, 1, none⟩) zQ).trans kQ1; have fQ0 := (bB.frozen (p := ⟨w4.heap.size, 0, none⟩) zQ).trans fQ0; have fQ1 := (bB.frozen (p := ⟨w4.heap.size, 1, none⟩) zQ).trans fQ1; clear hoB hbB))
      clear KP kA0 kA1 zA HA HQ HR H3
      replace kB0 := (cell_two (N := w4.heap.size) (x := (Value.bool (sgn (x / y)))) (y := (Value.slice aB (lms (x / y)).length cB)) (p := ⟨w.heap.size + 1, 0, none⟩) (by dsimp only; omega)).trans ((bB.cell (p := ⟨w.heap.size + 1, 0, none⟩) zB).trans kB0)
      replace kB1 := (cell_two (N := w4.heap.size) (x := (Value.bool (sgn (x / y)))) (y := (Value.slice aB (lms (x / y)).length cB)) (p := ⟨w.heap.size + 1, 1, none⟩) (by dsimp only; omega)).trans ((bB.cell (p := ⟨w.heap.size + 1, 1, none⟩) zB).trans kB1)
      replace kR0 := (cell_two (N := w4.heap.size) (x := (Value.bool (sgn (x / y)))) (y := (Value.slice aB (lms (x / y)).length cB)) (p := ⟨w.heap.size + 1 + 1, 0, none⟩) (by dsimp only; omega)).trans ((bB.cell (p := ⟨w.heap.size + 1 + 1, 0, none⟩) zR).trans kR0)
      replace fR0 := (frozen_two (N := w4.heap.size) (x := (Value.bool (sgn (x / y)))) (y := (Value.slice aB (lms (x / y)).length cB)) (p := ⟨w.heap.size + 1 + 1, 0, none⟩) (by dsimp only; omega)).trans ((bB.frozen (p := ⟨w.heap.size + 1 + 1, 0, none⟩) zR).trans fR0)
      replace kR1 := (cell_two (N := w4.heap.size) (x := (Value.bool (sgn (x / y)))) (y := (Value.slice aB (lms (x / y)).length cB)) (p := ⟨w.heap.size + 1 + 1, 1, none⟩) (by dsimp only; omega)).trans ((bB.cell (p := ⟨w.heap.size + 1 + 1, 1, none⟩) zR).trans kR1)
      replace fR1 := (frozen_two (N := w4.heap.size) (x := (Value.bool (sgn (x / y)))) (y := (Value.slice aB (lms (x / y)).length cB)) (p := ⟨w.heap.size + 1 + 1, 1, none⟩) (by dsimp only; omega)).trans ((bB.frozen (p := ⟨w.heap.size + 1 + 1, 1, none⟩) zR).trans fR1)
      replace kT0 := (cell_two (N := w4.heap.size) (x := (Value.bool (sgn (x / y)))) (y := (Value.slice aB (lms (x / y)).length cB)) (p := ⟨w.heap.size + 1 + 1 + 1, 0, none⟩) (by dsimp only; omega)).trans ((bB.cell (p := ⟨w.heap.size + 1 + 1 + 1, 0, none⟩) zT).trans kT0)
      replace fT0 := (frozen_two (N := w4.heap.size) (x := (Value.bool (sgn (x / y)))) (y := (Value.slice aB (lms (x / y)).length cB)) (p := ⟨w.heap.size + 1 + 1 + 1, 0, none⟩) (by dsimp only; omega)).trans ((bB.frozen (p := ⟨w.heap.size + 1 + 1 + 1, 0, none⟩) zT).trans fT0)
      replace kT1 := (cell_two (N := w4.heap.size) (x := (Value.bool (sgn (x / y)))) (y := (Value.slice aB (lms (x / y)).length cB)) (p := ⟨w.heap.size + 1 + 1 + 1, 1, none⟩) (by dsimp only; omega)).trans ((bB.cell (p := ⟨w.heap.size + 1 + 1 + 1, 1, none⟩) zT).trans kT1)
      replace fT1 := (frozen_two (N := w4.heap.size) (x := (Value.bool (sgn (x / y)))) (y := (Value.slice aB (lms (x / y)).length cB)) (p := ⟨w.heap.size + 1 + 1 + 1, 1, none⟩) (by dsimp only; omega)).trans ((bB.frozen (p := ⟨w.heap.size + 1 + 1 + 1, 1, none⟩) zT).trans fT1)
      replace kS0 := (cell_two (N := w4.heap.size) (x := (Value.bool (sgn (x / y)))) (y := (Value.slice aB (lms (x / y)).length cB)) (p := ⟨w4.heap.size + 1, 0, none⟩) (by dsimp only; omega)).trans ((bB.cell (p := ⟨w4.heap.size + 1, 0, none⟩) zS).trans kS0)
      replace fS0 := (frozen_two (N := w4.heap.size) (x := (Value.bool (sgn (x / y)))) (y := (Value.slice aB (lms (x / y)).length cB)) (p := ⟨w4.heap.size + 1, 0, none⟩) (by dsimp only; omega)).trans ((bB.frozen (p := ⟨w4.heap.size + 1, 0, none⟩) zS).trans fS0)
      replace kS1 := (cell_two (N := w4.heap.size) (x := (Value.bool (sgn (x / y)))) (y := (Value.slice aB (lms (x / y)).length cB)) (p := ⟨w4.heap.size + 1, 1, none⟩) (by dsimp only; omega)).trans ((bB.cell (p := ⟨w4.heap.size + 1, 1, none⟩) zS).trans kS1)
      replace fS1 := (frozen_two (N := w4.heap.size) (x := (Value.bool (sgn (x / y)))) (y := (Value.slice aB (lms (x / y)).length cB)) (p := ⟨w4.heap.size + 1, 1, none⟩) (by dsimp only; omega)).trans ((bB.frozen (p := ⟨w4.heap.size + 1, 1, none⟩) zS).trans fS1)
      have m0 : ((wB.setCell ⟨w4.heap.size, 0, none⟩ (Value.bool (sgn (x / y)))).setCell ⟨w4.heap.size, 1, none⟩ (Value.slice aB (lms (x / y)).length cB)).cell? ⟨w4.heap.size, 0, none⟩ = some (Value.bool (sgn (x / y))) := by go_simp
      have m1 : ((wB.setCell ⟨w4.heap.size, 0, none⟩ (Value.bool (sgn (x / y)))).setCell ⟨w4.heap.size, 1, none⟩ (Value.slice aB (lms (x / y)).length cB)).cell? ⟨w4.heap.size, 1, none⟩ = some (Value.slice aB (lms (x / y)).length cB) := by go_simp
      clear kQ0 kQ1 fQ0 fQ1
      replace HOB := hide ((HOB.out.setCell (p := ⟨w4.heap.size, 0, none⟩) (by dsimp only; omega) (Value.bool (sgn (x / y)))).setCell (p := ⟨w4.heap.size, 1, none⟩) (by dsimp only; omega) (Value.slice aB (lms (x / y)).length cB))
      have B8 := hide (Below.setCell (Below.setCell (bl_trans BW.out bB) (p := ⟨w4.heap.size, 0, none⟩) (Nat.le_refl _) (Value.bool (sgn (x / y)))) (p := ⟨w4.heap.size, 1, none⟩) (Nat.le_refl _) (Value.slice aB (lms (x / y)).length cB))
      have y8 : wB.heap.size ≤ ((wB.setCell ⟨w4.heap.size, 0, none⟩ (Value.bool (sgn (x / y)))).setCell ⟨w4.heap.size, 1, none⟩ (Value.slice aB (lms (x / y)).length cB)).heap.size := by simp
      clear bA BW
      go_wp2_with fail
      generalize ((wB.setCell ⟨w4.heap.size, 0, none⟩ (Value.bool (sgn (x / y)))).setCell ⟨w4.heap.size, 1, none⟩ (Value.slice aB (lms (x / y)).length cB)) = w8 at *
      clear kB0 kB1 HBB HB H4
      refine (lessS b a4 _ _ cb c4 (lms y) (lms r) _ (HBB4.out.below B8.out) (H44.out.seg.below B8.out) (by omega) (by have := HLR.out; omega) HLE.out HLR.out).mono ?_
      rintro e w9 ⟨a9, n9, c9, zs9, rfl, ho9, hn9, hv9, hb9⟩
      have HO9 := hide ho9.seg
      have HV9 := hide hv9
      have y9 := hb9.size
      have HLR' := HLR.out
      go_wp2_with fail
      refine (makeS false a9 n9 c9 zs9 _ HO9.out (by omega)).mono ?_
      rintro e w10 ⟨v10, rfl, hn10, hb10⟩
      rw [HV9.out, HE2.out] at hn10
      obtain ⟨a10, c10, rfl, ho10⟩ := hn10
      have y10 := hb10.size
      have hb := bl_trans hb9 hb10
      have B10 := hide (bl_trans B8.out hb)
      replace HOB := hide (HOB.out.below hb)
      have HO10 := hide (ho10.mono (base' := w5.heap.size) (by omega))
      have z8 := hb.size
      replace zR : w.heap.size + 1 + 1 < w8.heap.size := by omega
      replace zT : w.heap.size + 1 + 1 + 1 < w8.heap.size := by omega
      replace zS : w4.heap.size + 1 < w8.heap.size := by omega
      have zQ8 : w4.heap.size < w8.heap.size := by omega
      have kQ0 := m0
      have kQ1 := m1
      replace zQ := zQ8
      clear m0 m1 zQ8
      have s0 := (hb.cell (p := ⟨w4.heap.size + 1, 0, none⟩) zS).trans kS0
      have s1 := (hb.cell (p := ⟨w4.heap.size + 1, 1, none⟩) zS).trans kS1
      have t0 := (hb.frozen (p := ⟨w4.heap.size + 1, 0, none⟩) zS).trans fS0
      have t1 := (hb.frozen (p := ⟨w4.heap.size + 1, 1, none⟩) zS).trans fS1
      go_upto_region 6 with fail
      replace kR0 := (cell_two (N := w4.heap.size + 1) (x := (Value.bool (sgn (x % y)))) (y := (Value.slice a10 (lms (x % y)).length c10)) (p := ⟨w.heap.size + 1 + 1, 0, none⟩) (by dsimp only; omega)).trans ((hb.cell (p := ⟨w.heap.size + 1 + 1, 0, none⟩) zR).trans kR0)
      replace fR0 := (frozen_two (N := w4.heap.size + 1) (x := (Value.bool (sgn (x % y)))) (y := (Value.slice a10 (lms (x % y)).length c10)) (p := ⟨w.heap.size + 1 + 1, 0, none⟩) (by dsimp only; omega)).trans ((hb.frozen (p := ⟨w.heap.size + 1 + 1, 0, none⟩) zR).trans fR0)
      replace kR1 := (cell_two (N := w4.heap.size + 1) (x := (Value.bool (sgn (x % y)))) (y := (Value.slice a10 (lms (x % y)).length c10)) (p := ⟨w.heap.size + 1 + 1, 1, none⟩) (by dsimp only; omega)).trans ((hb.cell (p := ⟨w.heap.size + 1 + 1, 1, none⟩) zR).trans kR1)
      replace fR1 := (frozen_two (N := w4.heap.size + 1) (x := (Value.bool (sgn (x % y)))) (y := (Value.slice a10 (lms (x % y)).length c10)) (p := ⟨w.heap.size + 1 + 1, 1, none⟩) (by dsimp only; omega)).trans ((hb.frozen (p := ⟨w.heap.size + 1 + 1, 1, none⟩) zR).trans fR1)
      replace kT0 := (cell_two (N := w4.heap.size + 1) (x := (Value.bool (sgn (x % y)))) (y := (Value.slice a10 (lms (x % y)).length c10)) (p := ⟨w.heap.size + 1 + 1 + 1, 0, none⟩) (by dsimp only; omega)).trans ((hb.cell (p := ⟨w.heap.size + 1 + 1 + 1, 0, none⟩) zT).trans kT0)
      replace fT0 := (frozen_two (N := w4.heap.size + 1) (x := (Value.bool (sgn (x % y)))) (y := (Value.slice a10 (lms (x % y)).length c10)) (p := ⟨w.heap.size + 1 + 1 + 1, 0, none⟩) (by dsimp only; omega)).trans ((hb.frozen (p := ⟨w.heap.size + 1 + 1 + 1, 0, none⟩) zT).trans fT0)
      replace kT1 := (cell_two (N := w4.heap.size + 1) (x := (Value.bool (sgn (x % y)))) (y := (Value.slice a10 (lms (x % y)).length c10)) (p := ⟨w.heap.size + 1 + 1 + 1, 1, none⟩) (by dsimp only; omega)).trans ((hb.cell (p := ⟨w.heap.size + 1 + 1 + 1, 1, none⟩) zT).trans kT1)
      replace fT1 := (frozen_two (N := w4.heap.size + 1) (x := (Value.bool (sgn (x % y)))) (y := (Value.slice a10 (lms (x % y)).length c10)) (p := ⟨w.heap.size + 1 + 1 + 1, 1, none⟩) (by dsimp only; omega)).trans ((hb.frozen (p := ⟨w.heap.size + 1 + 1 + 1, 1, none⟩) zT).trans fT1)
      replace kQ0 := (cell_two (N := w4.heap.size + 1) (x := (Value.bool (sgn (x % y)))) (y := (Value.slice a10 (lms (x % y)).length c10)) (p := ⟨w4.heap.size, 0, none⟩) (by dsimp only; omega)).trans ((hb.cell (p := ⟨w4.heap.size, 0, none⟩) zQ).trans kQ0)
      replace kQ1 := (cell_two (N := w4.heap.size + 1) (x := (Value.bool (sgn (x % y)))) (y := (Value.slice a10 (lms (x % y)).length c10)) (p := ⟨w4.heap.size, 1, none⟩) (by dsimp only; omega)).trans ((hb.cell (p := ⟨w4.heap.size, 1, none⟩) zQ).trans kQ1)
      have m0 : ((w10.setCell ⟨w4.heap.size + 1, 0, none⟩ (Value.bool (sgn (x % y)))).setCell ⟨w4.heap.size + 1, 1, none⟩ (Value.slice a10 (lms (x % y)).length c10)).cell? ⟨w4.heap.size + 1, 0, none⟩ = some (Value.bool (sgn (x % y))) := by go_simp
      have m1 : ((w10.setCell ⟨w4.heap.size + 1, 0, none⟩ (Value.bool (sgn (x % y)))).setCell ⟨w4.heap.size + 1, 1, none⟩ (Value.slice a10 (lms (x % y)).length c10)).cell? ⟨w4.heap.size + 1, 1, none⟩ = some (Value.slice a10 (lms (x % y)).length c10) := by go_simp
      replace HOB := hide ((HOB.out.setCell (p := ⟨w4.heap.size + 1, 0, none⟩) (by dsimp only; omega) (Value.bool (sgn (x % y)))).setCell (p := ⟨w4.heap.size + 1, 1, none⟩) (by dsimp only; omega) (Value.slice a10 (lms (x % y)).length c10))
      replace HO10 := hide ((HO10.out.setCell (p := ⟨w4.heap.size + 1, 0, none⟩) (by dsimp only; omega) (Value.bool (sgn (x % y)))).setCell (p := ⟨w4.heap.size + 1, 1, none⟩) (by dsimp only; omega) (Value.slice a10 (lms (x % y)).length c10))
      replace B10 := hide (Below.setCell (Below.setCell B10.out (p := ⟨w4.heap.size + 1, 0, none⟩) (by dsimp only; omega) (Value.bool (sgn (x % y)))) (p := ⟨w4.heap.size + 1, 1, none⟩) (by dsimp only; omega) (Value.slice a10 (lms (x % y)).length c10))
      clear s0 s1 t0 t1 kS0 kS1 fS0 fS1 ho9 hv9 ho10 hb9 hb10 hb HO9 HV9
      generalize ((w10.setCell ⟨w4.heap.size + 1, 0, none⟩ (Value.bool (sgn (x % y)))).setCell ⟨w4.heap.size + 1, 1, none⟩ (Value.slice a10 (lms (x % y)).length c10)) = w11 at *
      have kS0 := m0
      have kS1 := m1
      clear m0 m1
      have HB := hide (bl_trans HB4.out B10.out)
      go_region_held3 (fun w' => w'.cell? ⟨w4.heap.size, 0, none⟩ = some (Value.bool (sgn (x / y))) ∧ w'.cell? ⟨w4.heap.size, 1, none⟩ = some (Value.slice aB (lms (x / y)).length cB) ∧ w'.cell? ⟨w4.heap.size + 1, 0, none⟩ = some ((Value.bool (sgn (x % y)))) ∧ w'.cell? ⟨w4.heap.size + 1, 1, none⟩ = some ((Value.slice a10 (lms (x % y)).length c10)))
        (first
          | exact ⟨(by (try rw [World.cell?_drew]); first | with_reducible assumption | (rw [cell_two (N := w.heap.size + 1 + 1) (p := ⟨w4.heap.size, 0, none⟩) (by dsimp only; omega)]; with_reducible assumption) | (rw [cell_two (N := w.heap.size + 1 + 1 + 1) (p := ⟨w4.heap.size, 0, none⟩) (by dsimp only; omega)]; with_reducible assumption) | (rw [cell_two (N := w.heap.size + 1 + 1) (p := ⟨w4.heap.size, 0, none⟩) (by dsimp only; omega), cell_two (N := w.heap.size + 1 + 1 + 1) (p := ⟨w4.heap.size, 0, none⟩) (by dsimp only; omega)]; with_reducible assumption) | (rw [cell_two (N := w.heap.size + 1 + 1 + 1) (p := ⟨w4.heap.size, 0, none⟩) (by dsimp only; omega), cell_two (N := w.heap.size + 1 + 1) (p := ⟨w4.heap.size, 0, none⟩) (by dsimp only; omega)]; with_reducible assumption)), (by (try rw [World.cell?_drew]); first | with_reducible assumption | (rw [cell_two (N := w.heap.size + 1 + 1) (p := ⟨w4.heap.size, 1, none⟩) (by dsimp only; omega)]; with_reducible assumption) | (rw [cell_two (N := w.heap.size + 1 + 1 + 1) (p := ⟨w4.heap.size, 1, none⟩) (by dsimp only; omega)]; with_reducible assumption) | (rw [cell_two (N := w.heap.size + 1 + 1) (p := ⟨w4.heap.size, 1, none⟩) (by dsimp only; omega), cell_two (N := w.heap.size + 1 + 1 + 1) (p := ⟨w4.heap.size, 1, none⟩) (by dsimp only; omega)]; with_reducible assumption) | (rw [cell_two (N := w.heap.size + 1 + 1 + 1) (p := ⟨w4.heap.size, 1, none⟩) (by dsimp only; omega), cell_two (N := w.heap.size + 1 + 1) (p := ⟨w4.heap.size, 1, none⟩) (by dsimp only; omega)]; with_reducible assumption)), (by (try rw [World.cell?_drew]); first | with_reducible assumption | (rw [cell_two (N := w.heap.size + 1 + 1) (p := ⟨w4.heap.size + 1, 0, none⟩) (by dsimp only; omega)]; with_reducible assumption) | (rw [cell_two (N := w.heap.size + 1 + 1 + 1) (p := ⟨w4.heap.size + 1, 0, none⟩) (by dsimp only; omega)]; with_reducible assumption) | (rw [cell_two (N := w.heap.size + 1 + 1) (p := ⟨w4.heap.size + 1, 0, none⟩) (by dsimp only; omega), cell_two (N := w.heap.size + 1 + 1 + 1) (p := ⟨w4.heap.size + 1, 0, none⟩) (by dsimp only; omega)]; with_reducible assumption) | (rw [cell_two (N := w.heap.size + 1 + 1 + 1) (p := ⟨w4.heap.size + 1, 0, none⟩) (by dsimp only; omega), cell_two (N := w.heap.size + 1 + 1) (p := ⟨w4.heap.size + 1, 0, none⟩) (by dsimp only; omega)]; with_reducible assumption)), (by (try rw [World.cell?_drew]); first | with_reducible assumption | (rw [cell_two (N := w.heap.size + 1 + 1) (p := ⟨w4.heap.size + 1, 1, none⟩) (by dsimp only; omega)]; with_reducible assumption) | (rw [cell_two (N := w.heap.size + 1 + 1 + 1) (p := ⟨w4.heap.size + 1, 1, none⟩) (by dsimp only; omega)]; with_reducible assumption) | (rw [cell_two (N := w.heap.size + 1 + 1) (p := ⟨w4.heap.size + 1, 1, none⟩) (by dsimp only; omega), cell_two (N := w.heap.size + 1 + 1 + 1) (p := ⟨w4.heap.size + 1, 1, none⟩) (by dsimp only; omega)]; with_reducible assumption) | (rw [cell_two (N := w.heap.size + 1 + 1 + 1) (p := ⟨w4.heap.size + 1, 1, none⟩) (by dsimp only; omega), cell_two (N := w.heap.size + 1 + 1) (p := ⟨w4.heap.size + 1, 1, none⟩) (by dsimp only; omega)]; with_reducible assumption))⟩)
        (fail)
      all_goals go_wp2_with fail
      all_goals refine bodyPost_ret (v := .tuple #[.agg #[.bool (sgn (x / y)), .slice aB (lms (x / y)).length cB], .agg #[.bool (sgn (x % y)), .slice a10 (lms (x % y)).length c10]]) (by simp [results, Try.results71, go_sem, kR0, kR1, kT0, kT1]) rfl ?_
      all_goals refine ⟨aB, cB, a10, c10, rfl, ?_⟩
      all_goals first | exact fin_two'' (N := w.heap.size + 1 + 1) (M := w.heap.size + 1 + 1 + 1) (base := w1.heap.size) (HOB.out.mono (base' := w1.heap.size) (by omega)) (HO10.out.mono (base' := w1.heap.size) (by omega)) (by omega) (by omega) (by omega) (by omega) HB.out _ _ _ _ | exact fin_drew' (fin_two'' (N := w.heap.size + 1 + 1) (M := w.heap.size + 1 + 1 + 1) (base := w1.heap.size) (HOB.out.mono (base' := w1.heap.size) (by omega)) (HO10.out.mono (base' := w1.heap.size) (by omega)) (by omega) (by omega) (by omega) (by omega) HB.out _ _ _ _)
  · have hsx : sgn x = false := decide_eq_false hx
    obtain ⟨e1, e2⟩ := div_same x y hy (.inl (by omega))
    have e3 : mk false (x.natAbs % y.natAbs) = x % y := e2.symm
    have HE1 := hide e1
    have HE2 := hide e3
    clear e1 e2 e3
    generalize mk (!sgn x == sgn y) (x.natAbs / y.natAbs) = q at *
    generalize mk false (x.natAbs % y.natAbs) = r at *
    go_upto_region 6 with fail
    clear hsx
    have hq' := HE2.out; subst hq'
    have hq' := HE1.out.symm; subst hq'
    clear HE1 HE2
    go_region_held3 (fun w' => w'.cell? ⟨w4.heap.size, 0, none⟩ = some (Value.bool (sgn (x / y))) ∧ w'.cell? ⟨w4.heap.size, 1, none⟩ = some (Value.slice a3 (lms (x / y)).length c3) ∧ w'.cell? ⟨w4.heap.size + 1, 0, none⟩ = some (Value.bool (sgn (x % y))) ∧ w'.cell? ⟨w4.heap.size + 1, 1, none⟩ = some (Value.slice a4 (lms (x % y)).length c4))
      (first
        | exact ⟨(by (try rw [World.cell?_drew]); first | with_reducible assumption | (rw [cell_two (N := w.heap.size + 1 + 1) (p := ⟨w4.heap.size, 0, none⟩) (by dsimp only; omega)]; with_reducible assumption) | (rw [cell_two (N := w.heap.size + 1 + 1 + 1) (p := ⟨w4.heap.size, 0, none⟩) (by dsimp only; omega)]; with_reducible assumption) | (rw [cell_two (N := w.heap.size + 1 + 1) (p := ⟨w4.heap.size, 0, none⟩) (by dsimp only; omega), cell_two (N := w.heap.size + 1 + 1 + 1) (p := ⟨w4.heap.size, 0, none⟩) (by dsimp only; omega)]; with_reducible assumption) | (rw [cell_two (N := w.heap.size + 1 + 1 + 1) (p := ⟨w4.heap.size, 0, none⟩) (by dsimp only; omega), cell_two (N := w.heap.size + 1 + 1) (p := ⟨w4.heap.size, 0, none⟩) (by dsimp only; omega)]; with_reducible assumption)), (by (try rw [World.cell?_drew]); first | with_reducible assumption | (rw [cell_two (N := w.heap.size + 1 + 1) (p := ⟨w4.heap.size, 1, none⟩) (by dsimp only; omega)]; with_reducible assumption) | (rw [cell_two (N := w.heap.size + 1 + 1 + 1) (p := ⟨w4.heap.size, 1, none⟩) (by dsimp only; omega)]; with_reducible assumption) | (rw [cell_two (N := w.heap.size + 1 + 1) (p := ⟨w4.heap.size, 1, none⟩) (by dsimp only; omega), cell_two (N := w.heap.size + 1 + 1 + 1) (p := ⟨w4.heap.size, 1, none⟩) (by dsimp only; omega)]; with_reducible assumption) | (rw [cell_two (N := w.heap.size + 1 + 1 + 1) (p := ⟨w4.heap.size, 1, none⟩) (by dsimp only; omega), cell_two (N := w.heap.size + 1 + 1) (p := ⟨w4.heap.size, 1, none⟩) (by dsimp only; omega)]; with_reducible assumption)), (by (try rw [World.cell?_drew]); first | with_reducible assumption | (rw [cell_two (N := w.heap.size + 1 + 1) (p := ⟨w4.heap.size + 1, 0, none⟩) (by dsimp only; omega)]; with_reducible assumption) | (rw [cell_two (N := w.heap.size + 1 + 1 + 1) (p := ⟨w4.heap.size + 1, 0, none⟩) (by dsimp only; omega)]; with_reducible assumption) | (rw [cell_two (N := w.heap.size + 1 + 1) (p := ⟨w4.heap.size + 1, 0, none⟩) (by dsimp only; omega), cell_two (N := w.heap.size + 1 + 1 + 1) (p := ⟨w4.heap.size + 1, 0, none⟩) (by dsimp only; omega)]; with_reducible assumption) | (rw [cell_two (N := w.heap.size + 1 + 1 + 1) (p := ⟨w4.heap.size + 1, 0, none⟩) (by dsimp only; omega), cell_two (N := w.heap.size + 1 + 1) (p := ⟨w4.heap.size + 1, 0, none⟩) (by dsimp only; omega)]; with_reducible assumption)), (by (try rw [World.cell?_drew]); first | with_reducible assumption | (rw [cell_two (N := w.heap.size + 1 + 1) (p := ⟨w4.heap.size + 1, 1, none⟩) (by dsimp only; omega)]; with_reducible assumption) | (rw [cell_two (N := w.heap.size + 1 + 1 + 1) (p := ⟨w4.heap.size + 1, 1, none⟩) (by dsimp only; omega)]; with_reducible assumption) | (rw [cell_two (N := w.heap.size + 1 + 1) (p := ⟨w4.heap.size + 1, 1, none⟩) (by dsimp only; omega), cell_two (N := w.heap.size + 1 + 1 + 1) (p := ⟨w4.heap.size + 1, 1, none⟩) (by dsimp only; omega)]; with_reducible assumption) | (rw [cell_two (N := w.heap.size + 1 + 1 + 1) (p := ⟨w4.heap.size + 1, 1, none⟩) (by dsimp only; omega), cell_two (N := w.heap.size + 1 + 1) (p := ⟨w4.heap.size + 1, 1, none⟩) (by dsimp only; omega)]; with_reducible assumption))⟩)
      (fail)
    all_goals go_wp2_with fail
    all_goals refine bodyPost_ret (v := .tuple #[.agg #[.bool (sgn (x / y)), .slice a3 (lms (x / y)).length c3], .agg #[.bool (sgn (x % y)), .slice a4 (lms (x % y)).length c4]]) (by simp [results, Try.results71, go_sem, kR0, kR1, kT0, kT1]) rfl ?_
    all_goals refine ⟨a3, c3, a4, c4, rfl, ?_⟩
    all_goals first | exact fin_two'' (N := w.heap.size + 1 + 1) (M := w.heap.size + 1 + 1 + 1) (base := w1.heap.size) H3.out H4.out (by omega) (by omega) (by omega) (by omega) HB.out _ _ _ _ | exact fin_drew' (fin_two'' (N := w.heap.size + 1 + 1) (M := w.heap.size + 1 + 1 + 1) (base := w1.heap.size) H3.out H4.out (by omega) (by omega) (by omega) (by omega) HB.out _ _ _ _)
end Go.Proofs.Ythjapjbiclkhcaa
