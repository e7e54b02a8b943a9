/- My texts TLimb, LongI, in this order. -/
import Derived.Test.YthjapjbiclkhcaaPk05
import Derived.Test.YthjapjbiclkhcaaPk11
import Derived.Test.YthjapjbiclkhcaaPk08
import Derived.Test.YthjapjbiclkhcaaPk02
import Derived.Deep.RegionHeld3
import Derived.Deep.DeepCutAuto
/- The walks of timesLimb and guessLimb: a list of limbs times one limb in new memory; a quotient's limb guessed from the ends. -/
namespace Go.Proofs.Ythjapjbiclkhcaa
open Go.RowKit
set_option linter.unusedVariables false

theorem min_one {X : Int} {D : Nat} (e : X = (D : Int)) (h : 4294967295 < X) : 4294967295 = ((min D 4294967295 : Nat) : Int) := by omega
theorem min_two {X : Int} {D : Nat} (e : X = (D : Int)) (h : X ≤ 4294967295) : X % 4294967296 = ((min D 4294967295 : Nat) : Int) := by omega
theorem tl_val {f n c : Nat} {xs zs ys : List Nat} (hn : n = xs.length) (hy : Num.nat (ys.take n) = 0) (h : TSo f ys xs zs n c) : Num.nat (zs ++ [c]) = Num.nat xs * f := by
  obtain ⟨h1, h2, h3, h4⟩ := h
  rw [Num.nat_append, h1]
  rw [show Num.nat [c] = c by simp [Num.nat]]
  rw [hy, List.take_of_length_le (by omega), Nat.mul_comm f] at h4
  omega

set_option maxHeartbeats 4000000 in
set_option maxRecDepth 20000 in
theorem tlimbI (a : Option Addr) (n ca f : Nat) (xs : List Nat) (w : World) (ha : Seg w a n ca xs) (hn : n ≤ 1000000) (hf : f < 4294967296) :
    Calls Try.prog 100 #[.slice a n ca, .int .u32 f] w fun e w' => ∃ zs, e = .returned (.slice (some ⟨w.heap.size, 0, none⟩) (n + 1) (n + 1)) ∧ Blk w' w.heap.size zs ∧ zs.length = n + 1 ∧ Num.nat zs = Num.nat xs * f ∧ Below w.heap.size w w' := by
  obtain ⟨i0, hi, hz0, hz1, hz2⟩ := info_parts Try.info56
  obtain rfl := ha.1
  have hca := ha.2.1
  have hcm := ha.2.2.1
  have HA := hide ha
  clear ha
  go_enter Try.func100, Try.ntmps100
  go_wp2_with (at_make; refine wpList_make_full _ rfl _ _ 24 rfl w.heap.size 56 i0 (.int .u32 0) 1 Try.underlying24 hi hz0 hz1 _ _ _ _ (xs.length + 1) rfl rfl (by push_cast; rfl) (by push_cast; rfl) (by rw [hz2]; omega) (by unfold maxLen; omega) (Nat.le_refl _) ?_; intro w3 hown hgrow; have HZ3 := hide ((bl_refl w).grown hgrow (Nat.le_refl _) (by simp)); have B3 := hide (own_made2 hown).blk; clear hown hgrow)
  have hl3 := HZ3.out.size
  refine (timesI f w.heap.size 0 (xs.length + 1) (xs.length + 1) (List.replicate (xs.length + 1) 0) a xs.length ca xs _ hf B3.out (by simp) (Nat.le_refl _) (by omega) (by omega) (HA.out.below HZ3.out) (fun hp gb ob s e => by have := seg_low HA.out hp e; omega)).mono ?_
  rintro e w5 ⟨zs, c, hT, rfl, hB5, hg5⟩
  have HV := hide (tl_val (n := xs.length) rfl (by rw [List.drop_zero, List.take_replicate]; exact Num.nat_replicate _) hT)
  have HL : Hid ((zs ++ [c]).length = xs.length + 1) := hide (by rw [List.length_append, hT.1]; rfl)
  have HB5 : Hid (Blk w5 w.heap.size (zs ++ [c])) := hide (by
    have := hB5
    rw [List.take_zero, List.nil_append, List.drop_eq_nil_of_le (by simp), List.append_nil] at this
    exact this)
  have HZ5 := hide (HZ3.out.grown hg5 HZ3.out.size (fun j e => by cases e; exact Nat.le_refl _))
  clear hT hB5 hg5
  go_wp2
  go_ret
  exact ⟨_, rfl, HB5.out, HL.out, HV.out, HZ5.out⟩

set_option maxHeartbeats 4000000 in
set_option maxRecDepth 20000 in
theorem guessI (a b : Option Addr) (n ca cb : Nat) (ps ds : List Nat) (w : World) (ha : Seg w a (n + 2) ca ps) (hb : Seg w b (n + 1) cb ds) (hn : n ≤ 1000000) (t p q : Nat) (ht : ds[n]? = some t) (hp : ps[n + 1]? = some p) (hq : ps[n]? = some q) (h0 : t ≠ 0) :
    Calls Try.prog 101 #[.slice a (n + 2) ca, .slice b (n + 1) cb] w fun e w' => e = .returned (.int .u32 ((min ((p * 4294967296 + q) / t) 4294967295 : Nat) : Int)) ∧ ∃ m, w' = w.drewN m := by
  obtain ⟨h1, hp⟩ := List.getElem?_eq_some_iff.1 hp
  obtain ⟨h2, hq⟩ := List.getElem?_eq_some_iff.1 hq
  obtain ⟨h3, ht⟩ := List.getElem?_eq_some_iff.1 ht
  have hca := ha.2.1
  have hcm := ha.2.2.1
  have hcb := hb.2.1
  have hcbm := hb.2.2.1
  have hps := Num.small_at ha.2.2.2.1 h1
  have hqs := Num.small_at ha.2.2.2.1 h2
  have hts := Num.small_at hb.2.2.2.1 h3
  obtain ⟨ga, oa, rfl, hga, hc1⟩ := seg_cell ha (n + 1) h1
  obtain ⟨_, _, e, _, hc2⟩ := seg_cell ha n h2
  cases e
  obtain ⟨gb, ob, rfl, hgb, hc3⟩ := seg_cell hb n h3
  rw [hp] at hps hc1
  rw [hq] at hqs hc2
  rw [ht] at hts hc3
  clear hp hq ht h1 h2 h3 ha hb
  have hor := or32' (q : Int) (p : Int) (by omega) (by omega) (by omega) (by omega)
  have htz : ((t : Int) == 0) = false := by rw [beq_eq_false_iff_ne]; omega
  have E1 : Hid (((p : Int) * 4294967296 + (q : Int)) / (t : Int) = (((p * 4294967296 + q) / t : Nat) : Int)) := hide (by rw [Int.natCast_ediv, Int.natCast_add, Int.natCast_mul]; rfl)
  go_enter Try.func101, Try.ntmps101
  go_wp2_with fail
  go_quiet (fail)
  go_wp2
  all_goals
    go_ret
    refine ⟨ret_int ?_, nq, rfl⟩
    have e := E1.out
    first | exact min_one e (by assumption) | exact min_two e (by assumption)
end Go.Proofs.Ythjapjbiclkhcaa

/- The walk of divideLong: long division by two limbs or more, in new memory. -/
namespace Go.Proofs.Ythjapjbiclkhcaa
open Go.RowKit
set_option linter.unusedVariables false

theorem guessI' (a b : Option Addr) (n ca cb : Nat) (ps ds : List Nat) (w : World) (ha : Seg w a (n + 1) ca ps) (hb : Seg w b n cb ds) (h1 : 1 ≤ n) (hn : n ≤ 1000000) (t p q : Nat) (ht : ds[n - 1]? = some t) (hp : ps[n]? = some p) (hq : ps[n - 1]? = some q) (h0 : t ≠ 0) :
    Calls Try.prog 101 #[.slice a (n + 1) ca, .slice b n cb] w fun e w' => e = .returned (.int .u32 ((min ((p * 4294967296 + q) / t) 4294967295 : Nat) : Int)) ∧ ∃ m, w' = w.drewN m := by
  obtain ⟨k, rfl⟩ : ∃ k, n = k + 1 := ⟨n - 1, by omega⟩
  exact guessI a b k ca cb ps ds w ha hb (by omega) t p q ht hp hq h0
theorem scale_of (B n t : Nat) (hl : (Num.limbs B).length = n) (hn : 1 ≤ n) (ht : (Num.limbs B)[n - 1]? = some t) :
    ∃ s : Nat, Op.shift .shl .u32 1 .i64 (32 - ((Lib.bitLen t : Nat) : Int)) = pure (.int .u32 (s : Int)) ∧ 0 < s ∧ s < 4294967296 ∧ B * s < 4294967296 ^ n ∧ 4294967296 ^ (n - 1) ≤ B := by
  obtain ⟨hlt, ht⟩ := List.getElem?_eq_some_iff.1 ht
  have hts := Num.small_at (Num.limbs_small B) hlt
  have hne : Num.limbs B ≠ [] := fun e => by rw [e] at hl; simp at hl; omega
  have h0 : t ≠ 0 := by
    have := Num.limbs_tidy B hne
    rw [List.getLast_eq_getElem] at this
    rw [← ht]
    simpa [hl] using this
  rw [ht] at hts
  have hb2 := lt_bits t (by omega)
  have hb32 := Lib.bitLen_le t 32 (by omega) (by omega)
  have hbp : 1 ≤ Lib.bitLen t := by rw [Lib.bitLen_half _ h0 (by omega)]; omega
  have hp31 : 2 ^ (32 - Lib.bitLen t) ≤ 2 ^ 31 := Nat.pow_le_pow_right (by decide) (by omega)
  refine ⟨2 ^ (32 - Lib.bitLen t), ?_, Nat.pow_pos (by decide), by omega, ?_, ?_⟩
  · refine (shift_shl_u32 (x := 1) (yk := .i64) (y := 32 - ((Lib.bitLen t : Nat) : Int)) (by omega) (by omega)).trans ?_
    rw [IntKind.wrap_u32]
    rw [show (32 - ((Lib.bitLen t : Nat) : Int)).toNat = 32 - Lib.bitLen t by omega]
    have e : (1 : Int) * 2 ^ (32 - Lib.bitLen t) = ((2 ^ (32 - Lib.bitLen t) : Nat) : Int) := by push_cast; omega
    rw [e]
    generalize 2 ^ (32 - Lib.bitLen t) = s at *
    rw [show (s : Int) % 4294967296 = s by omega]
  · refine Num.scale_fit (t := t) ?_ hn hb2 hb32 rfl
    have e := Num.nat_take_drop (Num.limbs B) (n - 1) (by omega)
    rw [Num.nat_limbs, Num.nat_drop _ _ hlt, ht, List.drop_eq_nil_of_le (by omega)] at e
    have h2 := Num.nat_lt (Num.small_take (Num.limbs_small B) (n - 1))
    rw [List.length_take, Nat.min_eq_left (by omega)] at h2
    rw [show Num.nat [] = 0 from rfl] at e
    rw [Nat.add_mul, Nat.one_mul, Nat.mul_comm t]
    rw [show t + 4294967296 * 0 = t by omega] at e
    omega
  · have := Num.top_le hlt
    rw [ht, Num.nat_limbs] at this
    have h3 : 1 * 4294967296 ^ (n - 1) ≤ t * 4294967296 ^ (n - 1) := Nat.mul_le_mul_right _ (by omega)
    omega
theorem guess_facts {pl dl : List Nat} {n : Nat} (hn : 1 ≤ n) (hp : pl.length = n + 1) (hd : dl.length = n) (sp : Num.Small pl) (sd : Num.Small dl) (hlow : 4294967296 ^ (n - 1) ≤ Num.nat dl) (hP : Num.nat pl < 4294967296 * Num.nat dl) :
    ∃ t p q g, dl[n - 1]? = some t ∧ pl[n]? = some p ∧ pl[n - 1]? = some q ∧ t ≠ 0 ∧ min ((p * 4294967296 + q) / t) 4294967295 = g ∧ g < 4294967296 ∧ Num.nat pl / Num.nat dl ≤ g := by
  obtain ⟨k, rfl⟩ : ∃ k, n = k + 1 := ⟨n - 1, by omega⟩
  rw [Nat.add_sub_cancel] at *
  have h1 : k < dl.length := by omega
  have h2 : k + 1 < pl.length := by omega
  have h3 : k < pl.length := by omega
  have hD0 : 0 < Num.nat dl := Nat.lt_of_lt_of_le (Num.pow_pos' k) hlow
  have ht : dl[k] ≠ 0 := by
    intro e
    have e2 := Num.nat_take_drop dl k (by omega)
    rw [Num.nat_drop dl k h1, e, List.drop_eq_nil_of_le (by omega)] at e2
    have h4 := Num.nat_lt (Num.small_take sd k)
    rw [List.length_take, Nat.min_eq_left (by omega)] at h4
    simp [Num.nat] at e2
    omega
  refine ⟨dl[k], pl[k + 1], pl[k], _, by simp [h1], by simp [h2], by simp [h3], ht, rfl, by omega, ?_⟩
  have h5 : Num.nat pl / Num.nat dl ≤ (pl[k + 1] * 4294967296 + pl[k]) / dl[k] := Num.guess_ge (Num.pow_pos' k) (by omega) (Num.ends_up sp (by omega) h3 h2) (Num.top_le h1)
  have h6 : Num.nat pl / Num.nat dl < 4294967296 := by rw [Nat.div_lt_iff_lt_mul hD0]; exact hP
  exact Nat.le_min.2 ⟨h5, by omega⟩
theorem sofar_first {pl zs Z : List Nat} {n c P E : Nat} (h : Sofar true pl zs Z (n + 1) c) (hp : pl.length = n + 1) (hz : zs.length = n + 1) (hP : Num.nat pl = P) (hE : Num.nat zs = E) :
    Z.length = n + 1 ∧ Num.Small Z ∧ Num.nat Z + E = P + 4294967296 ^ (n + 1) * (1 - c) := by
  obtain ⟨h1, h2, h3, h4⟩ := h
  refine ⟨h1, h2, ?_⟩
  rw [if_pos rfl, List.take_of_length_le (by omega), List.take_of_length_le (by omega), hP, hE] at h4
  generalize 4294967296 ^ (n + 1) = M at *
  rcases zero_or_one h3 with rfl | rfl
  · rw [Nat.mul_zero] at h4; rw [Nat.sub_zero, Nat.mul_one]; omega
  · rw [Nat.mul_one] at h4; rw [Nat.sub_self, Nat.mul_zero]; omega
theorem sofar_back {Z ds Z' : List Nat} {n c z D : Nat} (h : Sofar false Z ds Z' (n + 1) c) (hp : Z.length = n + 1) (hz : ds.length = n) (hP : Num.nat Z = z) (hE : Num.nat ds = D) :
    Z'.length = n + 1 ∧ Num.Small Z' ∧ c ≤ 1 ∧ Num.nat Z' + 4294967296 ^ (n + 1) * c = z + D := by
  obtain ⟨h1, h2, h3, h4⟩ := h
  refine ⟨h1, h2, h3, ?_⟩
  rw [if_neg (by simp), List.take_of_length_le (by omega), List.take_of_length_le (by omega), hP, hE] at h4
  exact h4
theorem mid_drop {R Z : List Nat} {j l : Nat} (hz : Z.length = l) (hl : j + l ≤ R.length) : ((R.take j ++ Z ++ R.drop (j + l)).drop j).take l = Z := by
  have hk : (R.take j).length = j := by rw [List.length_take]; omega
  rw [List.append_assoc, List.drop_append_of_le_length (by omega), List.drop_eq_nil_of_le (by omega), List.nil_append, List.take_append_of_le_length (by omega), List.take_of_length_le (by omega)]
theorem mid_again {R Z Z' : List Nat} {j l : Nat} (hz : Z.length = l) (hl : j + l ≤ R.length) : (R.take j ++ Z ++ R.drop (j + l)).take j ++ Z' ++ (R.take j ++ Z ++ R.drop (j + l)).drop (j + l) = R.take j ++ Z' ++ R.drop (j + l) := by
  have hk : (R.take j).length = j := by rw [List.length_take]; omega
  have e1 : (R.take j ++ Z ++ R.drop (j + l)).take j = R.take j := by
    rw [List.append_assoc, List.take_append_of_le_length (by omega), List.take_of_length_le (by omega)]
  have e2 : (R.take j ++ Z ++ R.drop (j + l)).drop (j + l) = R.drop (j + l) := by
    rw [List.drop_append_of_le_length (by rw [List.length_append]; omega), List.drop_eq_nil_of_le (by rw [List.length_append]; omega), List.nil_append]
  rw [e1, e2]
theorem one_less {c : Nat} (h : c ≤ 1) : Value.int .u32 (1 - (c : Int)) = .int .u32 ((1 - c : Nat) : Int) := by
  rcases zero_or_one h with rfl | rfl <;> rfl
theorem short_exact {s r q R : Nat} (h : R * s = q * s + r) (hr : r < s) : q = R := by
  have h1 : (q * s + r) / s = q := by rw [Nat.mul_comm, Nat.mul_add_div (by omega), Nat.div_eq_of_lt hr]; omega
  rw [← h, Nat.mul_div_cancel _ (by omega)] at h1
  exact h1.symm
/-- the list that is divided, and the divisor, each times the scale -/
def LCut (w wc : World) (g1 g2 la n A B s : Nat) (rs ds : List Nat) : Prop :=
  g1 ≠ g2 ∧ w.heap.size ≤ g1 ∧ w.heap.size ≤ g2 ∧ Blk wc g1 rs ∧ Blk wc g2 ds ∧ rs.length = la + 1 ∧ ds.length = n + 1 ∧ Num.nat rs = A * s ∧ Num.nat ds = B * s ∧ Below w.heap.size w wc

set_option maxHeartbeats 4000000 in
set_option maxRecDepth 20000 in
theorem longI (a b : Option Addr) (la n m ca cb A B : Nat) (w : World) (ha : Seg w a la ca (Num.limbs A)) (hb : Seg w b n cb (Num.limbs B)) (hn2 : 2 ≤ n) (hm : m + n = la + 1) (hm1 : 1 ≤ m) (hla : la ≤ 400000) :
    Calls Try.prog 94 #[.slice a la ca, .slice b n cb] w fun e w' => ∃ (g1 g2 : Nat) (qs rs : List Nat), e = .returned (.tuple #[.slice (some ⟨g1, 0, none⟩) m m, .slice (some ⟨g2, 0, none⟩) n n]) ∧ g1 ≠ g2 ∧ Own w' w.heap.size (some ⟨g1, 0, none⟩) m m qs ∧ Own w' w.heap.size (some ⟨g2, 0, none⟩) n n rs ∧ Num.nat qs = A / B ∧ Num.nat rs = A % B ∧ Below w.heap.size w w' := by
  obtain ⟨i0, hi, hz0, hz1, hz2⟩ := info_parts Try.info56
  have hca := ha.2.1
  have hcm := ha.2.2.1
  have hcb := hb.2.1
  have hcbm := hb.2.2.1
  have hbl := hb.1
  obtain ⟨gb, ob, rfl, hgb, hcell⟩ := seg_cell hb (n - 1) (by omega)
  obtain ⟨t, ht⟩ : ∃ t, (Num.limbs B)[n - 1]'(by omega) = t := ⟨_, rfl⟩
  have hts := Num.small_at hb.2.2.2.1 (show n - 1 < (Num.limbs B).length by omega)
  rw [ht] at hcell hts
  have HA := hide ha
  have HB := hide hb
  have HT : Hid ((Num.limbs B)[n - 1]? = some t) := hide (List.getElem?_eq_some_iff.2 ⟨by omega, ht⟩)
  clear ha hb ht
  have HBL := hide hbl
  clear hbl
  obtain ⟨s, hsh, hs0, hs1, hfit, hlow⟩ := scale_of B n t HBL.out (by omega) HT.out
  have HFIT := hide hfit
  have HLOW := hide hlow
  have HSH := hide hsh
  have hn0 : (0 : Int) ≤ (n : Int) := by omega
  have hn1 : (n : Int) ≤ (n : Int) + 1 := by omega
  clear hfit hlow
  go_enter Try.func94, Try.ntmps94
  go_upto_region 3 with (go_at_call 99; refine (Try.bits_LeadingZeros32 (t : Int) _ (by omega) (by omega)).mono ?_; rintro e w1 ⟨rfl, hw⟩; subst w1)
  clear hsh
  go_region_held3 (fun w' => Hid (Below w.heap.size w w'))
    (first | exact hide ((bl_refl w).drew) | exact hide bA | exact hide bB)
    (first
      | (go_at_call_of 100 (Value.slice a la ca); refine (tlimbI a la ca s (Num.limbs A) _ (HA.out.below (Hid.out (by assumption))) (by omega) hs1).mono ?_; rintro e wA ⟨rs, rfl, hBA, hlA, hvA, hbA⟩; have bA : Below w.heap.size w wA := bl_trans (Hid.out (by assumption)) hbA)
      | (go_at_call_of 100 (Value.slice (some ⟨gb, ob, none⟩) n cb); refine (tlimbI _ n cb s (Num.limbs B) _ (HB.out.below (Hid.out (by assumption))) (by omega) hs1).mono ?_; rintro e wB ⟨ds, rfl, hBB, hlB, hvB, hbB⟩; have bB : Below w.heap.size w wB := bl_trans (Hid.out (by assumption)) hbB))
  have hC : LCut w wB w.heap.size wA.heap.size la n A B s rs ds := by
    have e : w.drew.heap.size = w.heap.size := rfl
    rw [e] at hBA
    exact ⟨by have := hBA.lt; omega, Nat.le_refl _, bA.size, hBA.below hbB, hBB, hlA, hlB, by rw [hvA, Num.nat_limbs], by rw [hvB, Num.nat_limbs], bB⟩
  have HC := hide hC
  clear hC hBA hBB hlA hlB hvA hvB hbA bA hbB bB
  obtain ⟨g2, hg2⟩ : ∃ g2, g2 = wA.heap.size := ⟨_, rfl⟩
  rw [← hg2] at HC ⊢
  have hmI : (la : Int) - (n : Int) + 1 = (m : Int) := by omega
  clear hg2 hn1
  go_wp2_with (at_make; refine wpList_make_full _ rfl _ _ 24 rfl wB.heap.size 56 i0 (.int .u32 0) 1 Try.underlying24 hi hz0 hz1 _ _ _ _ m rfl rfl rfl rfl (by rw [hz2]; omega) (by unfold maxLen; omega) (Nat.le_refl _) ?_; intro w3 hown hgrow; have HZ3 := hide (HC.out.2.2.2.2.2.2.2.2.2.grown hgrow HC.out.2.2.2.2.2.2.2.2.2.size (by simp)); have B1 := hide (HC.out.2.2.2.1.kept hgrow (by simp)); have B2 := hide (HC.out.2.2.2.2.1.kept hgrow (by simp)); have B3 := hide (own_made2 hown).blk; clear hown hgrow)
  obtain ⟨c1, c2, c3, c4, c5, c6, c7, c8, c9, c10⟩ := HC.out
  have l1 := c4.lt
  have l2 := c5.lt
  have HST := hide (Num.lso_start (n := n) (m := m) c4.2 c6 hm c8 (by have := Num.limbs_len (n := A) (k := la); rw [HA.out.1] at this; exact this.1 (Nat.le_refl _)) HLOW.out (by omega) hs0)
  have HC8 := hide c8
  have HC9 := hide c9
  clear c4 c5 c6 c8 c9 c10 HC
  obtain ⟨g3, hg3⟩ : ∃ g3, g3 = wB.heap.size := ⟨_, rfl⟩
  rw [← hg3] at B3 l1 l2 ⊢
  clear hg3
  go_loopw [11, 12, 13, 14] (fun i _ _ _ wr => ∃ (k : Nat) (R Q : List Nat), k ≤ m ∧ i = .int .i64 ((k : Int) - 1) ∧ Hid (Num.LSo (A * s) (B * s) n m R Q k) ∧ Hid (Blk wr w.heap.size R) ∧ Hid (Blk wr g2 ds) ∧ Hid (Blk wr g3 Q) ∧ Hid (Below w.heap.size w wr)) (fun i _ _ _ _ => (intOf i + 1).toNat)
  case atStart => exact ⟨m, rs, List.replicate m 0, Nat.le_refl _, by go_num, HST, B1, B2, B3, HZ3⟩
  case round =>
    obtain ⟨k, R, Q, hk, rfl, hS, hB1, hB2, hB3, hZ⟩ := hrel
    by_cases h0 : k = 0
    · subst h0
      have hle1 : (n : Int) ≤ (la : Int) + 1 := by omega
      obtain ⟨e1, e2, e3⟩ := Num.lso_end hS.out hs0 (Nat.lt_of_lt_of_le (Num.pow_pos' (n - 1)) HLOW.out)
      have hR := hS.out.1
      have hQ := hS.out.2.1
      have HE1 := hide e1
      have HE2 : Hid (Num.nat (R.take n) = A % B * s) := hide (by rw [Num.take_all (by omega) (Nat.lt_trans e3 HFIT.out), e2])
      have HSEG := hide (hB1.out.seg 0 n (la + 1) (by omega) (by omega) (by omega))
      rw [List.drop_zero] at HSEG
      clear e1 e2 e3
      go_wp2_with fail
      refine (shortI (some ⟨w.heap.size, 0, none⟩) n (la + 1) s (R.take n) _ HSEG.out (by omega) hs0 hs1).mono ?_
      rintro e w7 ⟨qs7, r7, rfl, hD7, ho7, hb7⟩
      have l3 := hB3.out.lt
      have HO3 := hide ((hB3.out.below hb7).own (base := w.heap.size) (by omega) (by omega))
      rw [hQ] at HO3
      have HO7 := hide (ho7.mono (base' := w.heap.size) hZ.out.size)
      have HV : Hid (Num.nat qs7 = A % B) := hide (by
        obtain ⟨_, _, h3, h4⟩ := hD7
        rw [List.drop_zero, List.drop_zero, HE2.out] at h4
        exact short_exact h4 h3)
      have HZ7 := hide (bl_trans hZ.out hb7)
      have hgne : g3 ≠ wr.heap.size := by omega
      clear hD7 ho7 hb7
      go_wp2
      go_ret2
      exact ⟨g3, _, Q, qs7, rfl, hgne, HO3.out, HO7.out, HE1.out, HV.out, HZ7.out⟩
    · obtain ⟨j, rfl⟩ : ∃ j, k = j + 1 := ⟨k - 1, by omega⟩
      have ej : (((j + 1 : Nat) : Int) - 1) = (j : Int) := by omega
      rw [ej]
      have hj0 : (0 : Int) ≤ (j : Int) := by omega
      have hj1 : (j : Int) ≤ (j : Int) + (n : Int) + 1 := by omega
      have hj2 : (j : Int) + (n : Int) + 1 ≤ (la : Int) + 1 := by omega
      have hj3 : ¬ la + 1 = j := by omega
      have hjl : j + n + 1 - j = n + 1 := by omega
      have hR := hS.out.1
      have hRs := hS.out.2.2.1
      have hQ := hS.out.2.1
      have HDV : Hid (Num.nat ((ds.drop 0).take n) = B * s) := hide (by rw [List.drop_zero, Num.take_all (by omega) (by rw [HC9.out]; exact HFIT.out)]; exact HC9.out)
      have hdl : ((ds.drop 0).take n).length = n := by simp; omega
      have hpl : ((R.drop j).take (n + 1)).length = n + 1 := by simp; omega
      have HP1 := hide (Num.lso_part hS.out (by omega) HFIT.out).1
      have HDP : Hid (0 < B * s) := hide (Nat.mul_pos (Nat.lt_of_lt_of_le (Num.pow_pos' (n - 1)) HLOW.out) hs0)
      obtain ⟨t2, p2, q2, g, et, ep, eq, ht0, hg, hgs, hge⟩ := guess_facts (pl := (R.drop j).take (n + 1)) (dl := (ds.drop 0).take n) (by omega) hpl hdl (Num.small_take (Num.small_drop hRs j) _) (Num.small_take (Num.small_drop hB2.out.2 0) _) (by rw [HDV.out]; exact Nat.le_trans HLOW.out (Nat.le_mul_of_pos_right _ hs0)) (by rw [HDV.out]; exact HP1.out)
      rw [HDV.out] at hge
      have HGE := hide hge
      have HSP := hide (hB1.out.seg j (n + 1) (la + 1 - j) (by omega) (by omega) (by omega))
      have HSD := hide (hB2.out.seg 0 n (n + 1) (by omega) (by omega) (by omega))
      have HG := hide hg
      have HET := hide et
      have HEP := hide ep
      have HEQ := hide eq
      have HDL := hide hdl
      have HPL := hide hpl
      have HRL := hide hR
      have HQL := hide hQ
      clear hge hg et ep eq hdl hpl hR hQ
      go_wp2_with fail
      refine (guessI' (some ⟨w.heap.size, j, none⟩) (some ⟨g2, 0, none⟩) n (la + 1 - j) (n + 1) ((R.drop j).take (n + 1)) ((ds.drop 0).take n) _ HSP.out HSD.out (by omega) (by omega) t2 p2 q2 HET.out HEP.out HEQ.out ht0).mono ?_
      rintro e w4 ⟨rfl, m4, hw4⟩
      rw [HG.out]
      have hb4 : Below wr.heap.size wr w4 := by rw [hw4]; exact below_drewN (bl_refl wr) m4
      replace hB1 := hide (hB1.out.below hb4)
      replace hB2 := hide (hB2.out.below hb4)
      replace hB3 := hide (hB3.out.below hb4)
      replace hZ := hide (bl_trans hZ.out hb4)
      replace HSD := hide (HSD.out.below hb4)
      clear hw4 hb4 HSP HET HEP HEQ HG
      go_wp2_with fail
      refine (tlimbI (some ⟨g2, 0, none⟩) n (n + 1) g ((ds.drop 0).take n) _ HSD.out (by omega) hgs).mono ?_
      rintro e w5 ⟨zs, rfl, hBz, hlz, hvz, hb5⟩
      have m1 := hB1.out.lt
      have m2 := hB2.out.lt
      have m3 := hB3.out.lt
      replace hB1 := hide (hB1.out.below hb5)
      replace hB2 := hide (hB2.out.below hb5)
      replace hB3 := hide (hB3.out.below hb5)
      replace hZ := hide (bl_trans hZ.out hb5)
      rw [HDV.out] at hvz
      have hsz := hBz.seg 0 (n + 1) (n + 1) (by omega) (by omega) (by omega)
      rw [List.drop_zero, List.take_of_length_le (by omega)] at hsz
      have HSZ := hide hsz
      have HVZ := hide hvz
      have HLZ := hide hlz
      clear hb5 hBz hsz hvz hlz HSD
      generalize w4.heap.size = g4 at *
      go_wp2_with fail
      refine (addI true w.heap.size j (n + 1) (la + 1 - j) R (some ⟨g4, 0, none⟩) (n + 1) (n + 1) zs _ hB1.out (by rw [HRL.out]; omega) (by omega) (by omega) HSZ.out (fun _ gb ob s e => by cases e; omega)).mono ?_
      rintro e w6 ⟨Z, c, hSo, rfl, hB6, hg6⟩
      have hc1 := hSo.2.2.1
      have HF := hide (sofar_first hSo HPL.out HLZ.out rfl HVZ.out)
      replace hB2 := hide (hB2.out.kept hg6 (by simp; omega))
      replace hB3 := hide (hB3.out.kept hg6 (by simp; omega))
      replace hZ := hide (hZ.out.grown hg6 hZ.out.size (fun q e => by cases e; exact Nat.le_refl _))
      have HB6 := hide hB6
      clear hSo hB6 hg6 hB1 HSZ HVZ HLZ
      rw [if_pos rfl, one_less hc1]
      have HL1 : Hid (1 - c ≤ 1) := hide (by omega)
      generalize 1 - c = l at *
      have HLL : Hid (l ≤ 1) := HL1
      go_wp2_with fail
      go_loopw [13, 14] (fun gv lv wx => ∃ (g l : Nat) (Z : List Nat), gv = .int .u32 g ∧ lv = .int .u32 l ∧ l ≤ 1 ∧ g < 4294967296 ∧ Hid (Num.nat ((R.drop j).take (n + 1)) / (B * s) ≤ g) ∧ Hid (Z.length = n + 1 ∧ Num.Small Z ∧ Num.nat Z + B * s * g = Num.nat ((R.drop j).take (n + 1)) + 4294967296 ^ (n + 1) * l) ∧ Hid (Blk wx w.heap.size (R.take j ++ Z ++ R.drop (j + (n + 1)))) ∧ Hid (Blk wx g2 ds) ∧ Hid (Blk wx g3 Q) ∧ Hid (Below w.heap.size w wx)) (fun gv _ _ => (intOf gv).toNat)
      case atStart => exact ⟨g, l, Z, rfl, rfl, HLL.out, hgs, HGE, HF, HB6, hB2, hB3, hZ⟩
      case round =>
        clear hB2 hB3 hZ HB6 HF HGE hgs HLL HL1
        obtain ⟨g, l, Z, rfl, rfl, hl1, hgs, HGE, HF, HB6, hB2, hB3, hZ⟩ := hrel
        by_cases hl : l = 1
        · subst hl
          have hlt : Num.nat Z < 4294967296 ^ (n + 1) := by have := Num.nat_lt HF.out.2.1; rwa [HF.out.1] at this
          have HSD := hide (hB2.out.seg 0 n (n + 1) (by omega) (by omega) (by omega))
          have HBK := hide (fun Z' c (h : Sofar false Z ((ds.drop 0).take n) Z' (n + 1) c) => (let q := sofar_back h HF.out.1 HDL.out rfl HDV.out; (⟨q.1, q.2.1, q.2.2.1, Num.back_step HF.out.2.2 hlt rfl q.2.2.2 q.2.2.1⟩ : Z'.length = n + 1 ∧ Num.Small Z' ∧ c ≤ 1 ∧ _)))
          have HYL : Hid ((R.take j ++ Z ++ R.drop (j + (n + 1))).length = R.length) := hide (mid_len HF.out.1 (by rw [HRL.out]; omega))
          have hg1 : (1 : Int) ≤ (g : Int) := by
            have h := HF.out.2.2
            refine Classical.byContradiction fun hc => ?_
            obtain rfl : g = 0 := by omega
            rw [Nat.mul_zero, Nat.mul_one] at h
            omega
          clear hlt
          go_wp2_with fail
          refine (addI false w.heap.size j (n + 1) (la + 1 - j) (R.take j ++ Z ++ R.drop (j + (n + 1))) (some ⟨g2, 0, none⟩) n (n + 1) ((ds.drop 0).take n) _ HB6.out (by rw [HYL.out, HRL.out]; omega) (by omega) (by omega) HSD.out (fun _ gb ob s e => by cases e; omega)).mono ?_
          rintro e w8 ⟨Z', c, hSo, rfl, hB8, hg8⟩
          rw [mid_drop HF.out.1 (by rw [HRL.out]; omega)] at hSo
          rw [mid_again HF.out.1 (by rw [HRL.out]; omega)] at hB8
          obtain ⟨z1, z2, z3, z4, z5, z6⟩ := HBK.out Z' c hSo
          replace hB2 := hide (hB2.out.kept hg8 (by simp; omega))
          replace hB3 := hide (hB3.out.kept hg8 (by simp; omega))
          replace hZ := hide (hZ.out.grown hg8 hZ.out.size (fun q e => by cases e; exact Nat.le_refl _))
          replace HB6 := hide hB8
          have HGE2 : Hid (Num.nat ((R.drop j).take (n + 1)) / (B * s) ≤ g - 1) := hide (by omega)
          have HF2 := hide (And.intro z1 (And.intro z2 z6))
          have hc0 : (0 : Int) ≤ (c : Int) := by omega
          have hc1 : (c : Int) ≤ 1 := by omega
          clear hSo hB8 hg8 z4 z6 z1 z2 HF HGE HBK HSD HYL
          rw [if_neg (by simp)]
          go_wp2
          exact ⟨⟨g - 1, 1 - c, Z', by go_num, one_less z3, by omega, by omega, HGE2, HF2, HB6, hB2, hB3, hZ⟩, by simp [intOf]; omega⟩
        · obtain rfl : l = 0 := by omega
          have hend := Num.back_end (by have := HF.out.2.2; rw [Nat.mul_zero, Nat.add_zero] at this; exact this) HDP.out HGE.out
          have HLS := hide (Num.lso_step hS.out (by omega) HFIT.out HDP.out HF.out.2.1 HF.out.1 hend.2)
          rw [← hend.1] at HLS
          have hcl := hB3.out.cell j (by rw [HQL.out]; omega)
          have hfz := hB3.out.frozen j
          have HSB := hide (hB3.out.set j g hgs)
          obtain ⟨y, hy⟩ : ∃ y, Q[j]'(by rw [HQL.out]; omega) = y := ⟨_, rfl⟩
          rw [hy] at hcl
          have hjm : (j : Int) < (m : Int) := by omega
          replace HB6 := hide (HB6.out.kept HSB.out.2 (by simp; omega))
          replace hB2 := hide (hB2.out.kept HSB.out.2 (by simp; omega))
          clear hend hy HF HGE hS hB3
          go_wp2
          exact ⟨⟨j, _, _, by omega, by go_num, HLS, HB6, hB2, hide HSB.out.1, hide (hZ.out.setCell (p := ⟨g3, j, none⟩) (by dsimp only; omega) _)⟩, by simp [intOf]⟩
end Go.Proofs.Ythjapjbiclkhcaa
