/- My texts Plus, CmpB, in this order. -/
import Derived.Test.YthjapjbiclkhcaaPk04
import Derived.Test.YthjapjbiclkhcaaPk07
/- The walks of l02Limb, l02Plus and l02Less: the sum and the difference of two lists of limbs, in new memory. -/
namespace Go.Proofs.Ythjapjbiclkhcaa
open Go.RowKit
set_option linter.unusedVariables false

theorem limbS (a : Option Addr) (n cap : Nat) (xs : List Nat) (i : Nat) (w : World) (hs : Seg w a n cap xs) :
    Calls Try.prog 81 #[.slice a n cap, .int .i64 i] w fun e w' => e = .returned (.int .u64 (xs.getD i 0)) ∧ w' = w := by
  obtain rfl := hs.1
  have hn := Nat.le_trans hs.2.1 hs.2.2.1
  by_cases h : i < xs.length
  · have h' : (i : Int) < (xs.length : Int) := by omega
    obtain ⟨g, o, rfl, hg, hc⟩ := seg_cell hs i h
    have HE : Hid (xs.getD i 0 = xs[i]) := hide (by simp [h])
    have hx := Num.small_at hs.2.2.2.1 h
    clear hs
    generalize xs[i] = x at *
    go_enter Try.func81, Try.ntmps81
    go_wp2
    go_ret
    rw [HE.out]
    exact ⟨rfl, rfl⟩
  · have HE : Hid (xs.getD i 0 = 0) := hide (by simp [List.getD, List.getElem?_eq_none (Nat.le_of_not_lt h)])
    clear hs
    go_enter Try.func81, Try.ntmps81
    go_wp2
    go_ret
    rw [HE.out]
    exact ⟨rfl, rfl⟩
theorem getD_lt {xs : List Nat} (h : Num.Small xs) (k : Nat) : xs.getD k 0 < 4294967296 := by
  by_cases hk : k < xs.length
  · have : xs.getD k 0 = xs[k] := by simp [hk]
    rw [this]; exact Num.small_at h hk
  · have : xs.getD k 0 = 0 := by simp [List.getD, List.getElem?_eq_none (Nat.le_of_not_lt hk)]
    rw [this]; decide
theorem own_snoc {W : World} {base k : Nat} {a' : Option Addr} {c' x : Nat} {zs : List Nat} {v : Int} (hs : Num.Small zs) (hx : x < 4294967296) (hv : v = (x : Int)) (h : W.ownsRow base 56 1 (.slice a' (k + 1) c') (k + 1) (zs.map lim ++ [.int .u32 v])) : Own W base a' (k + 1) c' (zs ++ [x]) := by
  subst hv
  refine ⟨?_, Num.small_append hs (by intro y hy; simp at hy; omega)⟩
  rw [List.map_append]; exact h

theorem less_val {xs ys zs : List Nat} {c : Nat} (h : Sofar true xs ys zs xs.length c) (hl : ys.length ≤ xs.length) (hle : Num.nat ys ≤ Num.nat xs) : Num.nat zs = Num.nat xs - Num.nat ys := by
  obtain ⟨h1, h2, h3, h4⟩ := h
  rw [if_pos rfl, List.take_of_length_le hl, List.take_of_length_le (Nat.le_refl _)] at h4
  have hz := Num.nat_lt h2
  rw [h1] at hz
  generalize 4294967296 ^ xs.length = B at *
  have hc : c = 0 ∨ c = 1 := by clear h4; omega
  rcases hc with rfl | rfl
  · rw [Nat.mul_zero] at h4; omega
  · rw [Nat.mul_one] at h4; omega
theorem plus_val {xs ys zs : List Nat} {k c : Nat} (h : Sofar false xs ys zs k c) (hx : xs.length ≤ k) (hy : ys.length ≤ k) : Num.nat (zs ++ [c]) = Num.nat xs + Num.nat ys := by
  obtain ⟨h1, h2, h3, h4⟩ := h
  rw [if_neg (by simp), List.take_of_length_le hx, List.take_of_length_le hy] at h4
  rw [Num.nat_append, h1, ← h4, show Num.nat [c] = c from by simp [Num.nat]]

set_option maxHeartbeats 4000000 in
set_option maxRecDepth 20000 in
theorem plusS (a b : Option Addr) (n m ca cb : Nat) (xs ys : List Nat) (w : World) (ha : Seg w a n ca xs) (hb : Seg w b m cb ys) (hn : n ≤ 1048576) (hm : m ≤ 1048576) :
    Calls Try.prog 54 #[.slice a n ca, .slice b m cb] w fun e w' => ∃ ao k co zs, e = .returned (.slice ao k co) ∧ Own w' w.heap.size ao k co zs ∧ k ≤ n + m + 1 ∧ Num.nat zs = Num.nat xs + Num.nat ys ∧ Below w.heap.size w w' := by
  obtain ⟨i0, hi, hz0, hz1, hz2⟩ := info_parts Try.info56
  obtain rfl := ha.1
  obtain rfl := hb.1
  have HA := hide ha
  have HB := hide hb
  clear ha hb
  go_enter Try.func54, Try.ntmps54
  go_wp2
  go_loopw [5, 6, 7, 8] (fun o cv i _ wr => ∃ (k c : Nat) (ao : Option Addr) (co : Nat) (zs : List Nat), k ≤ (max xs.length ys.length) ∧ i = .int .i64 k ∧ cv = .int .u64 c ∧ c ≤ 1 ∧ o = .slice ao k co ∧ Hid (Sofar false xs ys zs k c) ∧ Hid (Own wr w.heap.size ao k co zs) ∧ Hid (Below w.heap.size w wr)) (fun _ _ i _ _ => (max xs.length ys.length) - (intOf i).toNat)
  case atStart =>
    refine ⟨0, 0, some ⟨w.heap.size, 0, none⟩, 0, [], Nat.zero_le _, rfl, rfl, by omega, rfl, hide ⟨rfl, (fun x hx => by cases hx), by omega, by simp [Num.nat]⟩, hide ⟨?_, fun x hx => by cases hx⟩, hide (bl_alloc (bl_refl w) _)⟩
    exact World.ownsRow_lit w #[] 0 (Nat.le_refl _) (by unfold maxLen; omega) rfl
  case round =>
    obtain ⟨k, c, ao, co, zs, hk, rfl, rfl, hc, rfl, hS, hO, hBl⟩ := hrel
    have HA' := hide (HA.out.below hBl.out)
    have HB' := hide (HB.out.below hBl.out)
    have hbs := hBl.out.size
    by_cases hlt : k < (max xs.length ys.length)
    · by_cases hA : (k : Int) < (xs.length : Int)
      · have hA0 := hA
        have hx := getD_lt HA.out.2.2.2.1 k
        have hy := getD_lt HB.out.2.2.2.1 k
        obtain ⟨x, hxe⟩ : ∃ x, xs.getD k 0 = x := ⟨_, rfl⟩
        obtain ⟨y, hye⟩ : ∃ y, ys.getD k 0 = y := ⟨_, rfl⟩
        have HXE := hide hxe
        have HYE := hide hye
        rw [hxe] at hx
        rw [hye] at hy
        clear hxe hye
        have e32 := and32 ((x : Int) + y + c) (by omega) (by omega)
        have hown := hO.out
        have HS0 := hide (show Num.Small zs from hO.out.2)
        go_wp2_with (first
          | (go_at_call_of 81 (Value.slice a xs.length ca); refine (limbS a _ ca xs k _ HA'.out).mono ?_; rintro e w3 ⟨rfl, hw3⟩; subst w3; rw [HXE.out])
          | (go_at_call_of 81 (Value.slice b ys.length cb); refine (limbS b _ cb ys k _ HB'.out).mono ?_; rintro e w3 ⟨rfl, hw3⟩; subst w3; rw [HYE.out])
          | (at_builtin; refine wpList_append_own _ rfl _ _ 24 rfl w.heap.size 56 i0 (.int .u32 0) 1 4 Try.underlying24 hi hz0 hz1 hz2 rfl (by decide) _ _ _ rfl (hown.1.alloc _) ⟨wr.heap.size, 0, none⟩ 1 1 [_] rfl rfl (cell_one_new _ _ _) (by simp [Value.oneCell']) (by unfold maxLen; omega) (by omega) (by simp only [World.size_alloc]; omega) ?_; intro v' w1 hown' hgrow' _; obtain ⟨a', c', rfl⟩ := row_val hown'; have hg2 := (show (wr.alloc _).grownBy w1 (Value.slice ao k co).ownBlock from hgrow'); clear hgrow'))
        refine ⟨⟨k + 1, (x + y + c) / 4294967296, a', c', zs ++ [(x + y + c) % 4294967296], by omega, by go_num, by go_num, by omega, rfl, hide (sofar_step hS.out HXE.out HYE.out hy (by omega) (by omega) (by rw [oth_false]; omega)), hide (own_snoc HS0.out (by omega) (by omega) hown'), hide ((bl_alloc hBl.out _).grown hg2 (by simp only [World.size_alloc]; omega) (fun j e => (hO.out.1.lt j e).1))⟩, by simp [intOf]; omega⟩
      · have hB : (k : Int) < (ys.length : Int) := by omega
        have hx := getD_lt HA.out.2.2.2.1 k
        have hy := getD_lt HB.out.2.2.2.1 k
        obtain ⟨x, hxe⟩ : ∃ x, xs.getD k 0 = x := ⟨_, rfl⟩
        obtain ⟨y, hye⟩ : ∃ y, ys.getD k 0 = y := ⟨_, rfl⟩
        have HXE := hide hxe
        have HYE := hide hye
        rw [hxe] at hx
        rw [hye] at hy
        clear hxe hye
        have e32 := and32 ((x : Int) + y + c) (by omega) (by omega)
        have hown := hO.out
        have HS0 := hide (show Num.Small zs from hO.out.2)
        go_wp2_with (first
          | (go_at_call_of 81 (Value.slice a xs.length ca); refine (limbS a _ ca xs k _ HA'.out).mono ?_; rintro e w3 ⟨rfl, hw3⟩; subst w3; rw [HXE.out])
          | (go_at_call_of 81 (Value.slice b ys.length cb); refine (limbS b _ cb ys k _ HB'.out).mono ?_; rintro e w3 ⟨rfl, hw3⟩; subst w3; rw [HYE.out])
          | (at_builtin; refine wpList_append_own _ rfl _ _ 24 rfl w.heap.size 56 i0 (.int .u32 0) 1 4 Try.underlying24 hi hz0 hz1 hz2 rfl (by decide) _ _ _ rfl (hown.1.alloc _) ⟨wr.heap.size, 0, none⟩ 1 1 [_] rfl rfl (cell_one_new _ _ _) (by simp [Value.oneCell']) (by unfold maxLen; omega) (by omega) (by simp only [World.size_alloc]; omega) ?_; intro v' w1 hown' hgrow' _; obtain ⟨a', c', rfl⟩ := row_val hown'; have hg2 := (show (wr.alloc _).grownBy w1 (Value.slice ao k co).ownBlock from hgrow'); clear hgrow'))
        refine ⟨⟨k + 1, (x + y + c) / 4294967296, a', c', zs ++ [(x + y + c) % 4294967296], by omega, by go_num, by go_num, by omega, rfl, hide (sofar_step hS.out HXE.out HYE.out hy (by omega) (by omega) (by rw [oth_false]; omega)), hide (own_snoc HS0.out (by omega) (by omega) hown'), hide ((bl_alloc hBl.out _).grown hg2 (by simp only [World.size_alloc]; omega) (fun j e => (hO.out.1.lt j e).1))⟩, by simp [intOf]; omega⟩
    · obtain rfl : k = (max xs.length ys.length) := by omega
      have hown := hO.out
      have HS0 := hide (show Num.Small zs from hO.out.2)
      obtain ⟨k, hke⟩ : ∃ k, k = max xs.length ys.length := ⟨_, rfl⟩
      have h1 : ¬ (k : Int) < (xs.length : Int) := by omega
      have h2 : ¬ (k : Int) < (ys.length : Int) := by omega
      have hk2 : k ≤ 1048576 := by omega
      have hk3 : k ≤ xs.length + ys.length := by omega
      have HKX : Hid (xs.length ≤ k ∧ ys.length ≤ k) := hide ⟨by omega, by omega⟩
      rw [← hke] at hown hS hO hlt hk ⊢
      clear hke
      go_wp2_with (at_builtin; refine wpList_append_own _ rfl _ _ 24 rfl w.heap.size 56 i0 (.int .u32 0) 1 4 Try.underlying24 hi hz0 hz1 hz2 rfl (by decide) _ _ _ rfl (hown.1.alloc _) ⟨wr.heap.size, 0, none⟩ 1 1 [_] rfl rfl (cell_one_new _ _ _) (by simp [Value.oneCell']) (by unfold maxLen; omega) (by omega) (by simp only [World.size_alloc]; omega) ?_; intro v' w1 hown' hgrow' _; obtain ⟨a', c', rfl⟩ := row_val hown'; have hg2 := (show (wr.alloc _).grownBy w1 (Value.slice ao k co).ownBlock from hgrow'); clear hgrow')
      go_ret
      exact ⟨a', k + 1, c', rfl, zs ++ [c], own_snoc HS0.out (by omega) (by omega) hown', by omega, plus_val hS.out HKX.out.1 HKX.out.2, (bl_alloc hBl.out _).grown hg2 (by simp only [World.size_alloc]; omega) (fun j e => (hO.out.1.lt j e).1)⟩

set_option maxHeartbeats 4000000 in
set_option maxRecDepth 20000 in
theorem lessS (a b : Option Addr) (n m ca cb : Nat) (xs ys : List Nat) (w : World) (ha : Seg w a n ca xs) (hb : Seg w b m cb ys) (hn : n ≤ 1048576) (hm : m ≤ 1048576) (hle : Num.nat ys ≤ Num.nat xs) (hml : m ≤ n) :
    Calls Try.prog 56 #[.slice a n ca, .slice b m cb] w fun e w' => ∃ ao k co zs, e = .returned (.slice ao k co) ∧ Own w' w.heap.size ao k co zs ∧ k ≤ n + m + 1 ∧ Num.nat zs = Num.nat xs - Num.nat ys ∧ Below w.heap.size w w' := by
  obtain ⟨i0, hi, hz0, hz1, hz2⟩ := info_parts Try.info56
  obtain rfl := ha.1
  obtain rfl := hb.1
  have HA := hide ha
  have HB := hide hb
  clear ha hb
  go_enter Try.func56, Try.ntmps56
  go_wp2
  go_loopw [5, 6, 7, 8] (fun o cv i _ wr => ∃ (k c : Nat) (ao : Option Addr) (co : Nat) (zs : List Nat), k ≤ xs.length ∧ i = .int .i64 k ∧ cv = .int .u64 (1 - (c : Int)) ∧ c ≤ 1 ∧ o = .slice ao k co ∧ Hid (Sofar true xs ys zs k c) ∧ Hid (Own wr w.heap.size ao k co zs) ∧ Hid (Below w.heap.size w wr)) (fun _ _ i _ _ => xs.length - (intOf i).toNat)
  case atStart =>
    refine ⟨0, 1, some ⟨w.heap.size, 0, none⟩, 0, [], Nat.zero_le _, rfl, rfl, by omega, rfl, hide ⟨rfl, (fun x hx => by cases hx), by omega, by simp [Num.nat]⟩, hide ⟨?_, fun x hx => by cases hx⟩, hide (bl_alloc (bl_refl w) _)⟩
    exact World.ownsRow_lit w #[] 0 (Nat.le_refl _) (by unfold maxLen; omega) rfl
  case round =>
    obtain ⟨k, c, ao, co, zs, hk, rfl, rfl, hc, rfl, hS, hO, hBl⟩ := hrel
    have HA' := hide (HA.out.below hBl.out)
    have HB' := hide (HB.out.below hBl.out)
    have hbs := hBl.out.size
    by_cases hlt : k < xs.length
    · have hcond : (k : Int) < (xs.length : Int) := by omega
      have hx := getD_lt HA.out.2.2.2.1 k
      have hy := getD_lt HB.out.2.2.2.1 k
      obtain ⟨x, hxe⟩ : ∃ x, xs.getD k 0 = x := ⟨_, rfl⟩
      obtain ⟨y, hye⟩ : ∃ y, ys.getD k 0 = y := ⟨_, rfl⟩
      have HXE := hide hxe
      have HYE := hide hye
      rw [hxe] at hx
      rw [hye] at hy
      clear hxe hye
      have e32 := and32 ((x : Int) + 4294967296 - y - (1 - (c : Int))) (by omega) (by omega)
      have hown := hO.out
      have HS0 := hide (show Num.Small zs from hO.out.2)
      go_wp2_with (first
        | (go_at_call_of 81 (Value.slice a xs.length ca); refine (limbS a _ ca xs k _ HA'.out).mono ?_; rintro e w3 ⟨rfl, hw3⟩; subst w3; rw [HXE.out])
        | (go_at_call_of 81 (Value.slice b ys.length cb); refine (limbS b _ cb ys k _ HB'.out).mono ?_; rintro e w3 ⟨rfl, hw3⟩; subst w3; rw [HYE.out])
        | (at_builtin; refine wpList_append_own _ rfl _ _ 24 rfl w.heap.size 56 i0 (.int .u32 0) 1 4 Try.underlying24 hi hz0 hz1 hz2 rfl (by decide) _ _ _ rfl (hown.1.alloc _) ⟨wr.heap.size, 0, none⟩ 1 1 [_] rfl rfl (cell_one_new _ _ _) (by simp [Value.oneCell']) (by unfold maxLen; omega) (by omega) (by simp only [World.size_alloc]; omega) ?_; intro v' w1 hown' hgrow' _; obtain ⟨a', c', rfl⟩ := row_val hown'; have hg2 := (show (wr.alloc _).grownBy w1 (Value.slice ao k co).ownBlock from hgrow'); clear hgrow'))
      refine ⟨⟨k + 1, (x + 4294967295 - y + c) / 4294967296, a', c', zs ++ [(x + 4294967295 - y + c) % 4294967296], by omega, by go_num, by go_num, by omega, rfl, hide (sofar_step hS.out HXE.out HYE.out hy (by omega) (by omega) (by rw [oth_true]; omega)), hide (own_snoc HS0.out (by omega) (by omega) hown'), hide ((bl_alloc hBl.out _).grown hg2 (by simp only [World.size_alloc]; omega) (fun j e => (hO.out.1.lt j e).1))⟩, by simp [intOf]; omega⟩
    · obtain rfl : k = xs.length := by omega
      go_wp2
      go_ret
      exact ⟨ao, _, co, zs, rfl, hO.out, by omega, less_val hS.out hml hle, hBl.out⟩

end Go.Proofs.Ythjapjbiclkhcaa

/- The walks of what compares two numbers: l02Cmp, bigCompare, and what they call; nothing that was there turns. -/
namespace Go.Proofs.Ythjapjbiclkhcaa
open Go.RowKit
set_option linter.unusedVariables false

theorem noughtI (v : Value) (neg : Bool) (xs : List Nat) (w : World) (h : Raw w v neg xs) :
    Calls Try.prog 41 #[v] w fun e w' => e = .returned (.bool (decide (xs.length = 0))) ∧ Below w.heap.size w w' := by
  obtain ⟨a, cap, rfl, hs⟩ := h
  have hn := Nat.le_trans hs.2.1 hs.2.2.1
  clear hs
  by_cases h0 : xs.length = 0
  · rw [decide_eq_true h0]
    go_enter Try.func41, Try.ntmps41
    go_wp2
    go_ret
    exact ⟨rfl, bl_alloc (bl_refl w) _⟩
  · rw [decide_eq_false h0]
    go_enter Try.func41, Try.ntmps41
    go_wp2
    go_ret
    exact ⟨ret_bool (by rw [beq_eq_false_iff_ne]; omega), bl_alloc (bl_refl w) _⟩

theorem len_zero (z : Int) : decide ((lms z).length = 0) = decide (z = 0) := by
  by_cases h : z = 0
  · subst h; rw [show lms 0 = [] from Num.limbs_zero]; rfl
  · rw [decide_eq_false h, decide_eq_false]
    intro e; exact h (sgn_lms_nil e)

set_option maxHeartbeats 1000000 in
theorem signI (v : Value) (z : Int) (w : World) (h : Is w v z) :
    Calls Try.prog 62 #[v] w fun e w' => e = .returned (.int .i64 (Int.sign z)) ∧ Below w.heap.size w w' := by
  obtain ⟨a, cap, rfl, hs⟩ := h
  have HS := hide hs
  clear hs
  have HZ := hide (len_zero z)
  go_enter Try.func62, Try.ntmps62
  go_wp2_with fail
  refine (noughtI (.agg #[.bool (sgn z), .slice a (lms z).length cap]) (sgn z) (lms z) _ ⟨a, cap, rfl, HS.out.below (bl_alloc (bl_refl w) _)⟩).mono ?_
  rintro e w1 ⟨rfl, hb⟩
  rw [HZ.out]
  have HB := hide (bl_trans (bl_alloc (bl_refl w) _) hb)
  have k0 : w1.cell? ⟨w.heap.size, 0, none⟩ = some (.bool (sgn z)) := (hb.cell (p := ⟨w.heap.size, 0, none⟩) (by simp only [World.size_alloc]; omega)).trans (by go_simp)
  clear hb
  rcases Int.lt_trichotomy z 0 with h | h | h
  · have e1 : sgn z = true := decide_eq_true h
    have e2 : decide (z = 0) = false := decide_eq_false (by omega)
    rw [e1] at k0
    rw [e2]
    have HE := hide (Int.sign_eq_neg_one_of_neg h)
    go_wp2
    go_ret
    exact ⟨ret_int HE.out.symm, HB.out⟩
  · subst h
    go_wp2
    go_ret
    exact ⟨rfl, HB.out⟩
  · have e1 : sgn z = false := decide_eq_false (by omega)
    have e2 : decide (z = 0) = false := decide_eq_false (by omega)
    rw [e1] at k0
    rw [e2]
    have HE := hide (Int.sign_eq_one_of_pos h)
    go_wp2
    go_ret
    exact ⟨ret_int HE.out.symm, HB.out⟩

theorem cmp_flip (x y : Int) (hx : x < 0) (hy : y < 0) : cmpZ (y.natAbs : Int) (x.natAbs : Int) = cmpZ x y := by
  unfold cmpZ
  have h1 : (((y.natAbs : Nat) : Int) < ((x.natAbs : Nat) : Int)) ↔ x < y := by omega
  have h2 : (((x.natAbs : Nat) : Int) < ((y.natAbs : Nat) : Int)) ↔ y < x := by omega
  simp only [h1, h2]
theorem cmp_same (x y : Int) (hx : 0 ≤ x) (hy : 0 ≤ y) : cmpZ (x.natAbs : Int) (y.natAbs : Int) = cmpZ x y := by
  rw [show ((x.natAbs : Nat) : Int) = x by omega, show ((y.natAbs : Nat) : Int) = y by omega]
theorem below2 (w : World) (o1 o2 : Obj) : Below w.heap.size w ((w.alloc o1).alloc o2) := bl_alloc (bl_alloc (bl_refl w) _) _

theorem cmp_sign (x y : Int) (h : sgn x ≠ sgn y) : cmpZ (Int.sign x) (Int.sign y) = cmpZ x y := by
  unfold sgn at h
  by_cases hx : x < 0
  · have hy : 0 ≤ y := by
      refine Classical.byContradiction fun hc => h ?_
      rw [decide_eq_true hx, decide_eq_true (by omega)]
    rw [Int.sign_eq_neg_one_of_neg hx, cmp_lt (a := x) (b := y) (by omega)]
    refine cmp_lt ?_
    rcases Int.lt_or_eq_of_le hy with h' | h'
    · rw [Int.sign_eq_one_of_pos h']; decide
    · subst h'; decide
  · have hy : y < 0 := by
      refine Classical.byContradiction fun hc => h ?_
      rw [decide_eq_false hx, decide_eq_false hc]
    rw [Int.sign_eq_neg_one_of_neg hy, cmp_gt (a := x) (b := y) (by omega)]
    refine cmp_gt ?_
    rcases Int.lt_or_eq_of_le (Int.not_lt.1 hx) with h' | h'
    · rw [Int.sign_eq_one_of_pos h']; decide
    · subst h'; decide

set_option maxHeartbeats 1000000 in
set_option maxRecDepth 20000 in
theorem cmpBI (v1 v2 : Value) (x y : Int) (w : World) (h1 : Is w v1 x) (h2 : Is w v2 y) :
    Calls Try.prog 32 #[v1, v2] w fun e w' => e = .returned (.int .i64 (cmpZ x y)) ∧ Below w.heap.size w w' := by
  obtain ⟨a, ca, rfl, ha⟩ := h1
  obtain ⟨b, cb, rfl, hb⟩ := h2
  have HA := hide (fun o1 o2 => ha.below (below2 w o1 o2))
  have HB := hide (fun o1 o2 => hb.below (below2 w o1 o2))
  clear ha hb
  by_cases hs : sgn x = sgn y
  · by_cases hx : x < 0
    · have hy : y < 0 := by unfold sgn at hs; rw [decide_eq_true hx] at hs; exact of_decide_eq_true hs.symm
      have ex : sgn x = true := decide_eq_true hx
      have ey : sgn y = true := decide_eq_true hy
      have HE := hide (cmp_flip x y hx hy)
      clear hs
      rw [ex, ey]
      go_enter Try.func32, Try.ntmps32
      go_wp2_with fail
      refine (leastI y.natAbs x.natAbs b a _ _ cb ca _ (HB.out _ _) (HA.out _ _)).mono ?_
      rintro e w1 ⟨rfl, d, hw⟩
      subst w1
      go_wp2
      go_ret
      exact ⟨ret_int HE.out, below_drewN (below2 w _ _) d⟩
    · have hy : ¬ y < 0 := by unfold sgn at hs; rw [decide_eq_false hx] at hs; exact of_decide_eq_false hs.symm
      have ex : sgn x = false := decide_eq_false hx
      have ey : sgn y = false := decide_eq_false hy
      have HE := hide (cmp_same x y (by omega) (by omega))
      clear hs
      rw [ex, ey]
      go_enter Try.func32, Try.ntmps32
      go_wp2_with fail
      refine (leastI x.natAbs y.natAbs a b _ _ ca cb _ (HA.out _ _) (HB.out _ _)).mono ?_
      rintro e w1 ⟨rfl, d, hw⟩
      subst w1
      go_wp2
      go_ret
      exact ⟨ret_int HE.out, below_drewN (below2 w _ _) d⟩
  · have HE := hide (cmp_sign x y hs)
    have hne : (!sgn x == sgn y) = true := by
      cases h1 : sgn x <;> cases h2 : sgn y <;> first | rfl | exact absurd (h1.trans h2.symm) hs
    clear hs
    go_enter Try.func32, Try.ntmps32
    go_wp2_with fail
    have hB0 := below2 w (Obj.cells #[Value.bool (sgn x), Value.slice a (lms x).length ca] 26) (Obj.cells #[Value.bool (sgn y), Value.slice b (lms y).length cb] 26)
    have k0 : ((w.alloc (Obj.cells #[Value.bool (sgn x), Value.slice a (lms x).length ca] 26)).alloc (Obj.cells #[Value.bool (sgn y), Value.slice b (lms y).length cb] 26)).cell? ⟨w.heap.size, 0, none⟩ = some (.bool (sgn x)) := by go_simp
    have k1 : ((w.alloc (Obj.cells #[Value.bool (sgn x), Value.slice a (lms x).length ca] 26)).alloc (Obj.cells #[Value.bool (sgn y), Value.slice b (lms y).length cb] 26)).cell? ⟨w.heap.size, 1, none⟩ = some (.slice a (lms x).length ca) := by go_simp
    have k2 : ((w.alloc (Obj.cells #[Value.bool (sgn x), Value.slice a (lms x).length ca] 26)).alloc (Obj.cells #[Value.bool (sgn y), Value.slice b (lms y).length cb] 26)).cell? ⟨w.heap.size + 1, 0, none⟩ = some (.bool (sgn y)) := by go_simp
    have k3 : ((w.alloc (Obj.cells #[Value.bool (sgn x), Value.slice a (lms x).length ca] 26)).alloc (Obj.cells #[Value.bool (sgn y), Value.slice b (lms y).length cb] 26)).cell? ⟨w.heap.size + 1, 1, none⟩ = some (.slice b (lms y).length cb) := by go_simp
    have z1 : w.heap.size + 1 < ((w.alloc (Obj.cells #[Value.bool (sgn x), Value.slice a (lms x).length ca] 26)).alloc (Obj.cells #[Value.bool (sgn y), Value.slice b (lms y).length cb] 26)).heap.size := by simp only [World.size_alloc]; omega
    have ia : Is ((w.alloc (Obj.cells #[Value.bool (sgn x), Value.slice a (lms x).length ca] 26)).alloc (Obj.cells #[Value.bool (sgn y), Value.slice b (lms y).length cb] 26)) (.agg #[.bool (sgn x), .slice a (lms x).length ca]) x := ⟨a, ca, rfl, HA.out _ _⟩
    have ib : Is ((w.alloc (Obj.cells #[Value.bool (sgn x), Value.slice a (lms x).length ca] 26)).alloc (Obj.cells #[Value.bool (sgn y), Value.slice b (lms y).length cb] 26)) (.agg #[.bool (sgn y), .slice b (lms y).length cb]) y := ⟨b, cb, rfl, HB.out _ _⟩
    generalize (w.alloc (Obj.cells #[Value.bool (sgn x), Value.slice a (lms x).length ca] 26)).alloc (Obj.cells #[Value.bool (sgn y), Value.slice b (lms y).length cb] 26) = w1 at *
    have z0 : w.heap.size < w1.heap.size := by omega
    have HIA := hide ia
    have HIB := hide ib
    have HB0 := hide hB0
    clear ia ib hB0
    go_region_held3 (fun w' => w'.cell? ⟨w.heap.size, 0, none⟩ = some (.bool (sgn x)) ∧ w'.cell? ⟨w.heap.size, 1, none⟩ = some (.slice a (lms x).length ca) ∧ w'.cell? ⟨w.heap.size + 1, 0, none⟩ = some (.bool (sgn y)) ∧ w'.cell? ⟨w.heap.size + 1, 1, none⟩ = some (.slice b (lms y).length cb))
      (first
        | exact ⟨k0, k1, k2, k3⟩
        | exact ⟨(hb3.cell (p := ⟨w.heap.size, 0, none⟩) z0).trans k0, (hb3.cell (p := ⟨w.heap.size, 1, none⟩) z0).trans k1, (hb3.cell (p := ⟨w.heap.size + 1, 0, none⟩) z1).trans k2, (hb3.cell (p := ⟨w.heap.size + 1, 1, none⟩) z1).trans k3⟩
        | exact ⟨(hb2.cell (p := ⟨w.heap.size, 0, none⟩) z0).trans k0, (hb2.cell (p := ⟨w.heap.size, 1, none⟩) z0).trans k1, (hb2.cell (p := ⟨w.heap.size + 1, 0, none⟩) z1).trans k2, (hb2.cell (p := ⟨w.heap.size + 1, 1, none⟩) z1).trans k3⟩)
      (first
        | (go_at_call 61; refine (cmpI _ _ _).mono ?_; rintro e w4 ⟨rfl, hw4⟩; subst w4)
        | (go_at_call 62; refine (signI _ x _ (HIA.out.below (bl_refl w1).drew)).mono ?_; rintro e w2 ⟨rfl, hb2'⟩; have hb2 : Below w1.heap.size w1 w2 := (bl_refl w1).drew.trans hb2')
        | (go_at_call 62; refine (signI _ y _ (HIB.out.below hb2)).mono ?_; rintro e w3 ⟨rfl, hb3'⟩; have hb3 : Below w1.heap.size w1 w3 := bl_trans hb2 hb3'))
    have HB3 := hide (bl_trans HB0.out hb3)
    clear hb2 hb3 hb2' hb3'
    go_wp2
    go_ret
    exact ⟨ret_int HE.out, HB3.out⟩
end Go.Proofs.Ythjapjbiclkhcaa
