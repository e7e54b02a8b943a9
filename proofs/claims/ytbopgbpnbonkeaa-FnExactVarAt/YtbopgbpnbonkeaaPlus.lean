/- The walks of l02Limb, l02Plus and l02Less: the sum and the difference of two lists of limbs, in new memory. -/
import Derived.Test.YtbopgbpnbonkeaaAddI
import Derived.Test.YtbopgbpnbonkeaaFrom
namespace Go.Proofs.Ytbopgbpnbonkeaa
open Go.RowKit
set_option linter.unusedVariables false

theorem limbS (a : Option Addr) (n cap : Nat) (xs : List Nat) (i : Nat) (w : World) (hs : Seg w a n cap xs) :
    Calls Try.prog 73 #[.slice a n cap, .int .i64 i] w fun e w' => e = .returned (.int .u64 (xs.getD i 0)) ∧ w' = w := by
  obtain rfl := hs.1
  have hn := Nat.le_trans hs.2.1 hs.2.2.1
  by_cases h : i < xs.length
  · have h' : (i : Int) < (xs.length : Int) := by omega
    obtain ⟨g, o, rfl, hg, hc⟩ := seg_cell hs i h
    have HE : Hid (xs.getD i 0 = xs[i]) := hide (by simp [h])
    have hx := Num.small_at hs.2.2.2.1 h
    clear hs
    generalize xs[i] = x at *
    go_enter Try.func73, Try.ntmps73
    go_wp2
    go_ret
    rw [HE.out]
    exact ⟨rfl, rfl⟩
  · have HE : Hid (xs.getD i 0 = 0) := hide (by simp [List.getD, List.getElem?_eq_none (Nat.le_of_not_lt h)])
    clear hs
    go_enter Try.func73, Try.ntmps73
    go_wp2
    go_ret
    rw [HE.out]
    exact ⟨rfl, rfl⟩
theorem getD_lt {xs : List Nat} (h : Num.Small xs) (k : Nat) : xs.getD k 0 < 4294967296 := by
  by_cases hk : k < xs.length
  · have : xs.getD k 0 = xs[k] := by simp [hk]
    rw [this]; exact Num.small_at h hk
  · have : xs.getD k 0 = 0 := by simp [List.getD, List.getElem?_eq_none (Nat.le_of_not_lt hk)]
    rw [this]; decide
theorem own_snoc {W : World} {base k : Nat} {a' : Option Addr} {c' x : Nat} {zs : List Nat} {v : Int} (hs : Num.Small zs) (hx : x < 4294967296) (hv : v = (x : Int)) (h : W.ownsRow base 68 1 (.slice a' (k + 1) c') (k + 1) (zs.map lim ++ [.int .u32 v])) : Own W base a' (k + 1) c' (zs ++ [x]) := by
  subst hv
  refine ⟨?_, Num.small_append hs (by intro y hy; simp at hy; omega)⟩
  rw [List.map_append]; exact h

theorem less_val {xs ys zs : List Nat} {c : Nat} (h : Sofar true xs ys zs xs.length c) (hl : ys.length ≤ xs.length) (hle : Num.nat ys ≤ Num.nat xs) : Num.nat zs = Num.nat xs - Num.nat ys := by
  obtain ⟨h1, h2, h3, h4⟩ := h
  rw [if_pos rfl, List.take_of_length_le hl, List.take_of_length_le (Nat.le_refl _)] at h4
  have hz := Num.nat_lt h2
  rw [h1] at hz
  generalize 4294967296 ^ xs.length = B at *
  have hc : c = 0 ∨ c = 1 := by clear h4; omega
  rcases hc with rfl | rfl
  · rw [Nat.mul_zero] at h4; omega
  · rw [Nat.mul_one] at h4; omega
theorem plus_val {xs ys zs : List Nat} {k c : Nat} (h : Sofar false xs ys zs k c) (hx : xs.length ≤ k) (hy : ys.length ≤ k) : Num.nat (zs ++ [c]) = Num.nat xs + Num.nat ys := by
  obtain ⟨h1, h2, h3, h4⟩ := h
  rw [if_neg (by simp), List.take_of_length_le hx, List.take_of_length_le hy] at h4
  rw [Num.nat_append, h1, ← h4, show Num.nat [c] = c from by simp [Num.nat]]

set_option maxHeartbeats 4000000 in
set_option maxRecDepth 20000 in
theorem plusS (a b : Option Addr) (n m ca cb : Nat) (xs ys : List Nat) (w : World) (ha : Seg w a n ca xs) (hb : Seg w b m cb ys) (hn : n ≤ 1048576) (hm : m ≤ 1048576) :
    Calls Try.prog 61 #[.slice a n ca, .slice b m cb] w fun e w' => ∃ ao k co zs, e = .returned (.slice ao k co) ∧ Own w' w.heap.size ao k co zs ∧ k ≤ n + m + 1 ∧ Num.nat zs = Num.nat xs + Num.nat ys ∧ Below w.heap.size w w' := by
  obtain ⟨i0, hi, hz0, hz1, hz2⟩ := info_parts Try.info68
  obtain rfl := ha.1
  obtain rfl := hb.1
  have HA := hide ha
  have HB := hide hb
  clear ha hb
  go_enter Try.func61, Try.ntmps61
  go_wp2
  go_loopw [5, 6, 7, 8] (fun o cv i _ wr => ∃ (k c : Nat) (ao : Option Addr) (co : Nat) (zs : List Nat), k ≤ (max xs.length ys.length) ∧ i = .int .i64 k ∧ cv = .int .u64 c ∧ c ≤ 1 ∧ o = .slice ao k co ∧ Hid (Sofar false xs ys zs k c) ∧ Hid (Own wr w.heap.size ao k co zs) ∧ Hid (Below w.heap.size w wr)) (fun _ _ i _ _ => (max xs.length ys.length) - (intOf i).toNat)
  case atStart =>
    refine ⟨0, 0, some ⟨w.heap.size, 0, none⟩, 0, [], Nat.zero_le _, rfl, rfl, by omega, rfl, hide ⟨rfl, (fun x hx => by cases hx), by omega, by simp [Num.nat]⟩, hide ⟨?_, fun x hx => by cases hx⟩, hide (bl_alloc (bl_refl w) _)⟩
    exact World.ownsRow_lit w #[] 0 (Nat.le_refl _) (by unfold maxLen; omega) rfl
  case round =>
    obtain ⟨k, c, ao, co, zs, hk, rfl, rfl, hc, rfl, hS, hO, hBl⟩ := hrel
    have HA' := hide (HA.out.below hBl.out)
    have HB' := hide (HB.out.below hBl.out)
    have hbs := hBl.out.size
    by_cases hlt : k < (max xs.length ys.length)
    · by_cases hA : (k : Int) < (xs.length : Int)
      · have hA0 := hA
        have hx := getD_lt HA.out.2.2.2.1 k
        have hy := getD_lt HB.out.2.2.2.1 k
        obtain ⟨x, hxe⟩ : ∃ x, xs.getD k 0 = x := ⟨_, rfl⟩
        obtain ⟨y, hye⟩ : ∃ y, ys.getD k 0 = y := ⟨_, rfl⟩
        have HXE := hide hxe
        have HYE := hide hye
        rw [hxe] at hx
        rw [hye] at hy
        clear hxe hye
        have e32 := and32 ((x : Int) + y + c) (by omega) (by omega)
        have hown := hO.out
        have HS0 := hide (show Num.Small zs from hO.out.2)
        go_wp2_with (first
          | (go_at_call_of 73 (Value.slice a xs.length ca); refine (limbS a _ ca xs k _ HA'.out).mono ?_; rintro e w3 ⟨rfl, hw3⟩; subst w3; rw [HXE.out])
          | (go_at_call_of 73 (Value.slice b ys.length cb); refine (limbS b _ cb ys k _ HB'.out).mono ?_; rintro e w3 ⟨rfl, hw3⟩; subst w3; rw [HYE.out])
          | (at_builtin; refine wpList_append_own _ rfl _ _ 32 rfl w.heap.size 68 i0 (.int .u32 0) 1 4 Try.underlying32 hi hz0 hz1 hz2 rfl (by decide) _ _ _ rfl (hown.1.alloc _) ⟨wr.heap.size, 0, none⟩ 1 1 [_] rfl rfl (cell_one_new _ _ _) (by simp [Value.oneCell']) (by unfold maxLen; omega) (by omega) (by simp only [World.size_alloc]; omega) ?_; intro v' w1 hown' hgrow' _; obtain ⟨a', c', rfl⟩ := row_val hown'; have hg2 := (show (wr.alloc _).grownBy w1 (Value.slice ao k co).ownBlock from hgrow'); clear hgrow'))
        refine ⟨⟨k + 1, (x + y + c) / 4294967296, a', c', zs ++ [(x + y + c) % 4294967296], by omega, by go_num, by go_num, by omega, rfl, hide (sofar_step hS.out HXE.out HYE.out hy (by omega) (by omega) (by rw [oth_false]; omega)), hide (own_snoc HS0.out (by omega) (by omega) hown'), hide ((bl_alloc hBl.out _).grown hg2 (by simp only [World.size_alloc]; omega) (fun j e => (hO.out.1.lt j e).1))⟩, by simp [intOf]; omega⟩
      · have hB : (k : Int) < (ys.length : Int) := by omega
        have hx := getD_lt HA.out.2.2.2.1 k
        have hy := getD_lt HB.out.2.2.2.1 k
        obtain ⟨x, hxe⟩ : ∃ x, xs.getD k 0 = x := ⟨_, rfl⟩
        obtain ⟨y, hye⟩ : ∃ y, ys.getD k 0 = y := ⟨_, rfl⟩
        have HXE := hide hxe
        have HYE := hide hye
        rw [hxe] at hx
        rw [hye] at hy
        clear hxe hye
        have e32 := and32 ((x : Int) + y + c) (by omega) (by omega)
        have hown := hO.out
        have HS0 := hide (show Num.Small zs from hO.out.2)
        go_wp2_with (first
          | (go_at_call_of 73 (Value.slice a xs.length ca); refine (limbS a _ ca xs k _ HA'.out).mono ?_; rintro e w3 ⟨rfl, hw3⟩; subst w3; rw [HXE.out])
          | (go_at_call_of 73 (Value.slice b ys.length cb); refine (limbS b _ cb ys k _ HB'.out).mono ?_; rintro e w3 ⟨rfl, hw3⟩; subst w3; rw [HYE.out])
          | (at_builtin; refine wpList_append_own _ rfl _ _ 32 rfl w.heap.size 68 i0 (.int .u32 0) 1 4 Try.underlying32 hi hz0 hz1 hz2 rfl (by decide) _ _ _ rfl (hown.1.alloc _) ⟨wr.heap.size, 0, none⟩ 1 1 [_] rfl rfl (cell_one_new _ _ _) (by simp [Value.oneCell']) (by unfold maxLen; omega) (by omega) (by simp only [World.size_alloc]; omega) ?_; intro v' w1 hown' hgrow' _; obtain ⟨a', c', rfl⟩ := row_val hown'; have hg2 := (show (wr.alloc _).grownBy w1 (Value.slice ao k co).ownBlock from hgrow'); clear hgrow'))
        refine ⟨⟨k + 1, (x + y + c) / 4294967296, a', c', zs ++ [(x + y + c) % 4294967296], by omega, by go_num, by go_num, by omega, rfl, hide (sofar_step hS.out HXE.out HYE.out hy (by omega) (by omega) (by rw [oth_false]; omega)), hide (own_snoc HS0.out (by omega) (by omega) hown'), hide ((bl_alloc hBl.out _).grown hg2 (by simp only [World.size_alloc]; omega) (fun j e => (hO.out.1.lt j e).1))⟩, by simp [intOf]; omega⟩
    · obtain rfl : k = (max xs.length ys.length) := by omega
      have hown := hO.out
      have HS0 := hide (show Num.Small zs from hO.out.2)
      obtain ⟨k, hke⟩ : ∃ k, k = max xs.length ys.length := ⟨_, rfl⟩
      have h1 : ¬ (k : Int) < (xs.length : Int) := by omega
      have h2 : ¬ (k : Int) < (ys.length : Int) := by omega
      have hk2 : k ≤ 1048576 := by omega
      have hk3 : k ≤ xs.length + ys.length := by omega
      have HKX : Hid (xs.length ≤ k ∧ ys.length ≤ k) := hide ⟨by omega, by omega⟩
      rw [← hke] at hown hS hO hlt hk ⊢
      clear hke
      go_wp2_with (at_builtin; refine wpList_append_own _ rfl _ _ 32 rfl w.heap.size 68 i0 (.int .u32 0) 1 4 Try.underlying32 hi hz0 hz1 hz2 rfl (by decide) _ _ _ rfl (hown.1.alloc _) ⟨wr.heap.size, 0, none⟩ 1 1 [_] rfl rfl (cell_one_new _ _ _) (by simp [Value.oneCell']) (by unfold maxLen; omega) (by omega) (by simp only [World.size_alloc]; omega) ?_; intro v' w1 hown' hgrow' _; obtain ⟨a', c', rfl⟩ := row_val hown'; have hg2 := (show (wr.alloc _).grownBy w1 (Value.slice ao k co).ownBlock from hgrow'); clear hgrow')
      go_ret
      exact ⟨a', k + 1, c', rfl, zs ++ [c], own_snoc HS0.out (by omega) (by omega) hown', by omega, plus_val hS.out HKX.out.1 HKX.out.2, (bl_alloc hBl.out _).grown hg2 (by simp only [World.size_alloc]; omega) (fun j e => (hO.out.1.lt j e).1)⟩

set_option maxHeartbeats 4000000 in
set_option maxRecDepth 20000 in
theorem lessS (a b : Option Addr) (n m ca cb : Nat) (xs ys : List Nat) (w : World) (ha : Seg w a n ca xs) (hb : Seg w b m cb ys) (hn : n ≤ 1048576) (hm : m ≤ 1048576) (hle : Num.nat ys ≤ Num.nat xs) (hml : m ≤ n) :
    Calls Try.prog 62 #[.slice a n ca, .slice b m cb] w fun e w' => ∃ ao k co zs, e = .returned (.slice ao k co) ∧ Own w' w.heap.size ao k co zs ∧ k ≤ n + m + 1 ∧ Num.nat zs = Num.nat xs - Num.nat ys ∧ Below w.heap.size w w' := by
  obtain ⟨i0, hi, hz0, hz1, hz2⟩ := info_parts Try.info68
  obtain rfl := ha.1
  obtain rfl := hb.1
  have HA := hide ha
  have HB := hide hb
  clear ha hb
  go_enter Try.func62, Try.ntmps62
  go_wp2
  go_loopw [5, 6, 7, 8] (fun o cv i _ wr => ∃ (k c : Nat) (ao : Option Addr) (co : Nat) (zs : List Nat), k ≤ xs.length ∧ i = .int .i64 k ∧ cv = .int .u64 (1 - (c : Int)) ∧ c ≤ 1 ∧ o = .slice ao k co ∧ Hid (Sofar true xs ys zs k c) ∧ Hid (Own wr w.heap.size ao k co zs) ∧ Hid (Below w.heap.size w wr)) (fun _ _ i _ _ => xs.length - (intOf i).toNat)
  case atStart =>
    refine ⟨0, 1, some ⟨w.heap.size, 0, none⟩, 0, [], Nat.zero_le _, rfl, rfl, by omega, rfl, hide ⟨rfl, (fun x hx => by cases hx), by omega, by simp [Num.nat]⟩, hide ⟨?_, fun x hx => by cases hx⟩, hide (bl_alloc (bl_refl w) _)⟩
    exact World.ownsRow_lit w #[] 0 (Nat.le_refl _) (by unfold maxLen; omega) rfl
  case round =>
    obtain ⟨k, c, ao, co, zs, hk, rfl, rfl, hc, rfl, hS, hO, hBl⟩ := hrel
    have HA' := hide (HA.out.below hBl.out)
    have HB' := hide (HB.out.below hBl.out)
    have hbs := hBl.out.size
    by_cases hlt : k < xs.length
    · have hcond : (k : Int) < (xs.length : Int) := by omega
      have hx := getD_lt HA.out.2.2.2.1 k
      have hy := getD_lt HB.out.2.2.2.1 k
      obtain ⟨x, hxe⟩ : ∃ x, xs.getD k 0 = x := ⟨_, rfl⟩
      obtain ⟨y, hye⟩ : ∃ y, ys.getD k 0 = y := ⟨_, rfl⟩
      have HXE := hide hxe
      have HYE := hide hye
      rw [hxe] at hx
      rw [hye] at hy
      clear hxe hye
      have e32 := and32 ((x : Int) + 4294967296 - y - (1 - (c : Int))) (by omega) (by omega)
      have hown := hO.out
      have HS0 := hide (show Num.Small zs from hO.out.2)
      go_wp2_with (first
        | (go_at_call_of 73 (Value.slice a xs.length ca); refine (limbS a _ ca xs k _ HA'.out).mono ?_; rintro e w3 ⟨rfl, hw3⟩; subst w3; rw [HXE.out])
        | (go_at_call_of 73 (Value.slice b ys.length cb); refine (limbS b _ cb ys k _ HB'.out).mono ?_; rintro e w3 ⟨rfl, hw3⟩; subst w3; rw [HYE.out])
        | (at_builtin; refine wpList_append_own _ rfl _ _ 32 rfl w.heap.size 68 i0 (.int .u32 0) 1 4 Try.underlying32 hi hz0 hz1 hz2 rfl (by decide) _ _ _ rfl (hown.1.alloc _) ⟨wr.heap.size, 0, none⟩ 1 1 [_] rfl rfl (cell_one_new _ _ _) (by simp [Value.oneCell']) (by unfold maxLen; omega) (by omega) (by simp only [World.size_alloc]; omega) ?_; intro v' w1 hown' hgrow' _; obtain ⟨a', c', rfl⟩ := row_val hown'; have hg2 := (show (wr.alloc _).grownBy w1 (Value.slice ao k co).ownBlock from hgrow'); clear hgrow'))
      refine ⟨⟨k + 1, (x + 4294967295 - y + c) / 4294967296, a', c', zs ++ [(x + 4294967295 - y + c) % 4294967296], by omega, by go_num, by go_num, by omega, rfl, hide (sofar_step hS.out HXE.out HYE.out hy (by omega) (by omega) (by rw [oth_true]; omega)), hide (own_snoc HS0.out (by omega) (by omega) hown'), hide ((bl_alloc hBl.out _).grown hg2 (by simp only [World.size_alloc]; omega) (fun j e => (hO.out.1.lt j e).1))⟩, by simp [intOf]; omega⟩
    · obtain rfl : k = xs.length := by omega
      go_wp2
      go_ret
      exact ⟨ao, _, co, zs, rfl, hO.out, by omega, less_val hS.out hml hle, hBl.out⟩

end Go.Proofs.Ytbopgbpnbonkeaa
