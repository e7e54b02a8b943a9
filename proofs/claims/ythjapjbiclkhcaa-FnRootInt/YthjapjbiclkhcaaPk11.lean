/- My texts ShortI, DivN, in this order. -/
import Derived.Test.YthjapjbiclkhcaaPk10
import Derived.Test.YthjapjbiclkhcaaPk00
/- The walks of bits.Div32 and divideShort: a list of limbs divided by one limb, in new memory. -/
namespace Go.Proofs.Ythjapjbiclkhcaa
open Go.RowKit
set_option linter.unusedVariables false

theorem or32' (m x : Int) (h0 : 0 ≤ m) (h1 : m < 4294967296) (hx : 0 ≤ x) (hx1 : x < 4294967296) : bits .or .u64 (x * 4294967296) m = x * 4294967296 + m := by
  have h := or32 m x h0 h1 hx hx1
  have e : bits .or .u64 (x * 4294967296) m = bits .or .u64 m (x * 4294967296) := by
    show IntKind.u64.wrap ((BitVec.ofInt 64 (x * 4294967296) ||| BitVec.ofInt 64 m).toNat : Nat) = IntKind.u64.wrap ((BitVec.ofInt 64 m ||| BitVec.ofInt 64 (x * 4294967296)).toNat : Nat)
    rw [BitVec.or_comm]
  rw [e, h]; omega

theorem ret_two32 {a b c d : Int} (h : a = c) (k : b = d) : Ending.returned (.tuple #[.int .u32 a, .int .u32 b]) = .returned (.tuple #[.int .u32 c, .int .u32 d]) := by rw [h, k]

set_option maxHeartbeats 2000000 in
set_option maxRecDepth 20000 in
theorem div32 (r x d : Nat) (w : World) (hr : r < d) (hd : d < 4294967296) (hx : x < 4294967296) :
    Calls Try.prog 98 #[.int .u32 r, .int .u32 x, .int .u32 d] w fun e w' => e = .returned (.tuple #[.int .u32 (((r * 4294967296 + x) / d : Nat) : Int), .int .u32 (((r * 4294967296 + x) % d : Nat) : Int)]) ∧ ∃ m, w' = w.drewN m := by
  have hq := quot_lt hr hx
  have hrm := Nat.mod_lt (r * 4294967296 + x) (show 0 < d by omega)
  have hor := or32' x r (by omega) (by omega) (by omega) (by omega)
  have e1 : ((r : Int) * 4294967296 + (x : Int)) % (d : Int) = (((r * 4294967296 + x) % d : Nat) : Int) := by
    rw [Int.natCast_emod, Int.natCast_add, Int.natCast_mul]; rfl
  have e2 : ((r : Int) * 4294967296 + (x : Int)) / (d : Int) = (((r * 4294967296 + x) / d : Nat) : Int) := by
    rw [Int.natCast_ediv, Int.natCast_add, Int.natCast_mul]; rfl
  have hdr : ¬ (d : Int) ≤ (r : Int) := by omega
  have hd0 : ((d : Int) != 0) = true := by rw [bne_iff_ne]; omega
  have E1 := hide e1
  have E2 := hide e2
  have HQ := hide hq
  have HR := hide hrm
  clear e1 e2 hq hrm
  go_enter Try.func98, Try.ntmps98
  have hdz : ((d : Int) == 0) = false := by rw [beq_eq_false_iff_ne]; omega
  go_wp2_with fail
  go_quiet (fail)
  go_wp2
  go_ret2
  refine ⟨ret_two32 ?_ ?_, nq, rfl⟩
  · rw [E2.out]
    have := HQ.out
    generalize (r * 4294967296 + x) / d = q at *
    omega
  · rw [E1.out]
    have := HR.out
    generalize (r * 4294967296 + x) % d = q at *
    omega

set_option maxHeartbeats 4000000 in
set_option maxRecDepth 20000 in
theorem shortI (a : Option Addr) (n ca d : Nat) (xs : List Nat) (w : World) (ha : Seg w a n ca xs) (hn : n ≤ 1000000) (hd0 : 0 < d) (hd : d < 4294967296) :
    Calls Try.prog 93 #[.slice a n ca, .int .u32 d] w fun e w' => ∃ (qs : List Nat) (r : Nat), e = .returned (.tuple #[.slice (some ⟨w.heap.size, 0, none⟩) n n, .int .u32 r]) ∧ DSo d xs qs 0 r ∧ Own w' w.heap.size (some ⟨w.heap.size, 0, none⟩) n n qs ∧ Below w.heap.size w w' := by
  obtain ⟨i0, hi, hz0, hz1, hz2⟩ := info_parts Try.info56
  obtain rfl := ha.1
  have hca := ha.2.1
  have hcm := ha.2.2.1
  have HA := hide ha
  clear ha
  go_enter Try.func93, Try.ntmps93
  go_wp2_with (at_make; refine wpList_make_full _ rfl _ _ 24 rfl w.heap.size 56 i0 (.int .u32 0) 1 Try.underlying24 hi hz0 hz1 _ _ _ _ xs.length rfl rfl rfl rfl (by rw [hz2]; omega) (by unfold maxLen; omega) (Nat.le_refl _) ?_; intro w3 hown hgrow; have HZ3 := hide ((bl_refl w).grown hgrow (Nat.le_refl _) (by simp)); have B3 := hide (own_made2 hown).blk; clear hown hgrow)
  go_loopw [7, 8] (fun rv i wr => ∃ (k r : Nat) (qs : List Nat), k ≤ xs.length ∧ i = .int .i64 ((k : Int) - 1) ∧ rv = .int .u32 r ∧ r < d ∧ Hid (DSo d xs qs k r) ∧ Hid (Blk wr w.heap.size qs) ∧ Hid (Below w.heap.size w wr)) (fun _ i _ => (intOf i + 1).toNat)
  case atStart =>
    refine ⟨xs.length, 0, List.replicate xs.length 0, Nat.le_refl _, by go_num, rfl, hd0, hide ⟨by simp, Num.small_replicate _, hd0, ?_⟩, B3, HZ3⟩
    rw [List.drop_eq_nil_of_le (Nat.le_refl _), List.drop_eq_nil_of_le (by simp)]; simp [Num.nat]
  case round =>
    obtain ⟨k, r, qs, hk, rfl, rfl, hr, hS, hB, hZ⟩ := hrel
    by_cases h0 : k = 0
    · subst h0
      have HO := hide (hB.out.own (base := w.heap.size) (Nat.le_refl _) (by rw [hS.out.1]; omega))
      rw [hS.out.1] at HO
      go_wp2
      go_ret2
      exact ⟨qs, r, rfl, hS.out, HO.out, hZ.out⟩
    · obtain ⟨j, rfl⟩ : ∃ j, k = j + 1 := ⟨k - 1, by omega⟩
      have ej : (((j + 1 : Nat) : Int) - 1) = (j : Int) := by omega
      rw [ej]
      have hjx : j < xs.length := by omega
      have hjx' : (j : Int) < (xs.length : Int) := by omega
      obtain ⟨g, o, rfl, hg, hc⟩ := seg_cell (HA.out.below hZ.out) j hjx
      have hxs := Num.small_at HA.out.2.2.2.1 hjx
      have HST := hide (dso_step hS.out hjx rfl hd hxs)
      have hql : qs.length = xs.length := hS.out.1
      generalize xs[j] = x at *
      have hq := quot_lt hr hxs
      go_wp2_with fail
      refine (div32 r x d _ hr hd hxs).mono ?_
      rintro e w5 ⟨rfl, m, hw5⟩
      have hB5 : Blk w5 w.heap.size qs := by rw [hw5]; exact hB.out.below (below_drewN (bl_refl wr) m)
      have hZ5 : Hid (Below w.heap.size w w5) := hide (by rw [hw5]; exact below_drewN hZ.out m)
      clear hw5
      have hcl := hB5.cell j (by omega)
      have hfz := hB5.frozen j
      have HSB := hide (hB5.set j ((r * 4294967296 + x) / d) hq)
      obtain ⟨y, hy⟩ : ∃ y, qs[j]'(by omega) = y := ⟨_, rfl⟩
      rw [hy] at hcl
      have hrm := Nat.mod_lt (r * 4294967296 + x) hd0
      clear hy hS hB hB5
      generalize (r * 4294967296 + x) / d = q at *
      generalize (r * 4294967296 + x) % d = r2 at *
      go_wp2
      exact ⟨⟨j, r2, _, by omega, by go_num, rfl, hrm, HST, hide HSB.out.1, hide (hZ5.out.setCell (p := ⟨w.heap.size, j, none⟩) (Nat.le_refl _) _)⟩, by simp [intOf]⟩
end Go.Proofs.Ythjapjbiclkhcaa

/- Plain facts on long division of numbers in limbs; nothing of the program stands here. -/
namespace Go.Proofs.Ythjapjbiclkhcaa.Num
set_option linter.unusedVariables false
theorem guess_ge {P D E t M : Nat} (hM : 0 < M) (ht : 0 < t) (hP : P < (E + 1) * M) (hD : t * M ≤ D) : P / D ≤ E / t := by
  rw [Nat.le_div_iff_mul_le ht]
  have h1 : P / D * D ≤ P := Nat.div_mul_le_self P D
  have h2 : P / D * (t * M) ≤ P / D * D := Nat.mul_le_mul_left _ hD
  have h3 : P / D * t * M < (E + 1) * M := by rw [Nat.mul_assoc]; omega
  have := Nat.lt_of_mul_lt_mul_right h3
  omega
/-- a list whose number is below the n-th power has noughts alone behind n limbs -/
theorem drop_zero {xs : List Nat} {n : Nat} (h : nat xs < 4294967296 ^ n) : nat (xs.drop n) = 0 := by
  by_cases hn : n ≤ xs.length
  · have e := nat_take_drop xs n hn
    refine Nat.eq_zero_of_not_pos fun hp => ?_
    have : 4294967296 ^ n * 1 ≤ 4294967296 ^ n * nat (xs.drop n) := Nat.mul_le_mul_left _ hp
    omega
  · rw [List.drop_eq_nil_of_le (by omega)]; rfl
theorem take_all {xs : List Nat} {n : Nat} (hn : n ≤ xs.length) (h : nat xs < 4294967296 ^ n) : nat (xs.take n) = nat xs := nat_take_of_zero hn (drop_zero h)
theorem pow_pos' (n : Nat) : 0 < 4294967296 ^ n := Nat.pow_pos (by decide)
/-- the ends of a list of n + 2 limbs -/
theorem ends_up {xs : List Nat} {n : Nat} (hs : Small xs) (hl : xs.length = n + 2) (h0 : n < xs.length) (h1 : n + 1 < xs.length) : nat xs < (xs[n + 1] * 4294967296 + xs[n] + 1) * 4294967296 ^ n := by
  have e := nat_take_drop xs n (by omega)
  have h2 := nat_lt (small_take hs n)
  rw [List.length_take, Nat.min_eq_left (by omega)] at h2
  rw [nat_drop xs n h0, nat_drop xs (n + 1) h1, List.drop_eq_nil_of_le (by omega : xs.length ≤ n + 1 + 1)] at e
  simp only [nat] at e
  rw [Nat.add_mul, Nat.one_mul, Nat.mul_comm (xs[n + 1] * 4294967296 + xs[n])]
  have e3 : xs[n] + 4294967296 * (xs[n + 1] + 4294967296 * 0) = xs[n + 1] * 4294967296 + xs[n] := by omega
  rw [e3] at e
  omega
theorem top_le {xs : List Nat} {n : Nat} (h0 : n < xs.length) : xs[n] * 4294967296 ^ n ≤ nat xs := by
  have e := nat_take_drop xs n (by omega)
  rw [nat_drop xs n h0, Nat.mul_add, Nat.mul_comm (4294967296 ^ n) xs[n]] at e
  omega
/-- the quotient and the rest so far: the limbs from place k on -/
def LSo (S D n m : Nat) (rs qs : List Nat) (k : Nat) : Prop :=
  rs.length = m + n ∧ qs.length = m ∧ Small rs ∧ Small qs ∧ nat (rs.drop k) < D ∧ nat rs + D * (4294967296 ^ k * nat (qs.drop k)) = S
theorem lso_part {S D n m k : Nat} {rs qs : List Nat} (h : LSo S D n m rs qs (k + 1)) (hk : k < m) (hD : D < 4294967296 ^ n) :
    nat ((rs.drop k).take (n + 1)) < 4294967296 * D ∧ nat (rs.drop (k + (n + 1))) = 0 := by
  obtain ⟨h1, h2, h3, h4, h5, h6⟩ := h
  have hz : nat (rs.drop (k + (n + 1))) = 0 := by
    have := drop_zero (xs := rs.drop (k + 1)) (n := n) (by omega)
    rw [List.drop_drop] at this
    rw [show k + (n + 1) = k + 1 + n by omega]; exact this
  refine ⟨?_, hz⟩
  have e := nat_take_of_zero (xs := rs.drop k) (n := n + 1) (by rw [List.length_drop]; omega) (by rw [List.drop_drop]; exact hz)
  rw [e, nat_drop rs k (by omega)]
  have hx := small_at h3 (show k < rs.length by omega)
  omega
theorem lso_step {S D n m k : Nat} {rs qs zs : List Nat} (h : LSo S D n m rs qs (k + 1)) (hk : k < m) (hD : D < 4294967296 ^ n) (hD0 : 0 < D) (hzs : Small zs) (hzl : zs.length = n + 1)
    (hz : nat zs = nat ((rs.drop k).take (n + 1)) % D) : LSo S D n m (rs.take k ++ zs ++ rs.drop (k + (n + 1))) (qs.set k (nat ((rs.drop k).take (n + 1)) / D)) k := by
  obtain ⟨hP, hz0⟩ := lso_part h hk hD
  obtain ⟨h1, h2, h3, h4, h5, h6⟩ := h
  have hq : nat ((rs.drop k).take (n + 1)) / D < 4294967296 := by rw [Nat.div_lt_iff_lt_mul hD0]; exact hP
  have hl : (rs.take k ++ zs ++ rs.drop (k + (n + 1))).length = m + n := by simp; omega
  have hkl : (rs.take k).length = k := by rw [List.length_take]; omega
  have ed : (rs.take k ++ zs ++ rs.drop (k + (n + 1))).drop k = zs ++ rs.drop (k + (n + 1)) := by
    rw [List.append_assoc, List.drop_append_of_le_length (by omega), List.drop_eq_nil_of_le (by omega), List.nil_append]
  have en : nat (zs ++ rs.drop (k + (n + 1))) = nat zs := by rw [nat_append, hz0]; omega
  refine ⟨hl, by rw [List.length_set]; exact h2, small_append (small_append (small_take h3 k) hzs) (small_drop h3 _), small_set h4 _ _ hq, ?_, ?_⟩
  · rw [ed, en, hz]; exact Nat.mod_lt _ hD0
  · have e1 : (qs.set k (nat ((rs.drop k).take (n + 1)) / D)).drop k = (nat ((rs.drop k).take (n + 1)) / D) :: qs.drop (k + 1) := by
      rw [List.drop_set, if_neg (by omega), Nat.sub_self, List.drop_eq_getElem_cons (by omega), List.set_cons_zero]
    have e2 : nat rs = nat (rs.take k) + 4294967296 ^ k * nat ((rs.drop k).take (n + 1)) := by
      rw [nat_take_drop rs k (by omega)]
      congr 2
      exact (nat_take_of_zero (by rw [List.length_drop]; omega) (by rw [List.drop_drop]; exact hz0)).symm
    rw [e1, nat, List.append_assoc, nat_append, en, hkl, hz]
    rw [e2] at h6
    have e3 := Nat.div_add_mod (nat ((rs.drop k).take (n + 1))) D
    generalize nat ((rs.drop k).take (n + 1)) = P at *
    generalize nat (qs.drop (k + 1)) = Q at *
    rw [Nat.pow_succ] at h6
    generalize 4294967296 ^ k = M at *
    rw [← h6]
    have e4 : M * P = M * (D * (P / D)) + M * (P % D) := by rw [← Nat.mul_add, e3]
    have e5 : D * (M * (P / D + 4294967296 * Q)) = M * (D * (P / D)) + D * (M * 4294967296 * Q) := by
      rw [Nat.mul_add, Nat.mul_add, Nat.mul_left_comm D M, Nat.mul_assoc M]
    rw [e4, e5]
    omega
theorem lso_start {A s B n m : Nat} {rs : List Nat} {la : Nat} (hs : Small rs) (hl : rs.length = la + 1) (hm : m + n = la + 1) (hv : nat rs = A * s) (hA : A < 4294967296 ^ la) (hB : 4294967296 ^ (n - 1) ≤ B) (hn : 1 ≤ n) (hs0 : 0 < s) :
    LSo (A * s) (B * s) n m rs (List.replicate m 0) m := by
  refine ⟨by omega, by simp, hs, small_replicate m, ?_, ?_⟩
  · have h1 : A * s < 4294967296 ^ m * (B * s) := by
      have h2 : 4294967296 ^ m * 4294967296 ^ (n - 1) ≤ 4294967296 ^ m * B := Nat.mul_le_mul_left _ hB
      rw [← Nat.pow_add, show m + (n - 1) = la by omega] at h2
      rw [← Nat.mul_assoc]
      exact Nat.mul_lt_mul_of_pos_right (Nat.lt_of_lt_of_le hA h2) hs0
    have e := nat_take_drop rs m (by omega)
    rw [hv] at e
    refine Nat.lt_of_not_le fun hc => ?_
    have : 4294967296 ^ m * (B * s) ≤ 4294967296 ^ m * nat (rs.drop m) := Nat.mul_le_mul_left _ hc
    omega
  · rw [List.drop_eq_nil_of_le (by simp)]
    simp [nat, hv]
theorem lso_end {A s B n m : Nat} {rs qs : List Nat} (h : LSo (A * s) (B * s) n m rs qs 0) (hs0 : 0 < s) (hB : 0 < B) : nat qs = A / B ∧ nat rs = A % B * s ∧ nat rs < B * s := by
  obtain ⟨_, _, _, _, h5, h6⟩ := h
  rw [List.drop_zero] at h5 h6
  rw [Nat.pow_zero, Nat.one_mul] at h6
  have h7 : nat qs = A / B := by
    have e : A * s / (B * s) = nat qs := by
      rw [← h6, Nat.add_mul_div_left _ _ (Nat.mul_pos hB hs0), Nat.div_eq_of_lt h5, Nat.zero_add]
    rw [← e, Nat.mul_div_mul_right _ _ hs0]
  refine ⟨h7, ?_, h5⟩
  have e2 : nat rs = A * s % (B * s) := by
    rw [← h6, Nat.add_mul_mod_self_left, Nat.mod_eq_of_lt h5]
  rw [e2, Nat.mul_mod_mul_right]
/-- one round of the guess: what was taken away too often comes back -/
theorem back_step {P D g l Z Z' c M : Nat} (h : Z + D * g = P + M * l) (hZ : Z < M) (hl : l = 1) (hadd : Z' + M * c = Z + D) (hc : c ≤ 1) : P / D < g ∧ 0 < g ∧ Z' + D * (g - 1) = P + M * (1 - c) := by
  subst hl
  have h1 : P < D * g := by omega
  have hg : 0 < g := Nat.pos_of_ne_zero fun e => by subst e; omega
  have h2 : P / D < g := by
    rw [Nat.div_lt_iff_lt_mul (Nat.pos_of_ne_zero fun e => by subst e; omega), Nat.mul_comm]; exact h1
  refine ⟨h2, hg, ?_⟩
  obtain ⟨j, rfl⟩ : ∃ j, g = j + 1 := ⟨g - 1, by omega⟩
  rw [Nat.add_sub_cancel]
  rw [Nat.mul_add] at h
  obtain rfl | rfl : c = 0 ∨ c = 1 := by omega
  · simp at *; omega
  · simp at *; omega
theorem back_end {P D g Z : Nat} (h : Z + D * g = P) (hD : 0 < D) (hg : P / D ≤ g) : g = P / D ∧ Z = P % D := by
  have h1 : g ≤ P / D := by rw [Nat.le_div_iff_mul_le hD, Nat.mul_comm]; omega
  have h2 : g = P / D := by omega
  refine ⟨h2, ?_⟩
  have := Nat.div_add_mod P D
  rw [← h2] at this
  omega
theorem scale_fit {B n t s L : Nat} (hB : B < (t + 1) * 4294967296 ^ (n - 1)) (hn : 1 ≤ n) (ht : t < 2 ^ L) (hL : L ≤ 32) (hs : s = 2 ^ (32 - L)) : B * s < 4294967296 ^ n := by
  have h1 : (t + 1) * s ≤ 4294967296 := by
    have h2 : (t + 1) * s ≤ 2 ^ L * 2 ^ (32 - L) := by rw [hs]; exact Nat.mul_le_mul_right _ ht
    rw [← Nat.pow_add, show L + (32 - L) = 32 by omega] at h2
    exact h2
  have hs0 : 0 < s := by rw [hs]; exact Nat.pow_pos (by decide)
  have h3 : B * s < (t + 1) * 4294967296 ^ (n - 1) * s := Nat.mul_lt_mul_of_pos_right hB hs0
  have h4 : (t + 1) * s * 4294967296 ^ (n - 1) ≤ 4294967296 * 4294967296 ^ (n - 1) := Nat.mul_le_mul_right _ h1
  rw [Nat.mul_comm 4294967296, ← Nat.pow_succ, show (n - 1).succ = n by omega] at h4
  rw [Nat.mul_right_comm] at h3
  omega
end Go.Proofs.Ythjapjbiclkhcaa.Num
