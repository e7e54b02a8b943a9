/- My texts Num, DivN, in this order. -/

/- Plain facts on numbers in limbs: what a list of limbs is as a number, the one list without a nought at its end, and how one limb turns it; nothing of the program stands here. -/
namespace Go.Proofs.Ythjapjbiclkhcaa.Num
/-- the number of a list of limbs -/
def nat : List Nat → Nat
  | [] => 0
  | x :: r => x + 4294967296 * nat r
/-- the limbs of a number, none at its end a nought -/
def limbs (n : Nat) : List Nat := if h : n = 0 then [] else n % 4294967296 :: limbs (n / 4294967296)
termination_by n
decreasing_by exact Nat.div_lt_self (Nat.pos_of_ne_zero h) (by decide)
def Small (xs : List Nat) : Prop := ∀ x, x ∈ xs → x < 4294967296
theorem limbs_zero : limbs 0 = [] := by rw [limbs]; simp
theorem limbs_pos {n : Nat} (h : n ≠ 0) : limbs n = n % 4294967296 :: limbs (n / 4294967296) := by rw [limbs]; simp [h]
theorem nat_limbs (n : Nat) : nat (limbs n) = n := by
  induction n using Nat.strongRecOn with
  | _ n ih =>
    by_cases h : n = 0
    · subst h; rw [limbs_zero]; rfl
    · rw [limbs_pos h, nat, ih _ (Nat.div_lt_self (Nat.pos_of_ne_zero h) (by decide))]; omega
theorem limbs_small (n : Nat) : Small (limbs n) := by
  induction n using Nat.strongRecOn with
  | _ n ih =>
    by_cases h : n = 0
    · subst h; rw [limbs_zero]; intro x hx; cases hx
    · rw [limbs_pos h]
      intro x hx
      cases hx with
      | head => exact Nat.mod_lt _ (by decide)
      | tail _ hx => exact ih _ (Nat.div_lt_self (Nat.pos_of_ne_zero h) (by decide)) x hx
theorem limbs_eq_nil {n : Nat} : limbs n = [] ↔ n = 0 := by
  constructor
  · intro h
    have := nat_limbs n
    rw [h] at this; exact this.symm
  · rintro rfl; exact limbs_zero
theorem limbs_last (n : Nat) : ∀ h : limbs n ≠ [], (limbs n).getLast h ≠ 0 := by
  induction n using Nat.strongRecOn with
  | _ n ih =>
    intro h
    have hn : n ≠ 0 := fun e => h (limbs_eq_nil.2 e)
    by_cases hd : n / 4294967296 = 0
    · have e : limbs n = [n % 4294967296] := by rw [limbs_pos hn, hd, limbs_zero]
      simp only [e, List.getLast_singleton]; omega
    · have hne : limbs (n / 4294967296) ≠ [] := fun e => hd (limbs_eq_nil.1 e)
      have e := limbs_pos hn
      have hl : (limbs n).getLast h = (limbs (n / 4294967296)).getLast hne := by
        simp only [e]; exact List.getLast_cons hne
      rw [hl]; exact ih _ (Nat.div_lt_self (Nat.pos_of_ne_zero hn) (by decide)) hne
/-- no nought at the end -/
def Tidy (xs : List Nat) : Prop := ∀ h : xs ≠ [], xs.getLast h ≠ 0
theorem nat_pos_of_tidy {xs : List Nat} (ht : Tidy xs) (h : xs ≠ []) : nat xs ≠ 0 := by
  induction xs with
  | nil => exact absurd rfl h
  | cons x r ih =>
    rw [nat]
    by_cases hr : r = []
    · subst hr; have := ht (by simp); simp at this; simp [nat]; exact this
    · have h2 : Tidy r := fun h' => by have := ht (by simp); rwa [List.getLast_cons h'] at this
      have := ih h2 hr
      omega
theorem limbs_nat {xs : List Nat} (hs : Small xs) (ht : Tidy xs) : limbs (nat xs) = xs := by
  induction xs with
  | nil => exact limbs_zero
  | cons x r ih =>
    have h0 := nat_pos_of_tidy ht (by simp)
    have hx := hs x (by simp)
    have h2 : Tidy r := fun h' => by have := ht (by simp); rwa [List.getLast_cons h'] at this
    have hr := ih (fun y hy => hs y (List.mem_cons_of_mem _ hy)) h2
    rw [limbs_pos h0, nat]
    rw [show (x + 4294967296 * nat r) % 4294967296 = x by omega, show (x + 4294967296 * nat r) / 4294967296 = nat r by omega, hr]
theorem limbs_tidy (n : Nat) : Tidy (limbs n) := limbs_last n
theorem nat_append (xs ys : List Nat) : nat (xs ++ ys) = nat xs + 4294967296 ^ xs.length * nat ys := by
  induction xs with
  | nil => simp [nat]
  | cons x r ih =>
    rw [List.cons_append, nat, ih, nat, List.length_cons, Nat.pow_succ, Nat.mul_add, Nat.mul_comm (4294967296 ^ r.length) 4294967296, Nat.mul_assoc]
    omega
theorem nat_lt {xs : List Nat} (hs : Small xs) : nat xs < 4294967296 ^ xs.length := by
  induction xs with
  | nil => simp [nat]
  | cons x r ih =>
    have h1 := ih (fun y hy => hs y (List.mem_cons_of_mem _ hy))
    have hx := hs x (by simp)
    rw [nat, List.length_cons, Nat.pow_succ]
    omega
theorem limbs_len {n k : Nat} : (limbs n).length ≤ k ↔ n < 4294967296 ^ k := by
  constructor
  · intro h
    have h1 := nat_lt (limbs_small n)
    rw [nat_limbs] at h1
    exact Nat.lt_of_lt_of_le h1 (Nat.pow_le_pow_right (by decide) h)
  · induction k generalizing n with
    | zero => intro h; have : n = 0 := by simpa using h
              subst this; rw [limbs_zero]; simp
    | succ k ih =>
      intro h
      by_cases h0 : n = 0
      · subst h0; rw [limbs_zero]; simp
      · rw [limbs_pos h0, List.length_cons]
        have : n / 4294967296 < 4294967296 ^ k := by
          rw [Nat.div_lt_iff_lt_mul (by decide)]; rwa [Nat.pow_succ] at h
        have := ih this
        omega
theorem nat_set (xs : List Nat) (i v : Nat) (h : i < xs.length) : nat (xs.set i v) + 4294967296 ^ i * xs[i] = nat xs + 4294967296 ^ i * v := by
  induction xs generalizing i with
  | nil => simp at h
  | cons x r ih =>
    cases i with
    | zero => simp [nat]; omega
    | succ i =>
      have := ih i (by simpa using h)
      rw [List.set_cons_succ, nat, nat, Nat.pow_succ, Nat.mul_comm (4294967296 ^ i), Nat.mul_assoc, Nat.mul_assoc]
      simp only [List.getElem_cons_succ]
      omega
theorem small_set {xs : List Nat} (hs : Small xs) (i v : Nat) (hv : v < 4294967296) : Small (xs.set i v) := by
  intro x hx
  rcases List.mem_or_eq_of_mem_set hx with h | h
  · exact hs x h
  · subst h; exact hv
theorem small_at {xs : List Nat} (hs : Small xs) {i : Nat} (h : i < xs.length) : xs[i] < 4294967296 := hs _ (List.getElem_mem _)
theorem small_append {xs ys : List Nat} (h : Small xs) (k : Small ys) : Small (xs ++ ys) := fun x hx => by
  rcases List.mem_append.1 hx with h1 | h1
  · exact h x h1
  · exact k x h1
theorem small_take {xs : List Nat} (h : Small xs) (n : Nat) : Small (xs.take n) := fun x hx => h x (List.mem_of_mem_take hx)
theorem small_drop {xs : List Nat} (h : Small xs) (n : Nat) : Small (xs.drop n) := fun x hx => h x (List.mem_of_mem_drop hx)
theorem small_replicate (n : Nat) : Small (List.replicate n 0) := fun x hx => by rw [(List.mem_replicate.1 hx).2]; decide
theorem nat_replicate (n : Nat) : nat (List.replicate n 0) = 0 := by
  induction n with
  | zero => rfl
  | succ n ih => rw [List.replicate_succ, nat, ih]
theorem nat_take_drop (xs : List Nat) (n : Nat) (h : n ≤ xs.length) : nat xs = nat (xs.take n) + 4294967296 ^ n * nat (xs.drop n) := by
  conv => lhs; rw [← List.take_append_drop n xs]
  rw [nat_append, List.length_take, Nat.min_eq_left h]
theorem nat_take_succ (xs : List Nat) (n : Nat) (h : n < xs.length) : nat (xs.take (n + 1)) = nat (xs.take n) + 4294967296 ^ n * xs[n] := by
  rw [List.take_succ_eq_append_getElem h, nat_append, List.length_take, Nat.min_eq_left (by omega)]
  simp [nat]
theorem nat_drop (xs : List Nat) (n : Nat) (h : n < xs.length) : nat (xs.drop n) = xs[n] + 4294967296 * nat (xs.drop (n + 1)) := by
  rw [List.drop_eq_getElem_cons h, nat]
/-- only noughts behind the first n: the number is that of the first n -/
theorem nat_take_of_zero {xs : List Nat} {n : Nat} (h : n ≤ xs.length) (hz : nat (xs.drop n) = 0) : nat (xs.take n) = nat xs := by
  rw [nat_take_drop xs n h, hz]; omega
theorem tidy_of_at {xs : List Nat} (h : ∀ k, xs.length = k + 1 → ∀ hk : k < xs.length, xs[k] ≠ 0) : Tidy xs := by
  intro hne
  rw [List.getLast_eq_getElem]
  exact h (xs.length - 1) (by have := List.length_pos_iff.2 hne; omega) _
/-- the first n limbs, the last of which is none, and noughts behind: these are the number's limbs -/
theorem limbs_of_trim {xs : List Nat} (hs : Small xs) {n : Nat} (h : n ≤ xs.length) (hz : nat (xs.drop n) = 0) (hl : ∀ k (hk : k < xs.length), n = k + 1 → xs[k] ≠ 0) : xs.take n = limbs (nat xs) := by
  rw [← nat_take_of_zero h hz]
  refine (limbs_nat (small_take hs n) (tidy_of_at fun k hk hk' => ?_)).symm
  rw [List.length_take, Nat.min_eq_left h] at hk
  rw [List.getElem_take]
  exact hl k (by omega) hk
/-- lists of one length that are one behind place i, and part there -/
theorem nat_lt_at {xs ys : List Nat} (hx : Small xs) (hl : xs.length = ys.length) {i : Nat} (h : i < xs.length) (h' : i < ys.length) (hd : xs.drop (i + 1) = ys.drop (i + 1)) (hlt : xs[i] < ys[i]) : nat xs < nat ys := by
  rw [nat_take_drop xs (i + 1) (by omega), nat_take_drop ys (i + 1) (by omega), hd, nat_take_succ xs i h, nat_take_succ ys i h']
  have h1 : nat (xs.take i) < 4294967296 ^ i := by
    have := nat_lt (small_take hx i)
    rwa [List.length_take, Nat.min_eq_left (by omega)] at this
  have h2 : 4294967296 ^ i * (xs[i] + 1) ≤ 4294967296 ^ i * ys[i] := Nat.mul_le_mul_left _ hlt
  rw [Nat.mul_add] at h2
  omega
theorem len_lt {a b : Nat} (h : (limbs a).length < (limbs b).length) : a < b := by
  have h1 : a < 4294967296 ^ (limbs a).length := limbs_len.1 (Nat.le_refl _)
  have h2 : ¬ b < 4294967296 ^ (limbs a).length := fun hb => by have := limbs_len.2 hb; omega
  omega
theorem limbs_inj {a b : Nat} (h : limbs a = limbs b) : a = b := by rw [← nat_limbs a, h, nat_limbs]
theorem set_copy (xs : List Nat) (n k : Nat) (hk : k < xs.length) (hn : k < n) : (xs.take k ++ List.replicate (n - k) 0).set k xs[k] = xs.take (k + 1) ++ List.replicate (n - (k + 1)) 0 := by
  have hl : (xs.take k).length = k := by rw [List.length_take]; omega
  rw [List.set_append_right _ _ (by omega), hl, Nat.sub_self, List.take_succ_eq_append_getElem hk, show n - k = (n - (k + 1)) + 1 by omega, List.replicate_succ, List.set_cons_zero, List.append_assoc]
  rfl
end Go.Proofs.Ythjapjbiclkhcaa.Num

/- Plain facts on long division of numbers in limbs; nothing of the program stands here. -/
namespace Go.Proofs.Ythjapjbiclkhcaa.Num
set_option linter.unusedVariables false
theorem guess_ge {P D E t M : Nat} (hM : 0 < M) (ht : 0 < t) (hP : P < (E + 1) * M) (hD : t * M ≤ D) : P / D ≤ E / t := by
  rw [Nat.le_div_iff_mul_le ht]
  have h1 : P / D * D ≤ P := Nat.div_mul_le_self P D
  have h2 : P / D * (t * M) ≤ P / D * D := Nat.mul_le_mul_left _ hD
  have h3 : P / D * t * M < (E + 1) * M := by rw [Nat.mul_assoc]; omega
  have := Nat.lt_of_mul_lt_mul_right h3
  omega
/-- a list whose number is below the n-th power has noughts alone behind n limbs -/
theorem drop_zero {xs : List Nat} {n : Nat} (h : nat xs < 4294967296 ^ n) : nat (xs.drop n) = 0 := by
  by_cases hn : n ≤ xs.length
  · have e := nat_take_drop xs n hn
    refine Nat.eq_zero_of_not_pos fun hp => ?_
    have : 4294967296 ^ n * 1 ≤ 4294967296 ^ n * nat (xs.drop n) := Nat.mul_le_mul_left _ hp
    omega
  · rw [List.drop_eq_nil_of_le (by omega)]; rfl
theorem take_all {xs : List Nat} {n : Nat} (hn : n ≤ xs.length) (h : nat xs < 4294967296 ^ n) : nat (xs.take n) = nat xs := nat_take_of_zero hn (drop_zero h)
theorem pow_pos' (n : Nat) : 0 < 4294967296 ^ n := Nat.pow_pos (by decide)
/-- the ends of a list of n + 2 limbs -/
theorem ends_up {xs : List Nat} {n : Nat} (hs : Small xs) (hl : xs.length = n + 2) (h0 : n < xs.length) (h1 : n + 1 < xs.length) : nat xs < (xs[n + 1] * 4294967296 + xs[n] + 1) * 4294967296 ^ n := by
  have e := nat_take_drop xs n (by omega)
  have h2 := nat_lt (small_take hs n)
  rw [List.length_take, Nat.min_eq_left (by omega)] at h2
  rw [nat_drop xs n h0, nat_drop xs (n + 1) h1, List.drop_eq_nil_of_le (by omega : xs.length ≤ n + 1 + 1)] at e
  simp only [nat] at e
  rw [Nat.add_mul, Nat.one_mul, Nat.mul_comm (xs[n + 1] * 4294967296 + xs[n])]
  have e3 : xs[n] + 4294967296 * (xs[n + 1] + 4294967296 * 0) = xs[n + 1] * 4294967296 + xs[n] := by omega
  rw [e3] at e
  omega
theorem top_le {xs : List Nat} {n : Nat} (h0 : n < xs.length) : xs[n] * 4294967296 ^ n ≤ nat xs := by
  have e := nat_take_drop xs n (by omega)
  rw [nat_drop xs n h0, Nat.mul_add, Nat.mul_comm (4294967296 ^ n) xs[n]] at e
  omega
/-- the quotient and the rest so far: the limbs from place k on -/
def LSo (S D n m : Nat) (rs qs : List Nat) (k : Nat) : Prop :=
  rs.length = m + n ∧ qs.length = m ∧ Small rs ∧ Small qs ∧ nat (rs.drop k) < D ∧ nat rs + D * (4294967296 ^ k * nat (qs.drop k)) = S
theorem lso_part {S D n m k : Nat} {rs qs : List Nat} (h : LSo S D n m rs qs (k + 1)) (hk : k < m) (hD : D < 4294967296 ^ n) :
    nat ((rs.drop k).take (n + 1)) < 4294967296 * D ∧ nat (rs.drop (k + (n + 1))) = 0 := by
  obtain ⟨h1, h2, h3, h4, h5, h6⟩ := h
  have hz : nat (rs.drop (k + (n + 1))) = 0 := by
    have := drop_zero (xs := rs.drop (k + 1)) (n := n) (by omega)
    rw [List.drop_drop] at this
    rw [show k + (n + 1) = k + 1 + n by omega]; exact this
  refine ⟨?_, hz⟩
  have e := nat_take_of_zero (xs := rs.drop k) (n := n + 1) (by rw [List.length_drop]; omega) (by rw [List.drop_drop]; exact hz)
  rw [e, nat_drop rs k (by omega)]
  have hx := small_at h3 (show k < rs.length by omega)
  omega
theorem lso_step {S D n m k : Nat} {rs qs zs : List Nat} (h : LSo S D n m rs qs (k + 1)) (hk : k < m) (hD : D < 4294967296 ^ n) (hD0 : 0 < D) (hzs : Small zs) (hzl : zs.length = n + 1)
    (hz : nat zs = nat ((rs.drop k).take (n + 1)) % D) : LSo S D n m (rs.take k ++ zs ++ rs.drop (k + (n + 1))) (qs.set k (nat ((rs.drop k).take (n + 1)) / D)) k := by
  obtain ⟨hP, hz0⟩ := lso_part h hk hD
  obtain ⟨h1, h2, h3, h4, h5, h6⟩ := h
  have hq : nat ((rs.drop k).take (n + 1)) / D < 4294967296 := by rw [Nat.div_lt_iff_lt_mul hD0]; exact hP
  have hl : (rs.take k ++ zs ++ rs.drop (k + (n + 1))).length = m + n := by simp; omega
  have hkl : (rs.take k).length = k := by rw [List.length_take]; omega
  have ed : (rs.take k ++ zs ++ rs.drop (k + (n + 1))).drop k = zs ++ rs.drop (k + (n + 1)) := by
    rw [List.append_assoc, List.drop_append_of_le_length (by omega), List.drop_eq_nil_of_le (by omega), List.nil_append]
  have en : nat (zs ++ rs.drop (k + (n + 1))) = nat zs := by rw [nat_append, hz0]; omega
  refine ⟨hl, by rw [List.length_set]; exact h2, small_append (small_append (small_take h3 k) hzs) (small_drop h3 _), small_set h4 _ _ hq, ?_, ?_⟩
  · rw [ed, en, hz]; exact Nat.mod_lt _ hD0
  · have e1 : (qs.set k (nat ((rs.drop k).take (n + 1)) / D)).drop k = (nat ((rs.drop k).take (n + 1)) / D) :: qs.drop (k + 1) := by
      rw [List.drop_set, if_neg (by omega), Nat.sub_self, List.drop_eq_getElem_cons (by omega), List.set_cons_zero]
    have e2 : nat rs = nat (rs.take k) + 4294967296 ^ k * nat ((rs.drop k).take (n + 1)) := by
      rw [nat_take_drop rs k (by omega)]
      congr 2
      exact (nat_take_of_zero (by rw [List.length_drop]; omega) (by rw [List.drop_drop]; exact hz0)).symm
    rw [e1, nat, List.append_assoc, nat_append, en, hkl, hz]
    rw [e2] at h6
    have e3 := Nat.div_add_mod (nat ((rs.drop k).take (n + 1))) D
    generalize nat ((rs.drop k).take (n + 1)) = P at *
    generalize nat (qs.drop (k + 1)) = Q at *
    rw [Nat.pow_succ] at h6
    generalize 4294967296 ^ k = M at *
    rw [← h6]
    have e4 : M * P = M * (D * (P / D)) + M * (P % D) := by rw [← Nat.mul_add, e3]
    have e5 : D * (M * (P / D + 4294967296 * Q)) = M * (D * (P / D)) + D * (M * 4294967296 * Q) := by
      rw [Nat.mul_add, Nat.mul_add, Nat.mul_left_comm D M, Nat.mul_assoc M]
    rw [e4, e5]
    omega
theorem lso_start {A s B n m : Nat} {rs : List Nat} {la : Nat} (hs : Small rs) (hl : rs.length = la + 1) (hm : m + n = la + 1) (hv : nat rs = A * s) (hA : A < 4294967296 ^ la) (hB : 4294967296 ^ (n - 1) ≤ B) (hn : 1 ≤ n) (hs0 : 0 < s) :
    LSo (A * s) (B * s) n m rs (List.replicate m 0) m := by
  refine ⟨by omega, by simp, hs, small_replicate m, ?_, ?_⟩
  · have h1 : A * s < 4294967296 ^ m * (B * s) := by
      have h2 : 4294967296 ^ m * 4294967296 ^ (n - 1) ≤ 4294967296 ^ m * B := Nat.mul_le_mul_left _ hB
      rw [← Nat.pow_add, show m + (n - 1) = la by omega] at h2
      rw [← Nat.mul_assoc]
      exact Nat.mul_lt_mul_of_pos_right (Nat.lt_of_lt_of_le hA h2) hs0
    have e := nat_take_drop rs m (by omega)
    rw [hv] at e
    refine Nat.lt_of_not_le fun hc => ?_
    have : 4294967296 ^ m * (B * s) ≤ 4294967296 ^ m * nat (rs.drop m) := Nat.mul_le_mul_left _ hc
    omega
  · rw [List.drop_eq_nil_of_le (by simp)]
    simp [nat, hv]
theorem lso_end {A s B n m : Nat} {rs qs : List Nat} (h : LSo (A * s) (B * s) n m rs qs 0) (hs0 : 0 < s) (hB : 0 < B) : nat qs = A / B ∧ nat rs = A % B * s ∧ nat rs < B * s := by
  obtain ⟨_, _, _, _, h5, h6⟩ := h
  rw [List.drop_zero] at h5 h6
  rw [Nat.pow_zero, Nat.one_mul] at h6
  have h7 : nat qs = A / B := by
    have e : A * s / (B * s) = nat qs := by
      rw [← h6, Nat.add_mul_div_left _ _ (Nat.mul_pos hB hs0), Nat.div_eq_of_lt h5, Nat.zero_add]
    rw [← e, Nat.mul_div_mul_right _ _ hs0]
  refine ⟨h7, ?_, h5⟩
  have e2 : nat rs = A * s % (B * s) := by
    rw [← h6, Nat.add_mul_mod_self_left, Nat.mod_eq_of_lt h5]
  rw [e2, Nat.mul_mod_mul_right]
/-- one round of the guess: what was taken away too often comes back -/
theorem back_step {P D g l Z Z' c M : Nat} (h : Z + D * g = P + M * l) (hZ : Z < M) (hl : l = 1) (hadd : Z' + M * c = Z + D) (hc : c ≤ 1) : P / D < g ∧ 0 < g ∧ Z' + D * (g - 1) = P + M * (1 - c) := by
  subst hl
  have h1 : P < D * g := by omega
  have hg : 0 < g := Nat.pos_of_ne_zero fun e => by subst e; omega
  have h2 : P / D < g := by
    rw [Nat.div_lt_iff_lt_mul (Nat.pos_of_ne_zero fun e => by subst e; omega), Nat.mul_comm]; exact h1
  refine ⟨h2, hg, ?_⟩
  obtain ⟨j, rfl⟩ : ∃ j, g = j + 1 := ⟨g - 1, by omega⟩
  rw [Nat.add_sub_cancel]
  rw [Nat.mul_add] at h
  obtain rfl | rfl : c = 0 ∨ c = 1 := by omega
  · simp at *; omega
  · simp at *; omega
theorem back_end {P D g Z : Nat} (h : Z + D * g = P) (hD : 0 < D) (hg : P / D ≤ g) : g = P / D ∧ Z = P % D := by
  have h1 : g ≤ P / D := by rw [Nat.le_div_iff_mul_le hD, Nat.mul_comm]; omega
  have h2 : g = P / D := by omega
  refine ⟨h2, ?_⟩
  have := Nat.div_add_mod P D
  rw [← h2] at this
  omega
theorem scale_fit {B n t s L : Nat} (hB : B < (t + 1) * 4294967296 ^ (n - 1)) (hn : 1 ≤ n) (ht : t < 2 ^ L) (hL : L ≤ 32) (hs : s = 2 ^ (32 - L)) : B * s < 4294967296 ^ n := by
  have h1 : (t + 1) * s ≤ 4294967296 := by
    have h2 : (t + 1) * s ≤ 2 ^ L * 2 ^ (32 - L) := by rw [hs]; exact Nat.mul_le_mul_right _ ht
    rw [← Nat.pow_add, show L + (32 - L) = 32 by omega] at h2
    exact h2
  have hs0 : 0 < s := by rw [hs]; exact Nat.pow_pos (by decide)
  have h3 : B * s < (t + 1) * 4294967296 ^ (n - 1) * s := Nat.mul_lt_mul_of_pos_right hB hs0
  have h4 : (t + 1) * s * 4294967296 ^ (n - 1) ≤ 4294967296 * 4294967296 ^ (n - 1) := Nat.mul_le_mul_right _ h1
  rw [Nat.mul_comm 4294967296, ← Nat.pow_succ, show (n - 1).succ = n by omega] at h4
  rw [Nat.mul_right_comm] at h3
  omega
end Go.Proofs.Ythjapjbiclkhcaa.Num
