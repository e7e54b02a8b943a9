/- Plain facts on numbers in limbs: what a list of limbs is as a number, the one list without a nought at its end, and how one limb turns it; nothing of the program stands here. -/
namespace Go.Proofs.Yteljkjpcjjiidaa.Num
/-- the number of a list of limbs -/
def nat : List Nat → Nat
  | [] => 0
  | x :: r => x + 4294967296 * nat r
/-- the limbs of a number, none at its end a nought -/
def limbs (n : Nat) : List Nat := if h : n = 0 then [] else n % 4294967296 :: limbs (n / 4294967296)
termination_by n
decreasing_by exact Nat.div_lt_self (Nat.pos_of_ne_zero h) (by decide)
def Small (xs : List Nat) : Prop := ∀ x, x ∈ xs → x < 4294967296
theorem limbs_zero : limbs 0 = [] := by rw [limbs]; simp
theorem limbs_pos {n : Nat} (h : n ≠ 0) : limbs n = n % 4294967296 :: limbs (n / 4294967296) := by rw [limbs]; simp [h]
theorem nat_limbs (n : Nat) : nat (limbs n) = n := by
  induction n using Nat.strongRecOn with
  | _ n ih =>
    by_cases h : n = 0
    · subst h; rw [limbs_zero]; rfl
    · rw [limbs_pos h, nat, ih _ (Nat.div_lt_self (Nat.pos_of_ne_zero h) (by decide))]; omega
theorem limbs_small (n : Nat) : Small (limbs n) := by
  induction n using Nat.strongRecOn with
  | _ n ih =>
    by_cases h : n = 0
    · subst h; rw [limbs_zero]; intro x hx; cases hx
    · rw [limbs_pos h]
      intro x hx
      cases hx with
      | head => exact Nat.mod_lt _ (by decide)
      | tail _ hx => exact ih _ (Nat.div_lt_self (Nat.pos_of_ne_zero h) (by decide)) x hx
theorem limbs_eq_nil {n : Nat} : limbs n = [] ↔ n = 0 := by
  constructor
  · intro h
    have := nat_limbs n
    rw [h] at this; exact this.symm
  · rintro rfl; exact limbs_zero
theorem limbs_last (n : Nat) : ∀ h : limbs n ≠ [], (limbs n).getLast h ≠ 0 := by
  induction n using Nat.strongRecOn with
  | _ n ih =>
    intro h
    have hn : n ≠ 0 := fun e => h (limbs_eq_nil.2 e)
    by_cases hd : n / 4294967296 = 0
    · have e : limbs n = [n % 4294967296] := by rw [limbs_pos hn, hd, limbs_zero]
      simp only [e, List.getLast_singleton]; omega
    · have hne : limbs (n / 4294967296) ≠ [] := fun e => hd (limbs_eq_nil.1 e)
      have e := limbs_pos hn
      have hl : (limbs n).getLast h = (limbs (n / 4294967296)).getLast hne := by
        simp only [e]; exact List.getLast_cons hne
      rw [hl]; exact ih _ (Nat.div_lt_self (Nat.pos_of_ne_zero hn) (by decide)) hne
/-- no nought at the end -/
def Tidy (xs : List Nat) : Prop := ∀ h : xs ≠ [], xs.getLast h ≠ 0
theorem nat_pos_of_tidy {xs : List Nat} (ht : Tidy xs) (h : xs ≠ []) : nat xs ≠ 0 := by
  induction xs with
  | nil => exact absurd rfl h
  | cons x r ih =>
    rw [nat]
    by_cases hr : r = []
    · subst hr; have := ht (by simp); simp at this; simp [nat]; exact this
    · have h2 : Tidy r := fun h' => by have := ht (by simp); rwa [List.getLast_cons h'] at this
      have := ih h2 hr
      omega
theorem limbs_nat {xs : List Nat} (hs : Small xs) (ht : Tidy xs) : limbs (nat xs) = xs := by
  induction xs with
  | nil => exact limbs_zero
  | cons x r ih =>
    have h0 := nat_pos_of_tidy ht (by simp)
    have hx := hs x (by simp)
    have h2 : Tidy r := fun h' => by have := ht (by simp); rwa [List.getLast_cons h'] at this
    have hr := ih (fun y hy => hs y (List.mem_cons_of_mem _ hy)) h2
    rw [limbs_pos h0, nat]
    rw [show (x + 4294967296 * nat r) % 4294967296 = x by omega, show (x + 4294967296 * nat r) / 4294967296 = nat r by omega, hr]
theorem limbs_tidy (n : Nat) : Tidy (limbs n) := limbs_last n
theorem nat_append (xs ys : List Nat) : nat (xs ++ ys) = nat xs + 4294967296 ^ xs.length * nat ys := by
  induction xs with
  | nil => simp [nat]
  | cons x r ih =>
    rw [List.cons_append, nat, ih, nat, List.length_cons, Nat.pow_succ, Nat.mul_add, Nat.mul_comm (4294967296 ^ r.length) 4294967296, Nat.mul_assoc]
    omega
theorem nat_lt {xs : List Nat} (hs : Small xs) : nat xs < 4294967296 ^ xs.length := by
  induction xs with
  | nil => simp [nat]
  | cons x r ih =>
    have h1 := ih (fun y hy => hs y (List.mem_cons_of_mem _ hy))
    have hx := hs x (by simp)
    rw [nat, List.length_cons, Nat.pow_succ]
    omega
theorem limbs_len {n k : Nat} : (limbs n).length ≤ k ↔ n < 4294967296 ^ k := by
  constructor
  · intro h
    have h1 := nat_lt (limbs_small n)
    rw [nat_limbs] at h1
    exact Nat.lt_of_lt_of_le h1 (Nat.pow_le_pow_right (by decide) h)
  · induction k generalizing n with
    | zero => intro h; have : n = 0 := by simpa using h
              subst this; rw [limbs_zero]; simp
    | succ k ih =>
      intro h
      by_cases h0 : n = 0
      · subst h0; rw [limbs_zero]; simp
      · rw [limbs_pos h0, List.length_cons]
        have : n / 4294967296 < 4294967296 ^ k := by
          rw [Nat.div_lt_iff_lt_mul (by decide)]; rwa [Nat.pow_succ] at h
        have := ih this
        omega
theorem nat_set (xs : List Nat) (i v : Nat) (h : i < xs.length) : nat (xs.set i v) + 4294967296 ^ i * xs[i] = nat xs + 4294967296 ^ i * v := by
  induction xs generalizing i with
  | nil => simp at h
  | cons x r ih =>
    cases i with
    | zero => simp [nat]; omega
    | succ i =>
      have := ih i (by simpa using h)
      rw [List.set_cons_succ, nat, nat, Nat.pow_succ, Nat.mul_comm (4294967296 ^ i), Nat.mul_assoc, Nat.mul_assoc]
      simp only [List.getElem_cons_succ]
      omega
theorem small_set {xs : List Nat} (hs : Small xs) (i v : Nat) (hv : v < 4294967296) : Small (xs.set i v) := by
  intro x hx
  rcases List.mem_or_eq_of_mem_set hx with h | h
  · exact hs x h
  · subst h; exact hv
theorem small_at {xs : List Nat} (hs : Small xs) {i : Nat} (h : i < xs.length) : xs[i] < 4294967296 := hs _ (List.getElem_mem _)
theorem small_append {xs ys : List Nat} (h : Small xs) (k : Small ys) : Small (xs ++ ys) := fun x hx => by
  rcases List.mem_append.1 hx with h1 | h1
  · exact h x h1
  · exact k x h1
theorem small_take {xs : List Nat} (h : Small xs) (n : Nat) : Small (xs.take n) := fun x hx => h x (List.mem_of_mem_take hx)
theorem small_drop {xs : List Nat} (h : Small xs) (n : Nat) : Small (xs.drop n) := fun x hx => h x (List.mem_of_mem_drop hx)
theorem small_replicate (n : Nat) : Small (List.replicate n 0) := fun x hx => by rw [(List.mem_replicate.1 hx).2]; decide
theorem nat_replicate (n : Nat) : nat (List.replicate n 0) = 0 := by
  induction n with
  | zero => rfl
  | succ n ih => rw [List.replicate_succ, nat, ih]
theorem nat_take_drop (xs : List Nat) (n : Nat) (h : n ≤ xs.length) : nat xs = nat (xs.take n) + 4294967296 ^ n * nat (xs.drop n) := by
  conv => lhs; rw [← List.take_append_drop n xs]
  rw [nat_append, List.length_take, Nat.min_eq_left h]
theorem nat_take_succ (xs : List Nat) (n : Nat) (h : n < xs.length) : nat (xs.take (n + 1)) = nat (xs.take n) + 4294967296 ^ n * xs[n] := by
  rw [List.take_succ_eq_append_getElem h, nat_append, List.length_take, Nat.min_eq_left (by omega)]
  simp [nat]
theorem nat_drop (xs : List Nat) (n : Nat) (h : n < xs.length) : nat (xs.drop n) = xs[n] + 4294967296 * nat (xs.drop (n + 1)) := by
  rw [List.drop_eq_getElem_cons h, nat]
/-- only noughts behind the first n: the number is that of the first n -/
theorem nat_take_of_zero {xs : List Nat} {n : Nat} (h : n ≤ xs.length) (hz : nat (xs.drop n) = 0) : nat (xs.take n) = nat xs := by
  rw [nat_take_drop xs n h, hz]; omega
theorem tidy_of_at {xs : List Nat} (h : ∀ k, xs.length = k + 1 → ∀ hk : k < xs.length, xs[k] ≠ 0) : Tidy xs := by
  intro hne
  rw [List.getLast_eq_getElem]
  exact h (xs.length - 1) (by have := List.length_pos_iff.2 hne; omega) _
/-- the first n limbs, the last of which is none, and noughts behind: these are the number's limbs -/
theorem limbs_of_trim {xs : List Nat} (hs : Small xs) {n : Nat} (h : n ≤ xs.length) (hz : nat (xs.drop n) = 0) (hl : ∀ k (hk : k < xs.length), n = k + 1 → xs[k] ≠ 0) : xs.take n = limbs (nat xs) := by
  rw [← nat_take_of_zero h hz]
  refine (limbs_nat (small_take hs n) (tidy_of_at fun k hk hk' => ?_)).symm
  rw [List.length_take, Nat.min_eq_left h] at hk
  rw [List.getElem_take]
  exact hl k (by omega) hk
/-- lists of one length that are one behind place i, and part there -/
theorem nat_lt_at {xs ys : List Nat} (hx : Small xs) (hl : xs.length = ys.length) {i : Nat} (h : i < xs.length) (h' : i < ys.length) (hd : xs.drop (i + 1) = ys.drop (i + 1)) (hlt : xs[i] < ys[i]) : nat xs < nat ys := by
  rw [nat_take_drop xs (i + 1) (by omega), nat_take_drop ys (i + 1) (by omega), hd, nat_take_succ xs i h, nat_take_succ ys i h']
  have h1 : nat (xs.take i) < 4294967296 ^ i := by
    have := nat_lt (small_take hx i)
    rwa [List.length_take, Nat.min_eq_left (by omega)] at this
  have h2 : 4294967296 ^ i * (xs[i] + 1) ≤ 4294967296 ^ i * ys[i] := Nat.mul_le_mul_left _ hlt
  rw [Nat.mul_add] at h2
  omega
theorem len_lt {a b : Nat} (h : (limbs a).length < (limbs b).length) : a < b := by
  have h1 : a < 4294967296 ^ (limbs a).length := limbs_len.1 (Nat.le_refl _)
  have h2 : ¬ b < 4294967296 ^ (limbs a).length := fun hb => by have := limbs_len.2 hb; omega
  omega
theorem limbs_inj {a b : Nat} (h : limbs a = limbs b) : a = b := by rw [← nat_limbs a, h, nat_limbs]
theorem set_copy (xs : List Nat) (n k : Nat) (hk : k < xs.length) (hn : k < n) : (xs.take k ++ List.replicate (n - k) 0).set k xs[k] = xs.take (k + 1) ++ List.replicate (n - (k + 1)) 0 := by
  have hl : (xs.take k).length = k := by rw [List.length_take]; omega
  rw [List.set_append_right _ _ (by omega), hl, Nat.sub_self, List.take_succ_eq_append_getElem hk, show n - k = (n - (k + 1)) + 1 by omega, List.replicate_succ, List.set_cons_zero, List.append_assoc]
  rfl
end Go.Proofs.Yteljkjpcjjiidaa.Num
