/- Plain facts on powers: scaled there and back they are as they were; sums in both orders are one. -/
import Derived.Test.YtkfiidldappdcaaVAdd
import Derived.Test.YtkfiidldappdcaaVScale
import Derived.Test.YtkfiidldappdcaaSameV
namespace Go.Proofs.Ytkfiidldappdcaa
open Go.RowKit
set_option linter.unusedVariables false

theorem gsh_nat (m : Int) (d : Int) (f : Nat → Int) : ∀ k, (gsh (d * m) (fun j => f j * m) k).natAbs = (gsh d f k).natAbs * m.natAbs
  | 0 => Int.natAbs_mul d m
  | k + 1 => by
    show Nat.gcd (gsh (d * m) (fun j => f j * m) k).natAbs (f k * m).natAbs = Nat.gcd (gsh d f k).natAbs (f k).natAbs * m.natAbs
    rw [gsh_nat m d f k, Int.natAbs_mul, Nat.gcd_mul_right]
theorem gsh8_nn (d : Int) (f : Nat → Int) : 0 ≤ gsh d f 8 := by
  show 0 ≤ ((Int.gcd (gsh d f 7) (f 7) : Nat) : Int)
  omega
theorem gsh_dvd (d : Int) (f : Nat → Int) : ∀ k, gsh d f k ∣ d ∧ ∀ j, j < k → gsh d f k ∣ f j
  | 0 => ⟨Int.dvd_refl d, fun j h => by omega⟩
  | k + 1 => by
    have ih := gsh_dvd d f k
    have h1 : ((Int.gcd (gsh d f k) (f k) : Nat) : Int) ∣ gsh d f k := Int.gcd_dvd_left ..
    have h2 : ((Int.gcd (gsh d f k) (f k) : Nat) : Int) ∣ f k := Int.gcd_dvd_right ..
    refine ⟨Int.dvd_trans h1 ih.1, fun j hj => ?_⟩
    by_cases e : j = k
    · subst e; exact h2
    · exact Int.dvd_trans h1 (ih.2 j (by omega))
theorem gsg_dvd (d : Int) (f : Nat → Int) : gsg d f ∣ d ∧ ∀ j, j < 8 → gsg d f ∣ f j := by
  have h := gsh_dvd d f 8
  unfold gsg
  split
  · exact ⟨(Int.neg_dvd).2 h.1, fun j hj => (Int.neg_dvd).2 (h.2 j hj)⟩
  · exact h
theorem tdiv_exact {a b c : Int} (hb : b ≠ 0) (h : a = b * c) : a.tdiv b = c := by
  rw [h]; exact Int.mul_tdiv_cancel_left c hb
theorem eq_of_mul {a b g : Int} (hg : 0 < g) (h : a * g = b * g) : a = b := Int.eq_of_mul_eq_mul_right (by omega) h

/-- the places of a list that was told -/
theorem pwF_lst8 (n : Nat) (F : Nat → Int) (hn : n ≤ 8) (hz : ∀ j, n ≤ j → F j = 0) : pwF (lst8 n F) = F := by
  funext j
  unfold pwF
  rw [lst8_len, if_pos hn, at8_lst8 n F hz]
theorem lst8_pwF (xs : List Int) (h8 : xs.length ≤ 8) : lst8 xs.length (pwF xs) = xs := by
  refine List.ext_getElem (lst8_len _ _) (fun j q1 q2 => ?_)
  rw [lst8_at, pwF_lt h8 q2]
theorem vok_rgt {d : Int} {xs : List Int} (h : vokB d xs = true) : rgtB (pwF xs) d = true := by
  have h8 := vok_len h
  unfold vokB at h
  simp only [Bool.and_eq_true] at h
  have e : pwF xs = at8 xs := by funext j; unfold pwF; rw [if_pos h8]
  rw [e]; exact h.2
theorem vok_lst {n : Nat} {F : Nat → Int} {D : Int} (hn : n ≤ 8) (hz : ∀ j, n ≤ j → F j = 0) (h : rgtB F D = true) : vokB D (lst8 n F) = true := by
  unfold vokB
  rw [lst8_len, decide_eq_true hn, at8_lst8 n F hz, h]
  rfl

theorem scale_back {d1 : Int} {xs : List Int} {p q : Int} (hv : vokB d1 xs = true) (hp : p ≠ 0) (hq : q ≠ 0) (hg : tlB (d1 * q) (fun j => pwF xs j * p) = true) :
    ∃ D M, tlD (d1 * q) (fun j => pwF xs j * p) = D ∧ tlL xs.length (d1 * q) (fun j => pwF xs j * p) = M ∧ M.length = xs.length ∧ vokB D M = true ∧
      tlB (D * p) (fun j => pwF M j * q) = true ∧ tlD (D * p) (fun j => pwF M j * q) = d1 ∧ tlL xs.length (D * p) (fun j => pwF M j * q) = xs := by
  obtain ⟨⟨hd1, hd2⟩, hF⟩ := vok_facts hv
  have h8 := vok_len hv
  have hd : d1 * q ≠ 0 := fun h => by rcases Int.mul_eq_zero.1 h with h | h <;> omega
  have gp := gsh_pos (d1 * q) (fun j => pwF xs j * p) hd
  obtain ⟨g, eg⟩ : ∃ g, gsh (d1 * q) (fun j => pwF xs j * p) 8 = g := ⟨_, rfl⟩
  obtain ⟨G, eG⟩ : ∃ G, gsg (d1 * q) (fun j => pwF xs j * p) = G := ⟨_, rfl⟩
  have hdv := gsg_dvd (d1 * q) (fun j => pwF xs j * p)
  rw [eG] at hdv
  rw [eg] at gp
  -- the sign of G is the sign of q
  have hs : (q < 0 ∧ G = -g) ∨ (0 < q ∧ G = g) := by
    unfold gsg at eG
    rw [eg] at eG
    by_cases hn : q < 0
    · have : d1 * q < 0 := Int.mul_neg_of_pos_of_neg (by omega) hn
      rw [if_pos this] at eG; exact .inl ⟨hn, eG.symm⟩
    · have : 0 < d1 * q := Int.mul_pos (by omega) (by omega)
      rw [if_neg (by omega)] at eG; exact .inr ⟨by omega, eG.symm⟩
  have hG0 : G ≠ 0 := by rcases hs with ⟨_, h⟩ | ⟨_, h⟩ <;> omega
  obtain ⟨D, eD⟩ := hdv.1
  obtain ⟨F, eF⟩ : ∃ F : Nat → Int, ∀ j, F j = (pwF xs j * p).tdiv G := ⟨_, fun j => rfl⟩
  have eFG : ∀ j, j < 8 → pwF xs j * p = G * F j := fun j hj => by
    obtain ⟨c, ec⟩ := hdv.2 j hj
    rw [eF j, tdiv_exact hG0 ec]; exact ec
  have hz : ∀ j, xs.length ≤ j → F j = 0 := fun j hj => by rw [eF j, pwF_ge hj, Int.zero_mul, Int.zero_tdiv]
  have eDD : (d1 * q).tdiv G = D := tdiv_exact hG0 eD
  have eT : tlB (d1 * q) (fun j => pwF xs j * p) = rgtB F D := by
    unfold tlB
    rw [eG, eDD]
    congr 1
    funext j; exact (eF j).symm
  rw [hg] at eT
  have hM : tlL xs.length (d1 * q) (fun j => pwF xs j * p) = lst8 xs.length F := by
    unfold tlL
    rw [hg, if_pos rfl, eG]
    congr 1
    funext j; exact (eF j).symm
  have hDD : tlD (d1 * q) (fun j => pwF xs j * p) = D := by
    unfold tlD
    rw [hg, if_pos rfl, eG, eDD]
  have hpw : pwF (lst8 xs.length F) = F := pwF_lst8 _ F h8 hz
  have hvok : vokB D (lst8 xs.length F) = true := vok_lst h8 hz eT.symm
  have hD1 := (vok_facts hvok).1.1
  refine ⟨D, lst8 xs.length F, hDD, hM, lst8_len _ _, hvok, ?_⟩
  rw [hpw]
  -- |q| and the products with g
  have kD : D * g = d1 * q.natAbs := by
    rcases hs with ⟨hn, h⟩ | ⟨hn, h⟩
    · rw [show (q.natAbs : Int) = -q by omega, Int.mul_neg, eD, h, Int.neg_mul, Int.neg_neg, Int.mul_comm]
    · rw [show (q.natAbs : Int) = q by omega, eD, h, Int.mul_comm]
  have kF : ∀ j, j < 8 → F j * q * g = pwF xs j * (p * q.natAbs) := fun j hj => by
    have e := eFG j hj
    rcases hs with ⟨hn, h⟩ | ⟨hn, h⟩
    · rw [show (q.natAbs : Int) = -q by omega, ← Int.mul_assoc, e, h]
      simp only [Int.neg_mul, Int.mul_neg, Int.neg_neg]
      rw [Int.mul_comm g (F j), Int.mul_right_comm]
    · rw [show (q.natAbs : Int) = q by omega, ← Int.mul_assoc, e, h, Int.mul_comm g (F j), Int.mul_right_comm]
  obtain ⟨g', eg'⟩ : ∃ g', gsh (D * p) (fun j => F j * q) 8 = g' := ⟨_, rfl⟩
  have hDp : D * p ≠ 0 := fun h => by rcases Int.mul_eq_zero.1 h with h | h <;> omega
  have gp' := gsh_pos (D * p) (fun j => F j * q) hDp
  rw [eg'] at gp'
  have hprod : g' * g = p.natAbs * q.natAbs := by
    have a1 := gsh_nat g (D * p) (fun j => F j * q) 8
    have a2 := gsh_nat (p * q.natAbs) d1 (pwF xs) 8
    have a3 : gsh (D * p * g) (fun j => F j * q * g) 8 = gsh (d1 * (p * q.natAbs)) (fun j => pwF xs j * (p * q.natAbs)) 8 := by
      have e0 : D * p * g = d1 * (p * q.natAbs) := by
        rw [Int.mul_right_comm, kD, Int.mul_assoc, Int.mul_comm (q.natAbs : Int) p]
      rw [e0]
      exact gsh_congr _ _ _ 8 kF
    rw [a3, a2, vok_gsh hv, eg'] at a1
    have b1 : (p * (q.natAbs : Int)).natAbs = p.natAbs * q.natAbs := by rw [Int.natAbs_mul]; rfl
    rw [b1] at a1
    have b2 : ((1 : Int).natAbs * (p.natAbs * q.natAbs) : Nat) = p.natAbs * q.natAbs := by simp
    rw [b2] at a1
    have b3 : ((g'.natAbs * g.natAbs : Nat) : Int) = g' * g := by rw [Int.natCast_mul]; congr 1 <;> omega
    rw [← b3, ← a1]
    rfl
  obtain ⟨G', eG'⟩ : ∃ G', gsg (D * p) (fun j => F j * q) = G' := ⟨_, rfl⟩
  have hs' : G' * g = p * q.natAbs := by
    unfold gsg at eG'
    rw [eg'] at eG'
    by_cases hn : p < 0
    · have : D * p < 0 := Int.mul_neg_of_pos_of_neg (by omega) hn
      rw [if_pos this] at eG'
      rw [← eG', Int.neg_mul, hprod, show (p.natAbs : Int) = -p by omega, Int.neg_mul, Int.neg_neg]
    · have : 0 < D * p := Int.mul_pos (by omega) (by omega)
      rw [if_neg (by omega)] at eG'
      rw [← eG', hprod, show (p.natAbs : Int) = p by omega]
  have hG0' : G' ≠ 0 := by
    unfold gsg at eG'
    rw [eg'] at eG'
    split at eG' <;> omega
  have x1 : D * p = G' * d1 := eq_of_mul gp (by
    rw [Int.mul_right_comm D p g, kD, Int.mul_right_comm G' d1 g, hs', Int.mul_assoc, Int.mul_comm (q.natAbs : Int) p, Int.mul_comm])
  have x2 : ∀ j, j < 8 → F j * q = G' * pwF xs j := fun j hj => eq_of_mul gp (by
    rw [kF j hj, Int.mul_right_comm G' (pwF xs j) g, hs', Int.mul_comm])
  have y1 : (D * p).tdiv G' = d1 := tdiv_exact hG0' x1
  have y2 : (fun j => (F j * q).tdiv G') = pwF xs := by
    funext j
    by_cases hj : j < 8
    · exact tdiv_exact hG0' (x2 j hj)
    · rw [hz j (by omega), pwF_ge (by omega), Int.zero_mul, Int.zero_tdiv]
  have yB : tlB (D * p) (fun j => F j * q) = true := by
    unfold tlB
    rw [eG', y1]
    rw [y2]
    exact vok_rgt hv
  refine ⟨yB, ?_, ?_⟩
  · unfold tlD
    rw [yB, if_pos rfl, eG', y1]
  · unfold tlL
    rw [yB, if_pos rfl, eG', y2]
    exact lst8_pwF xs h8
theorem ad_comm (d1 : Int) (xs : List Int) (d2 : Int) (ys : List Int) : adB d1 xs d2 ys = adB d2 ys d1 xs ∧ adD d1 xs d2 ys = adD d2 ys d1 xs ∧ adL d1 xs d2 ys = adL d2 ys d1 xs := by
  have hT : adT d1 xs d2 ys = adT d2 ys d1 xs := by
    unfold adT
    rw [Bool.and_comm (vokB d1 xs) (vokB d2 ys)]
    congr 1
    rw [Bool.eq_iff_iff]; simp only [beq_iff_eq]; exact ⟨Eq.symm, Eq.symm⟩
  have hf : (fun j => pwF xs j * d2 + pwF ys j * d1) = (fun j => pwF ys j * d1 + pwF xs j * d2) := by funext j; omega
  have hd : d1 * d2 = d2 * d1 := Int.mul_comm _ _
  refine ⟨?_, ?_, ?_⟩
  · unfold adB; rw [hT, hf, hd]
  · unfold adD; rw [hT, hf, hd]
  · unfold adL
    rw [hT, hf, hd]
    by_cases h : adT d2 ys d1 xs = true
    · rw [if_pos h, if_pos h]
      have hl : xs.length = ys.length := by
        unfold adT at h
        simp only [Bool.and_eq_true, beq_iff_eq] at h
        have e := h.2
        unfold pwN at e
        rw [if_pos (vok_len h.1.1), if_pos (vok_len h.1.2)] at e
        omega
      rw [hl]
    · rw [if_neg h, if_neg h]
end Go.Proofs.Ytkfiidldappdcaa
