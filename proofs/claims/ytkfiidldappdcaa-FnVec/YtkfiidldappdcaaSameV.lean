/- The walk of sameVec, and what the order of powers says of them. -/
import Derived.Test.YtkfiidldappdcaaDrawC
import Derived.Test.YtkfiidldappdcaaVecCmpS
namespace Go.Proofs.Ytkfiidldappdcaa
open Go.RowKit
set_option linter.unusedVariables false

/-- two powers are one -/
def sameB (d1 : Int) (xs : List Int) (d2 : Int) (ys : List Int) : Bool := decide (d1 = d2 ∧ xs = ys)

set_option maxHeartbeats 2000000 in
theorem sameV (d1 : Int) (a : Option Addr) (c1 : Nat) (xs : List Int) (d2 : Int) (b : Option Addr) (c2 : Nat) (ys : List Int) (w : World) (h1 : Seg w a xs.length c1 xs) (h2 : Seg w b ys.length c2 ys) :
    Calls Try.prog 24 #[.agg #[Value.int .i64 d1, Value.slice a xs.length c1], .agg #[Value.int .i64 d2, Value.slice b ys.length c2]] w fun e w' => e = .returned (.bool (sameB d1 xs d2 ys)) ∧ Below w.heap.size w w' := by
  have HB := hide (bl_alloc (bl_alloc (bl_refl w) (Obj.cells #[Value.int .i64 d1, Value.slice a xs.length c1] 29)) (Obj.cells #[Value.int .i64 d2, Value.slice b ys.length c2] 29))
  have ka0 : ((w.alloc (Obj.cells #[Value.int .i64 d1, Value.slice a xs.length c1] 29)).alloc (Obj.cells #[Value.int .i64 d2, Value.slice b ys.length c2] 29)).cell? ⟨w.heap.size, 0, none⟩ = some (Value.int .i64 d1) := by go_simp
  have ka1 : ((w.alloc (Obj.cells #[Value.int .i64 d1, Value.slice a xs.length c1] 29)).alloc (Obj.cells #[Value.int .i64 d2, Value.slice b ys.length c2] 29)).cell? ⟨w.heap.size, 1, none⟩ = some (Value.slice a xs.length c1) := by go_simp
  have kb0 : ((w.alloc (Obj.cells #[Value.int .i64 d1, Value.slice a xs.length c1] 29)).alloc (Obj.cells #[Value.int .i64 d2, Value.slice b ys.length c2] 29)).cell? ⟨w.heap.size + 1, 0, none⟩ = some (Value.int .i64 d2) := by go_simp
  have kb1 : ((w.alloc (Obj.cells #[Value.int .i64 d1, Value.slice a xs.length c1] 29)).alloc (Obj.cells #[Value.int .i64 d2, Value.slice b ys.length c2] 29)).cell? ⟨w.heap.size + 1, 1, none⟩ = some (Value.slice b ys.length c2) := by go_simp
  have hl1 := h1.le
  have hl2 := h2.le
  have hc1 := h1.2.1
  have hc2 := h2.2.1
  have hm1 := h1.2.2.1
  have hm2 := h2.2.2.1
  have H1 := hide (h1.below HB.out)
  have H2 := hide (h2.below HB.out)
  clear h1 h2
  by_cases hd : d1 = d2
  case neg =>
    have hdb : (d1 != d2) = true := by rw [bne_iff_ne]; exact hd
    have HS : Hid (sameB d1 xs d2 ys = false) := hide (by unfold sameB; rw [decide_eq_false]; exact fun h => hd h.1)
    clear hd
    go_enter Try.func24, Try.ntmps24
    go_wp2
    go_ret
    exact ⟨ret_bool HS.out.symm, HB.out⟩
  have hdb : (d1 != d2) = false := by rw [bne_eq_false_iff_eq]; exact hd
  have HD := hide hd
  clear hd
  by_cases hl : xs.length = ys.length
  case neg =>
    have hbn : ((xs.length : Int) != (ys.length : Int)) = true := by rw [bne_iff_ne]; omega
    have HS : Hid (sameB d1 xs d2 ys = false) := hide (by unfold sameB; rw [decide_eq_false]; exact fun h => hl (by rw [h.2]))
    clear hl
    go_enter Try.func24, Try.ntmps24
    go_wp2
    go_ret
    exact ⟨ret_bool HS.out.symm, HB.out⟩
  have hbn : ((xs.length : Int) != (ys.length : Int)) = false := by rw [bne_eq_false_iff_eq]; omega
  have HE := hide hl
  clear hl
  go_enter Try.func24, Try.ntmps24
  go_wp2
  generalize ((w.alloc (Obj.cells #[Value.int .i64 d1, Value.slice a xs.length c1] 29)).alloc (Obj.cells #[Value.int .i64 d2, Value.slice b ys.length c2] 29)) = w1 at *
  go_loopw [5] (fun i wr => ∃ k : Nat, k ≤ xs.length ∧ i = .int .i64 k ∧ Hid (xs.take k = ys.take k) ∧ ∃ n, wr = w1.drewN n) (fun i _ => xs.length - (intOf i).toNat)
  case atStart => exact ⟨0, Nat.zero_le _, rfl, hide rfl, 0, rfl⟩
  case round =>
    obtain ⟨k, hk, rfl, hj, m, rfl⟩ := hrel
    by_cases hlt : k < xs.length
    · have hlt' : (k : Int) < (xs.length : Int) := by omega
      have hly : k < ys.length := by rw [← HE.out]; exact hlt
      have hly' : (k : Int) < (ys.length : Int) := by omega
      rcases H1.out.2.2.2 with h0 | ⟨g, o, rfl, hg, hc⟩
      · omega
      rcases H2.out.2.2.2 with h0 | ⟨g', o', rfl, hg', hc'⟩
      · omega
      have e1 := hc k hlt
      have e2 := hc' k hly
      clear hc hc'
      by_cases hxy : xs[k] = ys[k]
      · have HN : Hid (xs.take (k + 1) = ys.take (k + 1)) := hide (by rw [List.take_succ_eq_append_getElem hlt, List.take_succ_eq_append_getElem hly, hj.out, hxy])
        have hb : (xs[k] != ys[k]) = false := by rw [bne_eq_false_iff_eq]; exact hxy
        clear hxy hj
        generalize xs[k] = x at *
        generalize ys[k] = y at *
        go_wp2_with fail
        go_quiet (fail)
        go_wp2
        exact ⟨⟨k + 1, by omega, by go_num, HN, m + nq, rfl⟩, by simp [intOf]; omega⟩
      · have hb : (xs[k] != ys[k]) = true := by rw [bne_iff_ne]; exact hxy
        have HS : Hid (sameB d1 xs d2 ys = false) := hide (by unfold sameB; rw [decide_eq_false]; intro h; apply hxy; have := h.2; subst this; rfl)
        clear hxy hj
        generalize xs[k] = x at *
        generalize ys[k] = y at *
        go_wp2_with fail
        go_quiet (fail)
        go_wp2
        go_ret
        exact ⟨ret_bool HS.out.symm, below_drewN (below_drewN HB.out _) _⟩
    · obtain rfl : k = xs.length := by omega
      have HS : Hid (sameB d1 xs d2 ys = true) := hide (by
        unfold sameB
        rw [decide_eq_true]
        refine ⟨HD.out, ?_⟩
        have := hj.out
        rw [List.take_length, HE.out, List.take_length] at this
        exact this)
      clear hj
      go_wp2
      go_ret
      exact ⟨ret_bool HS.out.symm, below_drewN HB.out _⟩

theorem cmpF_neg (f g : Nat → Int) : ∀ (r k : Nat), cmpF g f r k = - cmpF f g r k
  | 0, _ => rfl
  | r + 1, k => by
    rw [cmpF, cmpF, cmpF_neg f g r (k + 1)]
    by_cases h1 : f k < g k
    · rw [if_neg (by omega), if_pos h1, if_pos h1]; rfl
    · by_cases h2 : g k < f k
      · rw [if_pos h2, if_neg h1, if_pos h2]
      · rw [if_neg h2, if_neg h1, if_neg h1, if_neg h2]
theorem cmpF_rg (f g : Nat → Int) : ∀ (r k : Nat), cmpF f g r k = -1 ∨ cmpF f g r k = 0 ∨ cmpF f g r k = 1
  | 0, _ => .inr (.inl rfl)
  | r + 1, k => by
    rw [cmpF]
    by_cases h1 : f k < g k
    · rw [if_pos h1]; exact .inl rfl
    · by_cases h2 : g k < f k
      · rw [if_neg h1, if_pos h2]; exact .inr (.inr rfl)
      · rw [if_neg h1, if_neg h2]; exact cmpF_rg f g r (k + 1)
theorem cmpF_zero (f g : Nat → Int) : ∀ (r k : Nat), cmpF f g r k = 0 → ∀ j, k ≤ j → j < k + r → f j = g j
  | 0, _, _, j, h1, h2 => by omega
  | r + 1, k, h, j, h1, h2 => by
    rw [cmpF] at h
    by_cases c1 : f k < g k
    · rw [if_pos c1] at h; omega
    · by_cases c2 : g k < f k
      · rw [if_neg c1, if_pos c2] at h; omega
      · rw [if_neg c1, if_neg c2] at h
        by_cases e : j = k
        · subst e; omega
        · exact cmpF_zero f g r (k + 1) h j (by omega) (by omega)
/-- what divides a number and all of a list divides what they share -/
theorem dvd_gsh (c : Int) (d : Int) (f : Nat → Int) (hd : c ∣ d) : ∀ k, (∀ j, j < k → c ∣ f j) → c ∣ gsh d f k
  | 0, _ => hd
  | k + 1, h => by
    show c ∣ ((Int.gcd (gsh d f k) (f k) : Nat) : Int)
    exact Int.dvd_coe_gcd (dvd_gsh c d f hd k (fun j hj => h j (by omega))) (h k (by omega))
theorem gsh_mul (m : Int) (hm : 0 ≤ m) (d : Int) (f : Nat → Int) (hd : 0 ≤ d) : ∀ k, gsh (d * m) (fun j => f j * m) k = gsh d f k * m
  | 0 => rfl
  | k + 1 => by
    show ((Int.gcd (gsh (d * m) (fun j => f j * m) k) (f k * m) : Nat) : Int) = ((Int.gcd (gsh d f k) (f k) : Nat) : Int) * m
    rw [gsh_mul m hm d f hd k, Int.gcd_mul_right]
    rw [Int.natCast_mul]
    congr 1
    omega
theorem vok_gsh {d : Int} {xs : List Int} (h : vokB d xs = true) : gsh d (pwF xs) 8 = 1 := by
  have h8 := vok_len h
  unfold vokB rgtB at h
  simp only [Bool.and_eq_true, beq_iff_eq] at h
  rw [gsh_congr d (pwF xs) (at8 xs) 8 (fun j _ => by unfold pwF; rw [if_pos h8])]
  exact h.2.2
theorem den_dvd {d1 : Int} {xs : List Int} {d2 : Int} {ys : List Int} (h1 : vokB d1 xs = true) (h2 : vokB d2 ys = true) (h : ∀ j, j < 8 → pwF xs j * d2 = pwF ys j * d1) : d1 ∣ d2 := by
  have p1 := (vok_facts h1).1
  have p2 := (vok_facts h2).1
  have e := gsh_mul d2 (by omega) d1 (pwF xs) (by omega) 8
  rw [vok_gsh h1, Int.one_mul] at e
  rw [← e]
  refine dvd_gsh d1 (d1 * d2) _ (Int.dvd_mul_right d1 d2) 8 (fun j hj => ?_)
  show d1 ∣ pwF xs j * d2
  rw [h j hj]
  exact Int.dvd_mul_left (pwF ys j) d1
theorem cmp_same {d1 : Int} {xs : List Int} {d2 : Int} {ys : List Int} (h1 : vokB d1 xs = true) (h2 : vokB d2 ys = true) (hl : xs.length = ys.length) (h : ∀ j, j < 8 → pwF xs j * d2 = pwF ys j * d1) : d1 = d2 ∧ xs = ys := by
  have p1 := (vok_facts h1).1
  have p2 := (vok_facts h2).1
  have a1 := Int.le_of_dvd (by omega) (den_dvd h1 h2 h)
  have a2 := Int.le_of_dvd (by omega) (den_dvd h2 h1 (fun j hj => (h j hj).symm))
  have hd : d1 = d2 := by omega
  subst hd
  refine ⟨rfl, List.ext_getElem hl (fun j q1 q2 => ?_)⟩
  have h8 := vok_len h1
  have h9 := vok_len h2
  have e := h j (by omega)
  rw [pwF_lt h8 q1, pwF_lt h9 q2] at e
  exact Int.eq_of_mul_eq_mul_right (by omega) e
theorem cz_cases (d1 : Int) (xs : List Int) (d2 : Int) (ys : List Int) : (cmpZ d1 xs d2 ys = 2 ∧ cmpZ d2 ys d1 xs = 2) ∨ ∃ v : Int, (v = -1 ∨ v = 0 ∨ v = 1) ∧ cmpZ d1 xs d2 ys = v ∧ cmpZ d2 ys d1 xs = -v ∧ (v == 0) = sameB d1 xs d2 ys := by
  by_cases h : vokB d1 xs = true ∧ vokB d2 ys = true ∧ xs.length = ys.length
  · obtain ⟨h1, h2, hl⟩ := h
    refine .inr ⟨_, cmpF_rg _ _ 8 0, cmpZ_1 h1 h2 hl, ?_, ?_⟩
    · rw [cmpZ_1 h2 h1 hl.symm]; exact cmpF_neg _ _ 8 0
    · unfold sameB
      by_cases e : cmpF (fun j => pwF xs j * d2) (fun j => pwF ys j * d1) 8 0 = 0
      · have hs := cmp_same h1 h2 hl (fun j hj => cmpF_zero _ _ 8 0 e j (Nat.zero_le _) (by omega))
        rw [e, decide_eq_true hs]; rfl
      · rw [decide_eq_false]
        · simp [e]
        · rintro ⟨rfl, rfl⟩
          exact e (cmpF_eq _ _ 8 0 (fun j _ _ => rfl))
  · exact .inl ⟨cmpZ_2 h, cmpZ_2 (fun q => h ⟨q.2.1, q.1, q.2.2.symm⟩)⟩
end Go.Proofs.Ytkfiidldappdcaa
