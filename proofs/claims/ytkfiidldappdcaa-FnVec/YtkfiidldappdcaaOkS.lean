/- The walk of the specification's VecOk. -/
import Derived.Test.YtkfiidldappdcaaPwOf
namespace Go.Proofs.Ytkfiidldappdcaa
open Go.RowKit
set_option linter.unusedVariables false

theorem gsh_pad (n : Int) (f : Nat → Int) (k : Nat) (h0 : 0 ≤ gsh n f k) (hz : ∀ j, k ≤ j → f j = 0) : ∀ m, k ≤ m → gsh n f m = gsh n f k
  | 0, h => by obtain rfl : k = 0 := by omega
               rfl
  | m + 1, h => by
    by_cases e : k = m + 1
    · subst e; rfl
    · have ih := gsh_pad n f k h0 hz m (by omega)
      show ((Int.gcd (gsh n f m) (f m) : Nat) : Int) = gsh n f k
      rw [ih, hz m (by omega), Int.gcd_zero_right]
      omega
theorem gsh_nn (n : Int) (f : Nat → Int) (hn : 0 ≤ n) : ∀ k, 0 ≤ gsh n f k
  | 0 => hn
  | k + 1 => by unfold gsh; omega
theorem gsh_congr (n : Int) (f g : Nat → Int) : ∀ k, (∀ j, j < k → f j = g j) → gsh n f k = gsh n g k
  | 0, _ => rfl
  | k + 1, h => by unfold gsh; rw [gsh_congr n f g k (fun j hj => h j (by omega)), h k (by omega)]
theorem vok_false_of_win (den : Int) (xs : List Int) (k : Nat) (hk : k < xs.length) (h : xs[k] < -100000 ∨ 100000 < xs[k]) : vokB den xs = false := by
  cases e : vokB den xs with
  | false => rfl
  | true =>
    unfold vokB rgtB at e
    simp only [Bool.and_eq_true, decide_eq_true_eq] at e
    have := (winB_iff 100000 (at8 xs)).1 e.2.1.2 k (by omega)
    rw [at8_lt hk] at this
    omega
theorem vok_end (den : Int) (xs : List Int) (h8 : xs.length ≤ 8) (hd : 1 ≤ den ∧ den ≤ 720) (hw : ∀ j, j < xs.length → -100000 ≤ at8 xs j ∧ at8 xs j ≤ 100000) : vokB den xs = (gsh den (at8 xs) xs.length == 1) := by
  have hw8 : winB 100000 (at8 xs) = true := (winB_iff _ _).2 (fun j hj => by
    by_cases h : j < xs.length
    · exact hw j h
    · rw [at8_ge (by omega)]; omega)
  unfold vokB rgtB
  rw [decide_eq_true h8, decide_eq_true hd, hw8, gsh_pad den (at8 xs) xs.length (gsh_nn _ _ (by omega) _) (fun j hj => at8_ge hj) 8 h8]
  rfl

set_option maxHeartbeats 1000000 in
theorem vecOkS (den : Int) (a : Option Addr) (cap : Nat) (xs : List Int) (w : World) (hs : Seg w a xs.length cap xs) :
    Calls Try.prog 32 #[.agg #[.int .i64 den, .slice a xs.length cap]] w fun e w' => e = .returned (.bool (vokB den xs)) ∧ Below w.heap.size w w' := by
  have HB := hide (bl_alloc (bl_refl w) (Obj.cells #[Value.int .i64 den, Value.slice a xs.length cap] 29))
  have HS := hide (hs.below HB.out)
  have hle := hs.le
  have hcl := hs.2.1
  have hcm := hs.2.2.1
  clear hs
  by_cases h8 : (8 : Int) < (xs.length : Int)
  · have HV : Hid (vokB den xs = false) := hide (by unfold vokB; rw [decide_eq_false (by omega)]; rfl)
    go_enter Try.func32, Try.ntmps32
    go_wp2
    go_ret
    exact ⟨ret_bool HV.out.symm, HB.out⟩
  by_cases hd : den < 1 ∨ 720 < den
  · have HV : Hid (vokB den xs = false) := hide (by unfold vokB rgtB; rw [decide_eq_false (p := 1 ≤ den ∧ den ≤ 720) (by omega)]; simp)
    have HD := hide hd
    clear hd
    go_enter Try.func32, Try.ntmps32
    go_wp2_with (go_at_call 66; refine (inS_no _ _ _ _ HD.out).mono ?_; rintro e w1 ⟨rfl, hw⟩; subst w1)
    go_ret
    exact ⟨ret_bool HV.out.symm, HB.out⟩
  have hd1 : 1 ≤ den := by omega
  have hd2 : den ≤ 720 := by omega
  clear hd
  have k0 : (w.alloc (Obj.cells #[Value.int .i64 den, Value.slice a xs.length cap] 29)).cell? ⟨w.heap.size, 0, none⟩ = some (Value.int .i64 den) := by go_simp
  have k1 : (w.alloc (Obj.cells #[Value.int .i64 den, Value.slice a xs.length cap] 29)).cell? ⟨w.heap.size, 1, none⟩ = some (Value.slice a xs.length cap) := by go_simp
  go_enter Try.func32, Try.ntmps32
  go_wp2_with (go_at_call 66; refine (inS_yes _ _ _ _ hd1 hd2).mono ?_; rintro e w1 ⟨rfl, hw⟩; subst w1)
  generalize w.alloc (Obj.cells #[Value.int .i64 den, Value.slice a xs.length cap] 29) = w1 at *
  go_loopw [3, 4] (fun g i wr => ∃ k : Nat, k ≤ xs.length ∧ i = .int .i64 k ∧ g = .int .i64 (gsh den (at8 xs) k) ∧ Hid (∀ j, j < k → -100000 ≤ at8 xs j ∧ at8 xs j ≤ 100000) ∧ ∃ m, wr = w1.drewN m) (fun _ i _ => xs.length - (intOf i).toNat)
  case atStart => exact ⟨0, Nat.zero_le _, rfl, rfl, hide (fun j h => by omega), 0, rfl⟩
  case round =>
    obtain ⟨k, hk, rfl, rfl, hj, m, rfl⟩ := hrel
    by_cases hlt : k < xs.length
    · have hlt' : (k : Int) < (xs.length : Int) := by omega
      rcases HS.out.2.2.2 with h0 | ⟨g, o, rfl, hg, hc⟩
      · omega
      have hc1 := hc k hlt
      clear hc
      by_cases hr : xs[k] < -100000 ∨ 100000 < xs[k]
      · have HV := hide (vok_false_of_win den xs k hlt hr)
        have HR := hide hr
        clear hr
        generalize xs[k] = x at *
        go_wp2_with (go_at_call 66; refine (inS_no _ _ _ _ HR.out).mono ?_; rintro e w1 ⟨rfl, hw⟩; subst w1)
        go_ret
        exact ⟨ret_bool HV.out.symm, below_drewN HB.out m⟩
      · have hx1 : -100000 ≤ xs[k] := by omega
        have hx2 : xs[k] ≤ 100000 := by omega
        have e1 := at8_lt hlt
        have HN : Hid (∀ j, j < k + 1 → -100000 ≤ at8 xs j ∧ at8 xs j ≤ 100000) := hide (fun j h => by
          by_cases e : j = k
          · subst e; rw [e1]; omega
          · exact hj.out j (by omega))
        have hg0 := gsh_nn den (at8 xs) (by omega) k
        have hg1 : gsh den (at8 xs) k ≤ 100000 := by
          have : ∀ i, i ≤ k → -100000 ≤ gsh den (at8 xs) i ∧ gsh den (at8 xs) i ≤ 100000 := by
            intro i
            induction i with
            | zero => intro _; exact ⟨by unfold gsh; omega, by unfold gsh; omega⟩
            | succ i ih =>
              intro hi
              have := gcd_bd (gsh den (at8 xs) i) (at8 xs i) 100000 (ih (by omega)) (hj.out i (by omega))
              unfold gsh; omega
          exact (this k (Nat.le_refl _)).2
        have HG : Hid (gsh den (at8 xs) (k + 1) = (Int.gcd (gsh den (at8 xs) k) xs[k] : Nat)) := hide (by rw [← e1]; rfl)
        clear hj hr e1
        generalize xs[k] = x at *
        generalize gsh den (at8 xs) k = gk at *
        go_wp2_with (first
          | (go_at_call 66; refine (inS_yes _ _ _ _ hx1 hx2).mono ?_; rintro e w1 ⟨rfl, hw⟩; subst w1)
          | (go_at_call 19; refine (gcdS_in _ _ _ (by omega) (by omega) (by omega) (by omega)).mono ?_; rintro e w2 ⟨rfl, m2, rfl⟩))
        exact ⟨⟨k + 1, by omega, by go_num, by rw [HG.out], HN, m + m2, rfl⟩, by simp [intOf]; omega⟩
    · obtain rfl : k = xs.length := by omega
      have HV := hide (vok_end den xs (by omega) ⟨hd1, hd2⟩ hj.out)
      clear hj
      generalize gsh den (at8 xs) xs.length = gk at *
      go_wp2
      go_ret
      exact ⟨ret_bool HV.out.symm, below_drewN HB.out m⟩
end Go.Proofs.Ytkfiidldappdcaa
