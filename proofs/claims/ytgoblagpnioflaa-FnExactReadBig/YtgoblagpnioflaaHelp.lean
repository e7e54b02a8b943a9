/- The walks of what the laws ask of numbers: a copy of one, whether two are alike, marks written into one, whether they are held. -/
import Derived.Test.YtgoblagpnioflaaBase
namespace Go.Proofs.Ytgoblagpnioflaa
open Go.RowKit
set_option linter.unusedVariables false

theorem Try.info45 : (Try.prog.info? 45).map (fun i => (i.zero, i.size, i.bytes)) = some (some (.int .u32 0), 1, 4) := by kernel_rfl

set_option maxHeartbeats 1000000 in
theorem eqU (a b : Option Addr) (n ca cb : Nat) (xs : List Nat) (w : World) (ha : Seg w a n ca xs) (hb : Seg w b n cb xs) :
    Calls Try.prog 20 #[.slice a n ca, .slice b n cb] w fun e w' => e = .returned (.bool true) ∧ ∃ m, w' = w.drewN m := by
  obtain ⟨rfl, a1, a2, hsm, a3⟩ := ha
  obtain ⟨-, b1, b2, -, b3⟩ := hb
  have HA := hide a3
  have HB := hide b3
  clear a3 b3
  go_enter Try.func20, Try.ntmps20
  go_wp2
  go_loopw [5] (fun i wr => ∃ k : Nat, k ≤ xs.length ∧ i = .int .i64 k ∧ ∃ n, wr = w.drewN n) (fun i _ => xs.length - (intOf i).toNat)
  case atStart => exact ⟨0, Nat.zero_le _, rfl, 0, rfl⟩
  case round =>
    obtain ⟨k, hk, rfl, n, rfl⟩ := hrel
    by_cases hlt : k < xs.length
    · rcases HA.out with h0 | ⟨g, o, rfl, hg, hc1⟩
      · omega
      rcases HB.out with h0 | ⟨g', o', rfl, hg', hc2⟩
      · omega
      have hc1 := hc1 k hlt
      have hc2 := hc2 k hlt
      have hlt' : (k : Int) < (xs.length : Int) := by omega
      generalize xs[k] = x at *
      go_wp2
      go_quiet (fail)
      go_wp2
      exact ⟨⟨k + 1, by omega, by go_num, n + nq, by simp⟩, by simp [intOf]; omega⟩
    · go_wp2
      go_ret
      exact ⟨rfl, n, rfl⟩

theorem eqB (v1 v2 : Value) (neg : Bool) (xs : List Nat) (w : World) (h1 : Raw w v1 neg xs) (h2 : Raw w v2 neg xs) :
    Calls Try.prog 6 #[v1, v2] w fun e w' => e = .returned (.bool true) ∧ Below w.heap.size w w' := by
  obtain ⟨a, ca, rfl, ha⟩ := h1
  obtain ⟨b, cb, rfl, hb⟩ := h2
  have HA := hide ha
  have HB := hide hb
  clear ha hb
  have HZ := hide (bl_alloc (bl_alloc (bl_refl w) (Obj.cells #[Value.bool neg, Value.slice a xs.length ca] 24)) (Obj.cells #[Value.bool neg, Value.slice b xs.length cb] 24))
  go_enter Try.func6, Try.ntmps6
  go_wp2_with fail
  all_goals (try go_wp2_with fail)
  refine (eqU a b _ ca cb xs _ (HA.out.below HZ.out) (HB.out.below HZ.out)).mono ?_
  rintro e w1 ⟨rfl, m, hw⟩
  subst w1
  go_wp2
  go_ret
  exact ⟨rfl, below_drewN HZ.out m⟩

/-- the marks from k on -/
def marks (k n : Nat) : List Nat := (List.range n).map fun j => k + j
theorem marks_length (k n : Nat) : (marks k n).length = n := by simp [marks]
theorem marks_succ (k n : Nat) : marks k (n + 1) = marks k n ++ [k + n] := by simp [marks, List.range_succ]
theorem marks_at (k n j : Nat) (h : j < (marks k n).length) : (marks k n)[j] = k + j := by simp [marks]
theorem marks_set (xs : List Nat) (k0 k : Nat) (h : k < xs.length) : (marks k0 k ++ xs.drop k).set k (k0 + k) = marks k0 (k + 1) ++ xs.drop (k + 1) := by
  have hl := marks_length k0 k
  rw [List.set_append_right _ _ (by omega), hl, Nat.sub_self, marks_succ, List.drop_eq_getElem_cons h, List.set_cons_zero, List.append_assoc]
  rfl

set_option maxHeartbeats 2000000 in
theorem markU (a : Option Addr) (n cap : Nat) (xs : List Nat) (base k0 : Nat) (w : World) (h2 : k0 + n ≤ 3000000) (hown : Own w base a n cap xs) :
    Calls Try.prog 21 #[.slice a n cap, .int .i64 k0] w fun e w' => e = .returned (.int .i64 ((k0 + n : Nat) : Int)) ∧ Own w' base a n cap (marks k0 n) ∧ w.grownBy w' (Value.slice a n cap).ownBlock := by
  have hl := hown.len
  have hsg := hown.seg
  have hc1 := hsg.2.1
  have hc2 := hsg.2.2.1
  clear hsg
  rcases hown.cases with ⟨rfl, rfl, rfl, rfl⟩ | ⟨g, rfl, hg, hgl⟩
  · clear hown
    go_enter Try.func21, Try.ntmps21
    go_wp2
    go_loop [1, 5] (fun k i => k = .int .i64 k0 ∧ i = .int .i64 0) (fun _ _ => 0)
    case atStart => exact ⟨rfl, rfl⟩
    case round =>
      obtain ⟨rfl, rfl⟩ := hrel
      go_wp2
      go_ret
      exact ⟨rfl, Own.nil _ _, ⟨rfl, rfl, rfl, Nat.le_refl _, fun _ _ _ => rfl⟩⟩
  · have HO := hide hown
    clear hown
    go_enter Try.func21, Try.ntmps21
    go_wp2
    go_loopw [1, 5] (fun m i wr => ∃ k : Nat, k ≤ n ∧ m = .int .i64 ((k0 : Int) + (k : Int)) ∧ i = .int .i64 k ∧ Hid (Own wr base (some ⟨g, 0, none⟩) n cap (marks k0 k ++ xs.drop k)) ∧ Hid (w.grownBy wr (some g))) (fun _ i _ => n - (intOf i).toNat)
    case atStart => exact ⟨0, Nat.zero_le _, by go_num, rfl, hide (by simpa [marks] using HO.out), hide ⟨rfl, rfl, rfl, Nat.le_refl _, fun _ _ _ => rfl⟩⟩
    case round =>
      obtain ⟨k, hk, rfl, rfl, hr, hgr⟩ := hrel
      by_cases hlt : k < n
      · have hlt' : (k : Int) < (n : Int) := by omega
        obtain ⟨y, hcl⟩ := own_has hr.out k hlt
        have hfz := hr.out.1.frozenAt k
        have hst := own_set hr.out k (k0 + k) (by omega)
        rw [marks_set xs k0 k (by omega)] at hst
        have HS := hide hst
        have HG : Hid (w.grownBy (wr.setCell ⟨g, k, none⟩ (.int .u32 ((k0 + k : Nat) : Int))) (some g)) := hide (grown_trans hgr.out hst.2)
        rw [Int.natCast_add] at HS HG
        clear hst hr hgr
        go_wp2
        exact ⟨⟨k + 1, by omega, by go_num, by go_num, hide HS.out.1, HG⟩, by simp [intOf]; omega⟩
      · obtain rfl : k = n := by omega
        go_wp2
        go_ret
        exact ⟨ret_int (by omega), by have := hr.out; rw [List.drop_eq_nil_of_le (by omega), List.append_nil] at this; exact this, hgr.out⟩

set_option maxHeartbeats 2000000 in
theorem heldU (a : Option Addr) (n cap k0 : Nat) (w : World) (h2 : k0 + n ≤ 3000000) (hs : Seg w a n cap (marks k0 n)) :
    Calls Try.prog 22 #[.slice a n cap, .int .i64 k0] w fun e w' => e = .returned (.int .i64 ((k0 + n : Nat) : Int)) ∧ ∃ m, w' = w.drewN m := by
  have hcap := hs.2.1
  have hcap2 := hs.2.2.1
  have HS := hide hs
  clear hs
  go_enter Try.func22, Try.ntmps22
  go_wp2
  go_loopw [1, 5] (fun m i wr => ∃ k : Nat, k ≤ n ∧ m = .int .i64 ((k0 : Int) + (k : Int)) ∧ i = .int .i64 k ∧ ∃ d, wr = w.drewN d) (fun _ i _ => n - (intOf i).toNat)
  case atStart => exact ⟨0, Nat.zero_le _, by go_num, rfl, 0, rfl⟩
  case round =>
    obtain ⟨k, hk, rfl, rfl, d, rfl⟩ := hrel
    by_cases hlt : k < n
    · have hlt' : (k : Int) < (n : Int) := by omega
      rcases HS.out.2.2.2.2 with h0 | ⟨g, o, rfl, hg, hc⟩
      · omega
      have hc := hc k (by rw [marks_length]; exact hlt)
      rw [marks_at, Int.natCast_add] at hc
      go_wp2
      exact ⟨⟨k + 1, by omega, by go_num, by go_num, d, rfl⟩, by simp [intOf]; omega⟩
    · obtain rfl : k = n := by omega
      go_wp2
      go_ret
      exact ⟨ret_int (by omega), d, rfl⟩

theorem markB (neg : Bool) (a : Option Addr) (n cap : Nat) (xs : List Nat) (base k0 : Nat) (w : World) (h2 : k0 + n ≤ 3000000) (hown : Own w base a n cap xs) :
    Calls Try.prog 7 #[.agg #[.bool neg, .slice a n cap], .int .i64 k0] w fun e w' => e = .returned (.int .i64 ((k0 + n : Nat) : Int)) ∧ Own w' base a n cap (marks k0 n) ∧ w.grownBy w' (Value.slice a n cap).ownBlock := by
  have HO := hide hown
  clear hown
  go_enter Try.func7, Try.ntmps7
  go_wp2_with fail
  refine (markU a n cap xs base k0 _ h2 (HO.out.below (bl_alloc (bl_refl w) _))).mono ?_
  rintro e w1 ⟨rfl, ho, hg⟩
  have HO1 := hide ho
  have HG1 := hide (grown_trans (w.grownBy_alloc _ _) hg)
  clear ho hg
  go_wp2
  go_ret
  exact ⟨rfl, HO1.out, HG1.out⟩

theorem heldB (neg : Bool) (a : Option Addr) (n cap k0 : Nat) (w : World) (h2 : k0 + n ≤ 3000000) (hs : Seg w a n cap (marks k0 n)) :
    Calls Try.prog 8 #[.agg #[.bool neg, .slice a n cap], .int .i64 k0] w fun e w' => e = .returned (.int .i64 ((k0 + n : Nat) : Int)) ∧ Below w.heap.size w w' := by
  have HS := hide hs
  clear hs
  go_enter Try.func8, Try.ntmps8
  go_wp2_with fail
  refine (heldU a n cap k0 _ h2 (HS.out.below (bl_alloc (bl_refl w) _))).mono ?_
  rintro e w1 ⟨rfl, m, hw⟩
  subst w1
  go_wp2
  go_ret
  exact ⟨rfl, below_drewN (bl_alloc (bl_refl w) _) m⟩
end Go.Proofs.Ytgoblagpnioflaa
