/- The walks of what the laws ask of lists and powers: a copy of one, whether two are alike, marks written into one, whether they are held. -/
import Derived.Test.YteljkjpcjjiidaaVBase
namespace Go.Proofs.Yteljkjpcjjiidaa.V
open Go.RowKit
set_option linter.unusedVariables false
set_option maxRecDepth 20000

theorem Try.info3 : (Try.prog.info? 3).map (fun i => (i.zero, i.size, i.bytes)) = some (some (.int .i64 0), 1, 8) := by kernel_rfl

theorem set_copy (xs : List Int) (n k : Nat) (hk : k < xs.length) (hn : k < n) : (xs.take k ++ List.replicate (n - k) 0).set k xs[k] = xs.take (k + 1) ++ List.replicate (n - (k + 1)) 0 := by
  have hl : (xs.take k).length = k := by simp; omega
  obtain ⟨m, hm⟩ : ∃ m, n - k = m + 1 := ⟨n - k - 1, by omega⟩
  rw [List.set_append_right _ _ (by omega), hl, Nat.sub_self, hm, List.replicate_succ, List.set_cons_zero, List.take_succ_eq_append_getElem hk, List.append_assoc, show n - (k + 1) = m by omega]
  rfl

theorem szU (a : Option Addr) (n cap : Nat) (left : Int) (w : World) (hn : n ≤ 9223372036854775807) (hl : 0 ≤ left) (hl2 : left ≤ 1048576) :
    Calls Try.prog 39 #[.slice a n cap, .int .i64 left] w fun e w' => e = .returned (.int .i64 (if left < n then -1 else left - n)) ∧ w' = w := by
  by_cases h : left < n
  · rw [if_pos h]
    go_enter Try.func39, Try.ntmps39
    go_wp2
    go_ret
    exact ⟨rfl, rfl⟩
  · rw [if_neg h]
    go_enter Try.func39, Try.ntmps39
    go_wp2
    go_ret
    exact ⟨rfl, rfl⟩

theorem toU (a : Option Addr) (n cap : Nat) (xs : List Int) (w : World) (hs : Seg w a n cap xs) (hn : n ≤ 1048576) :
    Calls Try.prog 41 #[.slice a n cap] w fun e w' => ∃ a' c', e = .returned (.slice a' n c') ∧ Own w' w.heap.size a' n c' xs ∧ Below w.heap.size w w' := by
  obtain ⟨i0, hi, hz0, hz1, hz2⟩ := info_parts Try.info3
  have hxl := hs.1
  have hcap := hs.2.1
  have hcm := hs.2.2.1
  have HS := hide hs
  clear hs
  go_enter Try.func41, Try.ntmps41
  go_wp2_with (at_make; refine wpList_make_full _ rfl _ _ 59 rfl w.heap.size 3 i0 (.int .i64 0) 1 Try.underlying59 hi hz0 hz1 _ _ _ _ n rfl rfl rfl rfl (by rw [hz2]; omega) (by unfold maxLen; omega) (Nat.le_refl _) ?_)
  intro w1 hown hgrow
  have hb1 : Below w.heap.size w w1 := (Below.refl _ _).grown hgrow (Nat.le_refl _) (by simp)
  have HO := hide (own_made hown)
  have HB1 := hide hb1
  clear hown hgrow hb1
  go_wp2
  go_loopw [4] (fun i wr => ∃ k : Nat, k ≤ n ∧ i = .int .i64 k ∧ Hid (Own wr w.heap.size (some ⟨w.heap.size, 0, none⟩) n n (xs.take k ++ List.replicate (n - k) 0)) ∧ Hid (Below w.heap.size w wr)) (fun i _ => n - (intOf i).toNat)
  case atStart => exact ⟨0, Nat.zero_le _, rfl, hide (by simpa using HO.out), HB1⟩
  case round =>
    obtain ⟨k, hk, rfl, ho, hb⟩ := hrel
    by_cases hlt : k < n
    · have hlt' : (k : Int) < (n : Int) := by omega
      have hkx : k < xs.length := by omega
      rcases HS.out.2.2.2 with h0 | ⟨g, o, rfl, hg, hc⟩
      · omega
      have hc1 : wr.cell? ⟨g, o + k, none⟩ = some (.int .i64 xs[k]) := (hb.out.cell (p := ⟨g, o + k, none⟩) hg).trans (hc k hkx)
      have hfz := World.ownsRow.frozenAt ho.out k
      have hcl := own_cell ho.out k (by simp; omega)
      have e := set_copy xs n k hkx hlt
      have hst := own_set ho.out k xs[k]
      rw [e] at hst
      have HST := hide hst
      have HB2 := hide (hb.out.grown hst.2 hb.out.size (fun j e => by cases e; exact Nat.le_refl _))
      clear hc hst e
      generalize xs[k] = x at *
      generalize (xs.take k ++ List.replicate (n - k) 0)[k]'_ = y at *
      go_wp2
      exact ⟨⟨k + 1, by omega, by go_num, hide HST.out.1, HB2⟩, by simp [intOf]; omega⟩
    · obtain rfl : k = n := by omega
      go_wp2
      go_ret
      exact ⟨_, _, rfl, by have := ho.out; rw [List.take_of_length_le (by omega), Nat.sub_self] at this; simpa using this, hb.out⟩

theorem eqU (a b : Option Addr) (n ca cb : Nat) (xs : List Int) (w : World) (ha : Seg w a n ca xs) (hb : Seg w b n cb xs) :
    Calls Try.prog 45 #[.slice a n ca, .slice b n cb] w fun e w' => e = .returned (.bool true) ∧ ∃ m, w' = w.drewN m := by
  obtain ⟨rfl, a1, a2, a3⟩ := ha
  obtain ⟨-, b1, b2, b3⟩ := hb
  have HA := hide a3
  have HB := hide b3
  clear a3 b3
  go_enter Try.func45, Try.ntmps45
  go_wp2
  go_loopw [5] (fun i wr => ∃ k : Nat, k ≤ xs.length ∧ i = .int .i64 k ∧ ∃ n, wr = w.drewN n) (fun i _ => xs.length - (intOf i).toNat)
  case atStart => exact ⟨0, Nat.zero_le _, rfl, 0, rfl⟩
  case round =>
    obtain ⟨k, hk, rfl, n, rfl⟩ := hrel
    by_cases hlt : k < xs.length
    · rcases HA.out with h0 | ⟨g, o, rfl, hg, hc1⟩
      · omega
      rcases HB.out with h0 | ⟨g', o', rfl, hg', hc2⟩
      · omega
      have hc1 := hc1 k hlt
      have hc2 := hc2 k hlt
      have hlt' : (k : Int) < (xs.length : Int) := by omega
      generalize xs[k] = x at *
      go_wp2
      go_quiet (fail)
      go_wp2
      exact ⟨⟨k + 1, by omega, by go_num, n + nq, by simp⟩, by simp [intOf]; omega⟩
    · go_wp2
      go_ret
      exact ⟨rfl, n, rfl⟩

def marks (k n : Nat) : List Int := (List.range n).map fun j => ((k + j : Nat) : Int)
theorem marks_length (k n : Nat) : (marks k n).length = n := by simp [marks]
theorem marks_succ (k n : Nat) : marks k (n + 1) = marks k n ++ [((k + n : Nat) : Int)] := by simp [marks, List.range_succ]
theorem marks_at (k n j : Nat) (h : j < (marks k n).length) : (marks k n)[j] = ((k + j : Nat) : Int) := by simp [marks]
theorem marks_set (xs : List Int) (k0 k : Nat) (h : k < xs.length) : (marks k0 k ++ xs.drop k).set k ((k0 + k : Nat) : Int) = marks k0 (k + 1) ++ xs.drop (k + 1) := by
  have hl := marks_length k0 k
  rw [List.set_append_right _ _ (by omega), hl, Nat.sub_self, marks_succ, List.drop_eq_getElem_cons h, List.set_cons_zero, List.append_assoc]
  rfl

theorem markU (a : Option Addr) (n cap : Nat) (xs : List Int) (base k0 : Nat) (w : World) (h2 : k0 + n ≤ 3000000) (hown : Own w base a n cap xs) :
    Calls Try.prog 46 #[.slice a n cap, .int .i64 k0] w fun e w' => e = .returned (.int .i64 ((k0 + n : Nat) : Int)) ∧ Own w' base a n cap (marks k0 n) ∧ w.grownBy w' (Value.slice a n cap).ownBlock := by
  have hl := hown.len
  have hsg := hown.seg
  have hc1 := hsg.2.1
  have hc2 := hsg.2.2.1
  clear hsg
  rcases hown.cases with ⟨rfl, rfl, rfl, rfl⟩ | ⟨g, rfl, hg, hgl⟩
  · clear hown
    go_enter Try.func46, Try.ntmps46
    go_wp2
    go_loop [1, 5] (fun k i => k = .int .i64 k0 ∧ i = .int .i64 0) (fun _ _ => 0)
    case atStart => exact ⟨rfl, rfl⟩
    case round =>
      obtain ⟨rfl, rfl⟩ := hrel
      go_wp2
      go_ret
      exact ⟨rfl, Own.nil _ _, ⟨rfl, rfl, rfl, Nat.le_refl _, fun _ _ _ => rfl⟩⟩
  · have HO := hide hown
    clear hown
    go_enter Try.func46, Try.ntmps46
    go_wp2
    go_loopw [1, 5] (fun m i wr => ∃ k : Nat, k ≤ n ∧ m = .int .i64 ((k0 : Int) + (k : Int)) ∧ i = .int .i64 k ∧ Hid (Own wr base (some ⟨g, 0, none⟩) n cap (marks k0 k ++ xs.drop k)) ∧ Hid (w.grownBy wr (some g))) (fun _ i _ => n - (intOf i).toNat)
    case atStart => exact ⟨0, Nat.zero_le _, by go_num, rfl, hide (by simpa [marks] using HO.out), hide ⟨rfl, rfl, rfl, Nat.le_refl _, fun _ _ _ => rfl⟩⟩
    case round =>
      obtain ⟨k, hk, rfl, rfl, hr, hgr⟩ := hrel
      by_cases hlt : k < n
      · have hlt' : (k : Int) < (n : Int) := by omega
        obtain ⟨y, hcl⟩ := own_has hr.out k hlt
        have hfz := World.ownsRow.frozenAt hr.out k
        have hst := own_set hr.out k ((k0 + k : Nat) : Int)
        rw [marks_set xs k0 k (by omega)] at hst
        have HS := hide hst
        have HG : Hid (w.grownBy (wr.setCell ⟨g, k, none⟩ (.int .i64 ((k0 + k : Nat) : Int))) (some g)) := hide (grown_trans hgr.out hst.2)
        rw [Int.natCast_add] at HS HG
        clear hst hr hgr
        go_wp2
        exact ⟨⟨k + 1, by omega, by go_num, by go_num, hide HS.out.1, HG⟩, by simp [intOf]; omega⟩
      · obtain rfl : k = n := by omega
        go_wp2
        go_ret
        exact ⟨ret_int (by omega), by have := hr.out; rw [List.drop_eq_nil_of_le (by omega), List.append_nil] at this; exact this, hgr.out⟩
end Go.Proofs.Yteljkjpcjjiidaa.V
