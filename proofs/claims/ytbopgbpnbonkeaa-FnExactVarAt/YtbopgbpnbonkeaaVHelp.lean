/- The walks of what the laws ask of lists and powers: a copy of one, whether two are alike, marks written into one, whether they are held. -/
import Derived.Test.YtbopgbpnbonkeaaVBase
namespace Go.Proofs.Ytbopgbpnbonkeaa.V
open Go.RowKit
set_option linter.unusedVariables false
set_option maxRecDepth 20000

theorem Try.info3 : (Try.prog.info? 3).map (fun i => (i.zero, i.size, i.bytes)) = some (some (.int .i64 0), 1, 8) := by kernel_rfl

theorem set_copy (xs : List Int) (n k : Nat) (hk : k < xs.length) (hn : k < n) : (xs.take k ++ List.replicate (n - k) 0).set k xs[k] = xs.take (k + 1) ++ List.replicate (n - (k + 1)) 0 := by
  have hl : (xs.take k).length = k := by simp; omega
  obtain ⟨m, hm⟩ : ∃ m, n - k = m + 1 := ⟨n - k - 1, by omega⟩
  rw [List.set_append_right _ _ (by omega), hl, Nat.sub_self, hm, List.replicate_succ, List.set_cons_zero, List.take_succ_eq_append_getElem hk, List.append_assoc, show n - (k + 1) = m by omega]
  rfl

theorem szU (a : Option Addr) (n cap : Nat) (left : Int) (w : World) (hn : n ≤ 9223372036854775807) (hl : 0 ≤ left) (hl2 : left ≤ 1048576) :
    Calls Try.prog 33 #[.slice a n cap, .int .i64 left] w fun e w' => e = .returned (.int .i64 (if left < n then -1 else left - n)) ∧ w' = w := by
  by_cases h : left < n
  · rw [if_pos h]
    go_enter Try.func33, Try.ntmps33
    go_wp2
    go_ret
    exact ⟨rfl, rfl⟩
  · rw [if_neg h]
    go_enter Try.func33, Try.ntmps33
    go_wp2
    go_ret
    exact ⟨rfl, rfl⟩

theorem szB (den : Int) (a : Option Addr) (n cap : Nat) (left : Int) (w : World) (hn : n ≤ 9223372036854775807) (hl : 0 ≤ left) (hl2 : left ≤ 1048576) :
    Calls Try.prog 21 #[.agg #[.int .i64 den, .slice a n cap], .int .i64 left] w fun e w' => e = .returned (.int .i64 (if left < n then -1 else left - n)) ∧ Below w.heap.size w w' := by
  go_enter Try.func21, Try.ntmps21
  go_wp2_with fail
  refine (szU a n cap left _ hn hl hl2).mono ?_
  rintro e w1 ⟨rfl, hw⟩
  subst w1
  by_cases h : left < n
  · rw [if_pos h]
    go_wp2
    go_ret
    exact ⟨rfl, (Below.refl _ _).alloc (Nat.le_refl _) _⟩
  · rw [if_neg h]
    go_wp2
    go_ret
    exact ⟨rfl, (Below.refl _ _).alloc (Nat.le_refl _) _⟩

set_option maxHeartbeats 1000000 in
theorem toU (a : Option Addr) (n cap : Nat) (xs : List Int) (w : World) (hs : Seg w a n cap xs) (hn : n ≤ 1048576) :
    Calls Try.prog 41 #[.slice a n cap] w fun e w' => ∃ a' c', e = .returned (.slice a' n c') ∧ Own w' w.heap.size a' n c' xs ∧ Below w.heap.size w w' := by
  obtain ⟨i0, hi, hz0, hz1, hz2⟩ := info_parts Try.info3
  have hxl := hs.1
  have hcap := hs.2.1
  have hcm := hs.2.2.1
  have HS := hide hs
  clear hs
  go_enter Try.func41, Try.ntmps41
  go_wp2_with (at_make; refine wpList_make_full _ rfl _ _ 37 rfl w.heap.size 3 i0 (.int .i64 0) 1 Try.underlying37 hi hz0 hz1 _ _ _ _ n rfl rfl rfl rfl (by rw [hz2]; omega) (by unfold maxLen; omega) (Nat.le_refl _) ?_)
  intro w1 hown hgrow
  have hb1 : Below w.heap.size w w1 := (Below.refl _ _).grown hgrow (Nat.le_refl _) (by simp)
  have HO := hide (own_made hown)
  have HB1 := hide hb1
  clear hown hgrow hb1
  go_wp2
  go_loopw [4] (fun i wr => ∃ k : Nat, k ≤ n ∧ i = .int .i64 k ∧ Hid (Own wr w.heap.size (some ⟨w.heap.size, 0, none⟩) n n (xs.take k ++ List.replicate (n - k) 0)) ∧ Hid (Below w.heap.size w wr)) (fun i _ => n - (intOf i).toNat)
  case atStart => exact ⟨0, Nat.zero_le _, rfl, hide (by simpa using HO.out), HB1⟩
  case round =>
    obtain ⟨k, hk, rfl, ho, hb⟩ := hrel
    by_cases hlt : k < n
    · have hlt' : (k : Int) < (n : Int) := by omega
      have hkx : k < xs.length := by omega
      rcases HS.out.2.2.2 with h0 | ⟨g, o, rfl, hg, hc⟩
      · omega
      have hc1 : wr.cell? ⟨g, o + k, none⟩ = some (.int .i64 xs[k]) := (hb.out.cell (p := ⟨g, o + k, none⟩) hg).trans (hc k hkx)
      have hfz := World.ownsRow.frozenAt ho.out k
      have hcl := own_cell ho.out k (by simp; omega)
      have e := set_copy xs n k hkx hlt
      have hst := own_set ho.out k xs[k]
      rw [e] at hst
      have HST := hide hst
      have HB2 := hide (hb.out.grown hst.2 hb.out.size (fun j e => by cases e; exact Nat.le_refl _))
      clear hc hst e
      generalize xs[k] = x at *
      generalize (xs.take k ++ List.replicate (n - k) 0)[k]'_ = y at *
      go_wp2
      exact ⟨⟨k + 1, by omega, by go_num, hide HST.out.1, HB2⟩, by simp [intOf]; omega⟩
    · obtain rfl : k = n := by omega
      go_wp2
      go_ret
      exact ⟨_, _, rfl, by have := ho.out; rw [List.take_of_length_le (by omega), Nat.sub_self] at this; simpa using this, hb.out⟩

theorem toB (den : Int) (a : Option Addr) (n cap : Nat) (xs : List Int) (w : World) (hs : Seg w a n cap xs) (hn : n ≤ 1048576) :
    Calls Try.prog 26 #[.agg #[.int .i64 den, .slice a n cap]] w fun e w' => ∃ v, e = .returned v ∧ Got w' w.heap.size v den xs ∧ Below w.heap.size w w' := by
  obtain rfl := hs.1
  have HS := hide hs
  clear hs
  go_enter Try.func26, Try.ntmps26
  go_wp2_with fail
  have hb0 : Below w.heap.size w (((w.alloc (Obj.cells #[Value.int .i64 den, Value.slice a xs.length cap] 39)).alloc (Obj.cells #[Value.int .i64 0, Value.slice none 0 0] 48)).alloc (Obj.cells #[Value.int .i64 den, Value.slice none 0 0] 48)) :=
    bl_alloc (bl_alloc (bl_alloc (bl_refl w) _) _) _
  refine (toU a xs.length cap xs _ (HS.out.below hb0) hn).mono ?_
  rintro e w1 ⟨a', c', rfl, ho, hb⟩
  have hsz := hb.size
  simp only [World.size_alloc] at hsz
  have k10 : w1.cell? ⟨w.heap.size + 1, 0, none⟩ = some (.int .i64 0) := (hb.cell (p := ⟨w.heap.size + 1, 0, none⟩) (by simp only [World.size_alloc]; omega)).trans (by go_simp)
  have k11 : w1.cell? ⟨w.heap.size + 1, 1, none⟩ = some (.slice none 0 0) := (hb.cell (p := ⟨w.heap.size + 1, 1, none⟩) (by simp only [World.size_alloc]; omega)).trans (by go_simp)
  have k20 : w1.cell? ⟨w.heap.size + 1 + 1, 0, none⟩ = some (.int .i64 den) := (hb.cell (p := ⟨w.heap.size + 1 + 1, 0, none⟩) (by simp only [World.size_alloc]; omega)).trans (by go_simp)
  have k21 : w1.cell? ⟨w.heap.size + 1 + 1, 1, none⟩ = some (.slice none 0 0) := (hb.cell (p := ⟨w.heap.size + 1 + 1, 1, none⟩) (by simp only [World.size_alloc]; omega)).trans (by go_simp)
  have f1 : w1.frozen? ⟨w.heap.size + 1, 0, none⟩ = false := (hb.frozen (p := ⟨w.heap.size + 1, 0, none⟩) (by simp only [World.size_alloc]; omega)).trans (by go_simp)
  have f1' : w1.frozen? ⟨w.heap.size + 1, 1, none⟩ = false := (hb.frozen (p := ⟨w.heap.size + 1, 1, none⟩) (by simp only [World.size_alloc]; omega)).trans (by go_simp)
  have f2 : w1.frozen? ⟨w.heap.size + 1 + 1, 1, none⟩ = false := (hb.frozen (p := ⟨w.heap.size + 1 + 1, 1, none⟩) (by simp only [World.size_alloc]; omega)).trans (by go_simp)
  have HO := hide ho
  have HB := hide hb
  have HB0 := hide hb0
  clear ho hb hb0
  go_wp2
  refine bodyPost_ret (v := .agg #[.int .i64 den, .slice a' xs.length c']) (by simp [results, Try.results26, go_sem, *]) rfl ?_
  refine ⟨_, rfl, ⟨a', c', rfl, ?_⟩, ?_⟩
  · exact (((HO.out.setCell (p := ⟨w.heap.size + 1 + 1, 1, none⟩) (by simp) _).setCell (p := ⟨w.heap.size + 1, 0, none⟩) (by simp) _).setCell (p := ⟨w.heap.size + 1, 1, none⟩) (by simp) _).mono (by simp only [World.size_alloc]; omega)
  · exact (((bl_trans HB0.out HB.out).setCell (p := ⟨w.heap.size + 1 + 1, 1, none⟩) (by dsimp only; omega) _).setCell (p := ⟨w.heap.size + 1, 0, none⟩) (by dsimp only; omega) _).setCell (p := ⟨w.heap.size + 1, 1, none⟩) (by dsimp only; omega) _

set_option maxHeartbeats 1000000 in
theorem eqU (a b : Option Addr) (n ca cb : Nat) (xs : List Int) (w : World) (ha : Seg w a n ca xs) (hb : Seg w b n cb xs) :
    Calls Try.prog 48 #[.slice a n ca, .slice b n cb] w fun e w' => e = .returned (.bool true) ∧ ∃ m, w' = w.drewN m := by
  obtain ⟨rfl, a1, a2, a3⟩ := ha
  obtain ⟨-, b1, b2, b3⟩ := hb
  have HA := hide a3
  have HB := hide b3
  clear a3 b3
  go_enter Try.func48, Try.ntmps48
  go_wp2
  go_loopw [5] (fun i wr => ∃ k : Nat, k ≤ xs.length ∧ i = .int .i64 k ∧ ∃ n, wr = w.drewN n) (fun i _ => xs.length - (intOf i).toNat)
  case atStart => exact ⟨0, Nat.zero_le _, rfl, 0, rfl⟩
  case round =>
    obtain ⟨k, hk, rfl, n, rfl⟩ := hrel
    by_cases hlt : k < xs.length
    · rcases HA.out with h0 | ⟨g, o, rfl, hg, hc1⟩
      · omega
      rcases HB.out with h0 | ⟨g', o', rfl, hg', hc2⟩
      · omega
      have hc1 := hc1 k hlt
      have hc2 := hc2 k hlt
      have hlt' : (k : Int) < (xs.length : Int) := by omega
      generalize xs[k] = x at *
      go_wp2
      go_quiet (fail)
      go_wp2
      exact ⟨⟨k + 1, by omega, by go_num, n + nq, by simp⟩, by simp [intOf]; omega⟩
    · go_wp2
      go_ret
      exact ⟨rfl, n, rfl⟩

theorem eqB (v1 v2 : Value) (den : Int) (xs : List Int) (w : World) (h1 : Raw w v1 den xs) (h2 : Raw w v2 den xs) :
    Calls Try.prog 31 #[v1, v2] w fun e w' => e = .returned (.bool true) ∧ Below w.heap.size w w' := by
  obtain ⟨a, ca, rfl, ha⟩ := h1
  obtain ⟨b, cb, rfl, hb⟩ := h2
  have HA := hide ha
  have HB := hide hb
  clear ha hb
  have HZ := hide (bl_alloc (bl_alloc (bl_refl w) (Obj.cells #[Value.int .i64 den, Value.slice a xs.length ca] 48)) (Obj.cells #[Value.int .i64 den, Value.slice b xs.length cb] 48))
  go_enter Try.func31, Try.ntmps31
  go_wp2_with fail
  all_goals (try go_wp2_with fail)
  refine (eqU a b _ ca cb xs _ (HA.out.below HZ.out) (HB.out.below HZ.out)).mono ?_
  rintro e w1 ⟨rfl, m, hw⟩
  subst w1
  go_wp2
  go_ret
  exact ⟨rfl, below_drewN HZ.out m⟩

/-- the marks from k on -/
def marks (k n : Nat) : List Int := (List.range n).map fun j => ((k + j : Nat) : Int)
theorem marks_length (k n : Nat) : (marks k n).length = n := by simp [marks]
theorem marks_succ (k n : Nat) : marks k (n + 1) = marks k n ++ [((k + n : Nat) : Int)] := by simp [marks, List.range_succ]
theorem marks_at (k n j : Nat) (h : j < (marks k n).length) : (marks k n)[j] = ((k + j : Nat) : Int) := by simp [marks]
theorem marks_set (xs : List Int) (k0 k : Nat) (h : k < xs.length) : (marks k0 k ++ xs.drop k).set k ((k0 + k : Nat) : Int) = marks k0 (k + 1) ++ xs.drop (k + 1) := by
  have hl := marks_length k0 k
  rw [List.set_append_right _ _ (by omega), hl, Nat.sub_self, marks_succ, List.drop_eq_getElem_cons h, List.set_cons_zero, List.append_assoc]
  rfl

end Go.Proofs.Ytbopgbpnbonkeaa.V
