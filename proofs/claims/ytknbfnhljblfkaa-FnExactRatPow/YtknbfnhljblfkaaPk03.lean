/- My texts Help, Ok, Make, in this order. -/
import Derived.Test.YtknbfnhljblfkaaPk01
/- The walks of what the laws ask of numbers: a copy of one, whether two are alike, marks written into one, whether they are held. -/
namespace Go.Proofs.Ytknbfnhljblfkaa
open Go.RowKit
set_option linter.unusedVariables false

theorem Try.info48 : (Try.prog.info? 48).map (fun i => (i.zero, i.size, i.bytes)) = some (some (.int .u32 0), 1, 4) := by kernel_rfl

theorem szU (a : Option Addr) (n cap : Nat) (left : Int) (w : World) (hn : n ≤ 9223372036854775807) (hl : 0 ≤ left) (hl2 : left ≤ 1048576) :
    Calls Try.prog 19 #[.slice a n cap, .int .i64 left] w fun e w' => e = .returned (.int .i64 (if left < n then -1 else left - n)) ∧ w' = w := by
  by_cases h : left < n
  · rw [if_pos h]
    go_enter Try.func19, Try.ntmps19
    go_wp2
    go_ret
    exact ⟨rfl, rfl⟩
  · rw [if_neg h]
    go_enter Try.func19, Try.ntmps19
    go_wp2
    go_ret
    exact ⟨rfl, rfl⟩

theorem szB (neg : Bool) (a : Option Addr) (n cap : Nat) (left : Int) (w : World) (hn : n ≤ 9223372036854775807) (hl : 0 ≤ left) (hl2 : left ≤ 1048576) :
    Calls Try.prog 5 #[.agg #[.bool neg, .slice a n cap], .int .i64 left] w fun e w' => e = .returned (.int .i64 (if left < n then -1 else left - n)) ∧ Below w.heap.size w w' := by
  go_enter Try.func5, Try.ntmps5
  go_wp2_with fail
  refine (szU a n cap left _ hn hl hl2).mono ?_
  rintro e w1 ⟨rfl, hw⟩
  subst w1
  by_cases h : left < n
  · rw [if_pos h]
    go_wp2
    go_ret
    exact ⟨rfl, (Below.refl _ _).alloc (Nat.le_refl _) _⟩
  · rw [if_neg h]
    go_wp2
    go_ret
    exact ⟨rfl, (Below.refl _ _).alloc (Nat.le_refl _) _⟩

set_option maxHeartbeats 1000000 in
theorem toU (a : Option Addr) (n cap : Nat) (xs : List Nat) (w : World) (hs : Seg w a n cap xs) (hn : n ≤ 1048576) :
    Calls Try.prog 27 #[.slice a n cap] w fun e w' => ∃ a' c', e = .returned (.slice a' n c') ∧ Own w' w.heap.size a' n c' xs ∧ Below w.heap.size w w' := by
  obtain ⟨i0, hi, hz0, hz1, hz2⟩ := info_parts Try.info48
  have hxl := hs.1
  have hcap := hs.2.1
  have hcm := hs.2.2.1
  have HS := hide hs
  clear hs
  go_enter Try.func27, Try.ntmps27
  go_wp2_with (at_make; refine wpList_make_full _ rfl _ _ 22 rfl w.heap.size 48 i0 (.int .u32 0) 1 Try.underlying22 hi hz0 hz1 _ _ _ _ n rfl rfl rfl rfl (by rw [hz2]; omega) (by unfold maxLen; omega) (Nat.le_refl _) ?_)
  intro w1 hown hgrow
  have hb1 : Below w.heap.size w w1 := (Below.refl _ _).grown hgrow (Nat.le_refl _) (by simp)
  have HO := hide (own_made hown)
  have HB1 := hide hb1
  clear hown hgrow hb1
  go_wp2
  go_loopw [4] (fun i wr => ∃ k : Nat, k ≤ n ∧ i = .int .i64 k ∧ Hid (Own wr w.heap.size (some ⟨w.heap.size, 0, none⟩) n n (xs.take k ++ List.replicate (n - k) 0)) ∧ Hid (Below w.heap.size w wr)) (fun i _ => n - (intOf i).toNat)
  case atStart => exact ⟨0, Nat.zero_le _, rfl, hide (by simpa using HO.out), HB1⟩
  case round =>
    obtain ⟨k, hk, rfl, ho, hb⟩ := hrel
    by_cases hlt : k < n
    · have hlt' : (k : Int) < (n : Int) := by omega
      have hkx : k < xs.length := by omega
      rcases HS.out.2.2.2.2 with h0 | ⟨g, o, rfl, hg, hc⟩
      · omega
      have hc1 : wr.cell? ⟨g, o + k, none⟩ = some (.int .u32 xs[k]) := (hb.out.cell (p := ⟨g, o + k, none⟩) hg).trans (hc k hkx)
      have hfz := ho.out.1.frozenAt k
      have hcl := own_cell ho.out k (by simp; omega)
      have e := Num.set_copy xs n k hkx hlt
      have hst := own_set ho.out k xs[k] (Num.small_at HS.out.2.2.2.1 hkx)
      rw [e] at hst
      have HST := hide hst
      have HB2 := hide (hb.out.grown hst.2 hb.out.size (fun j e => by cases e; exact Nat.le_refl _))
      clear hc hst e
      generalize xs[k] = x at *
      generalize (xs.take k ++ List.replicate (n - k) 0)[k]'_ = y at *
      go_wp2
      exact ⟨⟨k + 1, by omega, by go_num, hide HST.out.1, HB2⟩, by simp [intOf]; omega⟩
    · obtain rfl : k = n := by omega
      go_wp2
      go_ret
      exact ⟨_, _, rfl, by have := ho.out; rw [List.take_of_length_le (by omega), Nat.sub_self] at this; simpa using this, hb.out⟩

theorem toB (neg : Bool) (a : Option Addr) (n cap : Nat) (xs : List Nat) (w : World) (hs : Seg w a n cap xs) (hn : n ≤ 1048576) :
    Calls Try.prog 7 #[.agg #[.bool neg, .slice a n cap]] w fun e w' => ∃ v, e = .returned v ∧ Got w' w.heap.size v neg xs ∧ Below w.heap.size w w' := by
  obtain rfl := hs.1
  have HS := hide hs
  clear hs
  go_enter Try.func7, Try.ntmps7
  go_wp2_with fail
  have hb0 : Below w.heap.size w (((w.alloc (Obj.cells #[Value.bool neg, Value.slice a xs.length cap] 24)).alloc (Obj.cells #[Value.bool false, Value.slice none 0 0] 26)).alloc (Obj.cells #[Value.bool neg, Value.slice none 0 0] 26)) :=
    bl_alloc (bl_alloc (bl_alloc (bl_refl w) _) _) _
  refine (toU a xs.length cap xs _ (HS.out.below hb0) hn).mono ?_
  rintro e w1 ⟨a', c', rfl, ho, hb⟩
  have hsz := hb.size
  simp only [World.size_alloc] at hsz
  have k10 : w1.cell? ⟨w.heap.size + 1, 0, none⟩ = some (.bool false) := (hb.cell (p := ⟨w.heap.size + 1, 0, none⟩) (by simp only [World.size_alloc]; omega)).trans (by go_simp)
  have k11 : w1.cell? ⟨w.heap.size + 1, 1, none⟩ = some (.slice none 0 0) := (hb.cell (p := ⟨w.heap.size + 1, 1, none⟩) (by simp only [World.size_alloc]; omega)).trans (by go_simp)
  have k20 : w1.cell? ⟨w.heap.size + 1 + 1, 0, none⟩ = some (.bool neg) := (hb.cell (p := ⟨w.heap.size + 1 + 1, 0, none⟩) (by simp only [World.size_alloc]; omega)).trans (by go_simp)
  have k21 : w1.cell? ⟨w.heap.size + 1 + 1, 1, none⟩ = some (.slice none 0 0) := (hb.cell (p := ⟨w.heap.size + 1 + 1, 1, none⟩) (by simp only [World.size_alloc]; omega)).trans (by go_simp)
  have f1 : w1.frozen? ⟨w.heap.size + 1, 0, none⟩ = false := (hb.frozen (p := ⟨w.heap.size + 1, 0, none⟩) (by simp only [World.size_alloc]; omega)).trans (by go_simp)
  have f1' : w1.frozen? ⟨w.heap.size + 1, 1, none⟩ = false := (hb.frozen (p := ⟨w.heap.size + 1, 1, none⟩) (by simp only [World.size_alloc]; omega)).trans (by go_simp)
  have f2 : w1.frozen? ⟨w.heap.size + 1 + 1, 1, none⟩ = false := (hb.frozen (p := ⟨w.heap.size + 1 + 1, 1, none⟩) (by simp only [World.size_alloc]; omega)).trans (by go_simp)
  have HO := hide ho
  have HB := hide hb
  have HB0 := hide hb0
  clear ho hb hb0
  go_wp2
  refine bodyPost_ret (v := .agg #[.bool neg, .slice a' xs.length c']) (by simp [results, Try.results7, go_sem, *]) rfl ?_
  refine ⟨_, rfl, ⟨a', c', rfl, ?_⟩, ?_⟩
  · exact (((HO.out.setCell (p := ⟨w.heap.size + 1 + 1, 1, none⟩) (by simp) _).setCell (p := ⟨w.heap.size + 1, 0, none⟩) (by simp) _).setCell (p := ⟨w.heap.size + 1, 1, none⟩) (by simp) _).mono (by simp only [World.size_alloc]; omega)
  · exact (((bl_trans HB0.out HB.out).setCell (p := ⟨w.heap.size + 1 + 1, 1, none⟩) (by dsimp only; omega) _).setCell (p := ⟨w.heap.size + 1, 0, none⟩) (by dsimp only; omega) _).setCell (p := ⟨w.heap.size + 1, 1, none⟩) (by dsimp only; omega) _

set_option maxHeartbeats 1000000 in
theorem eqU (a b : Option Addr) (n ca cb : Nat) (xs : List Nat) (w : World) (ha : Seg w a n ca xs) (hb : Seg w b n cb xs) :
    Calls Try.prog 37 #[.slice a n ca, .slice b n cb] w fun e w' => e = .returned (.bool true) ∧ ∃ m, w' = w.drewN m := by
  obtain ⟨rfl, a1, a2, hsm, a3⟩ := ha
  obtain ⟨-, b1, b2, -, b3⟩ := hb
  have HA := hide a3
  have HB := hide b3
  clear a3 b3
  go_enter Try.func37, Try.ntmps37
  go_wp2
  go_loopw [5] (fun i wr => ∃ k : Nat, k ≤ xs.length ∧ i = .int .i64 k ∧ ∃ n, wr = w.drewN n) (fun i _ => xs.length - (intOf i).toNat)
  case atStart => exact ⟨0, Nat.zero_le _, rfl, 0, rfl⟩
  case round =>
    obtain ⟨k, hk, rfl, n, rfl⟩ := hrel
    by_cases hlt : k < xs.length
    · rcases HA.out with h0 | ⟨g, o, rfl, hg, hc1⟩
      · omega
      rcases HB.out with h0 | ⟨g', o', rfl, hg', hc2⟩
      · omega
      have hc1 := hc1 k hlt
      have hc2 := hc2 k hlt
      have hlt' : (k : Int) < (xs.length : Int) := by omega
      generalize xs[k] = x at *
      go_wp2
      go_quiet (fail)
      go_wp2
      exact ⟨⟨k + 1, by omega, by go_num, n + nq, by simp⟩, by simp [intOf]; omega⟩
    · go_wp2
      go_ret
      exact ⟨rfl, n, rfl⟩

theorem eqB (v1 v2 : Value) (neg : Bool) (xs : List Nat) (w : World) (h1 : Raw w v1 neg xs) (h2 : Raw w v2 neg xs) :
    Calls Try.prog 9 #[v1, v2] w fun e w' => e = .returned (.bool true) ∧ Below w.heap.size w w' := by
  obtain ⟨a, ca, rfl, ha⟩ := h1
  obtain ⟨b, cb, rfl, hb⟩ := h2
  have HA := hide ha
  have HB := hide hb
  clear ha hb
  have HZ := hide (bl_alloc (bl_alloc (bl_refl w) (Obj.cells #[Value.bool neg, Value.slice a xs.length ca] 26)) (Obj.cells #[Value.bool neg, Value.slice b xs.length cb] 26))
  go_enter Try.func9, Try.ntmps9
  go_wp2_with fail
  all_goals (try go_wp2_with fail)
  refine (eqU a b _ ca cb xs _ (HA.out.below HZ.out) (HB.out.below HZ.out)).mono ?_
  rintro e w1 ⟨rfl, m, hw⟩
  subst w1
  go_wp2
  go_ret
  exact ⟨rfl, below_drewN HZ.out m⟩

/-- the marks from k on -/
def marks (k n : Nat) : List Nat := (List.range n).map fun j => k + j
theorem marks_length (k n : Nat) : (marks k n).length = n := by simp [marks]
theorem marks_succ (k n : Nat) : marks k (n + 1) = marks k n ++ [k + n] := by simp [marks, List.range_succ]
theorem marks_at (k n j : Nat) (h : j < (marks k n).length) : (marks k n)[j] = k + j := by simp [marks]
theorem marks_set (xs : List Nat) (k0 k : Nat) (h : k < xs.length) : (marks k0 k ++ xs.drop k).set k (k0 + k) = marks k0 (k + 1) ++ xs.drop (k + 1) := by
  have hl := marks_length k0 k
  rw [List.set_append_right _ _ (by omega), hl, Nat.sub_self, marks_succ, List.drop_eq_getElem_cons h, List.set_cons_zero, List.append_assoc]
  rfl

set_option maxHeartbeats 2000000 in
theorem markU (a : Option Addr) (n cap : Nat) (xs : List Nat) (base k0 : Nat) (w : World) (h2 : k0 + n ≤ 3000000) (hown : Own w base a n cap xs) :
    Calls Try.prog 38 #[.slice a n cap, .int .i64 k0] w fun e w' => e = .returned (.int .i64 ((k0 + n : Nat) : Int)) ∧ Own w' base a n cap (marks k0 n) ∧ w.grownBy w' (Value.slice a n cap).ownBlock := by
  have hl := hown.len
  have hsg := hown.seg
  have hc1 := hsg.2.1
  have hc2 := hsg.2.2.1
  clear hsg
  rcases hown.cases with ⟨rfl, rfl, rfl, rfl⟩ | ⟨g, rfl, hg, hgl⟩
  · clear hown
    go_enter Try.func38, Try.ntmps38
    go_wp2
    go_loop [1, 5] (fun k i => k = .int .i64 k0 ∧ i = .int .i64 0) (fun _ _ => 0)
    case atStart => exact ⟨rfl, rfl⟩
    case round =>
      obtain ⟨rfl, rfl⟩ := hrel
      go_wp2
      go_ret
      exact ⟨rfl, Own.nil _ _, ⟨rfl, rfl, rfl, Nat.le_refl _, fun _ _ _ => rfl⟩⟩
  · have HO := hide hown
    clear hown
    go_enter Try.func38, Try.ntmps38
    go_wp2
    go_loopw [1, 5] (fun m i wr => ∃ k : Nat, k ≤ n ∧ m = .int .i64 ((k0 : Int) + (k : Int)) ∧ i = .int .i64 k ∧ Hid (Own wr base (some ⟨g, 0, none⟩) n cap (marks k0 k ++ xs.drop k)) ∧ Hid (w.grownBy wr (some g))) (fun _ i _ => n - (intOf i).toNat)
    case atStart => exact ⟨0, Nat.zero_le _, by go_num, rfl, hide (by simpa [marks] using HO.out), hide ⟨rfl, rfl, rfl, Nat.le_refl _, fun _ _ _ => rfl⟩⟩
    case round =>
      obtain ⟨k, hk, rfl, rfl, hr, hgr⟩ := hrel
      by_cases hlt : k < n
      · have hlt' : (k : Int) < (n : Int) := by omega
        obtain ⟨y, hcl⟩ := own_has hr.out k hlt
        have hfz := hr.out.1.frozenAt k
        have hst := own_set hr.out k (k0 + k) (by omega)
        rw [marks_set xs k0 k (by omega)] at hst
        have HS := hide hst
        have HG : Hid (w.grownBy (wr.setCell ⟨g, k, none⟩ (.int .u32 ((k0 + k : Nat) : Int))) (some g)) := hide (grown_trans hgr.out hst.2)
        rw [Int.natCast_add] at HS HG
        clear hst hr hgr
        go_wp2
        exact ⟨⟨k + 1, by omega, by go_num, by go_num, hide HS.out.1, HG⟩, by simp [intOf]; omega⟩
      · obtain rfl : k = n := by omega
        go_wp2
        go_ret
        exact ⟨ret_int (by omega), by have := hr.out; rw [List.drop_eq_nil_of_le (by omega), List.append_nil] at this; exact this, hgr.out⟩

set_option maxHeartbeats 2000000 in
theorem heldU (a : Option Addr) (n cap k0 : Nat) (w : World) (h2 : k0 + n ≤ 3000000) (hs : Seg w a n cap (marks k0 n)) :
    Calls Try.prog 39 #[.slice a n cap, .int .i64 k0] w fun e w' => e = .returned (.int .i64 ((k0 + n : Nat) : Int)) ∧ ∃ m, w' = w.drewN m := by
  have hcap := hs.2.1
  have hcap2 := hs.2.2.1
  have HS := hide hs
  clear hs
  go_enter Try.func39, Try.ntmps39
  go_wp2
  go_loopw [1, 5] (fun m i wr => ∃ k : Nat, k ≤ n ∧ m = .int .i64 ((k0 : Int) + (k : Int)) ∧ i = .int .i64 k ∧ ∃ d, wr = w.drewN d) (fun _ i _ => n - (intOf i).toNat)
  case atStart => exact ⟨0, Nat.zero_le _, by go_num, rfl, 0, rfl⟩
  case round =>
    obtain ⟨k, hk, rfl, rfl, d, rfl⟩ := hrel
    by_cases hlt : k < n
    · have hlt' : (k : Int) < (n : Int) := by omega
      rcases HS.out.2.2.2.2 with h0 | ⟨g, o, rfl, hg, hc⟩
      · omega
      have hc := hc k (by rw [marks_length]; exact hlt)
      rw [marks_at, Int.natCast_add] at hc
      go_wp2
      exact ⟨⟨k + 1, by omega, by go_num, by go_num, d, rfl⟩, by simp [intOf]; omega⟩
    · obtain rfl : k = n := by omega
      go_wp2
      go_ret
      exact ⟨ret_int (by omega), d, rfl⟩

theorem markB (neg : Bool) (a : Option Addr) (n cap : Nat) (xs : List Nat) (base k0 : Nat) (w : World) (h2 : k0 + n ≤ 3000000) (hown : Own w base a n cap xs) :
    Calls Try.prog 10 #[.agg #[.bool neg, .slice a n cap], .int .i64 k0] w fun e w' => e = .returned (.int .i64 ((k0 + n : Nat) : Int)) ∧ Own w' base a n cap (marks k0 n) ∧ w.grownBy w' (Value.slice a n cap).ownBlock := by
  have HO := hide hown
  clear hown
  go_enter Try.func10, Try.ntmps10
  go_wp2_with fail
  refine (markU a n cap xs base k0 _ h2 (HO.out.below (bl_alloc (bl_refl w) _))).mono ?_
  rintro e w1 ⟨rfl, ho, hg⟩
  have HO1 := hide ho
  have HG1 := hide (grown_trans (w.grownBy_alloc _ _) hg)
  clear ho hg
  go_wp2
  go_ret
  exact ⟨rfl, HO1.out, HG1.out⟩

theorem heldB (neg : Bool) (a : Option Addr) (n cap k0 : Nat) (w : World) (h2 : k0 + n ≤ 3000000) (hs : Seg w a n cap (marks k0 n)) :
    Calls Try.prog 11 #[.agg #[.bool neg, .slice a n cap], .int .i64 k0] w fun e w' => e = .returned (.int .i64 ((k0 + n : Nat) : Int)) ∧ Below w.heap.size w w' := by
  have HS := hide hs
  clear hs
  go_enter Try.func11, Try.ntmps11
  go_wp2_with fail
  refine (heldU a n cap k0 _ h2 (HS.out.below (bl_alloc (bl_refl w) _))).mono ?_
  rintro e w1 ⟨rfl, m, hw⟩
  subst w1
  go_wp2
  go_ret
  exact ⟨rfl, below_drewN (bl_alloc (bl_refl w) _) m⟩
end Go.Proofs.Ytknbfnhljblfkaa

/- The walks of the two BigOk: whether a sign and limbs are a right number; nothing that was there turns. -/
namespace Go.Proofs.Ytknbfnhljblfkaa
open Go.RowKit
set_option linter.unusedVariables false

/-- a sign and limbs are right -/
def okB (neg : Bool) (xs : List Nat) : Bool :=
  if xs.length ≤ 40 then (if xs.length = 0 then !neg else decide (xs.getD (xs.length - 1) 0 ≠ 0)) else false
theorem ok_long {neg : Bool} {xs : List Nat} (h : ¬ xs.length ≤ 40) : okB neg xs = false := by simp [okB, h]
theorem ok_nil {neg : Bool} {xs : List Nat} (h : xs.length = 0) : okB neg xs = !neg := by simp [okB, h]
theorem ok_some {neg : Bool} {xs : List Nat} (h : xs.length ≤ 40) (h0 : xs.length ≠ 0) : okB neg xs = decide (xs.getD (xs.length - 1) 0 ≠ 0) := by
  simp only [okB, if_pos h, if_neg h0]

/-- the sign of a number, and its limbs -/
def sgn (z : Int) : Bool := decide (z < 0)
def lms (z : Int) : List Nat := Num.limbs z.natAbs
theorem ok_num {neg : Bool} {xs : List Nat} (hs : Num.Small xs) (h : okB neg xs = true) : ∃ z : Int, neg = sgn z ∧ xs = lms z ∧ z.natAbs < 4294967296 ^ 40 := by
  have h40 : xs.length ≤ 40 := by
    refine Classical.byContradiction fun hc => ?_
    rw [ok_long hc] at h; cases h
  have ht : Num.Tidy xs := Num.tidy_of_at fun k hk hk' => by
    rw [ok_some h40 (by omega)] at h
    have := of_decide_eq_true h
    rw [hk, Nat.add_sub_cancel] at this
    simpa [hk'] using this
  have hl := Num.limbs_nat hs ht
  have hlt : Num.nat xs < 4294967296 ^ 40 := by
    have := Num.limbs_len (n := Num.nat xs) (k := 40)
    rw [hl] at this; exact this.1 h40
  cases neg with
  | false => exact ⟨(Num.nat xs : Int), by simp [sgn], by simp [lms, hl], by simpa using hlt⟩
  | true =>
    have h0 : xs ≠ [] := fun e => by subst e; simp [okB] at h
    have hp := Num.nat_pos_of_tidy ht h0
    exact ⟨-(Num.nat xs : Int), by simp [sgn]; omega, by simp [lms, hl], by simpa using hlt⟩
theorem lms_small (z : Int) : Num.Small (lms z) := Num.limbs_small _
theorem sgn_lms_nil {z : Int} (h : (lms z).length = 0) : z = 0 := by
  have : lms z = [] := List.eq_nil_of_length_eq_zero h
  have := Num.limbs_eq_nil.1 this
  omega
theorem lms_last (z : Int) (h : (lms z).length ≠ 0) : (lms z).getD ((lms z).length - 1) 0 ≠ 0 := by
  have hne : lms z ≠ [] := fun e => h (by rw [e]; rfl)
  have : (lms z).getLast hne ≠ 0 := Num.limbs_tidy z.natAbs hne
  rw [List.getLast_eq_getElem] at this
  have hlt : (lms z).length - 1 < (lms z).length := by omega
  simpa [List.getD, hlt] using this
theorem ok_of_num (z : Int) : okB (sgn z) (lms z) = decide (z.natAbs < 4294967296 ^ 40) := by
  by_cases h : z.natAbs < 4294967296 ^ 40
  · rw [decide_eq_true h]
    have h40 : (lms z).length ≤ 40 := Num.limbs_len.2 h
    by_cases h0 : (lms z).length = 0
    · rw [ok_nil h0, sgn_lms_nil h0]; rfl
    · rw [ok_some h40 h0]; exact decide_eq_true (lms_last z h0)
  · rw [decide_eq_false h]
    exact ok_long fun hc => h (Num.limbs_len.1 hc)

theorem bne_nat (x : Nat) : ((x : Int) != 0) = decide (x ≠ 0) := by
  by_cases h : x = 0
  · subst h; rfl
  · rw [decide_eq_true h, bne_iff_ne]; omega
theorem raw_last {w : World} {a : Option Addr} {cap : Nat} {xs : List Nat} (hs : Seg w a xs.length cap xs) (h0 : xs.length ≠ 0) : ∃ g o, a = some ⟨g, o, none⟩ ∧ g < w.heap.size ∧ w.cell? ⟨g, o + (xs.length - 1), none⟩ = some (.int .u32 (xs.getD (xs.length - 1) 0)) := by
  rcases hs.2.2.2.2 with h | ⟨g, o, ha, hg, hc⟩
  · exact absurd h h0
  · refine ⟨g, o, ha, hg, ?_⟩
    have hlt : xs.length - 1 < xs.length := by omega
    rw [hc _ hlt]; simp [List.getD, hlt]

set_option maxHeartbeats 1000000 in
theorem okI (v : Value) (neg : Bool) (xs : List Nat) (w : World) (h : Raw w v neg xs) :
    Calls Try.prog 28 #[v] w fun e w' => e = .returned (.bool (okB neg xs)) ∧ Below w.heap.size w w' := by
  obtain ⟨a, cap, rfl, hs⟩ := h
  have hcap := hs.2.1
  have hcm := hs.2.2.1
  by_cases h0 : xs.length = 0
  · rw [ok_nil h0]
    clear hs
    cases neg
    all_goals
      go_enter Try.func28, Try.ntmps28
      go_wp2
      go_ret
      exact ⟨rfl, bl_alloc (bl_refl w) _⟩
  · by_cases h40 : xs.length ≤ 40
    · rw [ok_some h40 h0]
      obtain ⟨g, o, rfl, hg, hc⟩ := raw_last hs h0
      have hc' : (w.alloc (.cells #[.bool neg, .slice (some ⟨g, o, none⟩) xs.length cap] 26)).cell? ⟨g, o + (xs.length - 1), none⟩ = some (.int .u32 (xs.getD (xs.length - 1) 0)) := ((bl_alloc (bl_refl w) _).cell (p := ⟨g, o + (xs.length - 1), none⟩) hg).trans hc
      clear hs hc
      generalize xs.getD (xs.length - 1) 0 = x at *
      go_enter Try.func28, Try.ntmps28
      go_wp2
      go_ret
      exact ⟨ret_bool (bne_nat x), bl_alloc (bl_refl w) _⟩
    · rw [ok_long h40]
      clear hs
      go_enter Try.func28, Try.ntmps28
      go_wp2
      go_ret
      exact ⟨rfl, bl_alloc (bl_refl w) _⟩

set_option maxHeartbeats 1000000 in
theorem okS (v : Value) (neg : Bool) (xs : List Nat) (w : World) (h : Raw w v neg xs) :
    Calls Try.prog 20 #[v] w fun e w' => e = .returned (.bool (okB neg xs)) ∧ Below w.heap.size w w' := by
  obtain ⟨a, cap, rfl, hs⟩ := h
  have hcap := hs.2.1
  have hcm := hs.2.2.1
  by_cases h0 : xs.length = 0
  · rw [ok_nil h0]
    clear hs
    cases neg
    all_goals
      go_enter Try.func20, Try.ntmps20
      go_wp2
      go_ret
      exact ⟨rfl, bl_alloc (bl_refl w) _⟩
  · by_cases h40 : xs.length ≤ 40
    · rw [ok_some h40 h0]
      obtain ⟨g, o, rfl, hg, hc⟩ := raw_last hs h0
      have hc' : (w.alloc (.cells #[.bool neg, .slice (some ⟨g, o, none⟩) xs.length cap] 26)).cell? ⟨g, o + (xs.length - 1), none⟩ = some (.int .u32 (xs.getD (xs.length - 1) 0)) := ((bl_alloc (bl_refl w) _).cell (p := ⟨g, o + (xs.length - 1), none⟩) hg).trans hc
      clear hs hc
      generalize xs.getD (xs.length - 1) 0 = x at *
      go_enter Try.func20, Try.ntmps20
      go_wp2
      go_ret
      exact ⟨ret_bool (bne_nat x), bl_alloc (bl_refl w) _⟩
    · rw [ok_long h40]
      clear hs
      go_enter Try.func20, Try.ntmps20
      go_wp2
      go_ret
      exact ⟨rfl, bl_alloc (bl_refl w) _⟩

end Go.Proofs.Ytknbfnhljblfkaa

/- The walks of what makes a number of a sign and limbs: l02Make, trimLimbs, bigOf; noughts at the end are gone, and nought has no sign. -/
namespace Go.Proofs.Ytknbfnhljblfkaa
open Go.RowKit
set_option linter.unusedVariables false

/-- a number of a sign and a size -/
def mk (neg : Bool) (m : Nat) : Int := if neg then -(m : Int) else m
theorem mk_lms (neg : Bool) (m : Nat) : lms (mk neg m) = Num.limbs m := by unfold mk lms; cases neg <;> simp
theorem mk_sgn (neg : Bool) (m : Nat) : sgn (mk neg m) = (neg && decide (0 < m)) := by
  unfold mk sgn; cases neg
  · simp
  · by_cases h : 0 < m
    · rw [decide_eq_true h]; simp; omega
    · obtain rfl : m = 0 := by omega
      simp
theorem mk_abs (neg : Bool) (m : Nat) : (mk neg m).natAbs = m := by unfold mk; cases neg <;> simp
theorem mk_self (z : Int) : mk (sgn z) z.natAbs = z := by
  unfold mk sgn
  by_cases h : z < 0
  · rw [decide_eq_true h, if_pos rfl]; omega
  · rw [decide_eq_false h, if_neg (by simp)]; omega
theorem nat_lms (z : Int) : Num.nat (lms z) = z.natAbs := Num.nat_limbs _
/-- the number z, read; and in memory of its own -/
def Is (W : World) (v : Value) (z : Int) : Prop := Raw W v (sgn z) (lms z)
def New (W : World) (base : Nat) (v : Value) (z : Int) : Prop := Got W base v (sgn z) (lms z)
theorem New.is {W : World} {base : Nat} {v : Value} {z : Int} (h : New W base v z) : Is W v z := Got.raw h
theorem Is.below {W W' : World} {v : Value} {z : Int} (h : Is W v z) (hb : Below W.heap.size W W') : Is W' v z := Raw.below h hb
theorem New.below {W W' : World} {base : Nat} {v : Value} {z : Int} (h : New W base v z) (hb : Below W.heap.size W W') : New W' base v z := Got.below h hb
theorem New.mono {W : World} {base base' : Nat} {v : Value} {z : Int} (h : New W base v z) (hb : base' ≤ base) : New W base' v z := Got.mono h hb
theorem Got.setCell {W : World} {base : Nat} {v : Value} {neg : Bool} {xs : List Nat} (h : Got W base v neg xs) {p : Addr} (hp : p.block < base) (u : Value) : Got (W.setCell p u) base v neg xs := by
  obtain ⟨a, cap, rfl, h⟩ := h; exact ⟨a, cap, rfl, h.setCell hp u⟩
theorem New.setCell {W : World} {base : Nat} {v : Value} {z : Int} (h : New W base v z) {p : Addr} (hp : p.block < base) (u : Value) : New (W.setCell p u) base v z := Got.setCell h hp u
theorem limbs_len_le {xs : List Nat} (hs : Num.Small xs) : (Num.limbs (Num.nat xs)).length ≤ xs.length := Num.limbs_len.2 (Num.nat_lt hs)

theorem apart_of {x y : Option Nat} {l1 h1 l2 h2 : Nat} (hx : ∀ k, x = some k → l1 ≤ k ∧ k < h1) (hy : ∀ k, y = some k → l2 ≤ k ∧ k < h2) (h : h1 ≤ l2 ∨ h2 ≤ l1) : x = none ∨ x ≠ y := by
  cases x with
  | none => exact .inl rfl
  | some k => refine .inr fun e => ?_; have a := hx k rfl; have b := hy k e.symm; omega
theorem markB1 (neg : Bool) (a : Option Addr) (n cap : Nat) (xs : List Nat) (base : Nat) (w : World) (h2 : n ≤ 2000000) (hown : Own w base a n cap xs) :
    Calls Try.prog 10 #[.agg #[.bool neg, .slice a n cap], .int .i64 1] w fun e w' => e = .returned (.int .i64 (1 + (n : Int))) ∧ Own w' base a n cap (marks 1 n) ∧ w.grownBy w' (Value.slice a n cap).ownBlock :=
  (markB neg a n cap xs base 1 w (by omega) hown).mono fun e w' ⟨he, h⟩ => ⟨by rw [he]; exact ret_int (by omega), h⟩
theorem heldB1 (neg : Bool) (a : Option Addr) (n cap : Nat) (w : World) (h2 : n ≤ 2000000) (hs : Seg w a n cap (marks 1 n)) :
    Calls Try.prog 11 #[.agg #[.bool neg, .slice a n cap], .int .i64 1] w fun e w' => e = .returned (.int .i64 (1 + (n : Int))) ∧ Below w.heap.size w w' :=
  (heldB neg a n cap 1 w (by omega) hs).mono fun e w' ⟨he, h⟩ => ⟨by rw [he]; exact ret_int (by omega), h⟩
/-- a box of two cells stands behind a call -/
theorem box_keep {W w1 : World} {N : Nat} {c0 c1 : Value} (hb : Below W.heap.size W w1) (hlt : N < W.heap.size) (h0 : W.cell? ⟨N, 0, none⟩ = some c0) (h1 : W.cell? ⟨N, 1, none⟩ = some c1) (g0 : W.frozen? ⟨N, 0, none⟩ = false) (g1 : W.frozen? ⟨N, 1, none⟩ = false) :
    w1.cell? ⟨N, 0, none⟩ = some c0 ∧ w1.cell? ⟨N, 1, none⟩ = some c1 ∧ w1.frozen? ⟨N, 0, none⟩ = false ∧ w1.frozen? ⟨N, 1, none⟩ = false :=
  ⟨(hb.cell (p := ⟨N, 0, none⟩) hlt).trans h0, (hb.cell (p := ⟨N, 1, none⟩) hlt).trans h1, (hb.frozen (p := ⟨N, 0, none⟩) hlt).trans g0, (hb.frozen (p := ⟨N, 1, none⟩) hlt).trans g1⟩
/-- a number is stored in a box of the call's own -/
theorem fin_box {w w1 : World} {N base : Nat} {v x y : Value} {z : Int} (hn : New w1 base v z) (hN : N < base) (hwN : w.heap.size ≤ N) (hb : Below w.heap.size w w1) :
    New ((w1.setCell ⟨N, 0, none⟩ x).setCell ⟨N, 1, none⟩ y) w.heap.size v z ∧ Below w.heap.size w ((w1.setCell ⟨N, 0, none⟩ x).setCell ⟨N, 1, none⟩ y) :=
  ⟨((hn.setCell (p := ⟨N, 0, none⟩) hN x).setCell (p := ⟨N, 1, none⟩) hN y).mono (by omega), (hb.setCell (p := ⟨N, 0, none⟩) hwN x).setCell (p := ⟨N, 1, none⟩) hwN y⟩
set_option maxHeartbeats 1000000 in
theorem trimI (a : Option Addr) (n cap : Nat) (xs : List Nat) (base : Nat) (w : World) (ho : Own w base a n cap xs) :
    Calls Try.prog 71 #[.slice a n cap] w fun e w' => w' = w ∧ ∃ a' c', e = .returned (.slice a' (Num.limbs (Num.nat xs)).length c') ∧ ∀ W, Own W base a n cap xs → Own W base a' (Num.limbs (Num.nat xs)).length c' (Num.limbs (Num.nat xs)) := by
  obtain rfl := ho.len
  have hs := ho.seg
  have hcap := hs.2.1
  have hcm := hs.2.2.1
  have hcell := hs.2.2.2.2
  have HO := hide ho
  have HC := hide hcell
  clear hs ho hcell
  go_enter Try.func71, Try.ntmps71
  go_wp2
  go_loopw [3] (fun i wr => ∃ k : Nat, k ≤ xs.length ∧ i = .int .i64 k ∧ wr = w ∧ Hid (Num.nat (xs.drop k) = 0)) (fun i _ => (intOf i).toNat)
  case atStart => exact ⟨xs.length, Nat.le_refl _, rfl, rfl, hide (by rw [List.drop_eq_nil_of_le (Nat.le_refl _)]; rfl)⟩
  case round =>
    obtain ⟨k, hk, rfl, rfl, hz⟩ := hrel
    by_cases h0 : k = 0
    · subst h0
      have HN : Hid (Num.limbs (Num.nat xs) = []) := hide (by have := hz.out; rw [List.drop_zero] at this; rw [this, Num.limbs_zero])
      go_wp2
      go_ret
      rw [HN.out]
      exact ⟨rfl, none, 0, rfl, fun W _ => Own.nil _ _⟩
    · obtain ⟨j, rfl⟩ : ∃ j, k = j + 1 := ⟨k - 1, by omega⟩
      have hj : j < xs.length := by omega
      rcases HO.out.cases with ⟨rfl, h0, _, _⟩ | ⟨g, rfl, hg, hgl⟩
      · omega
      have hc := own_cell HO.out j hj
      by_cases hx : xs[j] = 0
      · have HZ : Hid (Num.nat (xs.drop j) = 0) := hide (by rw [Num.nat_drop xs j hj, hz.out, hx])
        rw [hx] at hc
        clear hz
        go_wp2
        exact ⟨⟨j, by omega, by go_num, trivial, HZ⟩, by simp [intOf]⟩
      · have hne : ((xs[j] : Int) != 0) = true := by rw [bne_iff_ne]; omega
        have ht := Num.limbs_of_trim HO.out.2 hk hz.out (fun i hi e => by cases e; exact hx)
        have HL : Hid ((Num.limbs (Num.nat xs)).length = j + 1) := hide (by rw [← ht, List.length_take]; omega)
        have HOX : Hid (∀ W, Own W base (some ⟨g, 0, none⟩) xs.length cap xs → Own W base (some ⟨g, 0, none⟩) (j + 1) cap (Num.limbs (Num.nat xs))) := hide (fun W h => by have := h.cut (j + 1) hk; rw [ht] at this; exact this)
        clear hz ht hx
        generalize xs[j] = x at *
        go_wp2
        go_ret
        rw [HL.out]
        exact ⟨rfl, _, _, rfl, HOX.out⟩

set_option maxHeartbeats 1000000 in
theorem bigOfI (neg : Bool) (a : Option Addr) (n cap : Nat) (xs : List Nat) (base : Nat) (w : World) (ho : Own w base a n cap xs) (hbase : base ≤ w.heap.size) :
    Calls Try.prog 56 #[.bool neg, .slice a n cap] w fun e w' => ∃ v, e = .returned v ∧ New w' base v (mk neg (Num.nat xs)) ∧ Below w.heap.size w w' := by
  unfold New Got
  rw [mk_lms, mk_sgn]
  have HO := hide ho
  have hcm := ho.seg.2.2.1
  have hcap := ho.seg.2.1
  have hll := limbs_len_le ho.2
  rw [ho.len] at hll
  clear ho
  go_enter Try.func56, Try.ntmps56
  go_wp2_with fail
  refine (trimI a n cap xs base _ (HO.out.below (bl_alloc (bl_refl w) _))).mono ?_
  rintro e w1 ⟨hw, a', c', rfl, ho'⟩
  subst w1
  have HO' := hide ho'
  have HP : Hid (decide (0 < Num.nat xs) = decide (0 < ((Num.limbs (Num.nat xs)).length : Int))) := hide (by
    by_cases h : Num.nat xs = 0
    · rw [h, Num.limbs_zero]; rfl
    · have : Num.limbs (Num.nat xs) ≠ [] := fun e => h (Num.limbs_eq_nil.1 e)
      have := List.length_pos_iff.2 this
      rw [decide_eq_true (by omega), decide_eq_true (by omega)])
  clear ho'
  cases neg
  · go_wp2
    refine bodyPost_ret (v := .agg #[.bool false, .slice a' (Num.limbs (Num.nat xs)).length c']) (by simp [results, Try.results56, go_sem, *]) rfl ?_
    exact ⟨_, rfl, ⟨a', c', rfl, HO'.out _ (HO.out.below (bl_alloc (bl_refl w) _))⟩, bl_alloc (bl_refl w) _⟩
  · go_wp2
    refine bodyPost_ret (v := .agg #[.bool (decide (0 < ((Num.limbs (Num.nat xs)).length : Int))), .slice a' (Num.limbs (Num.nat xs)).length c']) (by simp [results, Try.results56, go_sem, *]) rfl ?_
    refine ⟨_, rfl, ⟨a', c', ?_, HO'.out _ (HO.out.below (bl_alloc (bl_refl w) _))⟩, bl_alloc (bl_refl w) _⟩
    rw [HP.out]; rfl

set_option maxHeartbeats 2000000 in
set_option maxRecDepth 20000 in
theorem makeS (neg : Bool) (a : Option Addr) (n cap : Nat) (xs : List Nat) (w : World) (hs : Seg w a n cap xs) (hn : n ≤ 1048576) :
    Calls Try.prog 22 #[.bool neg, .slice a n cap] w fun e w' => ∃ v, e = .returned v ∧ New w' w.heap.size v (mk neg (Num.nat xs)) ∧ Below w.heap.size w w' := by
  obtain ⟨i0, hi, hz0, hz1, hz2⟩ := info_parts Try.info48
  unfold New Got
  rw [mk_lms, mk_sgn]
  obtain rfl := hs.1
  have hcap := hs.2.1
  have hcm := hs.2.2.1
  have HS := hide hs
  clear hs
  go_enter Try.func22, Try.ntmps22
  go_wp2
  go_loopw [5] (fun i wr => ∃ k : Nat, k ≤ xs.length ∧ i = .int .i64 k ∧ wr = w.alloc (Obj.cells #[Value.bool false, Value.slice none 0 0] 26) ∧ Hid (Num.nat (xs.drop k) = 0)) (fun i _ => (intOf i).toNat)
  case atStart => exact ⟨xs.length, Nat.le_refl _, rfl, rfl, hide (by rw [List.drop_eq_nil_of_le (Nat.le_refl _)]; rfl)⟩
  case round =>
    obtain ⟨k, hk, rfl, rfl, hz⟩ := hrel
    by_cases h0 : k = 0
    · subst h0
      have HN : Hid (Num.nat xs = 0) := hide (by have := hz.out; rw [List.drop_zero] at this; exact this)
      go_wp2
      refine bodyPost_ret (v := .agg #[.bool false, .slice none 0 0]) (by simp [results, Try.results22, go_sem, *]) rfl ?_
      rw [HN.out, Num.limbs_zero]
      exact ⟨_, rfl, ⟨none, 0, by simp, Own.nil _ _⟩, bl_alloc (bl_refl w) _⟩
    · obtain ⟨j, rfl⟩ : ∃ j, k = j + 1 := ⟨k - 1, by omega⟩
      have hj : j < xs.length := by omega
      rcases HS.out.2.2.2.2 with h0 | ⟨g, o, rfl, hg, hc⟩
      · omega
      have hcj : (w.alloc (Obj.cells #[Value.bool false, Value.slice none 0 0] 26)).cell? ⟨g, o + j, none⟩ = some (.int .u32 xs[j]) := ((bl_alloc (bl_refl w) _).cell (p := ⟨g, o + j, none⟩) hg).trans (hc j hj)
      have HC := hide hc
      clear hc
      by_cases hx : xs[j] = 0
      · have HZ : Hid (Num.nat (xs.drop j) = 0) := hide (by rw [Num.nat_drop xs j hj, hz.out, hx])
        rw [hx] at hcj
        clear hz
        go_wp2
        exact ⟨⟨j, by omega, by go_num, trivial, HZ⟩, by simp [intOf]⟩
      · have hne : ((xs[j] : Int) == 0) = false := by rw [beq_eq_false_iff_ne]; omega
        have ht := Num.limbs_of_trim HS.out.2.2.2.1 hk hz.out (fun i hi e => by cases e; exact hx)
        have HT := hide ht
        have HL : Hid ((Num.limbs (Num.nat xs)).length = j + 1) := hide (by rw [← ht, List.length_take]; omega)
        have HN : Hid (0 < Num.nat xs) := hide (by
          refine Nat.pos_of_ne_zero fun e => ?_
          have := HL.out
          rw [e, Num.limbs_zero] at this; simp at this)
        clear hz ht hx
        generalize xs[j] = x at *
        have hnews : ∀ j' u, (((xs.take (j + 1)).map lim)[j']? = some u) → ((w.alloc (Obj.cells #[Value.bool false, Value.slice none 0 0] 26)).alloc (Obj.cells #[] 48)).cell? ((⟨g, o, none⟩ : Addr).add j') = some u := by
          intro j' u hu
          have hj' : j' < (xs.take (j + 1)).length := by have := (List.getElem?_eq_some_iff.1 hu).1; simpa using this
          have hjx : j' < xs.length := by simp at hj'; omega
          have hu' : u = .int .u32 xs[j'] := by
            have := (List.getElem?_eq_some_iff.1 hu).2
            simp [lim] at this; exact this.symm
          rw [hu', Addr.add_lit]
          exact ((bl_alloc (bl_alloc (bl_refl w) _) _).cell (p := ⟨g, o + j', none⟩) hg).trans (HC.out j' hjx)
        have HNEWS := hide hnews
        clear hnews
        have hrow0 : ((w.alloc (Obj.cells #[Value.bool false, Value.slice none 0 0] 26)).alloc (Obj.cells #[] 48)).ownsRow (w.heap.size + 1) 48 1 (.slice (some ⟨w.heap.size + 1, 0, none⟩) 0 0) 0 [] := by
          have := World.ownsRow_lit (base := w.heap.size + 1) (e := 48) (size := 1) (w.alloc (Obj.cells #[Value.bool false, Value.slice none 0 0] 26)) #[] 0 (by simp) (by unfold maxLen; omega) rfl
          simpa using this
        have HROW := hide hrow0
        clear hrow0
        go_wp2_with (at_builtin; refine wpList_append_own _ rfl _ _ 22 rfl (w.heap.size + 1) 48 i0 (.int .u32 0) 1 4 Try.underlying22 hi hz0 hz1 hz2 rfl (by decide) _ 0 [] rfl HROW.out ⟨g, o, none⟩ (j + 1) cap ((xs.take (j + 1)).map lim) rfl (by simp; omega) HNEWS.out (one_lims _) (by unfold maxLen; omega) (by omega) (by simp) ?_; intro v' w1 hown' hgrow' _; have hgrow := (show ((w.alloc (Obj.cells #[Value.bool false, Value.slice none 0 0] 26)).alloc (Obj.cells #[] 48)).grownBy w1 (some (w.heap.size + 1)) from hgrow'); clear hgrow'; obtain ⟨a', c', rfl⟩ := row_val hown'; have k0 : w1.cell? ⟨w.heap.size, 0, none⟩ = some (.bool false) := hgrow.cell (by go_simp) (by simp); have k1 : w1.cell? ⟨w.heap.size, 1, none⟩ = some (.slice none 0 0) := hgrow.cell (by go_simp) (by simp); have f0 : w1.frozen? ⟨w.heap.size, 0, none⟩ = false := (grown_frozen hgrow (by simp only [World.size_alloc]; omega) (by simp)).trans (by go_simp); have f1 : w1.frozen? ⟨w.heap.size, 1, none⟩ = false := (grown_frozen hgrow (by simp only [World.size_alloc]; omega) (by simp)).trans (by go_simp); have HG := hide hgrow; have HO := hide hown'; clear hgrow hown')
        refine bodyPost_ret (v := .agg #[.bool neg, .slice a' (j + 1) c']) (by simp [results, Try.results22, go_sem, *]) rfl ?_
        refine ⟨_, rfl, ⟨a', c', ?_, ?_⟩, ?_⟩
        · rw [decide_eq_true HN.out, HL.out, Bool.and_true]
        · have ho : Own w1 (w.heap.size + 1) a' (j + 1) c' (xs.take (j + 1)) := ⟨by have := HO.out; rw [Nat.zero_add, List.nil_append] at this; exact this, Num.small_take HS.out.2.2.2.1 _⟩
          rw [HL.out, ← HT.out]
          exact ((ho.setCell (p := ⟨w.heap.size, 0, none⟩) (by simp) _).setCell (p := ⟨w.heap.size, 1, none⟩) (by simp) _).mono (by omega)
        · exact (((bl_alloc (bl_alloc (bl_refl w) _) _).grown HG.out (by simp only [World.size_alloc]; omega) (fun k e => by cases e; omega)).setCell (p := ⟨w.heap.size, 0, none⟩) (Nat.le_refl _) _).setCell (p := ⟨w.heap.size, 1, none⟩) (Nat.le_refl _) _
end Go.Proofs.Ytknbfnhljblfkaa
