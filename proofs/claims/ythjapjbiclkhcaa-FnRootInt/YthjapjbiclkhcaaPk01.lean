/- My texts Help, Ok, in this order. -/
import Derived.Test.YthjapjbiclkhcaaPk00
/- The walks of what the laws ask of numbers: a copy of one, whether two are alike, marks written into one, whether they are held. -/
namespace Go.Proofs.Ythjapjbiclkhcaa
open Go.RowKit
set_option linter.unusedVariables false

theorem Try.info56 : (Try.prog.info? 56).map (fun i => (i.zero, i.size, i.bytes)) = some (some (.int .u32 0), 1, 4) := by kernel_rfl

/-- the marks from k on -/
def marks (k n : Nat) : List Nat := (List.range n).map fun j => k + j
theorem marks_length (k n : Nat) : (marks k n).length = n := by simp [marks]
theorem marks_succ (k n : Nat) : marks k (n + 1) = marks k n ++ [k + n] := by simp [marks, List.range_succ]
theorem marks_at (k n j : Nat) (h : j < (marks k n).length) : (marks k n)[j] = k + j := by simp [marks]
theorem marks_set (xs : List Nat) (k0 k : Nat) (h : k < xs.length) : (marks k0 k ++ xs.drop k).set k (k0 + k) = marks k0 (k + 1) ++ xs.drop (k + 1) := by
  have hl := marks_length k0 k
  rw [List.set_append_right _ _ (by omega), hl, Nat.sub_self, marks_succ, List.drop_eq_getElem_cons h, List.set_cons_zero, List.append_assoc]
  rfl

end Go.Proofs.Ythjapjbiclkhcaa

/- The walks of the two BigOk: whether a sign and limbs are a right number; nothing that was there turns. -/
namespace Go.Proofs.Ythjapjbiclkhcaa
open Go.RowKit
set_option linter.unusedVariables false

/-- a sign and limbs are right -/
def okB (neg : Bool) (xs : List Nat) : Bool :=
  if xs.length ≤ 40 then (if xs.length = 0 then !neg else decide (xs.getD (xs.length - 1) 0 ≠ 0)) else false
theorem ok_long {neg : Bool} {xs : List Nat} (h : ¬ xs.length ≤ 40) : okB neg xs = false := by simp [okB, h]
theorem ok_nil {neg : Bool} {xs : List Nat} (h : xs.length = 0) : okB neg xs = !neg := by simp [okB, h]
theorem ok_some {neg : Bool} {xs : List Nat} (h : xs.length ≤ 40) (h0 : xs.length ≠ 0) : okB neg xs = decide (xs.getD (xs.length - 1) 0 ≠ 0) := by
  simp only [okB, if_pos h, if_neg h0]

/-- the sign of a number, and its limbs -/
def sgn (z : Int) : Bool := decide (z < 0)
def lms (z : Int) : List Nat := Num.limbs z.natAbs
theorem ok_num {neg : Bool} {xs : List Nat} (hs : Num.Small xs) (h : okB neg xs = true) : ∃ z : Int, neg = sgn z ∧ xs = lms z ∧ z.natAbs < 4294967296 ^ 40 := by
  have h40 : xs.length ≤ 40 := by
    refine Classical.byContradiction fun hc => ?_
    rw [ok_long hc] at h; cases h
  have ht : Num.Tidy xs := Num.tidy_of_at fun k hk hk' => by
    rw [ok_some h40 (by omega)] at h
    have := of_decide_eq_true h
    rw [hk, Nat.add_sub_cancel] at this
    simpa [hk'] using this
  have hl := Num.limbs_nat hs ht
  have hlt : Num.nat xs < 4294967296 ^ 40 := by
    have := Num.limbs_len (n := Num.nat xs) (k := 40)
    rw [hl] at this; exact this.1 h40
  cases neg with
  | false => exact ⟨(Num.nat xs : Int), by simp [sgn], by simp [lms, hl], by simpa using hlt⟩
  | true =>
    have h0 : xs ≠ [] := fun e => by subst e; simp [okB] at h
    have hp := Num.nat_pos_of_tidy ht h0
    exact ⟨-(Num.nat xs : Int), by simp [sgn]; omega, by simp [lms, hl], by simpa using hlt⟩
theorem lms_small (z : Int) : Num.Small (lms z) := Num.limbs_small _
theorem sgn_lms_nil {z : Int} (h : (lms z).length = 0) : z = 0 := by
  have : lms z = [] := List.eq_nil_of_length_eq_zero h
  have := Num.limbs_eq_nil.1 this
  omega
theorem lms_last (z : Int) (h : (lms z).length ≠ 0) : (lms z).getD ((lms z).length - 1) 0 ≠ 0 := by
  have hne : lms z ≠ [] := fun e => h (by rw [e]; rfl)
  have : (lms z).getLast hne ≠ 0 := Num.limbs_tidy z.natAbs hne
  rw [List.getLast_eq_getElem] at this
  have hlt : (lms z).length - 1 < (lms z).length := by omega
  simpa [List.getD, hlt] using this
theorem ok_of_num (z : Int) : okB (sgn z) (lms z) = decide (z.natAbs < 4294967296 ^ 40) := by
  by_cases h : z.natAbs < 4294967296 ^ 40
  · rw [decide_eq_true h]
    have h40 : (lms z).length ≤ 40 := Num.limbs_len.2 h
    by_cases h0 : (lms z).length = 0
    · rw [ok_nil h0, sgn_lms_nil h0]; rfl
    · rw [ok_some h40 h0]; exact decide_eq_true (lms_last z h0)
  · rw [decide_eq_false h]
    exact ok_long fun hc => h (Num.limbs_len.1 hc)

theorem bne_nat (x : Nat) : ((x : Int) != 0) = decide (x ≠ 0) := by
  by_cases h : x = 0
  · subst h; rfl
  · rw [decide_eq_true h, bne_iff_ne]; omega
theorem raw_last {w : World} {a : Option Addr} {cap : Nat} {xs : List Nat} (hs : Seg w a xs.length cap xs) (h0 : xs.length ≠ 0) : ∃ g o, a = some ⟨g, o, none⟩ ∧ g < w.heap.size ∧ w.cell? ⟨g, o + (xs.length - 1), none⟩ = some (.int .u32 (xs.getD (xs.length - 1) 0)) := by
  rcases hs.2.2.2.2 with h | ⟨g, o, ha, hg, hc⟩
  · exact absurd h h0
  · refine ⟨g, o, ha, hg, ?_⟩
    have hlt : xs.length - 1 < xs.length := by omega
    rw [hc _ hlt]; simp [List.getD, hlt]

set_option maxHeartbeats 1000000 in
theorem okI (v : Value) (neg : Bool) (xs : List Nat) (w : World) (h : Raw w v neg xs) :
    Calls Try.prog 30 #[v] w fun e w' => e = .returned (.bool (okB neg xs)) ∧ Below w.heap.size w w' := by
  obtain ⟨a, cap, rfl, hs⟩ := h
  have hcap := hs.2.1
  have hcm := hs.2.2.1
  by_cases h0 : xs.length = 0
  · rw [ok_nil h0]
    clear hs
    cases neg
    all_goals
      go_enter Try.func30, Try.ntmps30
      go_wp2
      go_ret
      exact ⟨rfl, bl_alloc (bl_refl w) _⟩
  · by_cases h40 : xs.length ≤ 40
    · rw [ok_some h40 h0]
      obtain ⟨g, o, rfl, hg, hc⟩ := raw_last hs h0
      have hc' : (w.alloc (.cells #[.bool neg, .slice (some ⟨g, o, none⟩) xs.length cap] 26)).cell? ⟨g, o + (xs.length - 1), none⟩ = some (.int .u32 (xs.getD (xs.length - 1) 0)) := ((bl_alloc (bl_refl w) _).cell (p := ⟨g, o + (xs.length - 1), none⟩) hg).trans hc
      clear hs hc
      generalize xs.getD (xs.length - 1) 0 = x at *
      go_enter Try.func30, Try.ntmps30
      go_wp2
      go_ret
      exact ⟨ret_bool (bne_nat x), bl_alloc (bl_refl w) _⟩
    · rw [ok_long h40]
      clear hs
      go_enter Try.func30, Try.ntmps30
      go_wp2
      go_ret
      exact ⟨rfl, bl_alloc (bl_refl w) _⟩

set_option maxHeartbeats 1000000 in
theorem okS (v : Value) (neg : Bool) (xs : List Nat) (w : World) (h : Raw w v neg xs) :
    Calls Try.prog 8 #[v] w fun e w' => e = .returned (.bool (okB neg xs)) ∧ Below w.heap.size w w' := by
  obtain ⟨a, cap, rfl, hs⟩ := h
  have hcap := hs.2.1
  have hcm := hs.2.2.1
  by_cases h0 : xs.length = 0
  · rw [ok_nil h0]
    clear hs
    cases neg
    all_goals
      go_enter Try.func8, Try.ntmps8
      go_wp2
      go_ret
      exact ⟨rfl, bl_alloc (bl_refl w) _⟩
  · by_cases h40 : xs.length ≤ 40
    · rw [ok_some h40 h0]
      obtain ⟨g, o, rfl, hg, hc⟩ := raw_last hs h0
      have hc' : (w.alloc (.cells #[.bool neg, .slice (some ⟨g, o, none⟩) xs.length cap] 26)).cell? ⟨g, o + (xs.length - 1), none⟩ = some (.int .u32 (xs.getD (xs.length - 1) 0)) := ((bl_alloc (bl_refl w) _).cell (p := ⟨g, o + (xs.length - 1), none⟩) hg).trans hc
      clear hs hc
      generalize xs.getD (xs.length - 1) 0 = x at *
      go_enter Try.func8, Try.ntmps8
      go_wp2
      go_ret
      exact ⟨ret_bool (bne_nat x), bl_alloc (bl_refl w) _⟩
    · rw [ok_long h40]
      clear hs
      go_enter Try.func8, Try.ntmps8
      go_wp2
      go_ret
      exact ⟨rfl, bl_alloc (bl_refl w) _⟩

end Go.Proofs.Ythjapjbiclkhcaa
