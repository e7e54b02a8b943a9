/- The walk of the exact law of Lines: the same list, twice, in memory of its own. -/
import Derived.Test.YthjglbimkfajlaaLinesS
namespace Go.Proofs.Ythjglbimkfajlaa
open Go.RowKit
set_option linter.unusedVariables false

theorem map_inj {xs ys : List ByteArray} (h : xs.map bytesOf = ys.map bytesOf) : xs = ys := by
  induction xs generalizing ys with
  | nil => cases ys with
    | nil => rfl
    | cons _ _ => simp at h
  | cons a r ih => cases ys with
    | nil => simp at h
    | cons b t =>
      simp only [List.map_cons, List.cons.injEq] at h
      rw [bytes_inj h.1, ih h.2]

theorem strs_at {W : World} {base n : Nat} {a : Option Addr} {cap : Nat} {xs : List ByteArray} (hn : xs.length = n) (h : W.ownsRow base 9 1 (.slice a n cap) n (xs.map Value.string)) : Strs W a cap xs := by
  subst hn
  obtain ⟨a', cap', e, hs⟩ := strs_of h
  cases e; exact hs
theorem markS1 (v : Value) (xs : List ByteArray) (base : Nat) (w : World) (h2 : xs.length ≤ 2000000) (hown : w.ownsRow base 9 1 v xs.length (xs.map Value.string)) :
    Calls Try.prog 28 #[v, .int .i64 1] w fun e w' => e = .returned (.int .i64 (1 + (xs.length : Int))) ∧ w'.ownsRow base 9 1 v xs.length ((marks 1 xs.length).map Value.string) ∧ w.grownBy w' v.ownBlock :=
  (markS v xs base 1 w (Nat.le_refl _) (by omega) hown).mono fun e w' ⟨he, h⟩ => ⟨by rw [he]; exact ret_int (by omega), h⟩
theorem heldS1 (a : Option Addr) (cap n : Nat) (w : World) (h2 : n ≤ 2000000) (hs : Strs w a cap (marks 1 n)) :
    Calls Try.prog 29 #[.slice a n cap, .int .i64 1] w fun e w' => e = .returned (.int .i64 (1 + (n : Int))) ∧ Below w.heap.size w w' :=
  (heldS a cap 1 n w (Nat.le_refl _) (by omega) hs).mono fun e w' ⟨he, h⟩ => ⟨by rw [he]; exact ret_int (by omega), h⟩
theorem row_apart {W W' : World} {b e size n m : Nat} {v v' : Value} {xs ys : List Value} (h : W.ownsRow b e size v n xs) (h' : W'.ownsRow W.heap.size e size v' m ys) : v.ownBlock = none ∨ v.ownBlock ≠ v'.ownBlock := by
  cases hk : v.ownBlock with
  | none => exact .inl rfl
  | some k =>
    refine .inr fun e => ?_
    have h1 := (h.lt k hk).2
    have h2 := (h'.lt k e.symm).1
    omega

set_option maxHeartbeats 4000000 in
theorem walk7 (s : ByteArray) (w : World) (hm : s.size ≤ 9223372036854775807) :
    Calls Try.prog 7 #[.string s] w fun e w' => e = .returned (.bool true) ∧ Below w.heap.size w w' := by
  by_cases hA : (1048576 : Int) < (s.size : Int)
  · go_enter Try.func7, Try.ntmps7
    go_wp2
    go_ret
    exact ⟨rfl, Below.refl _ _⟩
  have hs : s.size ≤ 1048576 := by omega
  have hll : (linesL (bytesOf s)).length ≤ 1048577 := by
    have h1 := Split.split_length nlB (bytesOf s)
    rw [bytes_length] at h1
    unfold linesL
    split
    · rw [List.length_dropLast]; omega
    · omega
  go_enter Try.func7, Try.ntmps7
  go_wp2_with fail
  refine (linesS s hs _).mono ?_
  rintro e w1 ⟨v1, xs, rfl, hxs, hr1, hb1⟩
  have hxl : xs.length ≤ 1048577 := by rw [← hxs, List.length_map] at hll; exact hll
  have HXS := hide hxs
  have HR1 := hide hr1
  have HB1 := hide hb1
  clear hxs hr1 hb1 hll
  go_wp2_with fail
  refine (linesI s hs _).mono ?_
  rintro e w2 ⟨v2, ys, rfl, hys, hr2, hb2⟩
  obtain rfl : ys = xs := map_inj (hys.trans HXS.out.symm)
  obtain ⟨a1, c1, rfl, hs1⟩ := strs_of HR1.out
  have hs1' := hs1.below hb2
  have hr1' := HR1.out.kept (grown_of_below hb2) (by cases a1 <;> simp [Value.ownBlock])
  obtain ⟨a2, c2, rfl, hs2⟩ := strs_of hr2
  have HNE := hide (row_apart HR1.out hr2)
  have HR1' := hide hr1'
  have HR2 := hide hr2
  have HS1 := hide hs1'
  have HS2 := hide hs2
  have HB2 := hide hb2
  clear hys hr2 hb2 hs1 hs1' hr1' hs2 HR1
  go_wp2_with fail
  refine (eqS a2 a1 c2 c1 ys _ HS2.out HS1.out).mono ?_
  rintro e w3 ⟨rfl, n3, rfl⟩
  have HBw : Hid (Below w.heap.size w (w2.drewN n3)) := hide (below_drewN (HB1.out.trans (HB2.out.mono HB1.out.size)) n3)
  have HR1d : Hid ((w2.drewN n3).ownsRow w.heap.size 9 1 (.slice a1 ys.length c1) ys.length (ys.map Value.string)) := hide HR1'.out
  have HR2d : Hid ((w2.drewN n3).ownsRow w1.heap.size 9 1 (.slice a2 ys.length c2) ys.length (ys.map Value.string)) := hide HR2.out
  have hw1 := HB1.out.size
  clear HR1' HR2 HS1 HS2 HB2
  generalize w2.drewN n3 = w3 at *
  go_wp2_with fail
  refine (markS1 _ ys w1.heap.size _ (by omega) HR2d.out).mono ?_
  rintro e w4 ⟨rfl, hr4, hg4⟩
  have HB4 : Hid (Below w.heap.size w w4) := hide (HBw.out.grown hg4 HBw.out.size (fun k e => Nat.le_trans hw1 (HR2d.out.lt k e).1))
  have hr1' := HR1d.out.kept hg4 HNE.out
  have hs1 := strs_at rfl hr1'
  have hs2 := strs_at (marks_length 1 ys.length) hr4
  have HS1 := hide hs1
  have HS2 := hide hs2
  clear hr4 hg4 hr1' hs1 hs2 HR1d HR2d HNE HBw
  go_wp2_with fail
  refine (heldS1 a2 c2 ys.length _ (by omega) HS2.out).mono ?_
  rintro e w5 ⟨rfl, hb5⟩
  have HS1' := hide (HS1.out.below hb5)
  have HS2' := hide (HS2.out.below hb5)
  have HB5 : Hid (Below w.heap.size w w5) := hide (HB4.out.trans (hb5.mono HB4.out.size))
  clear hb5 HS1 HS2 HB4
  go_wp2_with fail
  refine (linesI s hs _).mono ?_
  rintro e w6 ⟨v3, zs, rfl, hzs, hr6, hb6⟩
  obtain rfl : zs = ys := map_inj (hzs.trans HXS.out.symm)
  obtain ⟨a3, c3, rfl, hs3⟩ := strs_of hr6
  have HS1 := hide (HS1'.out.below hb6)
  have HS2 := hide (HS2'.out.below hb6)
  have HS3 := hide hs3
  have HB6 : Hid (Below w.heap.size w w6) := hide (HB5.out.trans (hb6.mono HB5.out.size))
  clear hzs hr6 hb6 hs3 HS1' HS2' HB5
  go_wp2_with fail
  refine (eqS a3 a1 c3 c1 zs _ HS3.out HS1.out).mono ?_
  rintro e w7 ⟨rfl, n7, rfl⟩
  have HS2d : Hid (Strs (w6.drewN n7) a2 c2 (marks 1 zs.length)) := hide HS2.out
  have HB7 : Hid (Below w.heap.size w (w6.drewN n7)) := hide (below_drewN HB6.out n7)
  clear HS1 HS2 HS3 HB6
  generalize w6.drewN n7 = w7 at *
  go_wp2_with fail
  refine (heldS1 a2 c2 zs.length _ (by omega) HS2d.out).mono ?_
  rintro e w8 ⟨rfl, hb8⟩
  have HB8 : Hid (Below w.heap.size w w8) := hide (HB7.out.trans (hb8.mono HB7.out.size))
  clear hb8
  go_wp2
  go_ret
  exact ⟨rfl, HB8.out⟩
end Go.Proofs.Ythjglbimkfajlaa
