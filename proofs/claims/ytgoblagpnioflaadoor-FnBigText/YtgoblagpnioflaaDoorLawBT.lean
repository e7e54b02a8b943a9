/- The walk of FnBigText: a whole number comes back from its text. -/
import Derived.Test.YtgoblagpnioflaaDoorDrP
import Derived.Test.YtgoblagpnioflaaDoorIntI
import Derived.Test.YtgoblagpnioflaaDoorRdK
namespace Go.Proofs.YtgoblagpnioflaaDoor
open Go.RowKit Go.Sort
set_option linter.unusedVariables false

theorem it_some (z : Int) : (itB z).toList.isEmpty = false := by
  rw [ByteArray.toList_eq]
  cases hg : sgn z with
  | true => rw [it_neg hg]; rfl
  | false =>
    rw [it_pos hg]
    have := dec_ne z.natAbs
    cases h : Lib.decDigits z.natAbs with
    | nil => exact absurd h this
    | cons c t => rfl

set_option maxHeartbeats 4000000 in
set_option maxRecDepth 20000 in
theorem walkText (a0 : Option Addr) (len0 cap0 : Nat) (w : World) (hr : Row a0 len0 cap0 w) (htab : Tabs w) :
    Calls Tryd.prog 3 #[.slice a0 len0 cap0] w fun e w' => e = .returned (.bool true) ∧ Below w.heap.size w w' := by
  have HROW := hide hr
  have HT0 := hide htab
  have hcap : len0 ≤ 9223372036854775807 := Nat.le_trans hr.2.1 hr.2.2
  clear hr htab
  by_cases hbig : (1048576 : Int) < (len0 : Int)
  · go_enter Tryd.func3, Tryd.ntmps3
    go_wp2
    go_ret
    exact ⟨rfl, Below.refl _ _⟩
  go_enter Tryd.func3, Tryd.ntmps3
  go_wp2_with (first | (go_at_call 4; go_in) | fail)
  refine (drawBitLen _ _ _ _ HROW.out).mono ?_
  rintro e w1 ⟨n, a', c', xs, rfl, hl, hown, hb⟩
  have HB := hide hb
  have SA := hide hown.seg
  have HSM := hide hown.2
  clear hb HROW hown
  go_wp2_with fail
  have kA0 : (w1.alloc (Obj.cells #[Value.bool n, Value.slice a' xs.length c'] 26)).cell? ⟨w1.heap.size, 0, none⟩ = some (Value.bool n) := by go_simp
  have kA1 : (w1.alloc (Obj.cells #[Value.bool n, Value.slice a' xs.length c'] 26)).cell? ⟨w1.heap.size, 1, none⟩ = some (Value.slice a' xs.length c') := by go_simp
  have zA : w1.heap.size < (w1.alloc (Obj.cells #[Value.bool n, Value.slice a' xs.length c'] 26)).heap.size := by simp only [World.size_alloc]; omega
  have hbn := (bl_alloc (bl_refl w1) (Obj.cells #[Value.bool n, Value.slice a' xs.length c'] 26))
  replace SA := hide (SA.out.below hbn)
  replace HB := hide (bl_trans HB.out hbn)
  clear hbn
  generalize (w1.alloc (Obj.cells #[Value.bool n, Value.slice a' xs.length c'] 26)) = w2 at *
  refine (intTextI _ n xs _ ⟨a', c', rfl, SA.out⟩ (HT0.out.below HB.out)).mono ?_
  rintro e w3 ⟨rfl, hb⟩
  replace kA0 := (hb.cell (p := ⟨w1.heap.size, 0, none⟩) zA).trans kA0
  replace kA1 := (hb.cell (p := ⟨w1.heap.size, 1, none⟩) zA).trans kA1
  replace zA := Nat.lt_of_lt_of_le zA hb.size
  replace SA := hide (SA.out.below hb)
  replace HB := hide (bl_trans HB.out hb)
  clear hb
  go_wp2_with fail
  refine (okS _ n xs _ ⟨a', c', rfl, SA.out⟩).mono ?_
  rintro e w4 ⟨rfl, hb⟩
  replace kA0 := (hb.cell (p := ⟨w1.heap.size, 0, none⟩) zA).trans kA0
  replace kA1 := (hb.cell (p := ⟨w1.heap.size, 1, none⟩) zA).trans kA1
  replace zA := Nat.lt_of_lt_of_le zA hb.size
  replace SA := hide (SA.out.below hb)
  replace HB := hide (bl_trans HB.out hb)
  clear hb
  cases ho : okB n xs with
  | false =>
    have HR : Hid (intT n xs = ⟨#[]⟩) := hide (by rw [intT, ho]; rfl)
    rw [HR.out]
    go_wp2
    go_ret
    exact ⟨rfl, HB.out⟩
  | true =>
    obtain ⟨z, rfl, rfl, hz⟩ := ok_num HSM.out ho
    have hf : fits z = true := decide_eq_true hz
    obtain ⟨b1, b2⟩ := rd_back hf
    have HB1 := hide b1
    have HB2 := hide b2
    have hsz : (itB z).size ≤ 140737488355328 := by
      have h1 := dec_short (lms_small z) (ok_len ho)
      rw [nat_lms] at h1
      rw [← bsize]
      cases hg : sgn z with
      | true => rw [it_neg hg, List.length_cons]; omega
      | false => rw [it_pos hg]; omega
    have hne := it_some z
    rw [intT_num z ho]
    clear hz b1 b2 ho hf hl HSM
    generalize itB z = tx at *
    go_wp2_with fail
    refine (readBigI tx _ hsz).mono ?_
    rw [HB1.out, HB2.out]
    rintro e w5 ⟨v5, rfl, ⟨ay, cy, rfl, hoy⟩, hb⟩
    have SY := hide hoy.seg
    clear hoy
    replace kA0 := (hb.cell (p := ⟨w1.heap.size, 0, none⟩) zA).trans kA0
    replace kA1 := (hb.cell (p := ⟨w1.heap.size, 1, none⟩) zA).trans kA1
    replace zA := Nat.lt_of_lt_of_le zA hb.size
    replace SA := hide (SA.out.below hb)
    replace HB := hide (bl_trans HB.out hb)
    clear hb
    have kY0 : (w5.alloc (Obj.cells #[Value.bool (sgn z), Value.slice ay (lms z).length cy] 26)).cell? ⟨w5.heap.size, 0, none⟩ = some (Value.bool (sgn z)) := by go_simp
    have kY1 : (w5.alloc (Obj.cells #[Value.bool (sgn z), Value.slice ay (lms z).length cy] 26)).cell? ⟨w5.heap.size, 1, none⟩ = some (Value.slice ay (lms z).length cy) := by go_simp
    have hbn := (bl_alloc (bl_refl w5) (Obj.cells #[Value.bool (sgn z), Value.slice ay (lms z).length cy] 26))
    replace SY := hide (SY.out.below hbn)
    replace kA0 := (hbn.cell (p := ⟨w1.heap.size, 0, none⟩) zA).trans kA0
    replace kA1 := (hbn.cell (p := ⟨w1.heap.size, 1, none⟩) zA).trans kA1
    replace zA := Nat.lt_of_lt_of_le zA hbn.size
    replace SA := hide (SA.out.below hbn)
    replace HB := hide (bl_trans HB.out hbn)
    clear hbn
    go_wp2_with fail
    generalize (w5.alloc (Obj.cells #[Value.bool (sgn z), Value.slice ay (lms z).length cy] 26)) = w6 at *
    refine (sameB (sgn z) (lms z) a' c' ay cy _ SA.out SY.out).mono ?_
    rintro e w7 ⟨rfl, hb⟩
    replace HB := hide (bl_trans HB.out hb)
    clear hb
    go_wp2
    go_ret
    exact ⟨rfl, HB.out⟩
end Go.Proofs.YtgoblagpnioflaaDoor
