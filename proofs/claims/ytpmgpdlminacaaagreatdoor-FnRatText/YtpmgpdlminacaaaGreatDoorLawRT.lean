/- The walk of FnRatText: a fraction comes back from its text, where that has at most 400 bytes. -/
import Derived.Test.YtpmgpdlminacaaaGreatDoorPk18
import Derived.Test.YtpmgpdlminacaaaGreatDoorPk29
import Derived.Test.YtpmgpdlminacaaaGreatDoorPk16
namespace Go.Proofs.YtpmgpdlminacaaaGreatDoor
open Go.RowKit Go.Sort
set_option linter.unusedVariables false

theorem it_some (z : Int) : (itB z).data.toList ≠ [] := by
  cases hg : sgn z with
  | true => rw [it_neg hg]; simp
  | false => rw [it_pos hg]; exact dec_ne _
theorem rat_some {x y : Int} (h : ratB (sgn x) (lms x) (sgn y) (lms y) = true) : (ratT (sgn x) (lms x) (sgn y) (lms y)).toList.isEmpty = false := by
  rw [ByteArray.toList_eq]
  have hx := it_some x
  by_cases h1 : y = 1
  · rw [ratT_one h h1]
    cases hl : (itB x).data.toList with
    | nil => exact absurd hl hx
    | cons c t => rfl
  · rw [ratT_two h h1]
    cases hl : (itB x ++ ⟨#[47]⟩ ++ itB y).data.toList with
    | nil =>
      have := congrArg List.length hl
      rw [bsize, bsize_app, bsize_app] at this
      have e : (⟨#[47]⟩ : ByteArray).size = 1 := rfl
      rw [e] at this
      simp at this
    | cons c t => rfl

set_option maxHeartbeats 4000000 in
set_option maxRecDepth 20000 in
theorem walkText (a0 : Option Addr) (len0 cap0 : Nat) (w : World) (hr : Row a0 len0 cap0 w) (htab : Tabs w) (hm : Mx w) :
    Calls Tryz.prog 4 #[.slice a0 len0 cap0] w fun e w' => e = .returned (.bool true) ∧ Below w.heap.size w w' := by
  have HROW := hide hr
  have HT0 := hide htab
  have HM0 := hide hm
  have hcap : len0 ≤ 9223372036854775807 := Nat.le_trans hr.2.1 hr.2.2
  clear hr htab hm
  by_cases hbig : (1048576 : Int) < (len0 : Int)
  · go_enter Tryz.func4, Tryz.ntmps4
    go_wp2
    go_ret
    exact ⟨rfl, Below.refl _ _⟩
  go_enter Tryz.func4, Tryz.ntmps4
  go_wp2_with (first | (go_at_call 11; go_in) | fail)
  refine (drawFloor _ _ _ _ HROW.out).mono ?_
  rintro e w1 ⟨n, a1, c1, xs, m, b1, e1, ys, rfl, s1, s2, hb⟩
  have HB := hide hb
  have SA := hide s1
  have SB := hide s2
  clear hb HROW s1 s2
  go_wp2_with fail
  have kA0 : (w1.alloc (Obj.cells #[Value.bool n, Value.slice a1 xs.length c1, Value.bool m, Value.slice b1 ys.length e1] 26)).cell? ⟨w1.heap.size, 0, none⟩ = some (Value.bool n) := by go_simp
  have kA1 : (w1.alloc (Obj.cells #[Value.bool n, Value.slice a1 xs.length c1, Value.bool m, Value.slice b1 ys.length e1] 26)).cell? ⟨w1.heap.size, 1, none⟩ = some (Value.slice a1 xs.length c1) := by go_simp
  have kA2 : (w1.alloc (Obj.cells #[Value.bool n, Value.slice a1 xs.length c1, Value.bool m, Value.slice b1 ys.length e1] 26)).cell? ⟨w1.heap.size, 2, none⟩ = some (Value.bool m) := by go_simp
  have kA3 : (w1.alloc (Obj.cells #[Value.bool n, Value.slice a1 xs.length c1, Value.bool m, Value.slice b1 ys.length e1] 26)).cell? ⟨w1.heap.size, 3, none⟩ = some (Value.slice b1 ys.length e1) := by go_simp
  have zA : w1.heap.size < (w1.alloc (Obj.cells #[Value.bool n, Value.slice a1 xs.length c1, Value.bool m, Value.slice b1 ys.length e1] 26)).heap.size := by simp only [World.size_alloc]; omega
  have hbn := (bl_alloc (bl_refl w1) (Obj.cells #[Value.bool n, Value.slice a1 xs.length c1, Value.bool m, Value.slice b1 ys.length e1] 26))
  replace SA := hide (SA.out.below hbn)
  replace SB := hide (SB.out.below hbn)
  replace HB := hide (bl_trans HB.out hbn)
  clear hbn
  generalize (w1.alloc (Obj.cells #[Value.bool n, Value.slice a1 xs.length c1, Value.bool m, Value.slice b1 ys.length e1] 26)) = w2 at *
  refine (ratTextI n xs m ys a1 c1 b1 e1 _ SA.out SB.out (HT0.out.below HB.out)).mono ?_
  rintro e w3 ⟨rfl, hb⟩
  replace kA0 := (hb.cell (p := ⟨w1.heap.size, 0, none⟩) zA).trans kA0
  replace kA1 := (hb.cell (p := ⟨w1.heap.size, 1, none⟩) zA).trans kA1
  replace kA2 := (hb.cell (p := ⟨w1.heap.size, 2, none⟩) zA).trans kA2
  replace kA3 := (hb.cell (p := ⟨w1.heap.size, 3, none⟩) zA).trans kA3
  replace zA := Nat.lt_of_lt_of_le zA hb.size
  replace SA := hide (SA.out.below hb)
  replace SB := hide (SB.out.below hb)
  replace HB := hide (bl_trans HB.out hb)
  clear hb
  go_wp2_with fail
  refine (RatOkQ n xs m ys a1 c1 b1 e1 _ SA.out SB.out).mono ?_
  rintro e w4 ⟨rfl, hb⟩
  replace kA0 := (hb.cell (p := ⟨w1.heap.size, 0, none⟩) zA).trans kA0
  replace kA1 := (hb.cell (p := ⟨w1.heap.size, 1, none⟩) zA).trans kA1
  replace kA2 := (hb.cell (p := ⟨w1.heap.size, 2, none⟩) zA).trans kA2
  replace kA3 := (hb.cell (p := ⟨w1.heap.size, 3, none⟩) zA).trans kA3
  replace zA := Nat.lt_of_lt_of_le zA hb.size
  replace SA := hide (SA.out.below hb)
  replace SB := hide (SB.out.below hb)
  replace HB := hide (bl_trans HB.out hb)
  clear hb
  cases ho : ratB n xs m ys with
  | false =>
    have HR : Hid (ratT n xs m ys = ⟨#[]⟩) := hide (by rw [ratT, ho]; rfl)
    rw [HR.out]
    go_wp2
    go_ret
    exact ⟨rfl, HB.out⟩
  | true =>
    obtain ⟨x, y, rfl, rfl, rfl, rfl, hy0, ox, oy⟩ := rat_nums SA.out.2.2.2.1 SB.out.2.2.2.1 ho
    have hne := rat_some ho
    have HO := hide ho
    clear hy0 ox oy ho
    by_cases h4 : (400 : Int) < ((ratT (sgn x) (lms x) (sgn y) (lms y)).size : Int)
    · generalize ratT (sgn x) (lms x) (sgn y) (lms y) = tx at *
      go_wp2
      go_ret
      exact ⟨rfl, HB.out⟩
    · have HRR := hide (fun W hM => readRatI x y W hM HO.out (by omega))
      generalize ratT (sgn x) (lms x) (sgn y) (lms y) = tx at *
      go_wp2_with fail
      refine (HRR.out _ (HM0.out.below HB.out)).mono ?_
      rintro e w5 ⟨ax, cx, ay, cy, rfl, ho1, ho2, hb⟩
      have SX := hide ho1.seg
      have SY := hide ho2.seg
      clear ho1 ho2
      replace kA0 := (hb.cell (p := ⟨w1.heap.size, 0, none⟩) zA).trans kA0
      replace kA1 := (hb.cell (p := ⟨w1.heap.size, 1, none⟩) zA).trans kA1
      replace kA2 := (hb.cell (p := ⟨w1.heap.size, 2, none⟩) zA).trans kA2
      replace kA3 := (hb.cell (p := ⟨w1.heap.size, 3, none⟩) zA).trans kA3
      replace zA := Nat.lt_of_lt_of_le zA hb.size
      replace SA := hide (SA.out.below hb)
      replace SB := hide (SB.out.below hb)
      replace HB := hide (bl_trans HB.out hb)
      clear hb
      have kY0 : (w5.alloc (Obj.cells #[Value.bool (sgn x), Value.slice ax (lms x).length cx, Value.bool (sgn y), Value.slice ay (lms y).length cy] 26)).cell? ⟨w5.heap.size, 0, none⟩ = some (Value.bool (sgn x)) := by go_simp
      have kY1 : (w5.alloc (Obj.cells #[Value.bool (sgn x), Value.slice ax (lms x).length cx, Value.bool (sgn y), Value.slice ay (lms y).length cy] 26)).cell? ⟨w5.heap.size, 1, none⟩ = some (Value.slice ax (lms x).length cx) := by go_simp
      have kY2 : (w5.alloc (Obj.cells #[Value.bool (sgn x), Value.slice ax (lms x).length cx, Value.bool (sgn y), Value.slice ay (lms y).length cy] 26)).cell? ⟨w5.heap.size, 2, none⟩ = some (Value.bool (sgn y)) := by go_simp
      have kY3 : (w5.alloc (Obj.cells #[Value.bool (sgn x), Value.slice ax (lms x).length cx, Value.bool (sgn y), Value.slice ay (lms y).length cy] 26)).cell? ⟨w5.heap.size, 3, none⟩ = some (Value.slice ay (lms y).length cy) := by go_simp
      have hbn := (bl_alloc (bl_refl w5) (Obj.cells #[Value.bool (sgn x), Value.slice ax (lms x).length cx, Value.bool (sgn y), Value.slice ay (lms y).length cy] 26))
      replace SX := hide (SX.out.below hbn)
      replace SY := hide (SY.out.below hbn)
      replace kA0 := (hbn.cell (p := ⟨w1.heap.size, 0, none⟩) zA).trans kA0
      replace kA1 := (hbn.cell (p := ⟨w1.heap.size, 1, none⟩) zA).trans kA1
      replace kA2 := (hbn.cell (p := ⟨w1.heap.size, 2, none⟩) zA).trans kA2
      replace kA3 := (hbn.cell (p := ⟨w1.heap.size, 3, none⟩) zA).trans kA3
      replace zA := Nat.lt_of_lt_of_le zA hbn.size
      replace SA := hide (SA.out.below hbn)
      replace SB := hide (SB.out.below hbn)
      replace HB := hide (bl_trans HB.out hbn)
      clear hbn
      go_wp2_with fail
      generalize (w5.alloc (Obj.cells #[Value.bool (sgn x), Value.slice ax (lms x).length cx, Value.bool (sgn y), Value.slice ay (lms y).length cy] 26)) = w6 at *
      refine (sameR (sgn x) (lms x) (sgn y) (lms y) a1 c1 b1 e1 ax cx ay cy _ SA.out SB.out SX.out SY.out).mono ?_
      rintro e w7 ⟨rfl, hb⟩
      replace HB := hide (bl_trans HB.out hb)
      clear hb
      go_wp2
      go_ret
      exact ⟨rfl, HB.out⟩
end Go.Proofs.YtpmgpdlminacaaaGreatDoor
