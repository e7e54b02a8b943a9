/- My texts Tx, IntI, in this order. -/
import Derived.Test.YtlknhheafmifnaaGreatDoorPk03
import Derived.Test.YtlknhheafmifnaaGreatDoorItR
import Derived.Test.YtlknhheafmifnaaGreatDoorPk10
import Derived.Lib.AppendIntMem
/- The walks of limbsText and l02Text: a list of limbs as a decimal numeral, nine digits at a time. -/
namespace Go.Proofs.YtlknhheafmifnaaGreatDoor
open Go.RowKit Go.Sort
set_option linter.unusedVariables false

/-- the table of powers of ten holds what its text says -/
def Tabs (w : World) : Prop := Lib.TabIs Tryz.prog w "internal/strconv.uint64pow10" .u64 Lib.pow10Tab
theorem Tabs.below {w w' : World} (h : Tabs w) (hb : Below w.heap.size w w') : Tabs w' := Lib.tabBelow_of_tabIs h w' hb
theorem below_grown (w : World) (k : Nat) (os : Array Obj) : Below w.heap.size w (grow (w.drewN k) os) :=
  ⟨rfl, rfl, rfl, by simp [grow], fun i hi => by show (w.heap ++ os)[i]? = _; rw [Array.getElem?_append_left hi]⟩
set_option maxHeartbeats 4000000 in
set_option maxRecDepth 20000 in
theorem limbsTextI (a : Option Addr) (n ca : Nat) (xs : List Nat) (w : World) (ha : Seg w a n ca xs) (hn : n ≤ 40) (htab : Tabs w) :
    Calls Tryz.prog 73 #[.slice a n ca] w fun e w' => e = .returned (.string (decBs (Num.nat xs))) ∧ Below w.heap.size w w' := by
  obtain rfl := ha.1
  have HM := hide (dec_short ha.2.2.2.1 hn)
  have HT := hide htab
  have HA := hide ha
  clear ha htab
  go_enter Tryz.func73, Tryz.ntmps73
  go_wp2
  go_loopw [0, 3, 4, 5, 6] (fun l t _ _ _ wr => ∃ (a : Option Addr) (ca : Nat) (ys : List Nat) (tb : ByteArray), l = .slice a ys.length ca ∧ t = .string tb ∧ ys.length ≤ 40 ∧ tb.size ≤ 400 ∧ Hid (Seg wr a ys.length ca ys) ∧ Hid (Below w.heap.size w wr) ∧ Hid (Lib.decDigits (Num.nat ys) ++ tb.data.toList = Lib.decDigits (Num.nat xs))) (fun _ t _ _ _ _ => 1000 - bLen t)
  case atStart => exact ⟨a, ca, xs, ⟨#[]⟩, rfl, rfl, hn, by decide, HA, hide (bl_refl w), hide (by simp)⟩
  case round =>
    obtain ⟨a, ca, ys, tb, rfl, rfl, hl, ht, hS, hB, hE⟩ := hrel
    go_wp2_with fail
    refine (shortI a _ ca 1000000000 ys _ hS.out (by omega) (by omega) (by omega)).mono ?_
    rintro e w1 ⟨qs, r, rfl, hD, ho, hb1⟩
    have hql := hD.1
    have hr := hD.2.2.1
    have HN : Hid (Num.nat ys = Num.nat qs * 1000000000 + r) := hide (by have := hD.2.2.2; rw [List.drop_zero, List.drop_zero] at this; exact this)
    have HQ := hide hD.2.1
    have HB1 := hide (bl_trans hB.out hb1)
    have HO := hide ho
    clear hD ho hb1 hB hS
    go_wp2_with fail
    refine (trimI _ _ _ qs _ _ HO.out).mono ?_
    rintro e w2 ⟨hw2, a', c', rfl, ho'⟩
    subst w2
    have HO2 := hide (ho' _ HO.out)
    clear ho'
    go_wp2_with fail
    refine (Tryz.strconv_Itoa r (by omega) (by omega) _ (HT.out.below HB1.out)).mono ?_
    rintro e w3 ⟨rfl, k3, os3, hw3⟩
    have hb3 : Below w1.heap.size w1 w3 := by rw [hw3]; exact below_grown _ _ _
    have HB3 := hide (bl_trans HB1.out hb3)
    have HS3 := hide (HO2.out.below hb3).seg
    have hqle := limbs_len_le HQ.out
    clear hw3 hb3 HO HO2 HB1
    obtain ⟨D, hD⟩ : ∃ D : ByteArray, D = ⟨(Lib.itoa (r : Int)).toArray⟩ := ⟨_, rfl⟩
    have hDl : D.data.toList = Lib.decDigits r := by rw [hD, Lib.itoa_nonneg]
    have hDs : D.size ≤ 9 := by rw [← bsize, hDl]; exact TxN.dec_len9 hr
    have hDp : 1 ≤ D.size := by rw [← bsize, hDl]; exact TxN.dec_pos r
    have HDL := hide hDl
    clear hDl
    rw [← hD]
    clear hD
    by_cases hz : Num.nat qs = 0
    · have HL : Hid ((Num.limbs (Num.nat qs)).length = 0) := hide (by rw [hz, Num.limbs_zero]; rfl)
      have HZ := hide hz
      clear hz
      have hL := HL.out
      go_wp2
      go_ret
      refine ⟨ret_str' ?_, HB3.out⟩
      have e1 := HN.out
      rw [HZ.out, Nat.zero_mul, Nat.zero_add] at e1
      have e2 := hE.out
      rw [e1, ← HDL.out] at e2
      simp only [decBs]
      rw [← e2]; simp
    · have HL : Hid (0 < (Num.limbs (Num.nat qs)).length) := hide (by
        refine List.length_pos_iff.2 fun e => hz (Num.limbs_eq_nil.1 e))
      have HZ := hide hz
      clear hz
      have hL := HL.out
      have hL' : ((((Num.limbs (Num.nat qs)).length : Nat) : Int) == 0) = false := by rw [beq_eq_false_iff_ne]; omega
      have e9 : (9 : Int) - (D.size : Int) = ((9 - D.size : Nat) : Int) := by omega
      go_wp2_with fail
      refine (Tryz.strings_Repeat _ (9 - D.size) _ (by omega) (by show 1 * (9 - D.size) ≤ _; omega)).mono ?_
      rintro e w4 ⟨rfl, hb4⟩
      have HB4 := hide (bl_trans HB3.out hb4)
      have HS4 := hide (HS3.out.below hb4)
      clear hb4 HB3 HS3
      obtain ⟨Z, hZ⟩ : ∃ Z : ByteArray, Z = ⟨(Lib.repeatL ({ data := #[48] } : ByteArray).data.toList (9 - D.size)).toArray⟩ := ⟨_, rfl⟩
      have hZl : Z.data.toList = List.replicate (9 - D.size) 48 := by rw [hZ]; exact TxN.rep_eq _
      have hZs : Z.size = 9 - D.size := by rw [← bsize, hZl]; simp
      rw [← hZ]
      have HE := hide (nine hE.out HN.out HZ.out hr HDL.out hZl)
      clear hZ hZl hE HN
      have HSZ : Hid (Z.size + D.size + tb.size ≤ 400) := hide (by
        have e1 := congrArg List.length HE.out
        rw [List.length_append, bsize, bsize_app, bsize_app] at e1
        have := HM.out
        omega)
      go_wp2
      exact ⟨⟨a', c', Num.limbs (Num.nat qs), Z ++ D ++ tb, rfl, rfl, by omega, by have := HSZ.out; rw [bsize_app, bsize_app]; omega, HS4, HB4, hide (by rw [Num.nat_limbs]; exact HE.out)⟩, by have := HSZ.out; simp only [bLen, bsize_app]; omega⟩
end Go.Proofs.YtlknhheafmifnaaGreatDoor

/- The walk of the program's IntText. -/
namespace Go.Proofs.YtlknhheafmifnaaGreatDoor
open Go.RowKit Go.Sort
set_option linter.unusedVariables false

set_option maxHeartbeats 1000000 in
set_option maxRecDepth 20000 in
theorem intTextI (v : Value) (neg : Bool) (xs : List Nat) (w : World) (h : Raw w v neg xs) (htab : Tabs w) :
    Calls Tryz.prog 63 #[v] w fun e w' => e = .returned (.string (intT neg xs)) ∧ Below w.heap.size w w' := by
  have hsm := raw_small h
  obtain ⟨a, cap, rfl, hs⟩ := h
  have HB0 := hide (bl_alloc (bl_refl w) (Obj.cells #[Value.bool neg, Value.slice a xs.length cap] 32))
  have HS := hide (hs.below HB0.out)
  have HT := hide htab
  have k0 : (w.alloc (Obj.cells #[Value.bool neg, Value.slice a xs.length cap] 32)).cell? ⟨w.heap.size, 0, none⟩ = some (Value.bool neg) := by go_simp
  have k1 : (w.alloc (Obj.cells #[Value.bool neg, Value.slice a xs.length cap] 32)).cell? ⟨w.heap.size, 1, none⟩ = some (Value.slice a xs.length cap) := by go_simp
  have z1 : w.heap.size < (w.alloc (Obj.cells #[Value.bool neg, Value.slice a xs.length cap] 32)).heap.size := by simp only [World.size_alloc]; omega
  clear hs htab
  go_enter Tryz.func63, Tryz.ntmps63
  go_wp2_with fail
  generalize w.alloc (Obj.cells #[Value.bool neg, Value.slice a xs.length cap] 32) = W0 at *
  refine (okI _ neg xs _ ⟨a, cap, rfl, HS.out⟩).mono ?_
  rintro e w1 ⟨rfl, hb1⟩
  replace k0 := (hb1.cell (p := ⟨w.heap.size, 0, none⟩) z1).trans k0
  replace k1 := (hb1.cell (p := ⟨w.heap.size, 1, none⟩) z1).trans k1
  replace z1 := Nat.lt_of_lt_of_le z1 hb1.size
  replace HS := hide (HS.out.below hb1)
  replace HB0 := hide (bl_trans HB0.out hb1)
  clear hb1
  cases ho : okB neg xs with
  | false =>
    have HR : Hid (intT neg xs = ⟨#[]⟩) := hide (by rw [intT, ho]; rfl)
    go_wp2
    go_ret
    exact ⟨by rw [HR.out]; rfl, HB0.out⟩
  | true =>
    obtain ⟨z, rfl, rfl, hz⟩ := ok_num hsm ho
    have HR := hide (intT_num z ho)
    have hlen := ok_len ho
    have hcl := dec_short hsm hlen
    rw [nat_lms] at hcl
    clear hz hsm
    go_wp2_with fail
    refine (limbsTextI a _ cap _ _ HS.out hlen (HT.out.below HB0.out)).mono ?_
    rintro e w2 ⟨rfl, hb2⟩
    replace k0 := (hb2.cell (p := ⟨w.heap.size, 0, none⟩) z1).trans k0
    have HB2 := hide (bl_trans HB0.out hb2)
    clear hb2
    rw [nat_lms]
    obtain ⟨D, hD⟩ : ∃ D : ByteArray, D = decBs z.natAbs := ⟨_, rfl⟩
    have hDl : D.data.toList = Lib.decDigits z.natAbs := by rw [hD]; rfl
    have hDs : D.size ≤ 400 := by rw [← bsize, hDl]; exact hcl
    rw [← hD]
    clear hD hcl
    cases hg : sgn z with
    | true =>
      rw [hg] at k0
      have HF := hide (it_neg hg)
      have HDL := hide hDl
      clear hDl
      go_wp2
      go_ret
      refine ⟨?_, HB2.out⟩
      rw [HR.out]
      exact ret_str' (by rw [HF.out, ← HDL.out]; simp)
    | false =>
      rw [hg] at k0
      have HF := hide (it_pos hg)
      have HDL := hide hDl
      clear hDl
      go_wp2
      go_ret
      refine ⟨?_, HB2.out⟩
      rw [HR.out]
      exact ret_str' (by rw [HF.out, ← HDL.out])
end Go.Proofs.YtlknhheafmifnaaGreatDoor
