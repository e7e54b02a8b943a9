/- The walk of l02Text: a number as a decimal numeral with its sign, nine digits at a time. -/
import Derived.Test.YtlknhheafmifnaaGreatDoorPk10
import Derived.Test.YtlknhheafmifnaaGreatDoorPk03
import Derived.Test.YtlknhheafmifnaaGreatDoorPk01
import Derived.Test.YtlknhheafmifnaaGreatDoorDecS
namespace Go.Proofs.YtlknhheafmifnaaGreatDoor
open Go.RowKit Go.Sort
set_option linter.unusedVariables false

theorem nine' {M q r m : Nat} {D P tb : ByteArray} (hE : Lib.decDigits m ++ tb.data.toList = Lib.decDigits M) (hm : m = q * 1000000000 + r) (hq : q ≠ 0) (hr : r < 1000000000) (hD : D.data.toList = Lib.decDigits r) (hP : P.data.toList = List.replicate (9 - D.size) 48 ++ D.data.toList) :
    Lib.decDigits q ++ (P ++ tb).data.toList = Lib.decDigits M := by
  rw [hm, TxN.dec9 q r (by omega) hr, ← hD, bsize, ← hP] at hE
  rw [← hE]; simp

set_option maxHeartbeats 4000000 in
set_option maxRecDepth 20000 in
theorem txtS (v : Value) (z : Int) (w : World) (hv : Is w v z) (hn : (lms z).length ≤ 40) :
    Calls Tryz.prog 55 #[v] w fun e w' => e = .returned (.string (itB z)) ∧ Below w.heap.size w w' := by
  obtain ⟨a, ca, rfl, hs⟩ := hv
  have hsm := hs.2.2.2.1
  have hcap := hs.2.1
  have hcm := hs.2.2.1
  by_cases h0 : (lms z).length = 0
  · have hz := sgn_lms_nil h0
    have HR : Hid (itB z = ⟨#[48]⟩) := hide (by rw [hz]; exact it_zero)
    clear hs hz
    go_enter Tryz.func55, Tryz.ntmps55
    go_wp2
    go_ret
    exact ⟨by rw [HR.out]; rfl, bl_alloc (bl_refl w) _⟩
  have HM := hide (dec_short hsm hn)
  have HA := hide (hs.below (bl_alloc (bl_refl w) (Obj.cells #[Value.bool (sgn z), Value.slice a (lms z).length ca] 32)))
  have HB0 := hide (bl_alloc (bl_refl w) (Obj.cells #[Value.bool (sgn z), Value.slice a (lms z).length ca] 32))
  have k0 : (w.alloc (Obj.cells #[Value.bool (sgn z), Value.slice a (lms z).length ca] 32)).cell? ⟨w.heap.size, 0, none⟩ = some (Value.bool (sgn z)) := by go_simp
  have z1 : w.heap.size < (w.alloc (Obj.cells #[Value.bool (sgn z), Value.slice a (lms z).length ca] 32)).heap.size := by simp only [World.size_alloc]; omega
  have K0 := hide k0
  have Z1 := hide z1
  have h0' : ((((lms z).length : Nat) : Int) == 0) = false := by rw [beq_eq_false_iff_ne]; omega
  clear hs hsm k0 z1
  go_enter Tryz.func55, Tryz.ntmps55
  go_wp2
  generalize w.alloc (Obj.cells #[Value.bool (sgn z), Value.slice a (lms z).length ca] 32) = W0 at *
  go_loopw [3, 4, 5, 6, 7] (fun t l _ _ _ wr => ∃ (a2 : Option Addr) (c2 : Nat) (ys : List Nat) (tb : ByteArray), l = .slice a2 ys.length c2 ∧ t = .string tb ∧ ys.length ≤ 40 ∧ tb.size ≤ 400 ∧ ys.length ≤ c2 ∧ c2 ≤ 9223372036854775807 ∧ Hid (Seg wr a2 ys.length c2 ys) ∧ Hid (Below W0.heap.size W0 wr) ∧ Hid ((if ys.length = 0 then [] else Lib.decDigits (Num.nat ys)) ++ tb.data.toList = Lib.decDigits (Num.nat (lms z)))) (fun t _ _ _ _ _ => 1000 - bLen t)
  case atStart => exact ⟨a, ca, lms z, ⟨#[]⟩, rfl, rfl, hn, by decide, hcap, hcm, HA, hide (bl_refl W0), hide (by rw [if_neg h0]; simp)⟩
  case round =>
    obtain ⟨a2, c2, ys, tb, rfl, rfl, hl, ht, hc2, hcm2, hS, hB, hE⟩ := hrel
    by_cases hy : ys.length = 0
    · have HE : Hid (tb.data.toList = Lib.decDigits z.natAbs) := hide (by have := hE.out; rw [if_pos hy, nat_lms] at this; simpa using this)
      have kr := (hB.out.cell (p := ⟨w.heap.size, 0, none⟩) Z1.out).trans K0.out
      have HBL := hide (bl_trans HB0.out hB.out)
      clear hE hS hB
      cases hg : sgn z with
      | true =>
        rw [hg] at kr
        have HF := hide (it_neg hg)
        go_wp2
        go_ret
        refine ⟨ret_str' ?_, HBL.out⟩
        rw [HF.out, ← HE.out]; simp
      | false =>
        rw [hg] at kr
        have HF := hide (it_pos hg)
        go_wp2
        go_ret
        refine ⟨ret_str' ?_, HBL.out⟩
        rw [HF.out, ← HE.out]
    · have HE : Hid (Lib.decDigits (Num.nat ys) ++ tb.data.toList = Lib.decDigits (Num.nat (lms z))) := hide (by have := hE.out; rw [if_neg hy] at this; exact this)
      clear hE
      go_wp2_with fail
      refine (shortS a2 _ c2 1000000000 ys _ hS.out (by omega) (by omega) (by omega)).mono ?_
      rintro e w1 ⟨g2, qs, r, rfl, hg2, hD, ho1, ho2, hb1⟩
      have hql := hD.1
      have hr := hD.2.2.1
      have HN : Hid (Num.nat ys = Num.nat qs * 1000000000 + r) := hide (by have := hD.2.2.2; rw [List.drop_zero, List.drop_zero] at this; exact this)
      have HQ := hide hD.2.1
      have HB1 := hide (bl_trans hB.out hb1)
      have HO1 := hide ho1.seg
      have hgl := (ho2.lt (s := none)).2
      have HC1 := hide (own_cell ho2 0 (by simp))
      clear hD ho1 ho2 hb1 hB hS
      go_wp2_with fail
      refine (makeS false _ _ _ qs _ HO1.out (by omega)).mono ?_
      rintro e w2 ⟨v2, rfl, ⟨a3, c3, rfl, ho3⟩, hb2⟩
      rw [mk_lms] at ho3
      rw [mk_lms, mk_sgn, Bool.false_and]
      have hcq : w2.cell? ⟨g2, 0, none⟩ = some (.int .u32 r) := (hb2.cell (p := ⟨g2, 0, none⟩) hgl).trans HC1.out
      have HB2 := hide (bl_trans HB1.out hb2)
      have HS2 := hide ho3.seg
      have hcap3 := ho3.seg.2.1
      have hcm3 := ho3.seg.2.2.1
      have hqle := limbs_len_le HQ.out
      have hfd := field_limbs (.bool false) (.slice a3 (Num.limbs (Num.nat qs)).length c3) w2 ⟨_, _, _, rfl⟩
      clear ho3 hb2 HO1 HC1 HB1
      go_wp2_with fail
      refine (decS r _ (by omega) (by omega)).mono ?_
      rintro e w3 ⟨rfl, hw3⟩
      subst w3
      obtain ⟨D, hD⟩ : ∃ D : ByteArray, D = decB (r : Int) := ⟨_, rfl⟩
      have hDl : D.data.toList = Lib.decDigits r := by rw [hD, decB, Lib.itoa_nonneg]
      have hDs : D.size ≤ 9 := by rw [← bsize, hDl]; exact TxN.dec_len9 hr
      have hDp : 1 ≤ D.size := by rw [← bsize, hDl]; exact TxN.dec_pos r
      have HDL := hide hDl
      clear hDl
      rw [← hD]
      clear hD hfd hcq
      by_cases hz : Num.nat qs = 0
      · have hL : (Num.limbs (Num.nat qs)).length = 0 := by rw [hz, Num.limbs_zero]; rfl
        have HE2 : Hid ((D ++ tb).data.toList = Lib.decDigits (Num.nat (lms z))) := hide (by
          have e1 := HN.out
          rw [hz, Nat.zero_mul, Nat.zero_add] at e1
          have e2 := HE.out
          rw [e1, ← HDL.out] at e2
          rw [← e2]; simp)
        have HSZ : Hid (D.size + tb.size ≤ 400) := hide (by
          have e1 := congrArg List.length HE2.out
          rw [bsize, bsize_app] at e1
          have := HM.out
          omega)
        have hL2 : Hid (Num.limbs (Num.nat qs) = []) := hide (List.eq_nil_of_length_eq_zero hL)
        clear hz HE HN
        go_wp2
        go_loop [7] (fun p => p = .string D) (fun _ => 0)
        case atStart => rfl
        case round =>
          obtain rfl := hrel
          go_wp2
          exact ⟨⟨a3, c3, Num.limbs (Num.nat qs), D ++ tb, by rw [hL2.out]; rfl, rfl, by omega, by have := HSZ.out; rw [bsize_app]; omega, hcap3, hcm3, HS2, HB2, hide (by rw [if_pos hL]; exact HE2.out)⟩, by have := HSZ.out; simp only [bLen, bsize_app]; omega⟩
      · have hL : 0 < (Num.limbs (Num.nat qs)).length := List.length_pos_iff.2 fun e => hz (Num.limbs_eq_nil.1 e)
        have HZ := hide hz
        clear hz
        go_wp2
        go_loop [7] (fun p => ∃ (j : Nat) (P : ByteArray), p = .string P ∧ P.size = j + D.size ∧ j + D.size ≤ 9 ∧ Hid (P.data.toList = List.replicate j 48 ++ D.data.toList)) (fun p => 9 - bLen p)
        case atStart => exact ⟨0, D, rfl, by omega, by omega, hide (by simp)⟩
        case round =>
          obtain ⟨j, P, rfl, hPs, hj, hP⟩ := hrel
          by_cases h9 : P.size < 9
          · have h9' : (P.size : Int) < 9 := by omega
            go_wp2
            exact ⟨⟨j + 1, ⟨#[48]⟩ ++ P, rfl, by rw [bsize_app]; show 1 + P.size = _; omega, by omega, hide (by have := hP.out; simp [this, List.replicate_succ])⟩, by simp only [bLen, bsize_app]; show 9 - (1 + P.size) < _; omega⟩
          · have h9' : ¬ (P.size : Int) < 9 := by omega
            go_wp2
            have HE2 := hide (nine' HE.out HN.out HZ.out hr HDL.out (by rw [hP.out]; congr 2; omega))
            have HSZ : Hid (P.size + tb.size ≤ 400) := hide (by
              have e1 := congrArg List.length HE2.out
              rw [List.length_append, bsize, bsize_app] at e1
              have := HM.out
              omega)
            exact ⟨⟨a3, c3, Num.limbs (Num.nat qs), P ++ tb, rfl, rfl, by omega, by have := HSZ.out; rw [bsize_app]; omega, hcap3, hcm3, HS2, HB2, hide (by rw [if_neg (by omega), Num.nat_limbs]; exact HE2.out)⟩, by have := HSZ.out; simp only [bLen, bsize_app]; omega⟩
end Go.Proofs.YtlknhheafmifnaaGreatDoor
