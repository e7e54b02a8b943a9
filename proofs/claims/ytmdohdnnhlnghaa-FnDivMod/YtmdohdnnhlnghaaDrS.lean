/- The walks of draws of numbers, some and any. -/
import Derived.Test.YtmdohdnnhlnghaaDrB
namespace Go.Proofs.Ytmdohdnnhlnghaa
open Go.RowKit
set_option linter.unusedVariables false

theorem len_int (z : Int) (h1 : -9223372036854775808 ≤ z) (h2 : z ≤ 9223372036854775807) : (lms z).length ≤ 2 := Num.limbs_len.2 (by show z.natAbs < 18446744073709551616; omega)
set_option maxHeartbeats 4000000 in
theorem someB (B : Nat) (a : Option Addr) (len cap : Nat) (w : World) (hc : Cur B a len cap w) :
    Calls Try.prog 36 #[.pointer (some ⟨B, 0, none⟩)] w fun e w' => NumD 40 w B a len cap w' e := by
  have hB := hc.hB
  have HBB := hide hB
  have HD := hide (Dst.init hc)
  clear hc
  go_enter Try.func36, Try.ntmps36
  go_upto_region 1 with fail
  generalize w.alloc (Obj.cells #[Value.bool false, Value.slice none 0 0] 26) = wa at *
  go_wp2_with fail
  refine (belowD B a len cap _ HD.out.cur 8 (by omega)).mono ?_
  rintro e w2 ⟨x, hx, rfl, hc2, ho2⟩
  have hx' : 0 ≤ x ∧ x < 8 := by rcases hx with h | h <;> omega
  obtain ⟨hx1, hx2⟩ := hx'
  replace HD := hide (HD.out.on HBB.out hc2 ho2)
  clear hx hc2 ho2
  by_cases h0 : x = 0
  · have e0 : (x == 0) = true := by rw [h0]; rfl
    clear h0
    go_wp2_with fail
    have hb := bl_alloc (bl_refl w2) (Obj.cells #[Value.int .i64 0, Value.int .i64 1, Value.int .i64 (-1), Value.int .i64 2, Value.int .i64 (-2), Value.int .i64 4294967295, Value.int .i64 4294967296, Value.int .i64 (-4294967296), Value.int .i64 9223372036854775807, Value.int .i64 (-9223372036854775808)] 3)
    have HPK := hide (new_ints w2 #[Value.int .i64 0, Value.int .i64 1, Value.int .i64 (-1), Value.int .i64 2, Value.int .i64 (-2), Value.int .i64 4294967295, Value.int .i64 4294967296, Value.int .i64 (-4294967296), Value.int .i64 9223372036854775807, Value.int .i64 (-9223372036854775808)] 3 (fun z => -9223372036854775808 ≤ z ∧ z ≤ 9223372036854775807) (by
      intro v hv
      simp only [List.mem_cons, List.not_mem_nil, or_false] at hv
      rcases hv with rfl | rfl | rfl | rfl | rfl | rfl | rfl | rfl | rfl | rfl
      all_goals exact ⟨_, by omega, rfl⟩) 10 (by simp))
    have zL : w2.heap.size < (w2.alloc (Obj.cells #[Value.int .i64 0, Value.int .i64 1, Value.int .i64 (-1), Value.int .i64 2, Value.int .i64 (-2), Value.int .i64 4294967295, Value.int .i64 4294967296, Value.int .i64 (-4294967296), Value.int .i64 9223372036854775807, Value.int .i64 (-9223372036854775808)] 3)).heap.size := by simp only [World.size_alloc]; omega
    have hB2 := HD.out.z
    replace HD := hide (HD.out.bel hb)
    clear hb
    generalize w2.alloc (Obj.cells #[Value.int .i64 0, Value.int .i64 1, Value.int .i64 (-1), Value.int .i64 2, Value.int .i64 (-2), Value.int .i64 4294967295, Value.int .i64 4294967296, Value.int .i64 (-4294967296), Value.int .i64 9223372036854775807, Value.int .i64 (-9223372036854775808)] 3) = w3 at *
    refine (pickIntD B a len cap _ HD.out.cur w2.heap.size 10 (fun z => -9223372036854775808 ≤ z ∧ z ≤ 9223372036854775807) zL (by omega) (by omega) (by omega) HPK.out).mono ?_
    rintro e w4 ⟨z, hz, rfl, hc4, ho4⟩
    obtain ⟨hza, hzb⟩ := hz
    replace HD := hide (HD.out.on HBB.out hc4 ho4)
    clear hc4 ho4 HPK zL hB2
    go_wp2_with fail
    refine (fromS z _ (by omega) (by omega)).mono ?_
    rintro e wz ⟨v, rfl, ⟨a', c', rfl, ho⟩, hbz⟩
    have HL := hide (len_int z (by omega) (by omega))
    have HO := hide ho
    have zb := HD.out.z
    replace HD := hide (HD.out.bel hbz)
    clear ho hbz
    have kr0 := HD.out.r0
    have kr1 := HD.out.r1
    have fr0 := HD.out.g0
    have fr1 := HD.out.g1
    have zr := HD.out.z
    go_wp2
    refine bodyPost_ret (v := (.agg #[.bool (sgn z), .slice a' (lms z).length c'])) (by simp [results, Try.results36, go_sem, kr0, kr1]) rfl ?_
    exact ⟨z, a', c', rfl, by have := HL.out; omega, fin_two HO.out (by omega) (Nat.le_refl _) _ _, HD.out.fin HBB.out _ _⟩
  have e0 : (x == 0) = false := by rw [beq_eq_false_iff_ne]; exact h0
  by_cases h1 : x = 1
  · have e1 : (x == 1) = true := by rw [h1]; rfl
    clear h0 h1
    go_wp2_with fail
    refine (bigD 4 B a len cap _ HD.out.cur (by omega)).mono ?_
    rintro e wz ⟨z, a', c', rfl, hl, ho, hcz, hoz⟩
    have HL := hide hl
    have HO := hide ho
    have zb := HD.out.z
    replace HD := hide (HD.out.on HBB.out hcz hoz)
    clear hl ho hcz hoz
    have kr0 := HD.out.r0
    have kr1 := HD.out.r1
    have fr0 := HD.out.g0
    have fr1 := HD.out.g1
    have zr := HD.out.z
    go_wp2
    refine bodyPost_ret (v := (.agg #[.bool (sgn z), .slice a' (lms z).length c'])) (by simp [results, Try.results36, go_sem, kr0, kr1]) rfl ?_
    exact ⟨z, a', c', rfl, by have := HL.out; omega, fin_two HO.out (by omega) (Nat.le_refl _) _ _, HD.out.fin HBB.out _ _⟩
  have e1 : (x == 1) = false := by rw [beq_eq_false_iff_ne]; exact h1
  by_cases h2 : x = 2
  · have e2 : (x == 2) = true := by rw [h2]; rfl
    clear h0 h1 h2
    go_wp2_with fail
    refine (onceD B a len cap _ HD.out.cur 2 (by omega)).mono ?_
    rintro e w3 ⟨bt, rfl, hc3, ho3⟩
    replace HD := hide (HD.out.on HBB.out hc3 ho3)
    clear hc3 ho3
    go_wp2_with fail
    refine (belowD B a len cap _ HD.out.cur 1280 (by omega)).mono ?_
    rintro e w4 ⟨y, hy, rfl, hc4, ho4⟩
    have hy' : 0 ≤ y ∧ y < 1280 := by rcases hy with h | h <;> omega
    obtain ⟨K, rfl⟩ := Int.eq_ofNat_of_zero_le hy'.1
    have hK := hy'.2
    replace HD := hide (HD.out.on HBB.out hc4 ho4)
    clear hc4 ho4 hy hy'
    go_wp2_with fail
    refine (bitD K _ (by omega)).mono ?_
    rintro e w5 ⟨z0, a0, c0, rfl, hl0, ho0, hb5⟩
    have HO0 := hide ho0
    have HL0 := hide hl0.1
    have zb0 := HD.out.z
    replace HD := hide (HD.out.bel hb5)
    clear hb5 ho0 hl0
    have hfl := fun (wx : World) => field_limbs (Value.bool (sgn z0)) (Value.slice a0 (lms z0).length c0) wx ⟨_, _, _, rfl⟩
    go_wp2_with fail
    refine (makeS bt a0 (lms z0).length c0 (lms z0) _ HO0.out.seg (by have := HL0.out; omega)).mono ?_
    rintro e wz ⟨v, rfl, ⟨a', c', rfl, ho⟩, hbz⟩
    have hL := small_len (n := bt) (lms_small z0)
    have HO := hide ho
    have HL := hide (Nat.le_trans hL HL0.out)
    have zb := HD.out.z
    replace HD := hide (HD.out.bel hbz)
    clear ho hbz hL HO0 HL0 hfl
    have kr0 := HD.out.r0
    have kr1 := HD.out.r1
    have fr0 := HD.out.g0
    have fr1 := HD.out.g1
    have zr := HD.out.z
    generalize mk bt (Num.nat (lms z0)) = z at *
    go_wp2
    refine bodyPost_ret (v := (.agg #[.bool (sgn z), .slice a' (lms z).length c'])) (by simp [results, Try.results36, go_sem, kr0, kr1]) rfl ?_
    exact ⟨z, a', c', rfl, by have := HL.out; omega, fin_two HO.out (by omega) (Nat.le_refl _) _ _, HD.out.fin HBB.out _ _⟩
  have e2 : (x == 2) = false := by rw [beq_eq_false_iff_ne]; exact h2
  by_cases h3 : x = 3
  · have e3 : (x == 3) = true := by rw [h3]; rfl
    clear h0 h1 h2 h3
    go_wp2_with fail
    refine (bigD 40 B a len cap _ HD.out.cur (by omega)).mono ?_
    rintro e wz ⟨z, a', c', rfl, hl, ho, hcz, hoz⟩
    have HL := hide hl
    have HO := hide ho
    have zb := HD.out.z
    replace HD := hide (HD.out.on HBB.out hcz hoz)
    clear hl ho hcz hoz
    have kr0 := HD.out.r0
    have kr1 := HD.out.r1
    have fr0 := HD.out.g0
    have fr1 := HD.out.g1
    have zr := HD.out.z
    go_wp2
    refine bodyPost_ret (v := (.agg #[.bool (sgn z), .slice a' (lms z).length c'])) (by simp [results, Try.results36, go_sem, kr0, kr1]) rfl ?_
    exact ⟨z, a', c', rfl, by have := HL.out; omega, fin_two HO.out (by omega) (Nat.le_refl _) _ _, HD.out.fin HBB.out _ _⟩
  · have e3 : (x == 3) = false := by rw [beq_eq_false_iff_ne]; exact h3
    clear h0 h1 h2 h3
    go_wp2_with fail
    refine (belowD B a len cap _ HD.out.cur 2000 (by omega)).mono ?_
    rintro e w4 ⟨y, hy, rfl, hc4, ho4⟩
    have hy' : 0 ≤ y ∧ y < 2000 := by rcases hy with h | h <;> omega
    obtain ⟨hya, hyb⟩ := hy'
    replace HD := hide (HD.out.on HBB.out hc4 ho4)
    clear hc4 ho4 hy
    go_wp2_with fail
    refine (fromS (y - 1000) _ (by omega) (by omega)).mono ?_
    rintro e wz ⟨v, rfl, ⟨a', c', rfl, ho⟩, hbz⟩
    have HL := hide (len_int (y - 1000) (by omega) (by omega))
    have HO := hide ho
    have zb := HD.out.z
    replace HD := hide (HD.out.bel hbz)
    clear ho hbz
    have kr0 := HD.out.r0
    have kr1 := HD.out.r1
    have fr0 := HD.out.g0
    have fr1 := HD.out.g1
    have zr := HD.out.z
    generalize y - 1000 = z at *
    go_wp2
    refine bodyPost_ret (v := (.agg #[.bool (sgn z), .slice a' (lms z).length c'])) (by simp [results, Try.results36, go_sem, kr0, kr1]) rfl ?_
    exact ⟨z, a', c', rfl, by have := HL.out; omega, fin_two HO.out (by omega) (Nat.le_refl _) _ _, HD.out.fin HBB.out _ _⟩
end Go.Proofs.Ytmdohdnnhlnghaa
