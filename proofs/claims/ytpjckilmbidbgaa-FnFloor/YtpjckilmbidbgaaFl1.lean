/- The law's own fraction to the 0. -/
import Derived.Test.YtpjckilmbidbgaaFl0
namespace Go.Proofs.Ytpjckilmbidbgaa
open Go.RowKit
set_option linter.unusedVariables false

theorem make_small {x y : Int} (hx : 1 ≤ x) (hx2 : x ≤ 9) (hy : 1 ≤ y) (hy2 : y ≤ 3) (h0 : 0 ≤ x) :
    (rtN (okB (sgn x) (lms x) && okB (sgn y) (lms y)) (mk (sgn x) (Num.nat (lms x))) (mk (sgn y) (Num.nat (lms y)))).natAbs < 4294967296 ^ 40 ∧ (rtD (okB (sgn x) (lms x) && okB (sgn y) (lms y)) (mk (sgn x) (Num.nat (lms x))) (mk (sgn y) (Num.nat (lms y)))).natAbs < 4294967296 ^ 40 ∧
      ratB (sgn (rtN (okB (sgn x) (lms x) && okB (sgn y) (lms y)) (mk (sgn x) (Num.nat (lms x))) (mk (sgn y) (Num.nat (lms y))))) (lms (rtN (okB (sgn x) (lms x) && okB (sgn y) (lms y)) (mk (sgn x) (Num.nat (lms x))) (mk (sgn y) (Num.nat (lms y))))) (sgn (rtD (okB (sgn x) (lms x) && okB (sgn y) (lms y)) (mk (sgn x) (Num.nat (lms x))) (mk (sgn y) (Num.nat (lms y))))) (lms (rtD (okB (sgn x) (lms x) && okB (sgn y) (lms y)) (mk (sgn x) (Num.nat (lms x))) (mk (sgn y) (Num.nat (lms y))))) = true := by
  rw [nat_lms, nat_lms, mk_self, mk_self]
  have hb : ∀ z : Int, z.natAbs ≤ 9 → z.natAbs < 4294967296 ^ 40 := fun z h => Nat.lt_of_le_of_lt h (by decide)
  have ok : (okB (sgn x) (lms x) && okB (sgn y) (lms y)) = true := by rw [ok_fits, ok_fits]; exact ft_num (hb x (by omega)) (hb y (by omega))
  have n1 : (x / sgG x y).natAbs ≤ 9 := Nat.le_trans (Int.natAbs_ediv_le_natAbs _ _) (by omega)
  have n2 : (y / sgG x y).natAbs ≤ 9 := Nat.le_trans (Int.natAbs_ediv_le_natAbs _ _) (by omega)
  have hf : ftT (x / sgG x y) (y / sgG x y) = true := ft_num (hb _ n1) (hb _ n2)
  have hT : rtT (okB (sgn x) (lms x) && okB (sgn y) (lms y)) x y = true := by rw [ans_ft ok (by omega)]; exact hf
  obtain ⟨-, y0, f0, eN, eD⟩ := rt_true hT
  rw [eN, eD]
  exact ⟨hb _ n1, hb _ n2, rat_red y0 f0⟩

set_option maxHeartbeats 4000000 in
theorem power0 (a : Option Addr) (len cap : Nat) (w : World) (hr : Row a len cap w) (hl : len ≤ 1048576) :
    Calls Try.prog 19 #[.slice a len cap, .int .i64 0, .int .i64 0] w fun e w' => ∃ a1 c1 a2 c2, e = .returned (.agg #[.bool (sgn 1), .slice a1 (lms 1).length c1, .bool (sgn 1), .slice a2 (lms 1).length c2]) ∧ Own w' w.heap.size a1 (lms 1).length c1 (lms 1) ∧ Own w' w.heap.size a2 (lms 1).length c2 (lms 1) ∧ Below w.heap.size w w' := by
  have kr0 : (w.alloc (Obj.cells #[Value.bool false, Value.slice none 0 0, Value.bool false, Value.slice none 0 0] 28)).cell? ⟨w.heap.size, 0, none⟩ = some (Value.bool false) := by go_simp
  have fr0 : (w.alloc (Obj.cells #[Value.bool false, Value.slice none 0 0, Value.bool false, Value.slice none 0 0] 28)).frozen? ⟨w.heap.size, 0, none⟩ = false := by go_simp
  have kr1 : (w.alloc (Obj.cells #[Value.bool false, Value.slice none 0 0, Value.bool false, Value.slice none 0 0] 28)).cell? ⟨w.heap.size, 1, none⟩ = some (Value.slice none 0 0) := by go_simp
  have fr1 : (w.alloc (Obj.cells #[Value.bool false, Value.slice none 0 0, Value.bool false, Value.slice none 0 0] 28)).frozen? ⟨w.heap.size, 1, none⟩ = false := by go_simp
  have kr2 : (w.alloc (Obj.cells #[Value.bool false, Value.slice none 0 0, Value.bool false, Value.slice none 0 0] 28)).cell? ⟨w.heap.size, 2, none⟩ = some (Value.bool false) := by go_simp
  have fr2 : (w.alloc (Obj.cells #[Value.bool false, Value.slice none 0 0, Value.bool false, Value.slice none 0 0] 28)).frozen? ⟨w.heap.size, 2, none⟩ = false := by go_simp
  have kr3 : (w.alloc (Obj.cells #[Value.bool false, Value.slice none 0 0, Value.bool false, Value.slice none 0 0] 28)).cell? ⟨w.heap.size, 3, none⟩ = some (Value.slice none 0 0) := by go_simp
  have fr3 : (w.alloc (Obj.cells #[Value.bool false, Value.slice none 0 0, Value.bool false, Value.slice none 0 0] 28)).frozen? ⟨w.heap.size, 3, none⟩ = false := by go_simp
  have zr : w.heap.size < (w.alloc (Obj.cells #[Value.bool false, Value.slice none 0 0, Value.bool false, Value.slice none 0 0] 28)).heap.size := by simp only [World.size_alloc]; omega
  have HB := hide (bl_alloc (bl_refl w) (Obj.cells #[Value.bool false, Value.slice none 0 0, Value.bool false, Value.slice none 0 0] 28))
  have HROW := hide (hr.bel HB.out)
  clear hr
  go_enter Try.func19, Try.ntmps19
  go_upto_region 1 with fail
  generalize (w.alloc (Obj.cells #[Value.bool false, Value.slice none 0 0, Value.bool false, Value.slice none 0 0] 28)) = w1 at *
  have z0 := zr
  go_wp2_with fail
  refine (atG 0 (by omega) a len cap _ HROW.out hl).mono ?_
  rintro e wx ⟨x, hx, rfl, hw⟩
  subst wx
  obtain ⟨hxa, hxb⟩ := hx
  go_wp2_with fail
  have hx1 : 0 ≤ x % 9 := by omega
  have hx2 : x % 9 ≤ 8 := by omega
  generalize x % 9 = u at *
  refine (fromS (1 + u) _ (by omega) (by omega)).mono ?_
  rintro e w2 ⟨v, rfl, ⟨aA, cA, rfl, ho⟩, hb⟩
  replace HROW := hide (HROW.out.bel hb)
  have yw2 := hb.size
  replace kr0 := (hb.cell (p := ⟨w.heap.size, 0, none⟩) zr).trans kr0
  replace fr0 := (hb.frozen (p := ⟨w.heap.size, 0, none⟩) zr).trans fr0
  replace kr1 := (hb.cell (p := ⟨w.heap.size, 1, none⟩) zr).trans kr1
  replace fr1 := (hb.frozen (p := ⟨w.heap.size, 1, none⟩) zr).trans fr1
  replace kr2 := (hb.cell (p := ⟨w.heap.size, 2, none⟩) zr).trans kr2
  replace fr2 := (hb.frozen (p := ⟨w.heap.size, 2, none⟩) zr).trans fr2
  replace kr3 := (hb.cell (p := ⟨w.heap.size, 3, none⟩) zr).trans kr3
  replace fr3 := (hb.frozen (p := ⟨w.heap.size, 3, none⟩) zr).trans fr3
  replace zr := Nat.lt_of_lt_of_le zr hb.size
  replace HB := hide (bl_trans HB.out hb)
  clear hb
  skip
  have OA := hide ho
  clear ho
  go_wp2_with fail
  refine (atG 11 (by omega) a len cap _ HROW.out hl).mono ?_
  rintro e wx ⟨x2, hx, rfl, hw⟩
  subst wx
  obtain ⟨hxc, hxd⟩ := hx
  go_wp2_with fail
  have hy1 : 0 ≤ x2 % 3 := by omega
  have hy2 : x2 % 3 ≤ 2 := by omega
  generalize x2 % 3 = v at *
  refine (fromS (1 + v) _ (by omega) (by omega)).mono ?_
  rintro e w3 ⟨v', rfl, ⟨aB, cB, rfl, ho⟩, hb⟩
  have yw3 := hb.size
  replace kr0 := (hb.cell (p := ⟨w.heap.size, 0, none⟩) zr).trans kr0
  replace fr0 := (hb.frozen (p := ⟨w.heap.size, 0, none⟩) zr).trans fr0
  replace kr1 := (hb.cell (p := ⟨w.heap.size, 1, none⟩) zr).trans kr1
  replace fr1 := (hb.frozen (p := ⟨w.heap.size, 1, none⟩) zr).trans fr1
  replace kr2 := (hb.cell (p := ⟨w.heap.size, 2, none⟩) zr).trans kr2
  replace fr2 := (hb.frozen (p := ⟨w.heap.size, 2, none⟩) zr).trans fr2
  replace kr3 := (hb.cell (p := ⟨w.heap.size, 3, none⟩) zr).trans kr3
  replace fr3 := (hb.frozen (p := ⟨w.heap.size, 3, none⟩) zr).trans fr3
  replace zr := Nat.lt_of_lt_of_le zr hb.size
  replace OA := hide (OA.out.below hb)
  replace HB := hide (bl_trans HB.out hb)
  clear hb
  have OB := hide ho
  clear ho
  go_wp2_with fail
  refine (MakeRatQ (sgn (1 + u)) (lms (1 + u)) (sgn (1 + v)) (lms (1 + v)) aA cA aB cB _ OA.out.seg OB.out.seg).mono ?_
  rintro e w4 ⟨a1, c1, a2, c2, rfl, ho1, ho2, -, hb⟩
  have yw4 := hb.size
  replace kr0 := (hb.cell (p := ⟨w.heap.size, 0, none⟩) zr).trans kr0
  replace fr0 := (hb.frozen (p := ⟨w.heap.size, 0, none⟩) zr).trans fr0
  replace kr1 := (hb.cell (p := ⟨w.heap.size, 1, none⟩) zr).trans kr1
  replace fr1 := (hb.frozen (p := ⟨w.heap.size, 1, none⟩) zr).trans fr1
  replace kr2 := (hb.cell (p := ⟨w.heap.size, 2, none⟩) zr).trans kr2
  replace fr2 := (hb.frozen (p := ⟨w.heap.size, 2, none⟩) zr).trans fr2
  replace kr3 := (hb.cell (p := ⟨w.heap.size, 3, none⟩) zr).trans kr3
  replace fr3 := (hb.frozen (p := ⟨w.heap.size, 3, none⟩) zr).trans fr3
  replace zr := Nat.lt_of_lt_of_le zr hb.size
  replace OA := hide (OA.out.below hb)
  replace OB := hide (OB.out.below hb)
  replace HB := hide (bl_trans HB.out hb)
  clear hb
  have HMK := hide (make_small (x := 1 + u) (y := 1 + v) (by omega) (by omega) (by omega) (by omega) (by omega))
  have O1 := hide ho1
  have O2 := hide ho2
  clear ho1 ho2
  generalize rtN (okB (sgn (1 + u)) (lms (1 + u)) && okB (sgn (1 + v)) (lms (1 + v))) (mk (sgn (1 + u)) (Num.nat (lms (1 + u)))) (mk (sgn (1 + v)) (Num.nat (lms (1 + v)))) = p at *
  generalize rtD (okB (sgn (1 + u)) (lms (1 + u)) && okB (sgn (1 + v)) (lms (1 + v))) (mk (sgn (1 + u)) (Num.nat (lms (1 + u)))) (mk (sgn (1 + v)) (Num.nat (lms (1 + v)))) = q at *
  generalize rtT (okB (sgn (1 + u)) (lms (1 + u)) && okB (sgn (1 + v)) (lms (1 + v))) (mk (sgn (1 + u)) (Num.nat (lms (1 + u)))) (mk (sgn (1 + v)) (Num.nat (lms (1 + v)))) = t at *
  go_upto_region 2 with fail
  have yw5 : w4.heap.size + 1 ≤ (w4.alloc (Obj.cells #[Value.bool (sgn p), Value.slice a1 (lms p).length c1, Value.bool (sgn q), Value.slice a2 (lms q).length c2] 28)).heap.size := by simp only [World.size_alloc]; omega
  have kR0 : (w4.alloc (Obj.cells #[Value.bool (sgn p), Value.slice a1 (lms p).length c1, Value.bool (sgn q), Value.slice a2 (lms q).length c2] 28)).cell? ⟨w4.heap.size, 0, none⟩ = some (Value.bool (sgn p)) := by go_simp
  have kR1 : (w4.alloc (Obj.cells #[Value.bool (sgn p), Value.slice a1 (lms p).length c1, Value.bool (sgn q), Value.slice a2 (lms q).length c2] 28)).cell? ⟨w4.heap.size, 1, none⟩ = some (Value.slice a1 (lms p).length c1) := by go_simp
  have kR2 : (w4.alloc (Obj.cells #[Value.bool (sgn p), Value.slice a1 (lms p).length c1, Value.bool (sgn q), Value.slice a2 (lms q).length c2] 28)).cell? ⟨w4.heap.size, 2, none⟩ = some (Value.bool (sgn q)) := by go_simp
  have kR3 : (w4.alloc (Obj.cells #[Value.bool (sgn p), Value.slice a1 (lms p).length c1, Value.bool (sgn q), Value.slice a2 (lms q).length c2] 28)).cell? ⟨w4.heap.size, 3, none⟩ = some (Value.slice a2 (lms q).length c2) := by go_simp
  have zR : w4.heap.size < (w4.alloc (Obj.cells #[Value.bool (sgn p), Value.slice a1 (lms p).length c1, Value.bool (sgn q), Value.slice a2 (lms q).length c2] 28)).heap.size := by simp only [World.size_alloc]; omega
  have hbn := (bl_alloc (bl_refl w4) (Obj.cells #[Value.bool (sgn p), Value.slice a1 (lms p).length c1, Value.bool (sgn q), Value.slice a2 (lms q).length c2] 28))
  replace kr0 := (hbn.cell (p := ⟨w.heap.size, 0, none⟩) zr).trans kr0
  replace fr0 := (hbn.frozen (p := ⟨w.heap.size, 0, none⟩) zr).trans fr0
  replace kr1 := (hbn.cell (p := ⟨w.heap.size, 1, none⟩) zr).trans kr1
  replace fr1 := (hbn.frozen (p := ⟨w.heap.size, 1, none⟩) zr).trans fr1
  replace kr2 := (hbn.cell (p := ⟨w.heap.size, 2, none⟩) zr).trans kr2
  replace fr2 := (hbn.frozen (p := ⟨w.heap.size, 2, none⟩) zr).trans fr2
  replace kr3 := (hbn.cell (p := ⟨w.heap.size, 3, none⟩) zr).trans kr3
  replace fr3 := (hbn.frozen (p := ⟨w.heap.size, 3, none⟩) zr).trans fr3
  replace zr := Nat.lt_of_lt_of_le zr hbn.size
  replace OA := hide (OA.out.below hbn)
  replace OB := hide (OB.out.below hbn)
  replace O1 := hide (O1.out.below hbn)
  replace O2 := hide (O2.out.below hbn)
  replace HB := hide (bl_trans HB.out hbn)
  clear hbn
  generalize (w4.alloc (Obj.cells #[Value.bool (sgn p), Value.slice a1 (lms p).length c1, Value.bool (sgn q), Value.slice a2 (lms q).length c2] 28)) = w5 at *
  go_wp2_with fail
  refine (ratPow0 p q a1 c1 a2 c2 _ HMK.out.1 HMK.out.2.1 HMK.out.2.2 O1.out.seg O2.out.seg).mono ?_
  rintro e w6 ⟨d1, f1, d2, f2, rfl, ho1, ho2, hb⟩
  have yw6 := hb.size
  replace kr0 := (hb.cell (p := ⟨w.heap.size, 0, none⟩) zr).trans kr0
  replace fr0 := (hb.frozen (p := ⟨w.heap.size, 0, none⟩) zr).trans fr0
  replace kr1 := (hb.cell (p := ⟨w.heap.size, 1, none⟩) zr).trans kr1
  replace fr1 := (hb.frozen (p := ⟨w.heap.size, 1, none⟩) zr).trans fr1
  replace kr2 := (hb.cell (p := ⟨w.heap.size, 2, none⟩) zr).trans kr2
  replace fr2 := (hb.frozen (p := ⟨w.heap.size, 2, none⟩) zr).trans fr2
  replace kr3 := (hb.cell (p := ⟨w.heap.size, 3, none⟩) zr).trans kr3
  replace fr3 := (hb.frozen (p := ⟨w.heap.size, 3, none⟩) zr).trans fr3
  replace zr := Nat.lt_of_lt_of_le zr hb.size
  replace kR0 := (hb.cell (p := ⟨w4.heap.size, 0, none⟩) zR).trans kR0
  replace kR1 := (hb.cell (p := ⟨w4.heap.size, 1, none⟩) zR).trans kR1
  replace kR2 := (hb.cell (p := ⟨w4.heap.size, 2, none⟩) zR).trans kR2
  replace kR3 := (hb.cell (p := ⟨w4.heap.size, 3, none⟩) zR).trans kR3
  replace zR := Nat.lt_of_lt_of_le zR hb.size
  replace OA := hide (OA.out.below hb)
  replace OB := hide (OB.out.below hb)
  replace O1 := hide (O1.out.below hb)
  replace O2 := hide (O2.out.below hb)
  replace HB := hide (bl_trans HB.out hb)
  clear hb
  have P1 := hide ho1
  have P2 := hide ho2
  clear ho1 ho2
  go_upto_region 3 with fail
  have yw7 : w6.heap.size + 1 ≤ (w6.alloc (Obj.cells #[Value.bool (sgn 1), Value.slice d1 (lms 1).length f1, Value.bool (sgn 1), Value.slice d2 (lms 1).length f2] 28)).heap.size := by simp only [World.size_alloc]; omega
  have kS0 : (w6.alloc (Obj.cells #[Value.bool (sgn 1), Value.slice d1 (lms 1).length f1, Value.bool (sgn 1), Value.slice d2 (lms 1).length f2] 28)).cell? ⟨w6.heap.size, 0, none⟩ = some (Value.bool (sgn 1)) := by go_simp
  have kS1 : (w6.alloc (Obj.cells #[Value.bool (sgn 1), Value.slice d1 (lms 1).length f1, Value.bool (sgn 1), Value.slice d2 (lms 1).length f2] 28)).cell? ⟨w6.heap.size, 1, none⟩ = some (Value.slice d1 (lms 1).length f1) := by go_simp
  have kS2 : (w6.alloc (Obj.cells #[Value.bool (sgn 1), Value.slice d1 (lms 1).length f1, Value.bool (sgn 1), Value.slice d2 (lms 1).length f2] 28)).cell? ⟨w6.heap.size, 2, none⟩ = some (Value.bool (sgn 1)) := by go_simp
  have kS3 : (w6.alloc (Obj.cells #[Value.bool (sgn 1), Value.slice d1 (lms 1).length f1, Value.bool (sgn 1), Value.slice d2 (lms 1).length f2] 28)).cell? ⟨w6.heap.size, 3, none⟩ = some (Value.slice d2 (lms 1).length f2) := by go_simp
  have zS : w6.heap.size < (w6.alloc (Obj.cells #[Value.bool (sgn 1), Value.slice d1 (lms 1).length f1, Value.bool (sgn 1), Value.slice d2 (lms 1).length f2] 28)).heap.size := by simp only [World.size_alloc]; omega
  have hbn := (bl_alloc (bl_refl w6) (Obj.cells #[Value.bool (sgn 1), Value.slice d1 (lms 1).length f1, Value.bool (sgn 1), Value.slice d2 (lms 1).length f2] 28))
  replace kr0 := (hbn.cell (p := ⟨w.heap.size, 0, none⟩) zr).trans kr0
  replace fr0 := (hbn.frozen (p := ⟨w.heap.size, 0, none⟩) zr).trans fr0
  replace kr1 := (hbn.cell (p := ⟨w.heap.size, 1, none⟩) zr).trans kr1
  replace fr1 := (hbn.frozen (p := ⟨w.heap.size, 1, none⟩) zr).trans fr1
  replace kr2 := (hbn.cell (p := ⟨w.heap.size, 2, none⟩) zr).trans kr2
  replace fr2 := (hbn.frozen (p := ⟨w.heap.size, 2, none⟩) zr).trans fr2
  replace kr3 := (hbn.cell (p := ⟨w.heap.size, 3, none⟩) zr).trans kr3
  replace fr3 := (hbn.frozen (p := ⟨w.heap.size, 3, none⟩) zr).trans fr3
  replace zr := Nat.lt_of_lt_of_le zr hbn.size
  replace kR0 := (hbn.cell (p := ⟨w4.heap.size, 0, none⟩) zR).trans kR0
  replace kR1 := (hbn.cell (p := ⟨w4.heap.size, 1, none⟩) zR).trans kR1
  replace kR2 := (hbn.cell (p := ⟨w4.heap.size, 2, none⟩) zR).trans kR2
  replace kR3 := (hbn.cell (p := ⟨w4.heap.size, 3, none⟩) zR).trans kR3
  replace zR := Nat.lt_of_lt_of_le zR hbn.size
  replace OA := hide (OA.out.below hbn)
  replace OB := hide (OB.out.below hbn)
  replace O1 := hide (O1.out.below hbn)
  replace O2 := hide (O2.out.below hbn)
  replace P1 := hide (P1.out.below hbn)
  replace P2 := hide (P2.out.below hbn)
  replace HB := hide (bl_trans HB.out hbn)
  clear hbn
  generalize (w6.alloc (Obj.cells #[Value.bool (sgn 1), Value.slice d1 (lms 1).length f1, Value.bool (sgn 1), Value.slice d2 (lms 1).length f2] 28)) = w7 at *
  go_wp2
  refine bodyPost_ret (v := (Value.agg #[Value.bool (sgn 1), Value.slice d1 (lms 1).length f1, Value.bool (sgn 1), Value.slice d2 (lms 1).length f2])) (by simp [results, Try.results19, go_sem, kr0, kr1, kr2, kr3]) rfl ?_
  obtain ⟨h1, h2, h3⟩ := fin_four (N := w.heap.size) P1.out P2.out (by omega) (by omega) (by omega) HB.out (Value.bool (sgn 1)) (Value.slice d1 (lms 1).length f1) (Value.bool (sgn 1)) (Value.slice d2 (lms 1).length f2)
  exact ⟨d1, f1, d2, f2, rfl, h1, h2, h3⟩

end Go.Proofs.Ytpjckilmbidbgaa
