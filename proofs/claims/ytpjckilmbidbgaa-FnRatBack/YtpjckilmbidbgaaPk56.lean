/- My texts RTop2, in this order. -/
import Derived.Test.YtpjckilmbidbgaaPk54
/- The walks of the specification's RatSub and RatQuo. -/
namespace Go.Proofs.Ytpjckilmbidbgaa
open Go.RowKit
set_option linter.unusedVariables false

set_option maxHeartbeats 4000000 in
theorem RatQuoQ (n1 : Bool) (xs1 : List Nat) (m1 : Bool) (ys1 : List Nat) (n2 : Bool) (xs2 : List Nat) (m2 : Bool) (ys2 : List Nat) (a1 : Option Addr) (c1 : Nat) (b1 : Option Addr) (e1 : Nat) (a2 : Option Addr) (c2 : Nat) (b2 : Option Addr) (e2 : Nat) (w : World)
    (s1 : Seg w a1 xs1.length c1 xs1) (t1 : Seg w b1 ys1.length e1 ys1) (s2 : Seg w a2 xs2.length c2 xs2) (t2 : Seg w b2 ys2.length e2 ys2) :
    Calls Try.prog 10 #[Value.agg #[Value.bool n1, Value.slice a1 xs1.length c1, Value.bool m1, Value.slice b1 ys1.length e1], Value.agg #[Value.bool n2, Value.slice a2 xs2.length c2, Value.bool m2, Value.slice b2 ys2.length e2]] w fun e w' => RatAns (ratB n1 xs1 m1 ys1 && ratB n2 xs2 m2 ys2) (mulZ (mk n1 (Num.nat xs1)) (mk m2 (Num.nat ys2))) (mulZ (mk m1 (Num.nat ys1)) (mk n2 (Num.nat xs2))) w w' e := by
  have G1 := hide s1.2.2.2.1
  have G2 := hide t1.2.2.2.1
  have G3 := hide s2.2.2.2.1
  have G4 := hide t2.2.2.2.1
  have ka0 : (((w.alloc (Obj.cells #[Value.bool n1, Value.slice a1 xs1.length c1, Value.bool m1, Value.slice b1 ys1.length e1] 28)).alloc (Obj.cells #[Value.bool n2, Value.slice a2 xs2.length c2, Value.bool m2, Value.slice b2 ys2.length e2] 28)).alloc (Obj.cells #[Value.bool false, Value.slice none 0 0, Value.bool false, Value.slice none 0 0] 28)).cell? ⟨w.heap.size, 0, none⟩ = some (Value.bool n1) := by go_simp
  have ka1 : (((w.alloc (Obj.cells #[Value.bool n1, Value.slice a1 xs1.length c1, Value.bool m1, Value.slice b1 ys1.length e1] 28)).alloc (Obj.cells #[Value.bool n2, Value.slice a2 xs2.length c2, Value.bool m2, Value.slice b2 ys2.length e2] 28)).alloc (Obj.cells #[Value.bool false, Value.slice none 0 0, Value.bool false, Value.slice none 0 0] 28)).cell? ⟨w.heap.size, 1, none⟩ = some (Value.slice a1 xs1.length c1) := by go_simp
  have ka2 : (((w.alloc (Obj.cells #[Value.bool n1, Value.slice a1 xs1.length c1, Value.bool m1, Value.slice b1 ys1.length e1] 28)).alloc (Obj.cells #[Value.bool n2, Value.slice a2 xs2.length c2, Value.bool m2, Value.slice b2 ys2.length e2] 28)).alloc (Obj.cells #[Value.bool false, Value.slice none 0 0, Value.bool false, Value.slice none 0 0] 28)).cell? ⟨w.heap.size, 2, none⟩ = some (Value.bool m1) := by go_simp
  have ka3 : (((w.alloc (Obj.cells #[Value.bool n1, Value.slice a1 xs1.length c1, Value.bool m1, Value.slice b1 ys1.length e1] 28)).alloc (Obj.cells #[Value.bool n2, Value.slice a2 xs2.length c2, Value.bool m2, Value.slice b2 ys2.length e2] 28)).alloc (Obj.cells #[Value.bool false, Value.slice none 0 0, Value.bool false, Value.slice none 0 0] 28)).cell? ⟨w.heap.size, 3, none⟩ = some (Value.slice b1 ys1.length e1) := by go_simp
  have kb0 : (((w.alloc (Obj.cells #[Value.bool n1, Value.slice a1 xs1.length c1, Value.bool m1, Value.slice b1 ys1.length e1] 28)).alloc (Obj.cells #[Value.bool n2, Value.slice a2 xs2.length c2, Value.bool m2, Value.slice b2 ys2.length e2] 28)).alloc (Obj.cells #[Value.bool false, Value.slice none 0 0, Value.bool false, Value.slice none 0 0] 28)).cell? ⟨w.heap.size + 1, 0, none⟩ = some (Value.bool n2) := by go_simp
  have kb1 : (((w.alloc (Obj.cells #[Value.bool n1, Value.slice a1 xs1.length c1, Value.bool m1, Value.slice b1 ys1.length e1] 28)).alloc (Obj.cells #[Value.bool n2, Value.slice a2 xs2.length c2, Value.bool m2, Value.slice b2 ys2.length e2] 28)).alloc (Obj.cells #[Value.bool false, Value.slice none 0 0, Value.bool false, Value.slice none 0 0] 28)).cell? ⟨w.heap.size + 1, 1, none⟩ = some (Value.slice a2 xs2.length c2) := by go_simp
  have kb2 : (((w.alloc (Obj.cells #[Value.bool n1, Value.slice a1 xs1.length c1, Value.bool m1, Value.slice b1 ys1.length e1] 28)).alloc (Obj.cells #[Value.bool n2, Value.slice a2 xs2.length c2, Value.bool m2, Value.slice b2 ys2.length e2] 28)).alloc (Obj.cells #[Value.bool false, Value.slice none 0 0, Value.bool false, Value.slice none 0 0] 28)).cell? ⟨w.heap.size + 1, 2, none⟩ = some (Value.bool m2) := by go_simp
  have kb3 : (((w.alloc (Obj.cells #[Value.bool n1, Value.slice a1 xs1.length c1, Value.bool m1, Value.slice b1 ys1.length e1] 28)).alloc (Obj.cells #[Value.bool n2, Value.slice a2 xs2.length c2, Value.bool m2, Value.slice b2 ys2.length e2] 28)).alloc (Obj.cells #[Value.bool false, Value.slice none 0 0, Value.bool false, Value.slice none 0 0] 28)).cell? ⟨w.heap.size + 1, 3, none⟩ = some (Value.slice b2 ys2.length e2) := by go_simp
  have kr0 : (((w.alloc (Obj.cells #[Value.bool n1, Value.slice a1 xs1.length c1, Value.bool m1, Value.slice b1 ys1.length e1] 28)).alloc (Obj.cells #[Value.bool n2, Value.slice a2 xs2.length c2, Value.bool m2, Value.slice b2 ys2.length e2] 28)).alloc (Obj.cells #[Value.bool false, Value.slice none 0 0, Value.bool false, Value.slice none 0 0] 28)).cell? ⟨w.heap.size + 1 + 1, 0, none⟩ = some (Value.bool false) := by go_simp
  have fr0 : (((w.alloc (Obj.cells #[Value.bool n1, Value.slice a1 xs1.length c1, Value.bool m1, Value.slice b1 ys1.length e1] 28)).alloc (Obj.cells #[Value.bool n2, Value.slice a2 xs2.length c2, Value.bool m2, Value.slice b2 ys2.length e2] 28)).alloc (Obj.cells #[Value.bool false, Value.slice none 0 0, Value.bool false, Value.slice none 0 0] 28)).frozen? ⟨w.heap.size + 1 + 1, 0, none⟩ = false := by go_simp
  have kr1 : (((w.alloc (Obj.cells #[Value.bool n1, Value.slice a1 xs1.length c1, Value.bool m1, Value.slice b1 ys1.length e1] 28)).alloc (Obj.cells #[Value.bool n2, Value.slice a2 xs2.length c2, Value.bool m2, Value.slice b2 ys2.length e2] 28)).alloc (Obj.cells #[Value.bool false, Value.slice none 0 0, Value.bool false, Value.slice none 0 0] 28)).cell? ⟨w.heap.size + 1 + 1, 1, none⟩ = some (Value.slice none 0 0) := by go_simp
  have fr1 : (((w.alloc (Obj.cells #[Value.bool n1, Value.slice a1 xs1.length c1, Value.bool m1, Value.slice b1 ys1.length e1] 28)).alloc (Obj.cells #[Value.bool n2, Value.slice a2 xs2.length c2, Value.bool m2, Value.slice b2 ys2.length e2] 28)).alloc (Obj.cells #[Value.bool false, Value.slice none 0 0, Value.bool false, Value.slice none 0 0] 28)).frozen? ⟨w.heap.size + 1 + 1, 1, none⟩ = false := by go_simp
  have kr2 : (((w.alloc (Obj.cells #[Value.bool n1, Value.slice a1 xs1.length c1, Value.bool m1, Value.slice b1 ys1.length e1] 28)).alloc (Obj.cells #[Value.bool n2, Value.slice a2 xs2.length c2, Value.bool m2, Value.slice b2 ys2.length e2] 28)).alloc (Obj.cells #[Value.bool false, Value.slice none 0 0, Value.bool false, Value.slice none 0 0] 28)).cell? ⟨w.heap.size + 1 + 1, 2, none⟩ = some (Value.bool false) := by go_simp
  have fr2 : (((w.alloc (Obj.cells #[Value.bool n1, Value.slice a1 xs1.length c1, Value.bool m1, Value.slice b1 ys1.length e1] 28)).alloc (Obj.cells #[Value.bool n2, Value.slice a2 xs2.length c2, Value.bool m2, Value.slice b2 ys2.length e2] 28)).alloc (Obj.cells #[Value.bool false, Value.slice none 0 0, Value.bool false, Value.slice none 0 0] 28)).frozen? ⟨w.heap.size + 1 + 1, 2, none⟩ = false := by go_simp
  have kr3 : (((w.alloc (Obj.cells #[Value.bool n1, Value.slice a1 xs1.length c1, Value.bool m1, Value.slice b1 ys1.length e1] 28)).alloc (Obj.cells #[Value.bool n2, Value.slice a2 xs2.length c2, Value.bool m2, Value.slice b2 ys2.length e2] 28)).alloc (Obj.cells #[Value.bool false, Value.slice none 0 0, Value.bool false, Value.slice none 0 0] 28)).cell? ⟨w.heap.size + 1 + 1, 3, none⟩ = some (Value.slice none 0 0) := by go_simp
  have fr3 : (((w.alloc (Obj.cells #[Value.bool n1, Value.slice a1 xs1.length c1, Value.bool m1, Value.slice b1 ys1.length e1] 28)).alloc (Obj.cells #[Value.bool n2, Value.slice a2 xs2.length c2, Value.bool m2, Value.slice b2 ys2.length e2] 28)).alloc (Obj.cells #[Value.bool false, Value.slice none 0 0, Value.bool false, Value.slice none 0 0] 28)).frozen? ⟨w.heap.size + 1 + 1, 3, none⟩ = false := by go_simp
  have zr : w.heap.size + 1 + 1 < (((w.alloc (Obj.cells #[Value.bool n1, Value.slice a1 xs1.length c1, Value.bool m1, Value.slice b1 ys1.length e1] 28)).alloc (Obj.cells #[Value.bool n2, Value.slice a2 xs2.length c2, Value.bool m2, Value.slice b2 ys2.length e2] 28)).alloc (Obj.cells #[Value.bool false, Value.slice none 0 0, Value.bool false, Value.slice none 0 0] 28)).heap.size := by simp only [World.size_alloc]; omega
  have HB := hide (bl_alloc (bl_alloc (bl_alloc (bl_refl w) (Obj.cells #[Value.bool n1, Value.slice a1 xs1.length c1, Value.bool m1, Value.slice b1 ys1.length e1] 28)) (Obj.cells #[Value.bool n2, Value.slice a2 xs2.length c2, Value.bool m2, Value.slice b2 ys2.length e2] 28)) (Obj.cells #[Value.bool false, Value.slice none 0 0, Value.bool false, Value.slice none 0 0] 28))
  have S1 := hide (s1.below HB.out)
  have T1 := hide (t1.below HB.out)
  have S2 := hide (s2.below HB.out)
  have T2 := hide (t2.below HB.out)
  clear s1
  clear t1
  clear s2
  clear t2
  go_enter Try.func10, Try.ntmps10
  go_wp2_with fail
  generalize (((w.alloc (Obj.cells #[Value.bool n1, Value.slice a1 xs1.length c1, Value.bool m1, Value.slice b1 ys1.length e1] 28)).alloc (Obj.cells #[Value.bool n2, Value.slice a2 xs2.length c2, Value.bool m2, Value.slice b2 ys2.length e2] 28)).alloc (Obj.cells #[Value.bool false, Value.slice none 0 0, Value.bool false, Value.slice none 0 0] 28)) = w1 at *
  have z0 := zr
  refine (RatOkQ n1 xs1 m1 ys1 a1 c1 b1 e1 _ S1.out T1.out).mono ?_
  rintro e w2 ⟨rfl, hb⟩
  have yw2 := hb.size
  replace ka0 := (hb.cell (p := ⟨w.heap.size, 0, none⟩) (by dsimp only; omega)).trans ka0
  replace ka1 := (hb.cell (p := ⟨w.heap.size, 1, none⟩) (by dsimp only; omega)).trans ka1
  replace ka2 := (hb.cell (p := ⟨w.heap.size, 2, none⟩) (by dsimp only; omega)).trans ka2
  replace ka3 := (hb.cell (p := ⟨w.heap.size, 3, none⟩) (by dsimp only; omega)).trans ka3
  replace kb0 := (hb.cell (p := ⟨w.heap.size + 1, 0, none⟩) (by dsimp only; omega)).trans kb0
  replace kb1 := (hb.cell (p := ⟨w.heap.size + 1, 1, none⟩) (by dsimp only; omega)).trans kb1
  replace kb2 := (hb.cell (p := ⟨w.heap.size + 1, 2, none⟩) (by dsimp only; omega)).trans kb2
  replace kb3 := (hb.cell (p := ⟨w.heap.size + 1, 3, none⟩) (by dsimp only; omega)).trans kb3
  replace kr0 := (hb.cell (p := ⟨w.heap.size + 1 + 1, 0, none⟩) (by dsimp only; omega)).trans kr0
  replace fr0 := (hb.frozen (p := ⟨w.heap.size + 1 + 1, 0, none⟩) (by dsimp only; omega)).trans fr0
  replace kr1 := (hb.cell (p := ⟨w.heap.size + 1 + 1, 1, none⟩) (by dsimp only; omega)).trans kr1
  replace fr1 := (hb.frozen (p := ⟨w.heap.size + 1 + 1, 1, none⟩) (by dsimp only; omega)).trans fr1
  replace kr2 := (hb.cell (p := ⟨w.heap.size + 1 + 1, 2, none⟩) (by dsimp only; omega)).trans kr2
  replace fr2 := (hb.frozen (p := ⟨w.heap.size + 1 + 1, 2, none⟩) (by dsimp only; omega)).trans fr2
  replace kr3 := (hb.cell (p := ⟨w.heap.size + 1 + 1, 3, none⟩) (by dsimp only; omega)).trans kr3
  replace fr3 := (hb.frozen (p := ⟨w.heap.size + 1 + 1, 3, none⟩) (by dsimp only; omega)).trans fr3
  replace S1 := hide (S1.out.below hb)
  replace T1 := hide (T1.out.below hb)
  replace S2 := hide (S2.out.below hb)
  replace T2 := hide (T2.out.below hb)
  replace zr := Nat.lt_of_lt_of_le zr hb.size
  replace HB := hide (bl_trans HB.out hb)
  clear hb
  cases h1 : ratB n1 xs1 m1 ys1 with
  | false =>
    have E1 := hide h1
    clear h1
    have HE : Hid (rtT (ratB n1 xs1 m1 ys1 && ratB n2 xs2 m2 ys2) (mulZ (mk n1 (Num.nat xs1)) (mk m2 (Num.nat ys2))) (mulZ (mk m1 (Num.nat ys1)) (mk n2 (Num.nat xs2))) = false) := hide (ans_f (by rw [E1.out]; rfl))
    go_wp2
    refine bodyPost_ret (v := (.tuple #[.agg #[.bool false, .slice none 0 0, .bool false, .slice none 0 0], .bool false])) (by simp [results, Try.results10, go_sem, kr0, kr1, kr2, kr3]) rfl ?_
    exact ans_no HE.out (by first | exact HB.out | exact set_four (N := w.heap.size + 1 + 1) (by omega) HB.out _ _ _ _)
  | true =>
  have R1 := hide h1
  clear h1
  go_wp2_with fail
  refine (RatOkQ n2 xs2 m2 ys2 a2 c2 b2 e2 _ S2.out T2.out).mono ?_
  rintro e w3 ⟨rfl, hb⟩
  have yw3 := hb.size
  replace ka0 := (hb.cell (p := ⟨w.heap.size, 0, none⟩) (by dsimp only; omega)).trans ka0
  replace ka1 := (hb.cell (p := ⟨w.heap.size, 1, none⟩) (by dsimp only; omega)).trans ka1
  replace ka2 := (hb.cell (p := ⟨w.heap.size, 2, none⟩) (by dsimp only; omega)).trans ka2
  replace ka3 := (hb.cell (p := ⟨w.heap.size, 3, none⟩) (by dsimp only; omega)).trans ka3
  replace kb0 := (hb.cell (p := ⟨w.heap.size + 1, 0, none⟩) (by dsimp only; omega)).trans kb0
  replace kb1 := (hb.cell (p := ⟨w.heap.size + 1, 1, none⟩) (by dsimp only; omega)).trans kb1
  replace kb2 := (hb.cell (p := ⟨w.heap.size + 1, 2, none⟩) (by dsimp only; omega)).trans kb2
  replace kb3 := (hb.cell (p := ⟨w.heap.size + 1, 3, none⟩) (by dsimp only; omega)).trans kb3
  replace kr0 := (hb.cell (p := ⟨w.heap.size + 1 + 1, 0, none⟩) (by dsimp only; omega)).trans kr0
  replace fr0 := (hb.frozen (p := ⟨w.heap.size + 1 + 1, 0, none⟩) (by dsimp only; omega)).trans fr0
  replace kr1 := (hb.cell (p := ⟨w.heap.size + 1 + 1, 1, none⟩) (by dsimp only; omega)).trans kr1
  replace fr1 := (hb.frozen (p := ⟨w.heap.size + 1 + 1, 1, none⟩) (by dsimp only; omega)).trans fr1
  replace kr2 := (hb.cell (p := ⟨w.heap.size + 1 + 1, 2, none⟩) (by dsimp only; omega)).trans kr2
  replace fr2 := (hb.frozen (p := ⟨w.heap.size + 1 + 1, 2, none⟩) (by dsimp only; omega)).trans fr2
  replace kr3 := (hb.cell (p := ⟨w.heap.size + 1 + 1, 3, none⟩) (by dsimp only; omega)).trans kr3
  replace fr3 := (hb.frozen (p := ⟨w.heap.size + 1 + 1, 3, none⟩) (by dsimp only; omega)).trans fr3
  replace S1 := hide (S1.out.below hb)
  replace T1 := hide (T1.out.below hb)
  replace S2 := hide (S2.out.below hb)
  replace T2 := hide (T2.out.below hb)
  replace zr := Nat.lt_of_lt_of_le zr hb.size
  replace HB := hide (bl_trans HB.out hb)
  clear hb
  cases h2 : ratB n2 xs2 m2 ys2 with
  | false =>
    have E2 := hide h2
    clear h2
    have HE : Hid (rtT (ratB n1 xs1 m1 ys1 && ratB n2 xs2 m2 ys2) (mulZ (mk n1 (Num.nat xs1)) (mk m2 (Num.nat ys2))) (mulZ (mk m1 (Num.nat ys1)) (mk n2 (Num.nat xs2))) = false) := hide (ans_f (by rw [E2.out, Bool.and_false]))
    go_wp2
    refine bodyPost_ret (v := (.tuple #[.agg #[.bool false, .slice none 0 0, .bool false, .slice none 0 0], .bool false])) (by simp [results, Try.results10, go_sem, kr0, kr1, kr2, kr3]) rfl ?_
    exact ans_no HE.out (by first | exact HB.out | exact set_four (N := w.heap.size + 1 + 1) (by omega) HB.out _ _ _ _)
  | true =>
  have R2 := hide h2
  clear h2
  have HT : Hid ((ratB n1 xs1 m1 ys1 && ratB n2 xs2 m2 ys2) = true) := hide (by rw [R1.out, R2.out]; rfl)
  obtain ⟨x1, y1, rfl, rfl, rfl, rfl, hx1, hy1, hp1, hg1⟩ := rat_num G1.out G2.out R1.out
  obtain ⟨x2, y2, rfl, rfl, rfl, rfl, hx2, hy2, hp2, hg2⟩ := rat_num G3.out G4.out R2.out
  have l1 : (lms x1).length ≤ 1000 := Nat.le_trans (Num.limbs_len.2 hx1) (by decide)
  have l2 : (lms y1).length ≤ 1000 := Nat.le_trans (Num.limbs_len.2 hy1) (by decide)
  have l3 : (lms x2).length ≤ 1000 := Nat.le_trans (Num.limbs_len.2 hx2) (by decide)
  have l4 : (lms y2).length ≤ 1000 := Nat.le_trans (Num.limbs_len.2 hy2) (by decide)
  have HP1 := hide hp1
  have HP2 := hide hp2
  have HG2 := hide hg2
  clear hx1 hy1 hx2 hy2 hp1 hp2 hg1 hg2 R1 R2 G1 G2 G3 G4
  by_cases hy : x2 = 0
  · skip
    have hl : (((lms x2).length : Int) == 0) = true := by rw [hy, zero_lms]; rfl
    have HY := hide hy
    clear hy
    have HE : Hid (rtT (ratB (sgn x1) (lms x1) (sgn y1) (lms y1) && ratB (sgn x2) (lms x2) (sgn y2) (lms y2)) (mulZ x1 y2) (mulZ y1 x2) = false) := hide (ans_0 (by unfold mulZ; rw [HY.out, Int.mul_zero]))
    go_wp2
    refine bodyPost_ret (v := (.tuple #[.agg #[.bool false, .slice none 0 0, .bool false, .slice none 0 0], .bool false])) (by simp [results, Try.results10, go_sem, kr0, kr1, kr2, kr3]) rfl ?_
    simp only [nat_lms, mk_self]
    exact ans_no HE.out (by first | exact HB.out | exact set_four (N := w.heap.size + 1 + 1) (by omega) HB.out _ _ _ _)
  have hl : (((lms x2).length : Int) == 0) = false := by rw [beq_eq_false_iff_ne]; intro e; exact hy (sgn_lms_nil (by omega))
  have HX := hide hy
  clear hy
  have HY : Hid ((mulZ y1 x2) ≠ 0) := hide (by unfold mulZ; exact Int.mul_ne_zero (by have := HP1.out; omega) HX.out)
  go_upto_region 3 with fail
  clear hl
  have KP : Hid (∀ w', Below w3.heap.size w3 w' → (w'.cell? ⟨w.heap.size, 0, none⟩ = some (Value.bool (sgn x1)) ∧ w'.cell? ⟨w.heap.size, 1, none⟩ = some (Value.slice a1 (lms x1).length c1) ∧ w'.cell? ⟨w.heap.size, 2, none⟩ = some (Value.bool (sgn y1)) ∧ w'.cell? ⟨w.heap.size, 3, none⟩ = some (Value.slice b1 (lms y1).length e1) ∧ w'.cell? ⟨w.heap.size + 1, 0, none⟩ = some (Value.bool (sgn x2)) ∧ w'.cell? ⟨w.heap.size + 1, 1, none⟩ = some (Value.slice a2 (lms x2).length c2) ∧ w'.cell? ⟨w.heap.size + 1, 2, none⟩ = some (Value.bool (sgn y2)) ∧ w'.cell? ⟨w.heap.size + 1, 3, none⟩ = some (Value.slice b2 (lms y2).length e2))) := hide (fun w' hb => ⟨(hb.cell (p := ⟨w.heap.size, 0, none⟩) (by dsimp only; omega)).trans ka0, (hb.cell (p := ⟨w.heap.size, 1, none⟩) (by dsimp only; omega)).trans ka1, (hb.cell (p := ⟨w.heap.size, 2, none⟩) (by dsimp only; omega)).trans ka2, (hb.cell (p := ⟨w.heap.size, 3, none⟩) (by dsimp only; omega)).trans ka3, (hb.cell (p := ⟨w.heap.size + 1, 0, none⟩) (by dsimp only; omega)).trans kb0, (hb.cell (p := ⟨w.heap.size + 1, 1, none⟩) (by dsimp only; omega)).trans kb1, (hb.cell (p := ⟨w.heap.size + 1, 2, none⟩) (by dsimp only; omega)).trans kb2, (hb.cell (p := ⟨w.heap.size + 1, 3, none⟩) (by dsimp only; omega)).trans kb3⟩)
  have KP4 : Hid (∀ w', Below w3.heap.size w3 w' → ∀ x y z t, (((((w'.setCell ⟨w.heap.size + 1 + 1, 0, none⟩ x).setCell ⟨w.heap.size + 1 + 1, 1, none⟩ y).setCell ⟨w.heap.size + 1 + 1, 2, none⟩ z).setCell ⟨w.heap.size + 1 + 1, 3, none⟩ t).cell? ⟨w.heap.size, 0, none⟩ = some (Value.bool (sgn x1)) ∧ ((((w'.setCell ⟨w.heap.size + 1 + 1, 0, none⟩ x).setCell ⟨w.heap.size + 1 + 1, 1, none⟩ y).setCell ⟨w.heap.size + 1 + 1, 2, none⟩ z).setCell ⟨w.heap.size + 1 + 1, 3, none⟩ t).cell? ⟨w.heap.size, 1, none⟩ = some (Value.slice a1 (lms x1).length c1) ∧ ((((w'.setCell ⟨w.heap.size + 1 + 1, 0, none⟩ x).setCell ⟨w.heap.size + 1 + 1, 1, none⟩ y).setCell ⟨w.heap.size + 1 + 1, 2, none⟩ z).setCell ⟨w.heap.size + 1 + 1, 3, none⟩ t).cell? ⟨w.heap.size, 2, none⟩ = some (Value.bool (sgn y1)) ∧ ((((w'.setCell ⟨w.heap.size + 1 + 1, 0, none⟩ x).setCell ⟨w.heap.size + 1 + 1, 1, none⟩ y).setCell ⟨w.heap.size + 1 + 1, 2, none⟩ z).setCell ⟨w.heap.size + 1 + 1, 3, none⟩ t).cell? ⟨w.heap.size, 3, none⟩ = some (Value.slice b1 (lms y1).length e1) ∧ ((((w'.setCell ⟨w.heap.size + 1 + 1, 0, none⟩ x).setCell ⟨w.heap.size + 1 + 1, 1, none⟩ y).setCell ⟨w.heap.size + 1 + 1, 2, none⟩ z).setCell ⟨w.heap.size + 1 + 1, 3, none⟩ t).cell? ⟨w.heap.size + 1, 0, none⟩ = some (Value.bool (sgn x2)) ∧ ((((w'.setCell ⟨w.heap.size + 1 + 1, 0, none⟩ x).setCell ⟨w.heap.size + 1 + 1, 1, none⟩ y).setCell ⟨w.heap.size + 1 + 1, 2, none⟩ z).setCell ⟨w.heap.size + 1 + 1, 3, none⟩ t).cell? ⟨w.heap.size + 1, 1, none⟩ = some (Value.slice a2 (lms x2).length c2) ∧ ((((w'.setCell ⟨w.heap.size + 1 + 1, 0, none⟩ x).setCell ⟨w.heap.size + 1 + 1, 1, none⟩ y).setCell ⟨w.heap.size + 1 + 1, 2, none⟩ z).setCell ⟨w.heap.size + 1 + 1, 3, none⟩ t).cell? ⟨w.heap.size + 1, 2, none⟩ = some (Value.bool (sgn y2)) ∧ ((((w'.setCell ⟨w.heap.size + 1 + 1, 0, none⟩ x).setCell ⟨w.heap.size + 1 + 1, 1, none⟩ y).setCell ⟨w.heap.size + 1 + 1, 2, none⟩ z).setCell ⟨w.heap.size + 1 + 1, 3, none⟩ t).cell? ⟨w.heap.size + 1, 3, none⟩ = some (Value.slice b2 (lms y2).length e2))) := hide (fun w' hb x y z t => ⟨(cell_four (p := ⟨w.heap.size, 0, none⟩) (by dsimp only; omega)).trans ((hb.cell (p := ⟨w.heap.size, 0, none⟩) (by dsimp only; omega)).trans ka0), (cell_four (p := ⟨w.heap.size, 1, none⟩) (by dsimp only; omega)).trans ((hb.cell (p := ⟨w.heap.size, 1, none⟩) (by dsimp only; omega)).trans ka1), (cell_four (p := ⟨w.heap.size, 2, none⟩) (by dsimp only; omega)).trans ((hb.cell (p := ⟨w.heap.size, 2, none⟩) (by dsimp only; omega)).trans ka2), (cell_four (p := ⟨w.heap.size, 3, none⟩) (by dsimp only; omega)).trans ((hb.cell (p := ⟨w.heap.size, 3, none⟩) (by dsimp only; omega)).trans ka3), (cell_four (p := ⟨w.heap.size + 1, 0, none⟩) (by dsimp only; omega)).trans ((hb.cell (p := ⟨w.heap.size + 1, 0, none⟩) (by dsimp only; omega)).trans kb0), (cell_four (p := ⟨w.heap.size + 1, 1, none⟩) (by dsimp only; omega)).trans ((hb.cell (p := ⟨w.heap.size + 1, 1, none⟩) (by dsimp only; omega)).trans kb1), (cell_four (p := ⟨w.heap.size + 1, 2, none⟩) (by dsimp only; omega)).trans ((hb.cell (p := ⟨w.heap.size + 1, 2, none⟩) (by dsimp only; omega)).trans kb2), (cell_four (p := ⟨w.heap.size + 1, 3, none⟩) (by dsimp only; omega)).trans ((hb.cell (p := ⟨w.heap.size + 1, 3, none⟩) (by dsimp only; omega)).trans kb3)⟩)
  cases e3 : ftT ((mulZ x1 y2) / sgG (mulZ x1 y2) (mulZ y1 x2)) ((mulZ y1 x2) / sgG (mulZ x1 y2) (mulZ y1 x2)) with
  | false =>
    have E3 := hide e3
    have HE := hide ((ans_ft HT.out HY.out).trans e3)
    clear e3
    go_region_held3 (fun w' => w'.cell? ⟨w.heap.size, 0, none⟩ = some (Value.bool (sgn x1)) ∧ w'.cell? ⟨w.heap.size, 1, none⟩ = some (Value.slice a1 (lms x1).length c1) ∧ w'.cell? ⟨w.heap.size, 2, none⟩ = some (Value.bool (sgn y1)) ∧ w'.cell? ⟨w.heap.size, 3, none⟩ = some (Value.slice b1 (lms y1).length e1) ∧ w'.cell? ⟨w.heap.size + 1, 0, none⟩ = some (Value.bool (sgn x2)) ∧ w'.cell? ⟨w.heap.size + 1, 1, none⟩ = some (Value.slice a2 (lms x2).length c2) ∧ w'.cell? ⟨w.heap.size + 1, 2, none⟩ = some (Value.bool (sgn y2)) ∧ w'.cell? ⟨w.heap.size + 1, 3, none⟩ = some (Value.slice b2 (lms y2).length e2))
      (first | with_reducible exact KP.out _ (bl_refl w3).drew | with_reducible exact KP4.out _ hbC _ _ _ _ | with_reducible exact KP.out _ hbC | with_reducible exact KP.out _ hbB | with_reducible exact KP.out _ hbA)
      (first
        | (have hq := hbB; go_at_call 27; refine (fitS_f ((mulZ x1 y2) / sgG (mulZ x1 y2) (mulZ y1 x2)) ((mulZ y1 x2) / sgG (mulZ x1 y2) (mulZ y1 x2)) d1 f1 d2 f2 _ ho1.seg ho2.seg E3.out).mono ?_; rintro e wC ⟨rfl, hbCr⟩; have hbC : Below w3.heap.size w3 wC := bl_trans hbB hbCr; have qA := hbA.size; have qB := hbB.size; have qC := hbC.size; have kr0 := (hbC.cell (p := ⟨w.heap.size + 1 + 1, 0, none⟩) (by dsimp only; omega)).trans kr0; have fr0 := (hbC.frozen (p := ⟨w.heap.size + 1 + 1, 0, none⟩) (by dsimp only; omega)).trans fr0; have kr1 := (hbC.cell (p := ⟨w.heap.size + 1 + 1, 1, none⟩) (by dsimp only; omega)).trans kr1; have fr1 := (hbC.frozen (p := ⟨w.heap.size + 1 + 1, 1, none⟩) (by dsimp only; omega)).trans fr1; have kr2 := (hbC.cell (p := ⟨w.heap.size + 1 + 1, 2, none⟩) (by dsimp only; omega)).trans kr2; have fr2 := (hbC.frozen (p := ⟨w.heap.size + 1 + 1, 2, none⟩) (by dsimp only; omega)).trans fr2; have kr3 := (hbC.cell (p := ⟨w.heap.size + 1 + 1, 3, none⟩) (by dsimp only; omega)).trans kr3; have fr3 := (hbC.frozen (p := ⟨w.heap.size + 1 + 1, 3, none⟩) (by dsimp only; omega)).trans fr3; have HO1 := hide (ho1.below hbCr); have HO2 := hide (ho2.below hbCr); have HAP := hide hap; clear hq)
        | (have hq := hbA; go_at_call 29; refine (quoRS x1 y1 x2 y2 a1 c1 b1 e1 u v u' v' _ l1 l2 l3 l4 (S1.out.below hbA) (T1.out.below hbA) hoA.seg hoA'.seg HG2.out HX.out HY.out).mono ?_; rintro e wB ⟨d1, f1, d2, f2, rfl, ho1, ho2, hap, hbBr⟩; have hbB : Below w3.heap.size w3 wB := bl_trans hbA hbBr; clear hq)
        | (go_at_call 30; refine (turnRS x2 y2 a2 c2 b2 e2 _ l3 l4 (S2.out.below (bl_refl w3).drew) (T2.out.below (bl_refl w3).drew) HX.out).mono ?_; rintro e wA ⟨u, v, u', v', rfl, hoA, hoA', -, hbAr⟩; have hbA : Below w3.heap.size w3 wA := (bl_refl w3).drew.trans hbAr))
    replace HB := hide (bl_trans HB.out hbC)
    clear KP KP4 hbA hbAr hbB hbBr hbC hbCr ho1 ho2 hap hoA hoA'
    go_wp2
    refine bodyPost_ret (v := (.tuple #[.agg #[.bool false, .slice none 0 0, .bool false, .slice none 0 0], .bool false])) (by simp [results, Try.results10, go_sem, kr0, kr1, kr2, kr3]) rfl ?_
    simp only [nat_lms, mk_self]
    exact ans_no HE.out (set_four (N := w.heap.size + 1 + 1) (by omega) HB.out _ _ _ _)
  | true =>
  have E3 := hide e3
  have HE := hide ((ans_ft HT.out HY.out).trans e3)
  clear e3
  go_region_held3 (fun w' => w'.cell? ⟨w.heap.size, 0, none⟩ = some (Value.bool (sgn x1)) ∧ w'.cell? ⟨w.heap.size, 1, none⟩ = some (Value.slice a1 (lms x1).length c1) ∧ w'.cell? ⟨w.heap.size, 2, none⟩ = some (Value.bool (sgn y1)) ∧ w'.cell? ⟨w.heap.size, 3, none⟩ = some (Value.slice b1 (lms y1).length e1) ∧ w'.cell? ⟨w.heap.size + 1, 0, none⟩ = some (Value.bool (sgn x2)) ∧ w'.cell? ⟨w.heap.size + 1, 1, none⟩ = some (Value.slice a2 (lms x2).length c2) ∧ w'.cell? ⟨w.heap.size + 1, 2, none⟩ = some (Value.bool (sgn y2)) ∧ w'.cell? ⟨w.heap.size + 1, 3, none⟩ = some (Value.slice b2 (lms y2).length e2))
    (first | with_reducible exact KP.out _ (bl_refl w3).drew | with_reducible exact KP4.out _ hbC _ _ _ _ | with_reducible exact KP.out _ hbC | with_reducible exact KP.out _ hbB | with_reducible exact KP.out _ hbA)
    (first
      | (have hq := hbB; go_at_call 27; refine (fitS_t ((mulZ x1 y2) / sgG (mulZ x1 y2) (mulZ y1 x2)) ((mulZ y1 x2) / sgG (mulZ x1 y2) (mulZ y1 x2)) d1 f1 d2 f2 _ ho1.seg ho2.seg E3.out).mono ?_; rintro e wC ⟨rfl, hbCr⟩; have hbC : Below w3.heap.size w3 wC := bl_trans hbB hbCr; have qA := hbA.size; have qB := hbB.size; have qC := hbC.size; have kr0 := (hbC.cell (p := ⟨w.heap.size + 1 + 1, 0, none⟩) (by dsimp only; omega)).trans kr0; have fr0 := (hbC.frozen (p := ⟨w.heap.size + 1 + 1, 0, none⟩) (by dsimp only; omega)).trans fr0; have kr1 := (hbC.cell (p := ⟨w.heap.size + 1 + 1, 1, none⟩) (by dsimp only; omega)).trans kr1; have fr1 := (hbC.frozen (p := ⟨w.heap.size + 1 + 1, 1, none⟩) (by dsimp only; omega)).trans fr1; have kr2 := (hbC.cell (p := ⟨w.heap.size + 1 + 1, 2, none⟩) (by dsimp only; omega)).trans kr2; have fr2 := (hbC.frozen (p := ⟨w.heap.size + 1 + 1, 2, none⟩) (by dsimp only; omega)).trans fr2; have kr3 := (hbC.cell (p := ⟨w.heap.size + 1 + 1, 3, none⟩) (by dsimp only; omega)).trans kr3; have fr3 := (hbC.frozen (p := ⟨w.heap.size + 1 + 1, 3, none⟩) (by dsimp only; omega)).trans fr3; have HO1 := hide (ho1.below hbCr); have HO2 := hide (ho2.below hbCr); have HAP := hide hap; clear hq)
      | (have hq := hbA; go_at_call 29; refine (quoRS x1 y1 x2 y2 a1 c1 b1 e1 u v u' v' _ l1 l2 l3 l4 (S1.out.below hbA) (T1.out.below hbA) hoA.seg hoA'.seg HG2.out HX.out HY.out).mono ?_; rintro e wB ⟨d1, f1, d2, f2, rfl, ho1, ho2, hap, hbBr⟩; have hbB : Below w3.heap.size w3 wB := bl_trans hbA hbBr; clear hq)
      | (go_at_call 30; refine (turnRS x2 y2 a2 c2 b2 e2 _ l3 l4 (S2.out.below (bl_refl w3).drew) (T2.out.below (bl_refl w3).drew) HX.out).mono ?_; rintro e wA ⟨u, v, u', v', rfl, hoA, hoA', -, hbAr⟩; have hbA : Below w3.heap.size w3 wA := (bl_refl w3).drew.trans hbAr))
  replace HB := hide (bl_trans HB.out hbC)
  clear KP KP4 hbA hbAr hbB hbBr hbC hbCr ho1 ho2 hap hoA hoA'
  go_wp2
  refine bodyPost_ret (v := (.tuple #[Value.agg #[Value.bool (sgn ((mulZ x1 y2) / sgG (mulZ x1 y2) (mulZ y1 x2))), Value.slice d1 (lms ((mulZ x1 y2) / sgG (mulZ x1 y2) (mulZ y1 x2))).length f1, Value.bool (sgn ((mulZ y1 x2) / sgG (mulZ x1 y2) (mulZ y1 x2))), Value.slice d2 (lms ((mulZ y1 x2) / sgG (mulZ x1 y2) (mulZ y1 x2))).length f2], .bool true])) (by simp [results, Try.results10, go_sem, kr0, kr1, kr2, kr3]) rfl ?_
  obtain ⟨h1, h2, h3⟩ := fin_four (N := w.heap.size + 1 + 1) HO1.out HO2.out (by omega) (by omega) (by omega) HB.out (Value.bool (sgn ((mulZ x1 y2) / sgG (mulZ x1 y2) (mulZ y1 x2)))) (Value.slice d1 (lms ((mulZ x1 y2) / sgG (mulZ x1 y2) (mulZ y1 x2))).length f1) (Value.bool (sgn ((mulZ y1 x2) / sgG (mulZ x1 y2) (mulZ y1 x2)))) (Value.slice d2 (lms ((mulZ y1 x2) / sgG (mulZ x1 y2) (mulZ y1 x2))).length f2)
  simp only [nat_lms, mk_self]
  exact ans_yes HE.out h1 h2 HAP.out h3


end Go.Proofs.Ytpjckilmbidbgaa
