/- My texts RRec, in this order. -/
import Derived.Test.YtpjckilmbidbgaaPk44
/- The walks of the program's RatAdd, RatSub, RatMul, RatQuo. -/
namespace Go.Proofs.Ytpjckilmbidbgaa
open Go.RowKit
set_option linter.unusedVariables false

set_option maxHeartbeats 4000000 in
theorem recAdd (n1 : Bool) (xs1 : List Nat) (m1 : Bool) (ys1 : List Nat) (n2 : Bool) (xs2 : List Nat) (m2 : Bool) (ys2 : List Nat) (a1 : Option Addr) (c1 : Nat) (b1 : Option Addr) (e1 : Nat) (a2 : Option Addr) (c2 : Nat) (b2 : Option Addr) (e2 : Nat) (w : World)
    (s1 : Seg w a1 xs1.length c1 xs1) (t1 : Seg w b1 ys1.length e1 ys1) (s2 : Seg w a2 xs2.length c2 xs2) (t2 : Seg w b2 ys2.length e2 ys2) :
    Calls Try.prog 23 #[Value.agg #[Value.bool n1, Value.slice a1 xs1.length c1, Value.bool m1, Value.slice b1 ys1.length e1], .func (.func 24) #[Value.agg #[Value.bool n1, Value.slice a1 xs1.length c1, Value.bool m1, Value.slice b1 ys1.length e1]] #[], Value.agg #[Value.bool n2, Value.slice a2 xs2.length c2, Value.bool m2, Value.slice b2 ys2.length e2]] w fun e w' => RatAns (ratB n1 xs1 m1 ys1 && ratB n2 xs2 m2 ys2) (addZ (mulZ (mk n1 (Num.nat xs1)) (mk m2 (Num.nat ys2))) (mulZ (mk n2 (Num.nat xs2)) (mk m1 (Num.nat ys1)))) (mulZ (mk m1 (Num.nat ys1)) (mk m2 (Num.nat ys2))) w w' e := by
  have G1 := hide s1.2.2.2.1
  have G2 := hide t1.2.2.2.1
  have G3 := hide s2.2.2.2.1
  have G4 := hide t2.2.2.2.1
  have ka0 : (((w.alloc (Obj.cells #[Value.bool n1, Value.slice a1 xs1.length c1, Value.bool m1, Value.slice b1 ys1.length e1] 28)).alloc (Obj.cells #[Value.bool n2, Value.slice a2 xs2.length c2, Value.bool m2, Value.slice b2 ys2.length e2] 28)).alloc (Obj.cells #[Value.bool false, Value.slice none 0 0, Value.bool false, Value.slice none 0 0] 28)).cell? ⟨w.heap.size, 0, none⟩ = some (Value.bool n1) := by go_simp
  have ka1 : (((w.alloc (Obj.cells #[Value.bool n1, Value.slice a1 xs1.length c1, Value.bool m1, Value.slice b1 ys1.length e1] 28)).alloc (Obj.cells #[Value.bool n2, Value.slice a2 xs2.length c2, Value.bool m2, Value.slice b2 ys2.length e2] 28)).alloc (Obj.cells #[Value.bool false, Value.slice none 0 0, Value.bool false, Value.slice none 0 0] 28)).cell? ⟨w.heap.size, 1, none⟩ = some (Value.slice a1 xs1.length c1) := by go_simp
  have ka2 : (((w.alloc (Obj.cells #[Value.bool n1, Value.slice a1 xs1.length c1, Value.bool m1, Value.slice b1 ys1.length e1] 28)).alloc (Obj.cells #[Value.bool n2, Value.slice a2 xs2.length c2, Value.bool m2, Value.slice b2 ys2.length e2] 28)).alloc (Obj.cells #[Value.bool false, Value.slice none 0 0, Value.bool false, Value.slice none 0 0] 28)).cell? ⟨w.heap.size, 2, none⟩ = some (Value.bool m1) := by go_simp
  have ka3 : (((w.alloc (Obj.cells #[Value.bool n1, Value.slice a1 xs1.length c1, Value.bool m1, Value.slice b1 ys1.length e1] 28)).alloc (Obj.cells #[Value.bool n2, Value.slice a2 xs2.length c2, Value.bool m2, Value.slice b2 ys2.length e2] 28)).alloc (Obj.cells #[Value.bool false, Value.slice none 0 0, Value.bool false, Value.slice none 0 0] 28)).cell? ⟨w.heap.size, 3, none⟩ = some (Value.slice b1 ys1.length e1) := by go_simp
  have kb0 : (((w.alloc (Obj.cells #[Value.bool n1, Value.slice a1 xs1.length c1, Value.bool m1, Value.slice b1 ys1.length e1] 28)).alloc (Obj.cells #[Value.bool n2, Value.slice a2 xs2.length c2, Value.bool m2, Value.slice b2 ys2.length e2] 28)).alloc (Obj.cells #[Value.bool false, Value.slice none 0 0, Value.bool false, Value.slice none 0 0] 28)).cell? ⟨w.heap.size + 1, 0, none⟩ = some (Value.bool n2) := by go_simp
  have kb1 : (((w.alloc (Obj.cells #[Value.bool n1, Value.slice a1 xs1.length c1, Value.bool m1, Value.slice b1 ys1.length e1] 28)).alloc (Obj.cells #[Value.bool n2, Value.slice a2 xs2.length c2, Value.bool m2, Value.slice b2 ys2.length e2] 28)).alloc (Obj.cells #[Value.bool false, Value.slice none 0 0, Value.bool false, Value.slice none 0 0] 28)).cell? ⟨w.heap.size + 1, 1, none⟩ = some (Value.slice a2 xs2.length c2) := by go_simp
  have kb2 : (((w.alloc (Obj.cells #[Value.bool n1, Value.slice a1 xs1.length c1, Value.bool m1, Value.slice b1 ys1.length e1] 28)).alloc (Obj.cells #[Value.bool n2, Value.slice a2 xs2.length c2, Value.bool m2, Value.slice b2 ys2.length e2] 28)).alloc (Obj.cells #[Value.bool false, Value.slice none 0 0, Value.bool false, Value.slice none 0 0] 28)).cell? ⟨w.heap.size + 1, 2, none⟩ = some (Value.bool m2) := by go_simp
  have kb3 : (((w.alloc (Obj.cells #[Value.bool n1, Value.slice a1 xs1.length c1, Value.bool m1, Value.slice b1 ys1.length e1] 28)).alloc (Obj.cells #[Value.bool n2, Value.slice a2 xs2.length c2, Value.bool m2, Value.slice b2 ys2.length e2] 28)).alloc (Obj.cells #[Value.bool false, Value.slice none 0 0, Value.bool false, Value.slice none 0 0] 28)).cell? ⟨w.heap.size + 1, 3, none⟩ = some (Value.slice b2 ys2.length e2) := by go_simp
  have kr0 : (((w.alloc (Obj.cells #[Value.bool n1, Value.slice a1 xs1.length c1, Value.bool m1, Value.slice b1 ys1.length e1] 28)).alloc (Obj.cells #[Value.bool n2, Value.slice a2 xs2.length c2, Value.bool m2, Value.slice b2 ys2.length e2] 28)).alloc (Obj.cells #[Value.bool false, Value.slice none 0 0, Value.bool false, Value.slice none 0 0] 28)).cell? ⟨w.heap.size + 1 + 1, 0, none⟩ = some (Value.bool false) := by go_simp
  have fr0 : (((w.alloc (Obj.cells #[Value.bool n1, Value.slice a1 xs1.length c1, Value.bool m1, Value.slice b1 ys1.length e1] 28)).alloc (Obj.cells #[Value.bool n2, Value.slice a2 xs2.length c2, Value.bool m2, Value.slice b2 ys2.length e2] 28)).alloc (Obj.cells #[Value.bool false, Value.slice none 0 0, Value.bool false, Value.slice none 0 0] 28)).frozen? ⟨w.heap.size + 1 + 1, 0, none⟩ = false := by go_simp
  have kr1 : (((w.alloc (Obj.cells #[Value.bool n1, Value.slice a1 xs1.length c1, Value.bool m1, Value.slice b1 ys1.length e1] 28)).alloc (Obj.cells #[Value.bool n2, Value.slice a2 xs2.length c2, Value.bool m2, Value.slice b2 ys2.length e2] 28)).alloc (Obj.cells #[Value.bool false, Value.slice none 0 0, Value.bool false, Value.slice none 0 0] 28)).cell? ⟨w.heap.size + 1 + 1, 1, none⟩ = some (Value.slice none 0 0) := by go_simp
  have fr1 : (((w.alloc (Obj.cells #[Value.bool n1, Value.slice a1 xs1.length c1, Value.bool m1, Value.slice b1 ys1.length e1] 28)).alloc (Obj.cells #[Value.bool n2, Value.slice a2 xs2.length c2, Value.bool m2, Value.slice b2 ys2.length e2] 28)).alloc (Obj.cells #[Value.bool false, Value.slice none 0 0, Value.bool false, Value.slice none 0 0] 28)).frozen? ⟨w.heap.size + 1 + 1, 1, none⟩ = false := by go_simp
  have kr2 : (((w.alloc (Obj.cells #[Value.bool n1, Value.slice a1 xs1.length c1, Value.bool m1, Value.slice b1 ys1.length e1] 28)).alloc (Obj.cells #[Value.bool n2, Value.slice a2 xs2.length c2, Value.bool m2, Value.slice b2 ys2.length e2] 28)).alloc (Obj.cells #[Value.bool false, Value.slice none 0 0, Value.bool false, Value.slice none 0 0] 28)).cell? ⟨w.heap.size + 1 + 1, 2, none⟩ = some (Value.bool false) := by go_simp
  have fr2 : (((w.alloc (Obj.cells #[Value.bool n1, Value.slice a1 xs1.length c1, Value.bool m1, Value.slice b1 ys1.length e1] 28)).alloc (Obj.cells #[Value.bool n2, Value.slice a2 xs2.length c2, Value.bool m2, Value.slice b2 ys2.length e2] 28)).alloc (Obj.cells #[Value.bool false, Value.slice none 0 0, Value.bool false, Value.slice none 0 0] 28)).frozen? ⟨w.heap.size + 1 + 1, 2, none⟩ = false := by go_simp
  have kr3 : (((w.alloc (Obj.cells #[Value.bool n1, Value.slice a1 xs1.length c1, Value.bool m1, Value.slice b1 ys1.length e1] 28)).alloc (Obj.cells #[Value.bool n2, Value.slice a2 xs2.length c2, Value.bool m2, Value.slice b2 ys2.length e2] 28)).alloc (Obj.cells #[Value.bool false, Value.slice none 0 0, Value.bool false, Value.slice none 0 0] 28)).cell? ⟨w.heap.size + 1 + 1, 3, none⟩ = some (Value.slice none 0 0) := by go_simp
  have fr3 : (((w.alloc (Obj.cells #[Value.bool n1, Value.slice a1 xs1.length c1, Value.bool m1, Value.slice b1 ys1.length e1] 28)).alloc (Obj.cells #[Value.bool n2, Value.slice a2 xs2.length c2, Value.bool m2, Value.slice b2 ys2.length e2] 28)).alloc (Obj.cells #[Value.bool false, Value.slice none 0 0, Value.bool false, Value.slice none 0 0] 28)).frozen? ⟨w.heap.size + 1 + 1, 3, none⟩ = false := by go_simp
  have zr : w.heap.size + 1 + 1 < (((w.alloc (Obj.cells #[Value.bool n1, Value.slice a1 xs1.length c1, Value.bool m1, Value.slice b1 ys1.length e1] 28)).alloc (Obj.cells #[Value.bool n2, Value.slice a2 xs2.length c2, Value.bool m2, Value.slice b2 ys2.length e2] 28)).alloc (Obj.cells #[Value.bool false, Value.slice none 0 0, Value.bool false, Value.slice none 0 0] 28)).heap.size := by simp only [World.size_alloc]; omega
  have HB := hide (bl_alloc (bl_alloc (bl_alloc (bl_refl w) (Obj.cells #[Value.bool n1, Value.slice a1 xs1.length c1, Value.bool m1, Value.slice b1 ys1.length e1] 28)) (Obj.cells #[Value.bool n2, Value.slice a2 xs2.length c2, Value.bool m2, Value.slice b2 ys2.length e2] 28)) (Obj.cells #[Value.bool false, Value.slice none 0 0, Value.bool false, Value.slice none 0 0] 28))
  have S1 := hide (s1.below HB.out)
  have T1 := hide (t1.below HB.out)
  have S2 := hide (s2.below HB.out)
  have T2 := hide (t2.below HB.out)
  clear s1
  clear t1
  clear s2
  clear t2
  go_enter Try.func23, Try.ntmps23
  go_wp2_with fail
  generalize (((w.alloc (Obj.cells #[Value.bool n1, Value.slice a1 xs1.length c1, Value.bool m1, Value.slice b1 ys1.length e1] 28)).alloc (Obj.cells #[Value.bool n2, Value.slice a2 xs2.length c2, Value.bool m2, Value.slice b2 ys2.length e2] 28)).alloc (Obj.cells #[Value.bool false, Value.slice none 0 0, Value.bool false, Value.slice none 0 0] 28)) = w1 at *
  have z0 := zr
  refine (rightI n1 xs1 m1 ys1 a1 c1 b1 e1 _ S1.out T1.out).mono ?_
  rintro e w2 ⟨rfl, hb⟩
  have yw2 := hb.size
  replace ka0 := (hb.cell (p := ⟨w.heap.size, 0, none⟩) (by dsimp only; omega)).trans ka0
  replace ka1 := (hb.cell (p := ⟨w.heap.size, 1, none⟩) (by dsimp only; omega)).trans ka1
  replace ka2 := (hb.cell (p := ⟨w.heap.size, 2, none⟩) (by dsimp only; omega)).trans ka2
  replace ka3 := (hb.cell (p := ⟨w.heap.size, 3, none⟩) (by dsimp only; omega)).trans ka3
  replace kb0 := (hb.cell (p := ⟨w.heap.size + 1, 0, none⟩) (by dsimp only; omega)).trans kb0
  replace kb1 := (hb.cell (p := ⟨w.heap.size + 1, 1, none⟩) (by dsimp only; omega)).trans kb1
  replace kb2 := (hb.cell (p := ⟨w.heap.size + 1, 2, none⟩) (by dsimp only; omega)).trans kb2
  replace kb3 := (hb.cell (p := ⟨w.heap.size + 1, 3, none⟩) (by dsimp only; omega)).trans kb3
  replace kr0 := (hb.cell (p := ⟨w.heap.size + 1 + 1, 0, none⟩) (by dsimp only; omega)).trans kr0
  replace fr0 := (hb.frozen (p := ⟨w.heap.size + 1 + 1, 0, none⟩) (by dsimp only; omega)).trans fr0
  replace kr1 := (hb.cell (p := ⟨w.heap.size + 1 + 1, 1, none⟩) (by dsimp only; omega)).trans kr1
  replace fr1 := (hb.frozen (p := ⟨w.heap.size + 1 + 1, 1, none⟩) (by dsimp only; omega)).trans fr1
  replace kr2 := (hb.cell (p := ⟨w.heap.size + 1 + 1, 2, none⟩) (by dsimp only; omega)).trans kr2
  replace fr2 := (hb.frozen (p := ⟨w.heap.size + 1 + 1, 2, none⟩) (by dsimp only; omega)).trans fr2
  replace kr3 := (hb.cell (p := ⟨w.heap.size + 1 + 1, 3, none⟩) (by dsimp only; omega)).trans kr3
  replace fr3 := (hb.frozen (p := ⟨w.heap.size + 1 + 1, 3, none⟩) (by dsimp only; omega)).trans fr3
  replace S1 := hide (S1.out.below hb)
  replace T1 := hide (T1.out.below hb)
  replace S2 := hide (S2.out.below hb)
  replace T2 := hide (T2.out.below hb)
  replace zr := Nat.lt_of_lt_of_le zr hb.size
  replace HB := hide (bl_trans HB.out hb)
  clear hb
  cases h1 : ratB n1 xs1 m1 ys1 with
  | false =>
    have E1 := hide h1
    clear h1
    have HE : Hid (rtT (ratB n1 xs1 m1 ys1 && ratB n2 xs2 m2 ys2) (addZ (mulZ (mk n1 (Num.nat xs1)) (mk m2 (Num.nat ys2))) (mulZ (mk n2 (Num.nat xs2)) (mk m1 (Num.nat ys1)))) (mulZ (mk m1 (Num.nat ys1)) (mk m2 (Num.nat ys2))) = false) := hide (ans_f (by rw [E1.out]; rfl))
    go_wp2
    refine bodyPost_ret (v := (.tuple #[.agg #[.bool false, .slice none 0 0, .bool false, .slice none 0 0], .bool false])) (by simp [results, Try.results23, go_sem, kr0, kr1, kr2, kr3]) rfl ?_
    exact ans_no HE.out (by first | exact HB.out | exact set_four (N := w.heap.size + 1 + 1) (by omega) HB.out _ _ _ _)
  | true =>
  have R1 := hide h1
  clear h1
  go_wp2_with fail
  refine (rightI n2 xs2 m2 ys2 a2 c2 b2 e2 _ S2.out T2.out).mono ?_
  rintro e w3 ⟨rfl, hb⟩
  have yw3 := hb.size
  replace ka0 := (hb.cell (p := ⟨w.heap.size, 0, none⟩) (by dsimp only; omega)).trans ka0
  replace ka1 := (hb.cell (p := ⟨w.heap.size, 1, none⟩) (by dsimp only; omega)).trans ka1
  replace ka2 := (hb.cell (p := ⟨w.heap.size, 2, none⟩) (by dsimp only; omega)).trans ka2
  replace ka3 := (hb.cell (p := ⟨w.heap.size, 3, none⟩) (by dsimp only; omega)).trans ka3
  replace kb0 := (hb.cell (p := ⟨w.heap.size + 1, 0, none⟩) (by dsimp only; omega)).trans kb0
  replace kb1 := (hb.cell (p := ⟨w.heap.size + 1, 1, none⟩) (by dsimp only; omega)).trans kb1
  replace kb2 := (hb.cell (p := ⟨w.heap.size + 1, 2, none⟩) (by dsimp only; omega)).trans kb2
  replace kb3 := (hb.cell (p := ⟨w.heap.size + 1, 3, none⟩) (by dsimp only; omega)).trans kb3
  replace kr0 := (hb.cell (p := ⟨w.heap.size + 1 + 1, 0, none⟩) (by dsimp only; omega)).trans kr0
  replace fr0 := (hb.frozen (p := ⟨w.heap.size + 1 + 1, 0, none⟩) (by dsimp only; omega)).trans fr0
  replace kr1 := (hb.cell (p := ⟨w.heap.size + 1 + 1, 1, none⟩) (by dsimp only; omega)).trans kr1
  replace fr1 := (hb.frozen (p := ⟨w.heap.size + 1 + 1, 1, none⟩) (by dsimp only; omega)).trans fr1
  replace kr2 := (hb.cell (p := ⟨w.heap.size + 1 + 1, 2, none⟩) (by dsimp only; omega)).trans kr2
  replace fr2 := (hb.frozen (p := ⟨w.heap.size + 1 + 1, 2, none⟩) (by dsimp only; omega)).trans fr2
  replace kr3 := (hb.cell (p := ⟨w.heap.size + 1 + 1, 3, none⟩) (by dsimp only; omega)).trans kr3
  replace fr3 := (hb.frozen (p := ⟨w.heap.size + 1 + 1, 3, none⟩) (by dsimp only; omega)).trans fr3
  replace S1 := hide (S1.out.below hb)
  replace T1 := hide (T1.out.below hb)
  replace S2 := hide (S2.out.below hb)
  replace T2 := hide (T2.out.below hb)
  replace zr := Nat.lt_of_lt_of_le zr hb.size
  replace HB := hide (bl_trans HB.out hb)
  clear hb
  cases h2 : ratB n2 xs2 m2 ys2 with
  | false =>
    have E2 := hide h2
    clear h2
    have HE : Hid (rtT (ratB n1 xs1 m1 ys1 && ratB n2 xs2 m2 ys2) (addZ (mulZ (mk n1 (Num.nat xs1)) (mk m2 (Num.nat ys2))) (mulZ (mk n2 (Num.nat xs2)) (mk m1 (Num.nat ys1)))) (mulZ (mk m1 (Num.nat ys1)) (mk m2 (Num.nat ys2))) = false) := hide (ans_f (by rw [E2.out, Bool.and_false]))
    go_wp2
    refine bodyPost_ret (v := (.tuple #[.agg #[.bool false, .slice none 0 0, .bool false, .slice none 0 0], .bool false])) (by simp [results, Try.results23, go_sem, kr0, kr1, kr2, kr3]) rfl ?_
    exact ans_no HE.out (by first | exact HB.out | exact set_four (N := w.heap.size + 1 + 1) (by omega) HB.out _ _ _ _)
  | true =>
  have R2 := hide h2
  clear h2
  have HT : Hid ((ratB n1 xs1 m1 ys1 && ratB n2 xs2 m2 ys2) = true) := hide (by rw [R1.out, R2.out]; rfl)
  obtain ⟨x1, y1, rfl, rfl, rfl, rfl, hx1, hy1, hp1, hg1⟩ := rat_num G1.out G2.out R1.out
  obtain ⟨x2, y2, rfl, rfl, rfl, rfl, hx2, hy2, hp2, hg2⟩ := rat_num G3.out G4.out R2.out
  have l1 : (lms x1).length ≤ 1000 := Nat.le_trans (Num.limbs_len.2 hx1) (by decide)
  have l2 : (lms y1).length ≤ 1000 := Nat.le_trans (Num.limbs_len.2 hy1) (by decide)
  have l3 : (lms x2).length ≤ 1000 := Nat.le_trans (Num.limbs_len.2 hx2) (by decide)
  have l4 : (lms y2).length ≤ 1000 := Nat.le_trans (Num.limbs_len.2 hy2) (by decide)
  have HP1 := hide hp1
  have HP2 := hide hp2
  have HG2 := hide hg2
  clear hx1 hy1 hx2 hy2 hp1 hp2 hg1 hg2 R1 R2 G1 G2 G3 G4
  have HY : Hid ((mulZ y1 y2) ≠ 0) := hide (by unfold mulZ; exact Int.mul_ne_zero (by have := HP1.out; omega) (by have := HP2.out; omega))
  go_wp2_with fail
  refine (plusR x1 y1 x2 y2 a1 c1 b1 e1 a2 c2 b2 e2 _ l1 l2 l3 l4 S1.out T1.out S2.out T2.out HY.out).mono ?_
  rintro e w4 ⟨d1, f1, d2, f2, rfl, ho1, ho2, hap, hb⟩
  have yw4 := hb.size
  replace ka0 := (hb.cell (p := ⟨w.heap.size, 0, none⟩) (by dsimp only; omega)).trans ka0
  replace ka1 := (hb.cell (p := ⟨w.heap.size, 1, none⟩) (by dsimp only; omega)).trans ka1
  replace ka2 := (hb.cell (p := ⟨w.heap.size, 2, none⟩) (by dsimp only; omega)).trans ka2
  replace ka3 := (hb.cell (p := ⟨w.heap.size, 3, none⟩) (by dsimp only; omega)).trans ka3
  replace kb0 := (hb.cell (p := ⟨w.heap.size + 1, 0, none⟩) (by dsimp only; omega)).trans kb0
  replace kb1 := (hb.cell (p := ⟨w.heap.size + 1, 1, none⟩) (by dsimp only; omega)).trans kb1
  replace kb2 := (hb.cell (p := ⟨w.heap.size + 1, 2, none⟩) (by dsimp only; omega)).trans kb2
  replace kb3 := (hb.cell (p := ⟨w.heap.size + 1, 3, none⟩) (by dsimp only; omega)).trans kb3
  replace kr0 := (hb.cell (p := ⟨w.heap.size + 1 + 1, 0, none⟩) (by dsimp only; omega)).trans kr0
  replace fr0 := (hb.frozen (p := ⟨w.heap.size + 1 + 1, 0, none⟩) (by dsimp only; omega)).trans fr0
  replace kr1 := (hb.cell (p := ⟨w.heap.size + 1 + 1, 1, none⟩) (by dsimp only; omega)).trans kr1
  replace fr1 := (hb.frozen (p := ⟨w.heap.size + 1 + 1, 1, none⟩) (by dsimp only; omega)).trans fr1
  replace kr2 := (hb.cell (p := ⟨w.heap.size + 1 + 1, 2, none⟩) (by dsimp only; omega)).trans kr2
  replace fr2 := (hb.frozen (p := ⟨w.heap.size + 1 + 1, 2, none⟩) (by dsimp only; omega)).trans fr2
  replace kr3 := (hb.cell (p := ⟨w.heap.size + 1 + 1, 3, none⟩) (by dsimp only; omega)).trans kr3
  replace fr3 := (hb.frozen (p := ⟨w.heap.size + 1 + 1, 3, none⟩) (by dsimp only; omega)).trans fr3
  replace S1 := hide (S1.out.below hb)
  replace T1 := hide (T1.out.below hb)
  replace S2 := hide (S2.out.below hb)
  replace T2 := hide (T2.out.below hb)
  replace zr := Nat.lt_of_lt_of_le zr hb.size
  replace HB := hide (bl_trans HB.out hb)
  clear hb
  have O1 := hide ho1
  have O2 := hide ho2
  have HAP := hide hap
  clear ho1 ho2 hap
  go_wp2_with fail
  refine (fitI ((addZ (mulZ x1 y2) (mulZ x2 y1)) / sgG (addZ (mulZ x1 y2) (mulZ x2 y1)) (mulZ y1 y2)) ((mulZ y1 y2) / sgG (addZ (mulZ x1 y2) (mulZ x2 y1)) (mulZ y1 y2)) d1 f1 d2 f2 _ O1.out.seg O2.out.seg).mono ?_
  rintro e w5 ⟨rfl, hb⟩
  have yw5 := hb.size
  replace ka0 := (hb.cell (p := ⟨w.heap.size, 0, none⟩) (by dsimp only; omega)).trans ka0
  replace ka1 := (hb.cell (p := ⟨w.heap.size, 1, none⟩) (by dsimp only; omega)).trans ka1
  replace ka2 := (hb.cell (p := ⟨w.heap.size, 2, none⟩) (by dsimp only; omega)).trans ka2
  replace ka3 := (hb.cell (p := ⟨w.heap.size, 3, none⟩) (by dsimp only; omega)).trans ka3
  replace kb0 := (hb.cell (p := ⟨w.heap.size + 1, 0, none⟩) (by dsimp only; omega)).trans kb0
  replace kb1 := (hb.cell (p := ⟨w.heap.size + 1, 1, none⟩) (by dsimp only; omega)).trans kb1
  replace kb2 := (hb.cell (p := ⟨w.heap.size + 1, 2, none⟩) (by dsimp only; omega)).trans kb2
  replace kb3 := (hb.cell (p := ⟨w.heap.size + 1, 3, none⟩) (by dsimp only; omega)).trans kb3
  replace kr0 := (hb.cell (p := ⟨w.heap.size + 1 + 1, 0, none⟩) (by dsimp only; omega)).trans kr0
  replace fr0 := (hb.frozen (p := ⟨w.heap.size + 1 + 1, 0, none⟩) (by dsimp only; omega)).trans fr0
  replace kr1 := (hb.cell (p := ⟨w.heap.size + 1 + 1, 1, none⟩) (by dsimp only; omega)).trans kr1
  replace fr1 := (hb.frozen (p := ⟨w.heap.size + 1 + 1, 1, none⟩) (by dsimp only; omega)).trans fr1
  replace kr2 := (hb.cell (p := ⟨w.heap.size + 1 + 1, 2, none⟩) (by dsimp only; omega)).trans kr2
  replace fr2 := (hb.frozen (p := ⟨w.heap.size + 1 + 1, 2, none⟩) (by dsimp only; omega)).trans fr2
  replace kr3 := (hb.cell (p := ⟨w.heap.size + 1 + 1, 3, none⟩) (by dsimp only; omega)).trans kr3
  replace fr3 := (hb.frozen (p := ⟨w.heap.size + 1 + 1, 3, none⟩) (by dsimp only; omega)).trans fr3
  replace S1 := hide (S1.out.below hb)
  replace T1 := hide (T1.out.below hb)
  replace S2 := hide (S2.out.below hb)
  replace T2 := hide (T2.out.below hb)
  replace O1 := hide (O1.out.below hb)
  replace O2 := hide (O2.out.below hb)
  replace zr := Nat.lt_of_lt_of_le zr hb.size
  replace HB := hide (bl_trans HB.out hb)
  clear hb
  cases e3 : ftT ((addZ (mulZ x1 y2) (mulZ x2 y1)) / sgG (addZ (mulZ x1 y2) (mulZ x2 y1)) (mulZ y1 y2)) ((mulZ y1 y2) / sgG (addZ (mulZ x1 y2) (mulZ x2 y1)) (mulZ y1 y2)) with
  | false =>
    rw [ftV_f e3]
    have HE := hide ((ans_ft HT.out HY.out).trans e3)
    clear e3
    go_wp2
    refine bodyPost_ret (v := (.tuple #[.agg #[.bool false, .slice none 0 0, .bool false, .slice none 0 0], .bool false])) (by simp [results, Try.results23, go_sem, kr0, kr1, kr2, kr3]) rfl ?_
    simp only [nat_lms, mk_self]
    exact ans_no HE.out (by first | exact HB.out | exact set_four (N := w.heap.size + 1 + 1) (by omega) HB.out _ _ _ _)
  | true =>
  rw [ftV_t e3]
  have HE := hide ((ans_ft HT.out HY.out).trans e3)
  clear e3
  go_wp2
  refine bodyPost_ret (v := (.tuple #[Value.agg #[Value.bool (sgn ((addZ (mulZ x1 y2) (mulZ x2 y1)) / sgG (addZ (mulZ x1 y2) (mulZ x2 y1)) (mulZ y1 y2))), Value.slice d1 (lms ((addZ (mulZ x1 y2) (mulZ x2 y1)) / sgG (addZ (mulZ x1 y2) (mulZ x2 y1)) (mulZ y1 y2))).length f1, Value.bool (sgn ((mulZ y1 y2) / sgG (addZ (mulZ x1 y2) (mulZ x2 y1)) (mulZ y1 y2))), Value.slice d2 (lms ((mulZ y1 y2) / sgG (addZ (mulZ x1 y2) (mulZ x2 y1)) (mulZ y1 y2))).length f2], .bool true])) (by simp [results, Try.results23, go_sem, kr0, kr1, kr2, kr3]) rfl ?_
  obtain ⟨h1, h2, h3⟩ := fin_four (N := w.heap.size + 1 + 1) O1.out O2.out (by omega) (by omega) (by omega) HB.out (Value.bool (sgn ((addZ (mulZ x1 y2) (mulZ x2 y1)) / sgG (addZ (mulZ x1 y2) (mulZ x2 y1)) (mulZ y1 y2)))) (Value.slice d1 (lms ((addZ (mulZ x1 y2) (mulZ x2 y1)) / sgG (addZ (mulZ x1 y2) (mulZ x2 y1)) (mulZ y1 y2))).length f1) (Value.bool (sgn ((mulZ y1 y2) / sgG (addZ (mulZ x1 y2) (mulZ x2 y1)) (mulZ y1 y2)))) (Value.slice d2 (lms ((mulZ y1 y2) / sgG (addZ (mulZ x1 y2) (mulZ x2 y1)) (mulZ y1 y2))).length f2)
  simp only [nat_lms, mk_self]
  exact ans_yes HE.out h1 h2 HAP.out h3

set_option maxHeartbeats 4000000 in
theorem RatAddP (n1 : Bool) (xs1 : List Nat) (m1 : Bool) (ys1 : List Nat) (n2 : Bool) (xs2 : List Nat) (m2 : Bool) (ys2 : List Nat) (a1 : Option Addr) (c1 : Nat) (b1 : Option Addr) (e1 : Nat) (a2 : Option Addr) (c2 : Nat) (b2 : Option Addr) (e2 : Nat) (w : World)
    (s1 : Seg w a1 xs1.length c1 xs1) (t1 : Seg w b1 ys1.length e1 ys1) (s2 : Seg w a2 xs2.length c2 xs2) (t2 : Seg w b2 ys2.length e2 ys2) :
    Calls Try.prog 7 #[Value.agg #[Value.bool n1, Value.slice a1 xs1.length c1, Value.bool m1, Value.slice b1 ys1.length e1], Value.agg #[Value.bool n2, Value.slice a2 xs2.length c2, Value.bool m2, Value.slice b2 ys2.length e2]] w fun e w' => RatAns (ratB n1 xs1 m1 ys1 && ratB n2 xs2 m2 ys2) (addZ (mulZ (mk n1 (Num.nat xs1)) (mk m2 (Num.nat ys2))) (mulZ (mk n2 (Num.nat xs2)) (mk m1 (Num.nat ys1)))) (mulZ (mk m1 (Num.nat ys1)) (mk m2 (Num.nat ys2))) w w' e := by
  have hmf : ∀ (fn : Fn) (first cap : Array Value) (w : World), (Instr.makeFunc fn first cap).run Try.prog w = .ok (.func fn first cap) w := fun _ _ _ _ => rfl
  have ka0 : (((w.alloc (Obj.cells #[Value.bool n1, Value.slice a1 xs1.length c1, Value.bool m1, Value.slice b1 ys1.length e1] 28)).alloc (Obj.cells #[Value.bool n2, Value.slice a2 xs2.length c2, Value.bool m2, Value.slice b2 ys2.length e2] 28)).alloc (Obj.cells #[Value.bool false, Value.slice none 0 0, Value.bool false, Value.slice none 0 0] 28)).cell? ⟨w.heap.size, 0, none⟩ = some (Value.bool n1) := by go_simp
  have ka1 : (((w.alloc (Obj.cells #[Value.bool n1, Value.slice a1 xs1.length c1, Value.bool m1, Value.slice b1 ys1.length e1] 28)).alloc (Obj.cells #[Value.bool n2, Value.slice a2 xs2.length c2, Value.bool m2, Value.slice b2 ys2.length e2] 28)).alloc (Obj.cells #[Value.bool false, Value.slice none 0 0, Value.bool false, Value.slice none 0 0] 28)).cell? ⟨w.heap.size, 1, none⟩ = some (Value.slice a1 xs1.length c1) := by go_simp
  have ka2 : (((w.alloc (Obj.cells #[Value.bool n1, Value.slice a1 xs1.length c1, Value.bool m1, Value.slice b1 ys1.length e1] 28)).alloc (Obj.cells #[Value.bool n2, Value.slice a2 xs2.length c2, Value.bool m2, Value.slice b2 ys2.length e2] 28)).alloc (Obj.cells #[Value.bool false, Value.slice none 0 0, Value.bool false, Value.slice none 0 0] 28)).cell? ⟨w.heap.size, 2, none⟩ = some (Value.bool m1) := by go_simp
  have ka3 : (((w.alloc (Obj.cells #[Value.bool n1, Value.slice a1 xs1.length c1, Value.bool m1, Value.slice b1 ys1.length e1] 28)).alloc (Obj.cells #[Value.bool n2, Value.slice a2 xs2.length c2, Value.bool m2, Value.slice b2 ys2.length e2] 28)).alloc (Obj.cells #[Value.bool false, Value.slice none 0 0, Value.bool false, Value.slice none 0 0] 28)).cell? ⟨w.heap.size, 3, none⟩ = some (Value.slice b1 ys1.length e1) := by go_simp
  have kb0 : (((w.alloc (Obj.cells #[Value.bool n1, Value.slice a1 xs1.length c1, Value.bool m1, Value.slice b1 ys1.length e1] 28)).alloc (Obj.cells #[Value.bool n2, Value.slice a2 xs2.length c2, Value.bool m2, Value.slice b2 ys2.length e2] 28)).alloc (Obj.cells #[Value.bool false, Value.slice none 0 0, Value.bool false, Value.slice none 0 0] 28)).cell? ⟨w.heap.size + 1, 0, none⟩ = some (Value.bool n2) := by go_simp
  have kb1 : (((w.alloc (Obj.cells #[Value.bool n1, Value.slice a1 xs1.length c1, Value.bool m1, Value.slice b1 ys1.length e1] 28)).alloc (Obj.cells #[Value.bool n2, Value.slice a2 xs2.length c2, Value.bool m2, Value.slice b2 ys2.length e2] 28)).alloc (Obj.cells #[Value.bool false, Value.slice none 0 0, Value.bool false, Value.slice none 0 0] 28)).cell? ⟨w.heap.size + 1, 1, none⟩ = some (Value.slice a2 xs2.length c2) := by go_simp
  have kb2 : (((w.alloc (Obj.cells #[Value.bool n1, Value.slice a1 xs1.length c1, Value.bool m1, Value.slice b1 ys1.length e1] 28)).alloc (Obj.cells #[Value.bool n2, Value.slice a2 xs2.length c2, Value.bool m2, Value.slice b2 ys2.length e2] 28)).alloc (Obj.cells #[Value.bool false, Value.slice none 0 0, Value.bool false, Value.slice none 0 0] 28)).cell? ⟨w.heap.size + 1, 2, none⟩ = some (Value.bool m2) := by go_simp
  have kb3 : (((w.alloc (Obj.cells #[Value.bool n1, Value.slice a1 xs1.length c1, Value.bool m1, Value.slice b1 ys1.length e1] 28)).alloc (Obj.cells #[Value.bool n2, Value.slice a2 xs2.length c2, Value.bool m2, Value.slice b2 ys2.length e2] 28)).alloc (Obj.cells #[Value.bool false, Value.slice none 0 0, Value.bool false, Value.slice none 0 0] 28)).cell? ⟨w.heap.size + 1, 3, none⟩ = some (Value.slice b2 ys2.length e2) := by go_simp
  have kr0 : (((w.alloc (Obj.cells #[Value.bool n1, Value.slice a1 xs1.length c1, Value.bool m1, Value.slice b1 ys1.length e1] 28)).alloc (Obj.cells #[Value.bool n2, Value.slice a2 xs2.length c2, Value.bool m2, Value.slice b2 ys2.length e2] 28)).alloc (Obj.cells #[Value.bool false, Value.slice none 0 0, Value.bool false, Value.slice none 0 0] 28)).cell? ⟨w.heap.size + 1 + 1, 0, none⟩ = some (Value.bool false) := by go_simp
  have fr0 : (((w.alloc (Obj.cells #[Value.bool n1, Value.slice a1 xs1.length c1, Value.bool m1, Value.slice b1 ys1.length e1] 28)).alloc (Obj.cells #[Value.bool n2, Value.slice a2 xs2.length c2, Value.bool m2, Value.slice b2 ys2.length e2] 28)).alloc (Obj.cells #[Value.bool false, Value.slice none 0 0, Value.bool false, Value.slice none 0 0] 28)).frozen? ⟨w.heap.size + 1 + 1, 0, none⟩ = false := by go_simp
  have kr1 : (((w.alloc (Obj.cells #[Value.bool n1, Value.slice a1 xs1.length c1, Value.bool m1, Value.slice b1 ys1.length e1] 28)).alloc (Obj.cells #[Value.bool n2, Value.slice a2 xs2.length c2, Value.bool m2, Value.slice b2 ys2.length e2] 28)).alloc (Obj.cells #[Value.bool false, Value.slice none 0 0, Value.bool false, Value.slice none 0 0] 28)).cell? ⟨w.heap.size + 1 + 1, 1, none⟩ = some (Value.slice none 0 0) := by go_simp
  have fr1 : (((w.alloc (Obj.cells #[Value.bool n1, Value.slice a1 xs1.length c1, Value.bool m1, Value.slice b1 ys1.length e1] 28)).alloc (Obj.cells #[Value.bool n2, Value.slice a2 xs2.length c2, Value.bool m2, Value.slice b2 ys2.length e2] 28)).alloc (Obj.cells #[Value.bool false, Value.slice none 0 0, Value.bool false, Value.slice none 0 0] 28)).frozen? ⟨w.heap.size + 1 + 1, 1, none⟩ = false := by go_simp
  have kr2 : (((w.alloc (Obj.cells #[Value.bool n1, Value.slice a1 xs1.length c1, Value.bool m1, Value.slice b1 ys1.length e1] 28)).alloc (Obj.cells #[Value.bool n2, Value.slice a2 xs2.length c2, Value.bool m2, Value.slice b2 ys2.length e2] 28)).alloc (Obj.cells #[Value.bool false, Value.slice none 0 0, Value.bool false, Value.slice none 0 0] 28)).cell? ⟨w.heap.size + 1 + 1, 2, none⟩ = some (Value.bool false) := by go_simp
  have fr2 : (((w.alloc (Obj.cells #[Value.bool n1, Value.slice a1 xs1.length c1, Value.bool m1, Value.slice b1 ys1.length e1] 28)).alloc (Obj.cells #[Value.bool n2, Value.slice a2 xs2.length c2, Value.bool m2, Value.slice b2 ys2.length e2] 28)).alloc (Obj.cells #[Value.bool false, Value.slice none 0 0, Value.bool false, Value.slice none 0 0] 28)).frozen? ⟨w.heap.size + 1 + 1, 2, none⟩ = false := by go_simp
  have kr3 : (((w.alloc (Obj.cells #[Value.bool n1, Value.slice a1 xs1.length c1, Value.bool m1, Value.slice b1 ys1.length e1] 28)).alloc (Obj.cells #[Value.bool n2, Value.slice a2 xs2.length c2, Value.bool m2, Value.slice b2 ys2.length e2] 28)).alloc (Obj.cells #[Value.bool false, Value.slice none 0 0, Value.bool false, Value.slice none 0 0] 28)).cell? ⟨w.heap.size + 1 + 1, 3, none⟩ = some (Value.slice none 0 0) := by go_simp
  have fr3 : (((w.alloc (Obj.cells #[Value.bool n1, Value.slice a1 xs1.length c1, Value.bool m1, Value.slice b1 ys1.length e1] 28)).alloc (Obj.cells #[Value.bool n2, Value.slice a2 xs2.length c2, Value.bool m2, Value.slice b2 ys2.length e2] 28)).alloc (Obj.cells #[Value.bool false, Value.slice none 0 0, Value.bool false, Value.slice none 0 0] 28)).frozen? ⟨w.heap.size + 1 + 1, 3, none⟩ = false := by go_simp
  have zr : w.heap.size + 1 + 1 < (((w.alloc (Obj.cells #[Value.bool n1, Value.slice a1 xs1.length c1, Value.bool m1, Value.slice b1 ys1.length e1] 28)).alloc (Obj.cells #[Value.bool n2, Value.slice a2 xs2.length c2, Value.bool m2, Value.slice b2 ys2.length e2] 28)).alloc (Obj.cells #[Value.bool false, Value.slice none 0 0, Value.bool false, Value.slice none 0 0] 28)).heap.size := by simp only [World.size_alloc]; omega
  have HB := hide (bl_alloc (bl_alloc (bl_alloc (bl_refl w) (Obj.cells #[Value.bool n1, Value.slice a1 xs1.length c1, Value.bool m1, Value.slice b1 ys1.length e1] 28)) (Obj.cells #[Value.bool n2, Value.slice a2 xs2.length c2, Value.bool m2, Value.slice b2 ys2.length e2] 28)) (Obj.cells #[Value.bool false, Value.slice none 0 0, Value.bool false, Value.slice none 0 0] 28))
  have S1 := hide (s1.below HB.out)
  have T1 := hide (t1.below HB.out)
  have S2 := hide (s2.below HB.out)
  have T2 := hide (t2.below HB.out)
  clear s1
  clear t1
  clear s2
  clear t2
  go_enter Try.func7, Try.ntmps7
  go_wp2_with fail
  generalize (((w.alloc (Obj.cells #[Value.bool n1, Value.slice a1 xs1.length c1, Value.bool m1, Value.slice b1 ys1.length e1] 28)).alloc (Obj.cells #[Value.bool n2, Value.slice a2 xs2.length c2, Value.bool m2, Value.slice b2 ys2.length e2] 28)).alloc (Obj.cells #[Value.bool false, Value.slice none 0 0, Value.bool false, Value.slice none 0 0] 28)) = w1 at *
  have z0 := zr
  refine (recAdd n1 xs1 m1 ys1 n2 xs2 m2 ys2 a1 c1 b1 e1 a2 c2 b2 e2 _ S1.out T1.out S2.out T2.out).mono ?_
  rintro e w2 ⟨d1, f1, d2, f2, rfl, ho1, ho2, hap, hb⟩
  have yw2 := hb.size
  replace ka0 := (hb.cell (p := ⟨w.heap.size, 0, none⟩) (by dsimp only; omega)).trans ka0
  replace ka1 := (hb.cell (p := ⟨w.heap.size, 1, none⟩) (by dsimp only; omega)).trans ka1
  replace ka2 := (hb.cell (p := ⟨w.heap.size, 2, none⟩) (by dsimp only; omega)).trans ka2
  replace ka3 := (hb.cell (p := ⟨w.heap.size, 3, none⟩) (by dsimp only; omega)).trans ka3
  replace kb0 := (hb.cell (p := ⟨w.heap.size + 1, 0, none⟩) (by dsimp only; omega)).trans kb0
  replace kb1 := (hb.cell (p := ⟨w.heap.size + 1, 1, none⟩) (by dsimp only; omega)).trans kb1
  replace kb2 := (hb.cell (p := ⟨w.heap.size + 1, 2, none⟩) (by dsimp only; omega)).trans kb2
  replace kb3 := (hb.cell (p := ⟨w.heap.size + 1, 3, none⟩) (by dsimp only; omega)).trans kb3
  replace kr0 := (hb.cell (p := ⟨w.heap.size + 1 + 1, 0, none⟩) (by dsimp only; omega)).trans kr0
  replace fr0 := (hb.frozen (p := ⟨w.heap.size + 1 + 1, 0, none⟩) (by dsimp only; omega)).trans fr0
  replace kr1 := (hb.cell (p := ⟨w.heap.size + 1 + 1, 1, none⟩) (by dsimp only; omega)).trans kr1
  replace fr1 := (hb.frozen (p := ⟨w.heap.size + 1 + 1, 1, none⟩) (by dsimp only; omega)).trans fr1
  replace kr2 := (hb.cell (p := ⟨w.heap.size + 1 + 1, 2, none⟩) (by dsimp only; omega)).trans kr2
  replace fr2 := (hb.frozen (p := ⟨w.heap.size + 1 + 1, 2, none⟩) (by dsimp only; omega)).trans fr2
  replace kr3 := (hb.cell (p := ⟨w.heap.size + 1 + 1, 3, none⟩) (by dsimp only; omega)).trans kr3
  replace fr3 := (hb.frozen (p := ⟨w.heap.size + 1 + 1, 3, none⟩) (by dsimp only; omega)).trans fr3
  replace S1 := hide (S1.out.below hb)
  replace T1 := hide (T1.out.below hb)
  replace S2 := hide (S2.out.below hb)
  replace T2 := hide (T2.out.below hb)
  replace zr := Nat.lt_of_lt_of_le zr hb.size
  replace HB := hide (bl_trans HB.out hb)
  clear hb
  have HO1 := hide ho1
  have HO2 := hide ho2
  have HAP := hide hap
  clear ho1 ho2 hap
  generalize hN : rtN (ratB n1 xs1 m1 ys1 && ratB n2 xs2 m2 ys2) (addZ (mulZ (mk n1 (Num.nat xs1)) (mk m2 (Num.nat ys2))) (mulZ (mk n2 (Num.nat xs2)) (mk m1 (Num.nat ys1)))) (mulZ (mk m1 (Num.nat ys1)) (mk m2 (Num.nat ys2))) = N at *
  generalize hD : rtD (ratB n1 xs1 m1 ys1 && ratB n2 xs2 m2 ys2) (addZ (mulZ (mk n1 (Num.nat xs1)) (mk m2 (Num.nat ys2))) (mulZ (mk n2 (Num.nat xs2)) (mk m1 (Num.nat ys1)))) (mulZ (mk m1 (Num.nat ys1)) (mk m2 (Num.nat ys2))) = D at *
  generalize hT : rtT (ratB n1 xs1 m1 ys1 && ratB n2 xs2 m2 ys2) (addZ (mulZ (mk n1 (Num.nat xs1)) (mk m2 (Num.nat ys2))) (mulZ (mk n2 (Num.nat xs2)) (mk m1 (Num.nat ys1)))) (mulZ (mk m1 (Num.nat ys1)) (mk m2 (Num.nat ys2))) = T at *
  have HN := hide hN
  have HD := hide hD
  have HTT := hide hT
  clear hN hD hT
  go_wp2
  refine bodyPost_ret (v := (.tuple #[Value.agg #[Value.bool (sgn N), Value.slice d1 (lms N).length f1, Value.bool (sgn D), Value.slice d2 (lms D).length f2], .bool T])) (by simp [results, Try.results7, go_sem, kr0, kr1, kr2, kr3]) rfl ?_
  obtain ⟨h1, h2, h3⟩ := fin_four (N := w.heap.size + 1 + 1) HO1.out HO2.out (by omega) (by omega) (by omega) HB.out (Value.bool (sgn N)) (Value.slice d1 (lms N).length f1) (Value.bool (sgn D)) (Value.slice d2 (lms D).length f2)
  unfold RatAns
  rw [HN.out, HD.out, HTT.out]
  exact ⟨d1, f1, d2, f2, rfl, h1, h2, HAP.out, h3⟩

set_option maxHeartbeats 4000000 in
theorem recSub (n1 : Bool) (xs1 : List Nat) (m1 : Bool) (ys1 : List Nat) (n2 : Bool) (xs2 : List Nat) (m2 : Bool) (ys2 : List Nat) (a1 : Option Addr) (c1 : Nat) (b1 : Option Addr) (e1 : Nat) (a2 : Option Addr) (c2 : Nat) (b2 : Option Addr) (e2 : Nat) (w : World)
    (s1 : Seg w a1 xs1.length c1 xs1) (t1 : Seg w b1 ys1.length e1 ys1) (s2 : Seg w a2 xs2.length c2 xs2) (t2 : Seg w b2 ys2.length e2 ys2) :
    Calls Try.prog 23 #[Value.agg #[Value.bool n1, Value.slice a1 xs1.length c1, Value.bool m1, Value.slice b1 ys1.length e1], .func (.func 31) #[Value.agg #[Value.bool n1, Value.slice a1 xs1.length c1, Value.bool m1, Value.slice b1 ys1.length e1]] #[], Value.agg #[Value.bool n2, Value.slice a2 xs2.length c2, Value.bool m2, Value.slice b2 ys2.length e2]] w fun e w' => RatAns (ratB n1 xs1 m1 ys1 && ratB n2 xs2 m2 ys2) (subZ (mulZ (mk n1 (Num.nat xs1)) (mk m2 (Num.nat ys2))) (mulZ (mk n2 (Num.nat xs2)) (mk m1 (Num.nat ys1)))) (mulZ (mk m1 (Num.nat ys1)) (mk m2 (Num.nat ys2))) w w' e := by
  have G1 := hide s1.2.2.2.1
  have G2 := hide t1.2.2.2.1
  have G3 := hide s2.2.2.2.1
  have G4 := hide t2.2.2.2.1
  have ka0 : (((w.alloc (Obj.cells #[Value.bool n1, Value.slice a1 xs1.length c1, Value.bool m1, Value.slice b1 ys1.length e1] 28)).alloc (Obj.cells #[Value.bool n2, Value.slice a2 xs2.length c2, Value.bool m2, Value.slice b2 ys2.length e2] 28)).alloc (Obj.cells #[Value.bool false, Value.slice none 0 0, Value.bool false, Value.slice none 0 0] 28)).cell? ⟨w.heap.size, 0, none⟩ = some (Value.bool n1) := by go_simp
  have ka1 : (((w.alloc (Obj.cells #[Value.bool n1, Value.slice a1 xs1.length c1, Value.bool m1, Value.slice b1 ys1.length e1] 28)).alloc (Obj.cells #[Value.bool n2, Value.slice a2 xs2.length c2, Value.bool m2, Value.slice b2 ys2.length e2] 28)).alloc (Obj.cells #[Value.bool false, Value.slice none 0 0, Value.bool false, Value.slice none 0 0] 28)).cell? ⟨w.heap.size, 1, none⟩ = some (Value.slice a1 xs1.length c1) := by go_simp
  have ka2 : (((w.alloc (Obj.cells #[Value.bool n1, Value.slice a1 xs1.length c1, Value.bool m1, Value.slice b1 ys1.length e1] 28)).alloc (Obj.cells #[Value.bool n2, Value.slice a2 xs2.length c2, Value.bool m2, Value.slice b2 ys2.length e2] 28)).alloc (Obj.cells #[Value.bool false, Value.slice none 0 0, Value.bool false, Value.slice none 0 0] 28)).cell? ⟨w.heap.size, 2, none⟩ = some (Value.bool m1) := by go_simp
  have ka3 : (((w.alloc (Obj.cells #[Value.bool n1, Value.slice a1 xs1.length c1, Value.bool m1, Value.slice b1 ys1.length e1] 28)).alloc (Obj.cells #[Value.bool n2, Value.slice a2 xs2.length c2, Value.bool m2, Value.slice b2 ys2.length e2] 28)).alloc (Obj.cells #[Value.bool false, Value.slice none 0 0, Value.bool false, Value.slice none 0 0] 28)).cell? ⟨w.heap.size, 3, none⟩ = some (Value.slice b1 ys1.length e1) := by go_simp
  have kb0 : (((w.alloc (Obj.cells #[Value.bool n1, Value.slice a1 xs1.length c1, Value.bool m1, Value.slice b1 ys1.length e1] 28)).alloc (Obj.cells #[Value.bool n2, Value.slice a2 xs2.length c2, Value.bool m2, Value.slice b2 ys2.length e2] 28)).alloc (Obj.cells #[Value.bool false, Value.slice none 0 0, Value.bool false, Value.slice none 0 0] 28)).cell? ⟨w.heap.size + 1, 0, none⟩ = some (Value.bool n2) := by go_simp
  have kb1 : (((w.alloc (Obj.cells #[Value.bool n1, Value.slice a1 xs1.length c1, Value.bool m1, Value.slice b1 ys1.length e1] 28)).alloc (Obj.cells #[Value.bool n2, Value.slice a2 xs2.length c2, Value.bool m2, Value.slice b2 ys2.length e2] 28)).alloc (Obj.cells #[Value.bool false, Value.slice none 0 0, Value.bool false, Value.slice none 0 0] 28)).cell? ⟨w.heap.size + 1, 1, none⟩ = some (Value.slice a2 xs2.length c2) := by go_simp
  have kb2 : (((w.alloc (Obj.cells #[Value.bool n1, Value.slice a1 xs1.length c1, Value.bool m1, Value.slice b1 ys1.length e1] 28)).alloc (Obj.cells #[Value.bool n2, Value.slice a2 xs2.length c2, Value.bool m2, Value.slice b2 ys2.length e2] 28)).alloc (Obj.cells #[Value.bool false, Value.slice none 0 0, Value.bool false, Value.slice none 0 0] 28)).cell? ⟨w.heap.size + 1, 2, none⟩ = some (Value.bool m2) := by go_simp
  have kb3 : (((w.alloc (Obj.cells #[Value.bool n1, Value.slice a1 xs1.length c1, Value.bool m1, Value.slice b1 ys1.length e1] 28)).alloc (Obj.cells #[Value.bool n2, Value.slice a2 xs2.length c2, Value.bool m2, Value.slice b2 ys2.length e2] 28)).alloc (Obj.cells #[Value.bool false, Value.slice none 0 0, Value.bool false, Value.slice none 0 0] 28)).cell? ⟨w.heap.size + 1, 3, none⟩ = some (Value.slice b2 ys2.length e2) := by go_simp
  have kr0 : (((w.alloc (Obj.cells #[Value.bool n1, Value.slice a1 xs1.length c1, Value.bool m1, Value.slice b1 ys1.length e1] 28)).alloc (Obj.cells #[Value.bool n2, Value.slice a2 xs2.length c2, Value.bool m2, Value.slice b2 ys2.length e2] 28)).alloc (Obj.cells #[Value.bool false, Value.slice none 0 0, Value.bool false, Value.slice none 0 0] 28)).cell? ⟨w.heap.size + 1 + 1, 0, none⟩ = some (Value.bool false) := by go_simp
  have fr0 : (((w.alloc (Obj.cells #[Value.bool n1, Value.slice a1 xs1.length c1, Value.bool m1, Value.slice b1 ys1.length e1] 28)).alloc (Obj.cells #[Value.bool n2, Value.slice a2 xs2.length c2, Value.bool m2, Value.slice b2 ys2.length e2] 28)).alloc (Obj.cells #[Value.bool false, Value.slice none 0 0, Value.bool false, Value.slice none 0 0] 28)).frozen? ⟨w.heap.size + 1 + 1, 0, none⟩ = false := by go_simp
  have kr1 : (((w.alloc (Obj.cells #[Value.bool n1, Value.slice a1 xs1.length c1, Value.bool m1, Value.slice b1 ys1.length e1] 28)).alloc (Obj.cells #[Value.bool n2, Value.slice a2 xs2.length c2, Value.bool m2, Value.slice b2 ys2.length e2] 28)).alloc (Obj.cells #[Value.bool false, Value.slice none 0 0, Value.bool false, Value.slice none 0 0] 28)).cell? ⟨w.heap.size + 1 + 1, 1, none⟩ = some (Value.slice none 0 0) := by go_simp
  have fr1 : (((w.alloc (Obj.cells #[Value.bool n1, Value.slice a1 xs1.length c1, Value.bool m1, Value.slice b1 ys1.length e1] 28)).alloc (Obj.cells #[Value.bool n2, Value.slice a2 xs2.length c2, Value.bool m2, Value.slice b2 ys2.length e2] 28)).alloc (Obj.cells #[Value.bool false, Value.slice none 0 0, Value.bool false, Value.slice none 0 0] 28)).frozen? ⟨w.heap.size + 1 + 1, 1, none⟩ = false := by go_simp
  have kr2 : (((w.alloc (Obj.cells #[Value.bool n1, Value.slice a1 xs1.length c1, Value.bool m1, Value.slice b1 ys1.length e1] 28)).alloc (Obj.cells #[Value.bool n2, Value.slice a2 xs2.length c2, Value.bool m2, Value.slice b2 ys2.length e2] 28)).alloc (Obj.cells #[Value.bool false, Value.slice none 0 0, Value.bool false, Value.slice none 0 0] 28)).cell? ⟨w.heap.size + 1 + 1, 2, none⟩ = some (Value.bool false) := by go_simp
  have fr2 : (((w.alloc (Obj.cells #[Value.bool n1, Value.slice a1 xs1.length c1, Value.bool m1, Value.slice b1 ys1.length e1] 28)).alloc (Obj.cells #[Value.bool n2, Value.slice a2 xs2.length c2, Value.bool m2, Value.slice b2 ys2.length e2] 28)).alloc (Obj.cells #[Value.bool false, Value.slice none 0 0, Value.bool false, Value.slice none 0 0] 28)).frozen? ⟨w.heap.size + 1 + 1, 2, none⟩ = false := by go_simp
  have kr3 : (((w.alloc (Obj.cells #[Value.bool n1, Value.slice a1 xs1.length c1, Value.bool m1, Value.slice b1 ys1.length e1] 28)).alloc (Obj.cells #[Value.bool n2, Value.slice a2 xs2.length c2, Value.bool m2, Value.slice b2 ys2.length e2] 28)).alloc (Obj.cells #[Value.bool false, Value.slice none 0 0, Value.bool false, Value.slice none 0 0] 28)).cell? ⟨w.heap.size + 1 + 1, 3, none⟩ = some (Value.slice none 0 0) := by go_simp
  have fr3 : (((w.alloc (Obj.cells #[Value.bool n1, Value.slice a1 xs1.length c1, Value.bool m1, Value.slice b1 ys1.length e1] 28)).alloc (Obj.cells #[Value.bool n2, Value.slice a2 xs2.length c2, Value.bool m2, Value.slice b2 ys2.length e2] 28)).alloc (Obj.cells #[Value.bool false, Value.slice none 0 0, Value.bool false, Value.slice none 0 0] 28)).frozen? ⟨w.heap.size + 1 + 1, 3, none⟩ = false := by go_simp
  have zr : w.heap.size + 1 + 1 < (((w.alloc (Obj.cells #[Value.bool n1, Value.slice a1 xs1.length c1, Value.bool m1, Value.slice b1 ys1.length e1] 28)).alloc (Obj.cells #[Value.bool n2, Value.slice a2 xs2.length c2, Value.bool m2, Value.slice b2 ys2.length e2] 28)).alloc (Obj.cells #[Value.bool false, Value.slice none 0 0, Value.bool false, Value.slice none 0 0] 28)).heap.size := by simp only [World.size_alloc]; omega
  have HB := hide (bl_alloc (bl_alloc (bl_alloc (bl_refl w) (Obj.cells #[Value.bool n1, Value.slice a1 xs1.length c1, Value.bool m1, Value.slice b1 ys1.length e1] 28)) (Obj.cells #[Value.bool n2, Value.slice a2 xs2.length c2, Value.bool m2, Value.slice b2 ys2.length e2] 28)) (Obj.cells #[Value.bool false, Value.slice none 0 0, Value.bool false, Value.slice none 0 0] 28))
  have S1 := hide (s1.below HB.out)
  have T1 := hide (t1.below HB.out)
  have S2 := hide (s2.below HB.out)
  have T2 := hide (t2.below HB.out)
  clear s1
  clear t1
  clear s2
  clear t2
  go_enter Try.func23, Try.ntmps23
  go_wp2_with fail
  generalize (((w.alloc (Obj.cells #[Value.bool n1, Value.slice a1 xs1.length c1, Value.bool m1, Value.slice b1 ys1.length e1] 28)).alloc (Obj.cells #[Value.bool n2, Value.slice a2 xs2.length c2, Value.bool m2, Value.slice b2 ys2.length e2] 28)).alloc (Obj.cells #[Value.bool false, Value.slice none 0 0, Value.bool false, Value.slice none 0 0] 28)) = w1 at *
  have z0 := zr
  refine (rightI n1 xs1 m1 ys1 a1 c1 b1 e1 _ S1.out T1.out).mono ?_
  rintro e w2 ⟨rfl, hb⟩
  have yw2 := hb.size
  replace ka0 := (hb.cell (p := ⟨w.heap.size, 0, none⟩) (by dsimp only; omega)).trans ka0
  replace ka1 := (hb.cell (p := ⟨w.heap.size, 1, none⟩) (by dsimp only; omega)).trans ka1
  replace ka2 := (hb.cell (p := ⟨w.heap.size, 2, none⟩) (by dsimp only; omega)).trans ka2
  replace ka3 := (hb.cell (p := ⟨w.heap.size, 3, none⟩) (by dsimp only; omega)).trans ka3
  replace kb0 := (hb.cell (p := ⟨w.heap.size + 1, 0, none⟩) (by dsimp only; omega)).trans kb0
  replace kb1 := (hb.cell (p := ⟨w.heap.size + 1, 1, none⟩) (by dsimp only; omega)).trans kb1
  replace kb2 := (hb.cell (p := ⟨w.heap.size + 1, 2, none⟩) (by dsimp only; omega)).trans kb2
  replace kb3 := (hb.cell (p := ⟨w.heap.size + 1, 3, none⟩) (by dsimp only; omega)).trans kb3
  replace kr0 := (hb.cell (p := ⟨w.heap.size + 1 + 1, 0, none⟩) (by dsimp only; omega)).trans kr0
  replace fr0 := (hb.frozen (p := ⟨w.heap.size + 1 + 1, 0, none⟩) (by dsimp only; omega)).trans fr0
  replace kr1 := (hb.cell (p := ⟨w.heap.size + 1 + 1, 1, none⟩) (by dsimp only; omega)).trans kr1
  replace fr1 := (hb.frozen (p := ⟨w.heap.size + 1 + 1, 1, none⟩) (by dsimp only; omega)).trans fr1
  replace kr2 := (hb.cell (p := ⟨w.heap.size + 1 + 1, 2, none⟩) (by dsimp only; omega)).trans kr2
  replace fr2 := (hb.frozen (p := ⟨w.heap.size + 1 + 1, 2, none⟩) (by dsimp only; omega)).trans fr2
  replace kr3 := (hb.cell (p := ⟨w.heap.size + 1 + 1, 3, none⟩) (by dsimp only; omega)).trans kr3
  replace fr3 := (hb.frozen (p := ⟨w.heap.size + 1 + 1, 3, none⟩) (by dsimp only; omega)).trans fr3
  replace S1 := hide (S1.out.below hb)
  replace T1 := hide (T1.out.below hb)
  replace S2 := hide (S2.out.below hb)
  replace T2 := hide (T2.out.below hb)
  replace zr := Nat.lt_of_lt_of_le zr hb.size
  replace HB := hide (bl_trans HB.out hb)
  clear hb
  cases h1 : ratB n1 xs1 m1 ys1 with
  | false =>
    have E1 := hide h1
    clear h1
    have HE : Hid (rtT (ratB n1 xs1 m1 ys1 && ratB n2 xs2 m2 ys2) (subZ (mulZ (mk n1 (Num.nat xs1)) (mk m2 (Num.nat ys2))) (mulZ (mk n2 (Num.nat xs2)) (mk m1 (Num.nat ys1)))) (mulZ (mk m1 (Num.nat ys1)) (mk m2 (Num.nat ys2))) = false) := hide (ans_f (by rw [E1.out]; rfl))
    go_wp2
    refine bodyPost_ret (v := (.tuple #[.agg #[.bool false, .slice none 0 0, .bool false, .slice none 0 0], .bool false])) (by simp [results, Try.results23, go_sem, kr0, kr1, kr2, kr3]) rfl ?_
    exact ans_no HE.out (by first | exact HB.out | exact set_four (N := w.heap.size + 1 + 1) (by omega) HB.out _ _ _ _)
  | true =>
  have R1 := hide h1
  clear h1
  go_wp2_with fail
  refine (rightI n2 xs2 m2 ys2 a2 c2 b2 e2 _ S2.out T2.out).mono ?_
  rintro e w3 ⟨rfl, hb⟩
  have yw3 := hb.size
  replace ka0 := (hb.cell (p := ⟨w.heap.size, 0, none⟩) (by dsimp only; omega)).trans ka0
  replace ka1 := (hb.cell (p := ⟨w.heap.size, 1, none⟩) (by dsimp only; omega)).trans ka1
  replace ka2 := (hb.cell (p := ⟨w.heap.size, 2, none⟩) (by dsimp only; omega)).trans ka2
  replace ka3 := (hb.cell (p := ⟨w.heap.size, 3, none⟩) (by dsimp only; omega)).trans ka3
  replace kb0 := (hb.cell (p := ⟨w.heap.size + 1, 0, none⟩) (by dsimp only; omega)).trans kb0
  replace kb1 := (hb.cell (p := ⟨w.heap.size + 1, 1, none⟩) (by dsimp only; omega)).trans kb1
  replace kb2 := (hb.cell (p := ⟨w.heap.size + 1, 2, none⟩) (by dsimp only; omega)).trans kb2
  replace kb3 := (hb.cell (p := ⟨w.heap.size + 1, 3, none⟩) (by dsimp only; omega)).trans kb3
  replace kr0 := (hb.cell (p := ⟨w.heap.size + 1 + 1, 0, none⟩) (by dsimp only; omega)).trans kr0
  replace fr0 := (hb.frozen (p := ⟨w.heap.size + 1 + 1, 0, none⟩) (by dsimp only; omega)).trans fr0
  replace kr1 := (hb.cell (p := ⟨w.heap.size + 1 + 1, 1, none⟩) (by dsimp only; omega)).trans kr1
  replace fr1 := (hb.frozen (p := ⟨w.heap.size + 1 + 1, 1, none⟩) (by dsimp only; omega)).trans fr1
  replace kr2 := (hb.cell (p := ⟨w.heap.size + 1 + 1, 2, none⟩) (by dsimp only; omega)).trans kr2
  replace fr2 := (hb.frozen (p := ⟨w.heap.size + 1 + 1, 2, none⟩) (by dsimp only; omega)).trans fr2
  replace kr3 := (hb.cell (p := ⟨w.heap.size + 1 + 1, 3, none⟩) (by dsimp only; omega)).trans kr3
  replace fr3 := (hb.frozen (p := ⟨w.heap.size + 1 + 1, 3, none⟩) (by dsimp only; omega)).trans fr3
  replace S1 := hide (S1.out.below hb)
  replace T1 := hide (T1.out.below hb)
  replace S2 := hide (S2.out.below hb)
  replace T2 := hide (T2.out.below hb)
  replace zr := Nat.lt_of_lt_of_le zr hb.size
  replace HB := hide (bl_trans HB.out hb)
  clear hb
  cases h2 : ratB n2 xs2 m2 ys2 with
  | false =>
    have E2 := hide h2
    clear h2
    have HE : Hid (rtT (ratB n1 xs1 m1 ys1 && ratB n2 xs2 m2 ys2) (subZ (mulZ (mk n1 (Num.nat xs1)) (mk m2 (Num.nat ys2))) (mulZ (mk n2 (Num.nat xs2)) (mk m1 (Num.nat ys1)))) (mulZ (mk m1 (Num.nat ys1)) (mk m2 (Num.nat ys2))) = false) := hide (ans_f (by rw [E2.out, Bool.and_false]))
    go_wp2
    refine bodyPost_ret (v := (.tuple #[.agg #[.bool false, .slice none 0 0, .bool false, .slice none 0 0], .bool false])) (by simp [results, Try.results23, go_sem, kr0, kr1, kr2, kr3]) rfl ?_
    exact ans_no HE.out (by first | exact HB.out | exact set_four (N := w.heap.size + 1 + 1) (by omega) HB.out _ _ _ _)
  | true =>
  have R2 := hide h2
  clear h2
  have HT : Hid ((ratB n1 xs1 m1 ys1 && ratB n2 xs2 m2 ys2) = true) := hide (by rw [R1.out, R2.out]; rfl)
  obtain ⟨x1, y1, rfl, rfl, rfl, rfl, hx1, hy1, hp1, hg1⟩ := rat_num G1.out G2.out R1.out
  obtain ⟨x2, y2, rfl, rfl, rfl, rfl, hx2, hy2, hp2, hg2⟩ := rat_num G3.out G4.out R2.out
  have l1 : (lms x1).length ≤ 1000 := Nat.le_trans (Num.limbs_len.2 hx1) (by decide)
  have l2 : (lms y1).length ≤ 1000 := Nat.le_trans (Num.limbs_len.2 hy1) (by decide)
  have l3 : (lms x2).length ≤ 1000 := Nat.le_trans (Num.limbs_len.2 hx2) (by decide)
  have l4 : (lms y2).length ≤ 1000 := Nat.le_trans (Num.limbs_len.2 hy2) (by decide)
  have HP1 := hide hp1
  have HP2 := hide hp2
  have HG2 := hide hg2
  clear hx1 hy1 hx2 hy2 hp1 hp2 hg1 hg2 R1 R2 G1 G2 G3 G4
  have HY : Hid ((mulZ y1 y2) ≠ 0) := hide (by unfold mulZ; exact Int.mul_ne_zero (by have := HP1.out; omega) (by have := HP2.out; omega))
  go_wp2_with fail
  refine (minusR x1 y1 x2 y2 a1 c1 b1 e1 a2 c2 b2 e2 _ l1 l2 l3 l4 S1.out T1.out S2.out T2.out HY.out).mono ?_
  rintro e w4 ⟨d1, f1, d2, f2, rfl, ho1, ho2, hap, hb⟩
  have yw4 := hb.size
  replace ka0 := (hb.cell (p := ⟨w.heap.size, 0, none⟩) (by dsimp only; omega)).trans ka0
  replace ka1 := (hb.cell (p := ⟨w.heap.size, 1, none⟩) (by dsimp only; omega)).trans ka1
  replace ka2 := (hb.cell (p := ⟨w.heap.size, 2, none⟩) (by dsimp only; omega)).trans ka2
  replace ka3 := (hb.cell (p := ⟨w.heap.size, 3, none⟩) (by dsimp only; omega)).trans ka3
  replace kb0 := (hb.cell (p := ⟨w.heap.size + 1, 0, none⟩) (by dsimp only; omega)).trans kb0
  replace kb1 := (hb.cell (p := ⟨w.heap.size + 1, 1, none⟩) (by dsimp only; omega)).trans kb1
  replace kb2 := (hb.cell (p := ⟨w.heap.size + 1, 2, none⟩) (by dsimp only; omega)).trans kb2
  replace kb3 := (hb.cell (p := ⟨w.heap.size + 1, 3, none⟩) (by dsimp only; omega)).trans kb3
  replace kr0 := (hb.cell (p := ⟨w.heap.size + 1 + 1, 0, none⟩) (by dsimp only; omega)).trans kr0
  replace fr0 := (hb.frozen (p := ⟨w.heap.size + 1 + 1, 0, none⟩) (by dsimp only; omega)).trans fr0
  replace kr1 := (hb.cell (p := ⟨w.heap.size + 1 + 1, 1, none⟩) (by dsimp only; omega)).trans kr1
  replace fr1 := (hb.frozen (p := ⟨w.heap.size + 1 + 1, 1, none⟩) (by dsimp only; omega)).trans fr1
  replace kr2 := (hb.cell (p := ⟨w.heap.size + 1 + 1, 2, none⟩) (by dsimp only; omega)).trans kr2
  replace fr2 := (hb.frozen (p := ⟨w.heap.size + 1 + 1, 2, none⟩) (by dsimp only; omega)).trans fr2
  replace kr3 := (hb.cell (p := ⟨w.heap.size + 1 + 1, 3, none⟩) (by dsimp only; omega)).trans kr3
  replace fr3 := (hb.frozen (p := ⟨w.heap.size + 1 + 1, 3, none⟩) (by dsimp only; omega)).trans fr3
  replace S1 := hide (S1.out.below hb)
  replace T1 := hide (T1.out.below hb)
  replace S2 := hide (S2.out.below hb)
  replace T2 := hide (T2.out.below hb)
  replace zr := Nat.lt_of_lt_of_le zr hb.size
  replace HB := hide (bl_trans HB.out hb)
  clear hb
  have O1 := hide ho1
  have O2 := hide ho2
  have HAP := hide hap
  clear ho1 ho2 hap
  go_wp2_with fail
  refine (fitI ((subZ (mulZ x1 y2) (mulZ x2 y1)) / sgG (subZ (mulZ x1 y2) (mulZ x2 y1)) (mulZ y1 y2)) ((mulZ y1 y2) / sgG (subZ (mulZ x1 y2) (mulZ x2 y1)) (mulZ y1 y2)) d1 f1 d2 f2 _ O1.out.seg O2.out.seg).mono ?_
  rintro e w5 ⟨rfl, hb⟩
  have yw5 := hb.size
  replace ka0 := (hb.cell (p := ⟨w.heap.size, 0, none⟩) (by dsimp only; omega)).trans ka0
  replace ka1 := (hb.cell (p := ⟨w.heap.size, 1, none⟩) (by dsimp only; omega)).trans ka1
  replace ka2 := (hb.cell (p := ⟨w.heap.size, 2, none⟩) (by dsimp only; omega)).trans ka2
  replace ka3 := (hb.cell (p := ⟨w.heap.size, 3, none⟩) (by dsimp only; omega)).trans ka3
  replace kb0 := (hb.cell (p := ⟨w.heap.size + 1, 0, none⟩) (by dsimp only; omega)).trans kb0
  replace kb1 := (hb.cell (p := ⟨w.heap.size + 1, 1, none⟩) (by dsimp only; omega)).trans kb1
  replace kb2 := (hb.cell (p := ⟨w.heap.size + 1, 2, none⟩) (by dsimp only; omega)).trans kb2
  replace kb3 := (hb.cell (p := ⟨w.heap.size + 1, 3, none⟩) (by dsimp only; omega)).trans kb3
  replace kr0 := (hb.cell (p := ⟨w.heap.size + 1 + 1, 0, none⟩) (by dsimp only; omega)).trans kr0
  replace fr0 := (hb.frozen (p := ⟨w.heap.size + 1 + 1, 0, none⟩) (by dsimp only; omega)).trans fr0
  replace kr1 := (hb.cell (p := ⟨w.heap.size + 1 + 1, 1, none⟩) (by dsimp only; omega)).trans kr1
  replace fr1 := (hb.frozen (p := ⟨w.heap.size + 1 + 1, 1, none⟩) (by dsimp only; omega)).trans fr1
  replace kr2 := (hb.cell (p := ⟨w.heap.size + 1 + 1, 2, none⟩) (by dsimp only; omega)).trans kr2
  replace fr2 := (hb.frozen (p := ⟨w.heap.size + 1 + 1, 2, none⟩) (by dsimp only; omega)).trans fr2
  replace kr3 := (hb.cell (p := ⟨w.heap.size + 1 + 1, 3, none⟩) (by dsimp only; omega)).trans kr3
  replace fr3 := (hb.frozen (p := ⟨w.heap.size + 1 + 1, 3, none⟩) (by dsimp only; omega)).trans fr3
  replace S1 := hide (S1.out.below hb)
  replace T1 := hide (T1.out.below hb)
  replace S2 := hide (S2.out.below hb)
  replace T2 := hide (T2.out.below hb)
  replace O1 := hide (O1.out.below hb)
  replace O2 := hide (O2.out.below hb)
  replace zr := Nat.lt_of_lt_of_le zr hb.size
  replace HB := hide (bl_trans HB.out hb)
  clear hb
  cases e3 : ftT ((subZ (mulZ x1 y2) (mulZ x2 y1)) / sgG (subZ (mulZ x1 y2) (mulZ x2 y1)) (mulZ y1 y2)) ((mulZ y1 y2) / sgG (subZ (mulZ x1 y2) (mulZ x2 y1)) (mulZ y1 y2)) with
  | false =>
    rw [ftV_f e3]
    have HE := hide ((ans_ft HT.out HY.out).trans e3)
    clear e3
    go_wp2
    refine bodyPost_ret (v := (.tuple #[.agg #[.bool false, .slice none 0 0, .bool false, .slice none 0 0], .bool false])) (by simp [results, Try.results23, go_sem, kr0, kr1, kr2, kr3]) rfl ?_
    simp only [nat_lms, mk_self]
    exact ans_no HE.out (by first | exact HB.out | exact set_four (N := w.heap.size + 1 + 1) (by omega) HB.out _ _ _ _)
  | true =>
  rw [ftV_t e3]
  have HE := hide ((ans_ft HT.out HY.out).trans e3)
  clear e3
  go_wp2
  refine bodyPost_ret (v := (.tuple #[Value.agg #[Value.bool (sgn ((subZ (mulZ x1 y2) (mulZ x2 y1)) / sgG (subZ (mulZ x1 y2) (mulZ x2 y1)) (mulZ y1 y2))), Value.slice d1 (lms ((subZ (mulZ x1 y2) (mulZ x2 y1)) / sgG (subZ (mulZ x1 y2) (mulZ x2 y1)) (mulZ y1 y2))).length f1, Value.bool (sgn ((mulZ y1 y2) / sgG (subZ (mulZ x1 y2) (mulZ x2 y1)) (mulZ y1 y2))), Value.slice d2 (lms ((mulZ y1 y2) / sgG (subZ (mulZ x1 y2) (mulZ x2 y1)) (mulZ y1 y2))).length f2], .bool true])) (by simp [results, Try.results23, go_sem, kr0, kr1, kr2, kr3]) rfl ?_
  obtain ⟨h1, h2, h3⟩ := fin_four (N := w.heap.size + 1 + 1) O1.out O2.out (by omega) (by omega) (by omega) HB.out (Value.bool (sgn ((subZ (mulZ x1 y2) (mulZ x2 y1)) / sgG (subZ (mulZ x1 y2) (mulZ x2 y1)) (mulZ y1 y2)))) (Value.slice d1 (lms ((subZ (mulZ x1 y2) (mulZ x2 y1)) / sgG (subZ (mulZ x1 y2) (mulZ x2 y1)) (mulZ y1 y2))).length f1) (Value.bool (sgn ((mulZ y1 y2) / sgG (subZ (mulZ x1 y2) (mulZ x2 y1)) (mulZ y1 y2)))) (Value.slice d2 (lms ((mulZ y1 y2) / sgG (subZ (mulZ x1 y2) (mulZ x2 y1)) (mulZ y1 y2))).length f2)
  simp only [nat_lms, mk_self]
  exact ans_yes HE.out h1 h2 HAP.out h3

set_option maxHeartbeats 4000000 in
theorem RatSubP (n1 : Bool) (xs1 : List Nat) (m1 : Bool) (ys1 : List Nat) (n2 : Bool) (xs2 : List Nat) (m2 : Bool) (ys2 : List Nat) (a1 : Option Addr) (c1 : Nat) (b1 : Option Addr) (e1 : Nat) (a2 : Option Addr) (c2 : Nat) (b2 : Option Addr) (e2 : Nat) (w : World)
    (s1 : Seg w a1 xs1.length c1 xs1) (t1 : Seg w b1 ys1.length e1 ys1) (s2 : Seg w a2 xs2.length c2 xs2) (t2 : Seg w b2 ys2.length e2 ys2) :
    Calls Try.prog 11 #[Value.agg #[Value.bool n1, Value.slice a1 xs1.length c1, Value.bool m1, Value.slice b1 ys1.length e1], Value.agg #[Value.bool n2, Value.slice a2 xs2.length c2, Value.bool m2, Value.slice b2 ys2.length e2]] w fun e w' => RatAns (ratB n1 xs1 m1 ys1 && ratB n2 xs2 m2 ys2) (subZ (mulZ (mk n1 (Num.nat xs1)) (mk m2 (Num.nat ys2))) (mulZ (mk n2 (Num.nat xs2)) (mk m1 (Num.nat ys1)))) (mulZ (mk m1 (Num.nat ys1)) (mk m2 (Num.nat ys2))) w w' e := by
  have hmf : ∀ (fn : Fn) (first cap : Array Value) (w : World), (Instr.makeFunc fn first cap).run Try.prog w = .ok (.func fn first cap) w := fun _ _ _ _ => rfl
  have ka0 : (((w.alloc (Obj.cells #[Value.bool n1, Value.slice a1 xs1.length c1, Value.bool m1, Value.slice b1 ys1.length e1] 28)).alloc (Obj.cells #[Value.bool n2, Value.slice a2 xs2.length c2, Value.bool m2, Value.slice b2 ys2.length e2] 28)).alloc (Obj.cells #[Value.bool false, Value.slice none 0 0, Value.bool false, Value.slice none 0 0] 28)).cell? ⟨w.heap.size, 0, none⟩ = some (Value.bool n1) := by go_simp
  have ka1 : (((w.alloc (Obj.cells #[Value.bool n1, Value.slice a1 xs1.length c1, Value.bool m1, Value.slice b1 ys1.length e1] 28)).alloc (Obj.cells #[Value.bool n2, Value.slice a2 xs2.length c2, Value.bool m2, Value.slice b2 ys2.length e2] 28)).alloc (Obj.cells #[Value.bool false, Value.slice none 0 0, Value.bool false, Value.slice none 0 0] 28)).cell? ⟨w.heap.size, 1, none⟩ = some (Value.slice a1 xs1.length c1) := by go_simp
  have ka2 : (((w.alloc (Obj.cells #[Value.bool n1, Value.slice a1 xs1.length c1, Value.bool m1, Value.slice b1 ys1.length e1] 28)).alloc (Obj.cells #[Value.bool n2, Value.slice a2 xs2.length c2, Value.bool m2, Value.slice b2 ys2.length e2] 28)).alloc (Obj.cells #[Value.bool false, Value.slice none 0 0, Value.bool false, Value.slice none 0 0] 28)).cell? ⟨w.heap.size, 2, none⟩ = some (Value.bool m1) := by go_simp
  have ka3 : (((w.alloc (Obj.cells #[Value.bool n1, Value.slice a1 xs1.length c1, Value.bool m1, Value.slice b1 ys1.length e1] 28)).alloc (Obj.cells #[Value.bool n2, Value.slice a2 xs2.length c2, Value.bool m2, Value.slice b2 ys2.length e2] 28)).alloc (Obj.cells #[Value.bool false, Value.slice none 0 0, Value.bool false, Value.slice none 0 0] 28)).cell? ⟨w.heap.size, 3, none⟩ = some (Value.slice b1 ys1.length e1) := by go_simp
  have kb0 : (((w.alloc (Obj.cells #[Value.bool n1, Value.slice a1 xs1.length c1, Value.bool m1, Value.slice b1 ys1.length e1] 28)).alloc (Obj.cells #[Value.bool n2, Value.slice a2 xs2.length c2, Value.bool m2, Value.slice b2 ys2.length e2] 28)).alloc (Obj.cells #[Value.bool false, Value.slice none 0 0, Value.bool false, Value.slice none 0 0] 28)).cell? ⟨w.heap.size + 1, 0, none⟩ = some (Value.bool n2) := by go_simp
  have kb1 : (((w.alloc (Obj.cells #[Value.bool n1, Value.slice a1 xs1.length c1, Value.bool m1, Value.slice b1 ys1.length e1] 28)).alloc (Obj.cells #[Value.bool n2, Value.slice a2 xs2.length c2, Value.bool m2, Value.slice b2 ys2.length e2] 28)).alloc (Obj.cells #[Value.bool false, Value.slice none 0 0, Value.bool false, Value.slice none 0 0] 28)).cell? ⟨w.heap.size + 1, 1, none⟩ = some (Value.slice a2 xs2.length c2) := by go_simp
  have kb2 : (((w.alloc (Obj.cells #[Value.bool n1, Value.slice a1 xs1.length c1, Value.bool m1, Value.slice b1 ys1.length e1] 28)).alloc (Obj.cells #[Value.bool n2, Value.slice a2 xs2.length c2, Value.bool m2, Value.slice b2 ys2.length e2] 28)).alloc (Obj.cells #[Value.bool false, Value.slice none 0 0, Value.bool false, Value.slice none 0 0] 28)).cell? ⟨w.heap.size + 1, 2, none⟩ = some (Value.bool m2) := by go_simp
  have kb3 : (((w.alloc (Obj.cells #[Value.bool n1, Value.slice a1 xs1.length c1, Value.bool m1, Value.slice b1 ys1.length e1] 28)).alloc (Obj.cells #[Value.bool n2, Value.slice a2 xs2.length c2, Value.bool m2, Value.slice b2 ys2.length e2] 28)).alloc (Obj.cells #[Value.bool false, Value.slice none 0 0, Value.bool false, Value.slice none 0 0] 28)).cell? ⟨w.heap.size + 1, 3, none⟩ = some (Value.slice b2 ys2.length e2) := by go_simp
  have kr0 : (((w.alloc (Obj.cells #[Value.bool n1, Value.slice a1 xs1.length c1, Value.bool m1, Value.slice b1 ys1.length e1] 28)).alloc (Obj.cells #[Value.bool n2, Value.slice a2 xs2.length c2, Value.bool m2, Value.slice b2 ys2.length e2] 28)).alloc (Obj.cells #[Value.bool false, Value.slice none 0 0, Value.bool false, Value.slice none 0 0] 28)).cell? ⟨w.heap.size + 1 + 1, 0, none⟩ = some (Value.bool false) := by go_simp
  have fr0 : (((w.alloc (Obj.cells #[Value.bool n1, Value.slice a1 xs1.length c1, Value.bool m1, Value.slice b1 ys1.length e1] 28)).alloc (Obj.cells #[Value.bool n2, Value.slice a2 xs2.length c2, Value.bool m2, Value.slice b2 ys2.length e2] 28)).alloc (Obj.cells #[Value.bool false, Value.slice none 0 0, Value.bool false, Value.slice none 0 0] 28)).frozen? ⟨w.heap.size + 1 + 1, 0, none⟩ = false := by go_simp
  have kr1 : (((w.alloc (Obj.cells #[Value.bool n1, Value.slice a1 xs1.length c1, Value.bool m1, Value.slice b1 ys1.length e1] 28)).alloc (Obj.cells #[Value.bool n2, Value.slice a2 xs2.length c2, Value.bool m2, Value.slice b2 ys2.length e2] 28)).alloc (Obj.cells #[Value.bool false, Value.slice none 0 0, Value.bool false, Value.slice none 0 0] 28)).cell? ⟨w.heap.size + 1 + 1, 1, none⟩ = some (Value.slice none 0 0) := by go_simp
  have fr1 : (((w.alloc (Obj.cells #[Value.bool n1, Value.slice a1 xs1.length c1, Value.bool m1, Value.slice b1 ys1.length e1] 28)).alloc (Obj.cells #[Value.bool n2, Value.slice a2 xs2.length c2, Value.bool m2, Value.slice b2 ys2.length e2] 28)).alloc (Obj.cells #[Value.bool false, Value.slice none 0 0, Value.bool false, Value.slice none 0 0] 28)).frozen? ⟨w.heap.size + 1 + 1, 1, none⟩ = false := by go_simp
  have kr2 : (((w.alloc (Obj.cells #[Value.bool n1, Value.slice a1 xs1.length c1, Value.bool m1, Value.slice b1 ys1.length e1] 28)).alloc (Obj.cells #[Value.bool n2, Value.slice a2 xs2.length c2, Value.bool m2, Value.slice b2 ys2.length e2] 28)).alloc (Obj.cells #[Value.bool false, Value.slice none 0 0, Value.bool false, Value.slice none 0 0] 28)).cell? ⟨w.heap.size + 1 + 1, 2, none⟩ = some (Value.bool false) := by go_simp
  have fr2 : (((w.alloc (Obj.cells #[Value.bool n1, Value.slice a1 xs1.length c1, Value.bool m1, Value.slice b1 ys1.length e1] 28)).alloc (Obj.cells #[Value.bool n2, Value.slice a2 xs2.length c2, Value.bool m2, Value.slice b2 ys2.length e2] 28)).alloc (Obj.cells #[Value.bool false, Value.slice none 0 0, Value.bool false, Value.slice none 0 0] 28)).frozen? ⟨w.heap.size + 1 + 1, 2, none⟩ = false := by go_simp
  have kr3 : (((w.alloc (Obj.cells #[Value.bool n1, Value.slice a1 xs1.length c1, Value.bool m1, Value.slice b1 ys1.length e1] 28)).alloc (Obj.cells #[Value.bool n2, Value.slice a2 xs2.length c2, Value.bool m2, Value.slice b2 ys2.length e2] 28)).alloc (Obj.cells #[Value.bool false, Value.slice none 0 0, Value.bool false, Value.slice none 0 0] 28)).cell? ⟨w.heap.size + 1 + 1, 3, none⟩ = some (Value.slice none 0 0) := by go_simp
  have fr3 : (((w.alloc (Obj.cells #[Value.bool n1, Value.slice a1 xs1.length c1, Value.bool m1, Value.slice b1 ys1.length e1] 28)).alloc (Obj.cells #[Value.bool n2, Value.slice a2 xs2.length c2, Value.bool m2, Value.slice b2 ys2.length e2] 28)).alloc (Obj.cells #[Value.bool false, Value.slice none 0 0, Value.bool false, Value.slice none 0 0] 28)).frozen? ⟨w.heap.size + 1 + 1, 3, none⟩ = false := by go_simp
  have zr : w.heap.size + 1 + 1 < (((w.alloc (Obj.cells #[Value.bool n1, Value.slice a1 xs1.length c1, Value.bool m1, Value.slice b1 ys1.length e1] 28)).alloc (Obj.cells #[Value.bool n2, Value.slice a2 xs2.length c2, Value.bool m2, Value.slice b2 ys2.length e2] 28)).alloc (Obj.cells #[Value.bool false, Value.slice none 0 0, Value.bool false, Value.slice none 0 0] 28)).heap.size := by simp only [World.size_alloc]; omega
  have HB := hide (bl_alloc (bl_alloc (bl_alloc (bl_refl w) (Obj.cells #[Value.bool n1, Value.slice a1 xs1.length c1, Value.bool m1, Value.slice b1 ys1.length e1] 28)) (Obj.cells #[Value.bool n2, Value.slice a2 xs2.length c2, Value.bool m2, Value.slice b2 ys2.length e2] 28)) (Obj.cells #[Value.bool false, Value.slice none 0 0, Value.bool false, Value.slice none 0 0] 28))
  have S1 := hide (s1.below HB.out)
  have T1 := hide (t1.below HB.out)
  have S2 := hide (s2.below HB.out)
  have T2 := hide (t2.below HB.out)
  clear s1
  clear t1
  clear s2
  clear t2
  go_enter Try.func11, Try.ntmps11
  go_wp2_with fail
  generalize (((w.alloc (Obj.cells #[Value.bool n1, Value.slice a1 xs1.length c1, Value.bool m1, Value.slice b1 ys1.length e1] 28)).alloc (Obj.cells #[Value.bool n2, Value.slice a2 xs2.length c2, Value.bool m2, Value.slice b2 ys2.length e2] 28)).alloc (Obj.cells #[Value.bool false, Value.slice none 0 0, Value.bool false, Value.slice none 0 0] 28)) = w1 at *
  have z0 := zr
  refine (recSub n1 xs1 m1 ys1 n2 xs2 m2 ys2 a1 c1 b1 e1 a2 c2 b2 e2 _ S1.out T1.out S2.out T2.out).mono ?_
  rintro e w2 ⟨d1, f1, d2, f2, rfl, ho1, ho2, hap, hb⟩
  have yw2 := hb.size
  replace ka0 := (hb.cell (p := ⟨w.heap.size, 0, none⟩) (by dsimp only; omega)).trans ka0
  replace ka1 := (hb.cell (p := ⟨w.heap.size, 1, none⟩) (by dsimp only; omega)).trans ka1
  replace ka2 := (hb.cell (p := ⟨w.heap.size, 2, none⟩) (by dsimp only; omega)).trans ka2
  replace ka3 := (hb.cell (p := ⟨w.heap.size, 3, none⟩) (by dsimp only; omega)).trans ka3
  replace kb0 := (hb.cell (p := ⟨w.heap.size + 1, 0, none⟩) (by dsimp only; omega)).trans kb0
  replace kb1 := (hb.cell (p := ⟨w.heap.size + 1, 1, none⟩) (by dsimp only; omega)).trans kb1
  replace kb2 := (hb.cell (p := ⟨w.heap.size + 1, 2, none⟩) (by dsimp only; omega)).trans kb2
  replace kb3 := (hb.cell (p := ⟨w.heap.size + 1, 3, none⟩) (by dsimp only; omega)).trans kb3
  replace kr0 := (hb.cell (p := ⟨w.heap.size + 1 + 1, 0, none⟩) (by dsimp only; omega)).trans kr0
  replace fr0 := (hb.frozen (p := ⟨w.heap.size + 1 + 1, 0, none⟩) (by dsimp only; omega)).trans fr0
  replace kr1 := (hb.cell (p := ⟨w.heap.size + 1 + 1, 1, none⟩) (by dsimp only; omega)).trans kr1
  replace fr1 := (hb.frozen (p := ⟨w.heap.size + 1 + 1, 1, none⟩) (by dsimp only; omega)).trans fr1
  replace kr2 := (hb.cell (p := ⟨w.heap.size + 1 + 1, 2, none⟩) (by dsimp only; omega)).trans kr2
  replace fr2 := (hb.frozen (p := ⟨w.heap.size + 1 + 1, 2, none⟩) (by dsimp only; omega)).trans fr2
  replace kr3 := (hb.cell (p := ⟨w.heap.size + 1 + 1, 3, none⟩) (by dsimp only; omega)).trans kr3
  replace fr3 := (hb.frozen (p := ⟨w.heap.size + 1 + 1, 3, none⟩) (by dsimp only; omega)).trans fr3
  replace S1 := hide (S1.out.below hb)
  replace T1 := hide (T1.out.below hb)
  replace S2 := hide (S2.out.below hb)
  replace T2 := hide (T2.out.below hb)
  replace zr := Nat.lt_of_lt_of_le zr hb.size
  replace HB := hide (bl_trans HB.out hb)
  clear hb
  have HO1 := hide ho1
  have HO2 := hide ho2
  have HAP := hide hap
  clear ho1 ho2 hap
  generalize hN : rtN (ratB n1 xs1 m1 ys1 && ratB n2 xs2 m2 ys2) (subZ (mulZ (mk n1 (Num.nat xs1)) (mk m2 (Num.nat ys2))) (mulZ (mk n2 (Num.nat xs2)) (mk m1 (Num.nat ys1)))) (mulZ (mk m1 (Num.nat ys1)) (mk m2 (Num.nat ys2))) = N at *
  generalize hD : rtD (ratB n1 xs1 m1 ys1 && ratB n2 xs2 m2 ys2) (subZ (mulZ (mk n1 (Num.nat xs1)) (mk m2 (Num.nat ys2))) (mulZ (mk n2 (Num.nat xs2)) (mk m1 (Num.nat ys1)))) (mulZ (mk m1 (Num.nat ys1)) (mk m2 (Num.nat ys2))) = D at *
  generalize hT : rtT (ratB n1 xs1 m1 ys1 && ratB n2 xs2 m2 ys2) (subZ (mulZ (mk n1 (Num.nat xs1)) (mk m2 (Num.nat ys2))) (mulZ (mk n2 (Num.nat xs2)) (mk m1 (Num.nat ys1)))) (mulZ (mk m1 (Num.nat ys1)) (mk m2 (Num.nat ys2))) = T at *
  have HN := hide hN
  have HD := hide hD
  have HTT := hide hT
  clear hN hD hT
  go_wp2
  refine bodyPost_ret (v := (.tuple #[Value.agg #[Value.bool (sgn N), Value.slice d1 (lms N).length f1, Value.bool (sgn D), Value.slice d2 (lms D).length f2], .bool T])) (by simp [results, Try.results11, go_sem, kr0, kr1, kr2, kr3]) rfl ?_
  obtain ⟨h1, h2, h3⟩ := fin_four (N := w.heap.size + 1 + 1) HO1.out HO2.out (by omega) (by omega) (by omega) HB.out (Value.bool (sgn N)) (Value.slice d1 (lms N).length f1) (Value.bool (sgn D)) (Value.slice d2 (lms D).length f2)
  unfold RatAns
  rw [HN.out, HD.out, HTT.out]
  exact ⟨d1, f1, d2, f2, rfl, h1, h2, HAP.out, h3⟩


end Go.Proofs.Ytpjckilmbidbgaa
