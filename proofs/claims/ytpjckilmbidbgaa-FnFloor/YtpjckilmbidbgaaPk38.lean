/- My texts RCmp, in this order. -/
import Derived.Test.YtpjckilmbidbgaaPk37
/- The walks of both RatCmp. -/
namespace Go.Proofs.Ytpjckilmbidbgaa
open Go.RowKit
set_option linter.unusedVariables false

/-- a right fraction as two numbers -/
theorem rat_num {n m : Bool} {xs ys : List Nat} (h1 : Num.Small xs) (h2 : Num.Small ys) (h : ratB n xs m ys = true) : ∃ x y : Int, n = sgn x ∧ xs = lms x ∧ m = sgn y ∧ ys = lms y ∧ x.natAbs < 4294967296 ^ 40 ∧ y.natAbs < 4294967296 ^ 40 ∧ 0 < y ∧ Int.gcd x y = 1 := by
  unfold ratB at h
  simp only [Bool.and_eq_true, decide_eq_true_eq] at h
  obtain ⟨x, rfl, rfl, hx⟩ := ok_num h1 h.1.1
  obtain ⟨y, rfl, rfl, hy⟩ := ok_num h2 h.1.2
  rw [nat_lms, nat_lms, mk_self, mk_self] at h
  exact ⟨x, y, rfl, rfl, rfl, rfl, hx, hy, h.2.1, h.2.2⟩
/-- the answer of RatCmp -/
def rcZ (n1 : Bool) (xs1 : List Nat) (m1 : Bool) (ys1 : List Nat) (n2 : Bool) (xs2 : List Nat) (m2 : Bool) (ys2 : List Nat) : Int :=
  if (ratB n1 xs1 m1 ys1 && ratB n2 xs2 m2 ys2) = true then cmpZ (mulZ (mk n1 (Num.nat xs1)) (mk m2 (Num.nat ys2))) (mulZ (mk n2 (Num.nat xs2)) (mk m1 (Num.nat ys1))) else 2

set_option maxHeartbeats 4000000 in
theorem cmpRatI (x1 y1 x2 y2 : Int) (a1 : Option Addr) (c1 : Nat) (b1 : Option Addr) (e1 : Nat) (a2 : Option Addr) (c2 : Nat) (b2 : Option Addr) (e2 : Nat) (w : World) (hx1 : x1.natAbs < 4294967296 ^ 40) (hy1 : y1.natAbs < 4294967296 ^ 40) (hx2 : x2.natAbs < 4294967296 ^ 40) (hy2 : y2.natAbs < 4294967296 ^ 40)
    (s1 : Seg w a1 (lms x1).length c1 (lms x1)) (t1 : Seg w b1 (lms y1).length e1 (lms y1)) (s2 : Seg w a2 (lms x2).length c2 (lms x2)) (t2 : Seg w b2 (lms y2).length e2 (lms y2)) :
    Calls Try.prog 45 #[Value.agg #[Value.bool (sgn x1), Value.slice a1 (lms x1).length c1, Value.bool (sgn y1), Value.slice b1 (lms y1).length e1], Value.agg #[Value.bool (sgn x2), Value.slice a2 (lms x2).length c2, Value.bool (sgn y2), Value.slice b2 (lms y2).length e2]] w fun e w' => e = .returned (.int .i64 (cmpZ (mulZ x1 y2) (mulZ x2 y1))) ∧ Below w.heap.size w w' := by
  have ka0 : ((w.alloc (Obj.cells #[Value.bool (sgn x1), Value.slice a1 (lms x1).length c1, Value.bool (sgn y1), Value.slice b1 (lms y1).length e1] 28)).alloc (Obj.cells #[Value.bool (sgn x2), Value.slice a2 (lms x2).length c2, Value.bool (sgn y2), Value.slice b2 (lms y2).length e2] 28)).cell? ⟨w.heap.size, 0, none⟩ = some (Value.bool (sgn x1)) := by go_simp
  have ka1 : ((w.alloc (Obj.cells #[Value.bool (sgn x1), Value.slice a1 (lms x1).length c1, Value.bool (sgn y1), Value.slice b1 (lms y1).length e1] 28)).alloc (Obj.cells #[Value.bool (sgn x2), Value.slice a2 (lms x2).length c2, Value.bool (sgn y2), Value.slice b2 (lms y2).length e2] 28)).cell? ⟨w.heap.size, 1, none⟩ = some (Value.slice a1 (lms x1).length c1) := by go_simp
  have ka2 : ((w.alloc (Obj.cells #[Value.bool (sgn x1), Value.slice a1 (lms x1).length c1, Value.bool (sgn y1), Value.slice b1 (lms y1).length e1] 28)).alloc (Obj.cells #[Value.bool (sgn x2), Value.slice a2 (lms x2).length c2, Value.bool (sgn y2), Value.slice b2 (lms y2).length e2] 28)).cell? ⟨w.heap.size, 2, none⟩ = some (Value.bool (sgn y1)) := by go_simp
  have ka3 : ((w.alloc (Obj.cells #[Value.bool (sgn x1), Value.slice a1 (lms x1).length c1, Value.bool (sgn y1), Value.slice b1 (lms y1).length e1] 28)).alloc (Obj.cells #[Value.bool (sgn x2), Value.slice a2 (lms x2).length c2, Value.bool (sgn y2), Value.slice b2 (lms y2).length e2] 28)).cell? ⟨w.heap.size, 3, none⟩ = some (Value.slice b1 (lms y1).length e1) := by go_simp
  have za : w.heap.size < ((w.alloc (Obj.cells #[Value.bool (sgn x1), Value.slice a1 (lms x1).length c1, Value.bool (sgn y1), Value.slice b1 (lms y1).length e1] 28)).alloc (Obj.cells #[Value.bool (sgn x2), Value.slice a2 (lms x2).length c2, Value.bool (sgn y2), Value.slice b2 (lms y2).length e2] 28)).heap.size := by simp only [World.size_alloc]; omega
  have kb0 : ((w.alloc (Obj.cells #[Value.bool (sgn x1), Value.slice a1 (lms x1).length c1, Value.bool (sgn y1), Value.slice b1 (lms y1).length e1] 28)).alloc (Obj.cells #[Value.bool (sgn x2), Value.slice a2 (lms x2).length c2, Value.bool (sgn y2), Value.slice b2 (lms y2).length e2] 28)).cell? ⟨w.heap.size + 1, 0, none⟩ = some (Value.bool (sgn x2)) := by go_simp
  have kb1 : ((w.alloc (Obj.cells #[Value.bool (sgn x1), Value.slice a1 (lms x1).length c1, Value.bool (sgn y1), Value.slice b1 (lms y1).length e1] 28)).alloc (Obj.cells #[Value.bool (sgn x2), Value.slice a2 (lms x2).length c2, Value.bool (sgn y2), Value.slice b2 (lms y2).length e2] 28)).cell? ⟨w.heap.size + 1, 1, none⟩ = some (Value.slice a2 (lms x2).length c2) := by go_simp
  have kb2 : ((w.alloc (Obj.cells #[Value.bool (sgn x1), Value.slice a1 (lms x1).length c1, Value.bool (sgn y1), Value.slice b1 (lms y1).length e1] 28)).alloc (Obj.cells #[Value.bool (sgn x2), Value.slice a2 (lms x2).length c2, Value.bool (sgn y2), Value.slice b2 (lms y2).length e2] 28)).cell? ⟨w.heap.size + 1, 2, none⟩ = some (Value.bool (sgn y2)) := by go_simp
  have kb3 : ((w.alloc (Obj.cells #[Value.bool (sgn x1), Value.slice a1 (lms x1).length c1, Value.bool (sgn y1), Value.slice b1 (lms y1).length e1] 28)).alloc (Obj.cells #[Value.bool (sgn x2), Value.slice a2 (lms x2).length c2, Value.bool (sgn y2), Value.slice b2 (lms y2).length e2] 28)).cell? ⟨w.heap.size + 1, 3, none⟩ = some (Value.slice b2 (lms y2).length e2) := by go_simp
  have zb : w.heap.size + 1 < ((w.alloc (Obj.cells #[Value.bool (sgn x1), Value.slice a1 (lms x1).length c1, Value.bool (sgn y1), Value.slice b1 (lms y1).length e1] 28)).alloc (Obj.cells #[Value.bool (sgn x2), Value.slice a2 (lms x2).length c2, Value.bool (sgn y2), Value.slice b2 (lms y2).length e2] 28)).heap.size := by simp only [World.size_alloc]; omega
  have HB := hide (bl_alloc (bl_alloc (bl_refl w) (Obj.cells #[Value.bool (sgn x1), Value.slice a1 (lms x1).length c1, Value.bool (sgn y1), Value.slice b1 (lms y1).length e1] 28)) (Obj.cells #[Value.bool (sgn x2), Value.slice a2 (lms x2).length c2, Value.bool (sgn y2), Value.slice b2 (lms y2).length e2] 28))
  have S1 := hide (s1.below HB.out)
  have T1 := hide (t1.below HB.out)
  have S2 := hide (s2.below HB.out)
  have T2 := hide (t2.below HB.out)
  have X1 := hide hx1
  have Y1 := hide hy1
  have X2 := hide hx2
  have Y2 := hide hy2
  clear s1 t1 s2 t2 hx1 hy1 hx2 hy2
  go_enter Try.func45, Try.ntmps45
  go_wp2_with fail
  generalize ((w.alloc (Obj.cells #[Value.bool (sgn x1), Value.slice a1 (lms x1).length c1, Value.bool (sgn y1), Value.slice b1 (lms y1).length e1] 28)).alloc (Obj.cells #[Value.bool (sgn x2), Value.slice a2 (lms x2).length c2, Value.bool (sgn y2), Value.slice b2 (lms y2).length e2] 28)) = w1 at *
  have KP : Hid (∀ w', Below w1.heap.size w1 w' → (w'.cell? ⟨w.heap.size, 0, none⟩ = some (Value.bool (sgn x1)) ∧ w'.cell? ⟨w.heap.size, 1, none⟩ = some (Value.slice a1 (lms x1).length c1) ∧ w'.cell? ⟨w.heap.size, 2, none⟩ = some (Value.bool (sgn y1)) ∧ w'.cell? ⟨w.heap.size, 3, none⟩ = some (Value.slice b1 (lms y1).length e1) ∧ w'.cell? ⟨w.heap.size + 1, 0, none⟩ = some (Value.bool (sgn x2)) ∧ w'.cell? ⟨w.heap.size + 1, 1, none⟩ = some (Value.slice a2 (lms x2).length c2) ∧ w'.cell? ⟨w.heap.size + 1, 2, none⟩ = some (Value.bool (sgn y2)) ∧ w'.cell? ⟨w.heap.size + 1, 3, none⟩ = some (Value.slice b2 (lms y2).length e2))) := hide (fun w' hb => ⟨(hb.cell (p := ⟨w.heap.size, 0, none⟩) za).trans ka0, (hb.cell (p := ⟨w.heap.size, 1, none⟩) za).trans ka1, (hb.cell (p := ⟨w.heap.size, 2, none⟩) za).trans ka2, (hb.cell (p := ⟨w.heap.size, 3, none⟩) za).trans ka3, (hb.cell (p := ⟨w.heap.size + 1, 0, none⟩) zb).trans kb0, (hb.cell (p := ⟨w.heap.size + 1, 1, none⟩) zb).trans kb1, (hb.cell (p := ⟨w.heap.size + 1, 2, none⟩) zb).trans kb2, (hb.cell (p := ⟨w.heap.size + 1, 3, none⟩) zb).trans kb3⟩)
  go_region_held3 (fun w' => w'.cell? ⟨w.heap.size, 0, none⟩ = some (Value.bool (sgn x1)) ∧ w'.cell? ⟨w.heap.size, 1, none⟩ = some (Value.slice a1 (lms x1).length c1) ∧ w'.cell? ⟨w.heap.size, 2, none⟩ = some (Value.bool (sgn y1)) ∧ w'.cell? ⟨w.heap.size, 3, none⟩ = some (Value.slice b1 (lms y1).length e1) ∧ w'.cell? ⟨w.heap.size + 1, 0, none⟩ = some (Value.bool (sgn x2)) ∧ w'.cell? ⟨w.heap.size + 1, 1, none⟩ = some (Value.slice a2 (lms x2).length c2) ∧ w'.cell? ⟨w.heap.size + 1, 2, none⟩ = some (Value.bool (sgn y2)) ∧ w'.cell? ⟨w.heap.size + 1, 3, none⟩ = some (Value.slice b2 (lms y2).length e2))
    (first | with_reducible exact KP.out _ (bl_refl w1).drew | with_reducible exact KP.out _ hbC | with_reducible exact KP.out _ hbB | with_reducible exact KP.out _ hbA)
    (first
      | (go_at_call 65; refine (cmpBI vA vB (mulZ x1 y2) (mulZ x2 y1) _ (hnA.is.below hbBr) hnB.is).mono ?_; rintro e wC ⟨rfl, hbCr⟩; have hbC : Below w1.heap.size w1 wC := bl_trans hbB hbCr)
      | (have hq := hbA; go_at_call 52; refine (prodZ _ _ x2 y1 _ ⟨a2, c2, rfl, S2.out.below hbA⟩ ⟨b1, e1, rfl, T1.out.below hbA⟩ X2.out Y1.out).mono ?_; rintro e wB ⟨vB, rfl, hnB, hbBr⟩; have hbB : Below w1.heap.size w1 wB := bl_trans hbA hbBr; clear hq)
      | (go_at_call 52; refine (prodZ _ _ x1 y2 _ ⟨a1, c1, rfl, S1.out.below (bl_refl w1).drew⟩ ⟨b2, e2, rfl, T2.out.below (bl_refl w1).drew⟩ X1.out Y2.out).mono ?_; rintro e wA ⟨vA, rfl, hnA, hbAr⟩; have hbA : Below w1.heap.size w1 wA := (bl_refl w1).drew.trans hbAr))
  replace HB := hide (bl_trans HB.out hbC)
  clear KP hbA hbAr hbB hbBr hbC hbCr hnA hnB
  go_wp2
  go_ret
  exact ⟨rfl, HB.out⟩

set_option maxHeartbeats 4000000 in
theorem RatCmpI (n1 : Bool) (xs1 : List Nat) (m1 : Bool) (ys1 : List Nat) (n2 : Bool) (xs2 : List Nat) (m2 : Bool) (ys2 : List Nat) (a1 : Option Addr) (c1 : Nat) (b1 : Option Addr) (e1 : Nat) (a2 : Option Addr) (c2 : Nat) (b2 : Option Addr) (e2 : Nat) (w : World)
    (s1 : Seg w a1 xs1.length c1 xs1) (t1 : Seg w b1 ys1.length e1 ys1) (s2 : Seg w a2 xs2.length c2 xs2) (t2 : Seg w b2 ys2.length e2 ys2) :
    Calls Try.prog 20 #[Value.agg #[Value.bool n1, Value.slice a1 xs1.length c1, Value.bool m1, Value.slice b1 ys1.length e1], Value.agg #[Value.bool n2, Value.slice a2 xs2.length c2, Value.bool m2, Value.slice b2 ys2.length e2]] w fun e w' => e = .returned (.int .i64 (rcZ n1 xs1 m1 ys1 n2 xs2 m2 ys2)) ∧ Below w.heap.size w w' := by
  have ka0 : ((w.alloc (Obj.cells #[Value.bool n1, Value.slice a1 xs1.length c1, Value.bool m1, Value.slice b1 ys1.length e1] 28)).alloc (Obj.cells #[Value.bool n2, Value.slice a2 xs2.length c2, Value.bool m2, Value.slice b2 ys2.length e2] 28)).cell? ⟨w.heap.size, 0, none⟩ = some (Value.bool n1) := by go_simp
  have ka1 : ((w.alloc (Obj.cells #[Value.bool n1, Value.slice a1 xs1.length c1, Value.bool m1, Value.slice b1 ys1.length e1] 28)).alloc (Obj.cells #[Value.bool n2, Value.slice a2 xs2.length c2, Value.bool m2, Value.slice b2 ys2.length e2] 28)).cell? ⟨w.heap.size, 1, none⟩ = some (Value.slice a1 xs1.length c1) := by go_simp
  have ka2 : ((w.alloc (Obj.cells #[Value.bool n1, Value.slice a1 xs1.length c1, Value.bool m1, Value.slice b1 ys1.length e1] 28)).alloc (Obj.cells #[Value.bool n2, Value.slice a2 xs2.length c2, Value.bool m2, Value.slice b2 ys2.length e2] 28)).cell? ⟨w.heap.size, 2, none⟩ = some (Value.bool m1) := by go_simp
  have ka3 : ((w.alloc (Obj.cells #[Value.bool n1, Value.slice a1 xs1.length c1, Value.bool m1, Value.slice b1 ys1.length e1] 28)).alloc (Obj.cells #[Value.bool n2, Value.slice a2 xs2.length c2, Value.bool m2, Value.slice b2 ys2.length e2] 28)).cell? ⟨w.heap.size, 3, none⟩ = some (Value.slice b1 ys1.length e1) := by go_simp
  have za : w.heap.size < ((w.alloc (Obj.cells #[Value.bool n1, Value.slice a1 xs1.length c1, Value.bool m1, Value.slice b1 ys1.length e1] 28)).alloc (Obj.cells #[Value.bool n2, Value.slice a2 xs2.length c2, Value.bool m2, Value.slice b2 ys2.length e2] 28)).heap.size := by simp only [World.size_alloc]; omega
  have kb0 : ((w.alloc (Obj.cells #[Value.bool n1, Value.slice a1 xs1.length c1, Value.bool m1, Value.slice b1 ys1.length e1] 28)).alloc (Obj.cells #[Value.bool n2, Value.slice a2 xs2.length c2, Value.bool m2, Value.slice b2 ys2.length e2] 28)).cell? ⟨w.heap.size + 1, 0, none⟩ = some (Value.bool n2) := by go_simp
  have kb1 : ((w.alloc (Obj.cells #[Value.bool n1, Value.slice a1 xs1.length c1, Value.bool m1, Value.slice b1 ys1.length e1] 28)).alloc (Obj.cells #[Value.bool n2, Value.slice a2 xs2.length c2, Value.bool m2, Value.slice b2 ys2.length e2] 28)).cell? ⟨w.heap.size + 1, 1, none⟩ = some (Value.slice a2 xs2.length c2) := by go_simp
  have kb2 : ((w.alloc (Obj.cells #[Value.bool n1, Value.slice a1 xs1.length c1, Value.bool m1, Value.slice b1 ys1.length e1] 28)).alloc (Obj.cells #[Value.bool n2, Value.slice a2 xs2.length c2, Value.bool m2, Value.slice b2 ys2.length e2] 28)).cell? ⟨w.heap.size + 1, 2, none⟩ = some (Value.bool m2) := by go_simp
  have kb3 : ((w.alloc (Obj.cells #[Value.bool n1, Value.slice a1 xs1.length c1, Value.bool m1, Value.slice b1 ys1.length e1] 28)).alloc (Obj.cells #[Value.bool n2, Value.slice a2 xs2.length c2, Value.bool m2, Value.slice b2 ys2.length e2] 28)).cell? ⟨w.heap.size + 1, 3, none⟩ = some (Value.slice b2 ys2.length e2) := by go_simp
  have zb : w.heap.size + 1 < ((w.alloc (Obj.cells #[Value.bool n1, Value.slice a1 xs1.length c1, Value.bool m1, Value.slice b1 ys1.length e1] 28)).alloc (Obj.cells #[Value.bool n2, Value.slice a2 xs2.length c2, Value.bool m2, Value.slice b2 ys2.length e2] 28)).heap.size := by simp only [World.size_alloc]; omega
  have HB := hide (bl_alloc (bl_alloc (bl_refl w) (Obj.cells #[Value.bool n1, Value.slice a1 xs1.length c1, Value.bool m1, Value.slice b1 ys1.length e1] 28)) (Obj.cells #[Value.bool n2, Value.slice a2 xs2.length c2, Value.bool m2, Value.slice b2 ys2.length e2] 28))
  have G1 := hide s1.2.2.2.1
  have G2 := hide t1.2.2.2.1
  have G3 := hide s2.2.2.2.1
  have G4 := hide t2.2.2.2.1
  have S1 := hide (s1.below HB.out)
  have T1 := hide (t1.below HB.out)
  have S2 := hide (s2.below HB.out)
  have T2 := hide (t2.below HB.out)
  clear s1 t1 s2 t2
  go_enter Try.func20, Try.ntmps20
  go_wp2_with fail
  generalize ((w.alloc (Obj.cells #[Value.bool n1, Value.slice a1 xs1.length c1, Value.bool m1, Value.slice b1 ys1.length e1] 28)).alloc (Obj.cells #[Value.bool n2, Value.slice a2 xs2.length c2, Value.bool m2, Value.slice b2 ys2.length e2] 28)) = w1 at *
  refine (rightI n1 xs1 m1 ys1 a1 c1 b1 e1 _ S1.out T1.out).mono ?_
  rintro e w2 ⟨rfl, hb⟩
  replace ka0 := (hb.cell (p := ⟨w.heap.size, 0, none⟩) za).trans ka0
  replace ka1 := (hb.cell (p := ⟨w.heap.size, 1, none⟩) za).trans ka1
  replace ka2 := (hb.cell (p := ⟨w.heap.size, 2, none⟩) za).trans ka2
  replace ka3 := (hb.cell (p := ⟨w.heap.size, 3, none⟩) za).trans ka3
  replace za := Nat.lt_of_lt_of_le za hb.size
  replace kb0 := (hb.cell (p := ⟨w.heap.size + 1, 0, none⟩) zb).trans kb0
  replace kb1 := (hb.cell (p := ⟨w.heap.size + 1, 1, none⟩) zb).trans kb1
  replace kb2 := (hb.cell (p := ⟨w.heap.size + 1, 2, none⟩) zb).trans kb2
  replace kb3 := (hb.cell (p := ⟨w.heap.size + 1, 3, none⟩) zb).trans kb3
  replace zb := Nat.lt_of_lt_of_le zb hb.size
  replace S1 := hide (S1.out.below hb)
  replace T1 := hide (T1.out.below hb)
  replace S2 := hide (S2.out.below hb)
  replace T2 := hide (T2.out.below hb)
  replace HB := hide (bl_trans HB.out hb)
  clear hb
  cases h1 : ratB n1 xs1 m1 ys1 with
  | false =>
    have HZ : Hid (rcZ n1 xs1 m1 ys1 n2 xs2 m2 ys2 = 2) := hide (by unfold rcZ; rw [h1]; rfl)
    clear h1
    go_wp2
    go_ret
    exact ⟨ret_int HZ.out.symm, HB.out⟩
  | true =>
  have R1 := hide h1
  clear h1
  go_wp2_with fail
  refine (rightI n2 xs2 m2 ys2 a2 c2 b2 e2 _ S2.out T2.out).mono ?_
  rintro e w3 ⟨rfl, hb⟩
  replace ka0 := (hb.cell (p := ⟨w.heap.size, 0, none⟩) za).trans ka0
  replace ka1 := (hb.cell (p := ⟨w.heap.size, 1, none⟩) za).trans ka1
  replace ka2 := (hb.cell (p := ⟨w.heap.size, 2, none⟩) za).trans ka2
  replace ka3 := (hb.cell (p := ⟨w.heap.size, 3, none⟩) za).trans ka3
  replace za := Nat.lt_of_lt_of_le za hb.size
  replace kb0 := (hb.cell (p := ⟨w.heap.size + 1, 0, none⟩) zb).trans kb0
  replace kb1 := (hb.cell (p := ⟨w.heap.size + 1, 1, none⟩) zb).trans kb1
  replace kb2 := (hb.cell (p := ⟨w.heap.size + 1, 2, none⟩) zb).trans kb2
  replace kb3 := (hb.cell (p := ⟨w.heap.size + 1, 3, none⟩) zb).trans kb3
  replace zb := Nat.lt_of_lt_of_le zb hb.size
  replace S1 := hide (S1.out.below hb)
  replace T1 := hide (T1.out.below hb)
  replace S2 := hide (S2.out.below hb)
  replace T2 := hide (T2.out.below hb)
  replace HB := hide (bl_trans HB.out hb)
  clear hb
  cases h2 : ratB n2 xs2 m2 ys2 with
  | false =>
    have HZ : Hid (rcZ n1 xs1 m1 ys1 n2 xs2 m2 ys2 = 2) := hide (by unfold rcZ; rw [h2, Bool.and_false]; rfl)
    clear h2
    go_wp2
    go_ret
    exact ⟨ret_int HZ.out.symm, HB.out⟩
  | true =>
  have R2 := hide h2
  clear h2
  go_wp2_with fail
  have HZ : Hid (rcZ n1 xs1 m1 ys1 n2 xs2 m2 ys2 = cmpZ (mulZ (mk n1 (Num.nat xs1)) (mk m2 (Num.nat ys2))) (mulZ (mk n2 (Num.nat xs2)) (mk m1 (Num.nat ys1)))) := hide (by unfold rcZ; rw [R1.out, R2.out]; rfl)
  obtain ⟨x1, y1, rfl, rfl, rfl, rfl, hx1, hy1, -⟩ := rat_num G1.out G2.out R1.out
  obtain ⟨x2, y2, rfl, rfl, rfl, rfl, hx2, hy2, -⟩ := rat_num G3.out G4.out R2.out
  rw [nat_lms, nat_lms, nat_lms, nat_lms, mk_self, mk_self, mk_self, mk_self] at HZ
  refine (cmpRatI x1 y1 x2 y2 a1 c1 b1 e1 a2 c2 b2 e2 _ hx1 hy1 hx2 hy2 S1.out T1.out S2.out T2.out).mono ?_
  rintro e w4 ⟨rfl, hb⟩
  replace HB := hide (bl_trans HB.out hb)
  clear hb hx1 hy1 hx2 hy2 R1 R2 G1 G2 G3 G4
  go_wp2
  go_ret
  exact ⟨ret_int HZ.out.symm, HB.out⟩

end Go.Proofs.Ytpjckilmbidbgaa
