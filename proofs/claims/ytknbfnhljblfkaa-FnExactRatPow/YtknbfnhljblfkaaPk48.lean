/- My texts RCmp, ShortR, MakeR, FitR, MRat, RSt, RTopL, in this order. -/
import Derived.Test.YtknbfnhljblfkaaPk47
/- The walks of both RatCmp. -/
namespace Go.Proofs.Ytknbfnhljblfkaa
open Go.RowKit
set_option linter.unusedVariables false

/-- a right fraction as two numbers -/
theorem rat_num {n m : Bool} {xs ys : List Nat} (h1 : Num.Small xs) (h2 : Num.Small ys) (h : ratB n xs m ys = true) : ∃ x y : Int, n = sgn x ∧ xs = lms x ∧ m = sgn y ∧ ys = lms y ∧ x.natAbs < 4294967296 ^ 40 ∧ y.natAbs < 4294967296 ^ 40 ∧ 0 < y ∧ Int.gcd x y = 1 := by
  unfold ratB at h
  simp only [Bool.and_eq_true, decide_eq_true_eq] at h
  obtain ⟨x, rfl, rfl, hx⟩ := ok_num h1 h.1.1
  obtain ⟨y, rfl, rfl, hy⟩ := ok_num h2 h.1.2
  rw [nat_lms, nat_lms, mk_self, mk_self] at h
  exact ⟨x, y, rfl, rfl, rfl, rfl, hx, hy, h.2.1, h.2.2⟩
/-- the answer of RatCmp -/
def rcZ (n1 : Bool) (xs1 : List Nat) (m1 : Bool) (ys1 : List Nat) (n2 : Bool) (xs2 : List Nat) (m2 : Bool) (ys2 : List Nat) : Int :=
  if (ratB n1 xs1 m1 ys1 && ratB n2 xs2 m2 ys2) = true then cmpZ (mulZ (mk n1 (Num.nat xs1)) (mk m2 (Num.nat ys2))) (mulZ (mk n2 (Num.nat xs2)) (mk m1 (Num.nat ys1))) else 2

end Go.Proofs.Ytknbfnhljblfkaa

/- The walk of the program's shortened. -/
namespace Go.Proofs.Ytknbfnhljblfkaa
open Go.RowKit
set_option linter.unusedVariables false

/-- what two numbers share, with the sign of the second -/
def sgG (x y : Int) : Int := if y < 0 then -(Int.gcd x y : Int) else (Int.gcd x y : Int)
theorem limbs_mono {m n : Nat} (h : m ≤ n) : (Num.limbs m).length ≤ (Num.limbs n).length := Num.limbs_len.2 (Nat.lt_of_le_of_lt h (Num.limbs_len.1 (Nat.le_refl _)))
theorem sgG_facts {x y G : Int} (hy : y ≠ 0) (e : sgG x y = G) (l : (lms y).length ≤ 100000) : G ≠ 0 ∧ sgn y = sgn G ∧ lms ((Int.gcd x y : Nat) : Int) = lms G ∧ (lms G).length ≤ 100000 := by
  have hp : 0 < Int.gcd x y := Nat.pos_of_ne_zero (fun h => hy (Int.gcd_eq_zero_iff.1 h).2)
  have ha : G.natAbs = Int.gcd x y := by unfold sgG at e; split at e <;> omega
  have hle : Int.gcd x y ≤ y.natAbs := Nat.le_of_dvd (by omega) (Nat.gcd_dvd_right _ _)
  refine ⟨by omega, ?_, ?_, ?_⟩
  · unfold sgn; unfold sgG at e; split at e
    · rw [decide_eq_true (by omega), decide_eq_true (by omega)]
    · rw [decide_eq_false (by omega), decide_eq_false (by omega)]
  · unfold lms; rw [ha]; rfl
  · unfold lms; rw [ha]; exact Nat.le_trans (limbs_mono hle) l

theorem apart_two {W W' : World} {b n m c c' : Nat} {a a' : Option Addr} {xs ys : List Nat} (h : Own W b a n c xs) (h' : Own W' W.heap.size a' m c' ys) : Apart a a' := by
  rcases h.cases with ⟨rfl, _⟩ | ⟨g, rfl, _, h2⟩
  · exact Apart.none _
  · rcases h'.cases with ⟨rfl, _⟩ | ⟨g', rfl, h3, _⟩
    · exact Apart.none' _
    · exact Apart.blocks (by omega)

end Go.Proofs.Ytknbfnhljblfkaa

/- The walk of the specification's l03Make. -/
namespace Go.Proofs.Ytknbfnhljblfkaa
open Go.RowKit
set_option linter.unusedVariables false

theorem fin_four {w w1 : World} {N b1 b2 n1 c1 n2 c2 : Nat} {a1 a2 : Option Addr} {xs1 xs2 : List Nat} (h1 : Own w1 b1 a1 n1 c1 xs1) (h2 : Own w1 b2 a2 n2 c2 xs2) (hN : N < b1) (hM : N < b2) (wN : w.heap.size ≤ N) (hb : Below w.heap.size w w1) (x y z t : Value) :
    Own ((((w1.setCell ⟨N, 0, none⟩ x).setCell ⟨N, 1, none⟩ y).setCell ⟨N, 2, none⟩ z).setCell ⟨N, 3, none⟩ t) w.heap.size a1 n1 c1 xs1 ∧ Own ((((w1.setCell ⟨N, 0, none⟩ x).setCell ⟨N, 1, none⟩ y).setCell ⟨N, 2, none⟩ z).setCell ⟨N, 3, none⟩ t) w.heap.size a2 n2 c2 xs2 ∧ Below w.heap.size w ((((w1.setCell ⟨N, 0, none⟩ x).setCell ⟨N, 1, none⟩ y).setCell ⟨N, 2, none⟩ z).setCell ⟨N, 3, none⟩ t) :=
  ⟨(((((h1).setCell (p := ⟨N, 0, none⟩) hN x).setCell (p := ⟨N, 1, none⟩) hN y).setCell (p := ⟨N, 2, none⟩) hN z).setCell (p := ⟨N, 3, none⟩) hN t).mono (by omega),
   (((((h2).setCell (p := ⟨N, 0, none⟩) hM x).setCell (p := ⟨N, 1, none⟩) hM y).setCell (p := ⟨N, 2, none⟩) hM z).setCell (p := ⟨N, 3, none⟩) hM t).mono (by omega),
   ((((hb).setCell (p := ⟨N, 0, none⟩) wN x).setCell (p := ⟨N, 1, none⟩) wN y).setCell (p := ⟨N, 2, none⟩) wN z).setCell (p := ⟨N, 3, none⟩) wN t⟩

set_option maxHeartbeats 600000 in
theorem makeRp (x y : Int) (a1 : Option Addr) (c1 : Nat) (a2 : Option Addr) (c2 : Nat) (w : World) (s1 : Seg w a1 (lms x).length c1 (lms x)) (s2 : Seg w a2 (lms y).length c2 (lms y)) (hy : y ≠ 0) (hn : ¬ y < 0) (l1 : (lms x).length ≤ 100000) (l2 : (lms y).length ≤ 100000) :
    Calls Try.prog 76 #[.agg #[Value.bool (sgn x), Value.slice a1 (lms x).length c1], .agg #[Value.bool (sgn y), Value.slice a2 (lms y).length c2]] w fun e w' => ∃ b1 e1 b2 e2, e = .returned (.agg #[.bool (sgn (x / sgG x y)), .slice b1 (lms (x / sgG x y)).length e1, .bool (sgn (y / sgG x y)), .slice b2 (lms (y / sgG x y)).length e2]) ∧ Own w' w.heap.size b1 (lms (x / sgG x y)).length e1 (lms (x / sgG x y)) ∧ Own w' w.heap.size b2 (lms (y / sgG x y)).length e2 (lms (y / sgG x y)) ∧ Apart b1 b2 ∧ Below w.heap.size w w' := by
  have ka0 : (((w.alloc (Obj.cells #[Value.bool (sgn x), Value.slice a1 (lms x).length c1] 26)).alloc (Obj.cells #[Value.bool (sgn y), Value.slice a2 (lms y).length c2] 26)).alloc (Obj.cells #[Value.bool false, Value.slice none 0 0, Value.bool false, Value.slice none 0 0] 37)).cell? ⟨w.heap.size, 0, none⟩ = some (Value.bool (sgn x)) := by go_simp
  have ka1 : (((w.alloc (Obj.cells #[Value.bool (sgn x), Value.slice a1 (lms x).length c1] 26)).alloc (Obj.cells #[Value.bool (sgn y), Value.slice a2 (lms y).length c2] 26)).alloc (Obj.cells #[Value.bool false, Value.slice none 0 0, Value.bool false, Value.slice none 0 0] 37)).cell? ⟨w.heap.size, 1, none⟩ = some (Value.slice a1 (lms x).length c1) := by go_simp
  have kb0 : (((w.alloc (Obj.cells #[Value.bool (sgn x), Value.slice a1 (lms x).length c1] 26)).alloc (Obj.cells #[Value.bool (sgn y), Value.slice a2 (lms y).length c2] 26)).alloc (Obj.cells #[Value.bool false, Value.slice none 0 0, Value.bool false, Value.slice none 0 0] 37)).cell? ⟨w.heap.size + 1, 0, none⟩ = some (Value.bool (sgn y)) := by go_simp
  have kb1 : (((w.alloc (Obj.cells #[Value.bool (sgn x), Value.slice a1 (lms x).length c1] 26)).alloc (Obj.cells #[Value.bool (sgn y), Value.slice a2 (lms y).length c2] 26)).alloc (Obj.cells #[Value.bool false, Value.slice none 0 0, Value.bool false, Value.slice none 0 0] 37)).cell? ⟨w.heap.size + 1, 1, none⟩ = some (Value.slice a2 (lms y).length c2) := by go_simp
  have kr0 : (((w.alloc (Obj.cells #[Value.bool (sgn x), Value.slice a1 (lms x).length c1] 26)).alloc (Obj.cells #[Value.bool (sgn y), Value.slice a2 (lms y).length c2] 26)).alloc (Obj.cells #[Value.bool false, Value.slice none 0 0, Value.bool false, Value.slice none 0 0] 37)).cell? ⟨w.heap.size + 1 + 1, 0, none⟩ = some (Value.bool false) := by go_simp
  have fr0 : (((w.alloc (Obj.cells #[Value.bool (sgn x), Value.slice a1 (lms x).length c1] 26)).alloc (Obj.cells #[Value.bool (sgn y), Value.slice a2 (lms y).length c2] 26)).alloc (Obj.cells #[Value.bool false, Value.slice none 0 0, Value.bool false, Value.slice none 0 0] 37)).frozen? ⟨w.heap.size + 1 + 1, 0, none⟩ = false := by go_simp
  have kr1 : (((w.alloc (Obj.cells #[Value.bool (sgn x), Value.slice a1 (lms x).length c1] 26)).alloc (Obj.cells #[Value.bool (sgn y), Value.slice a2 (lms y).length c2] 26)).alloc (Obj.cells #[Value.bool false, Value.slice none 0 0, Value.bool false, Value.slice none 0 0] 37)).cell? ⟨w.heap.size + 1 + 1, 1, none⟩ = some (Value.slice none 0 0) := by go_simp
  have fr1 : (((w.alloc (Obj.cells #[Value.bool (sgn x), Value.slice a1 (lms x).length c1] 26)).alloc (Obj.cells #[Value.bool (sgn y), Value.slice a2 (lms y).length c2] 26)).alloc (Obj.cells #[Value.bool false, Value.slice none 0 0, Value.bool false, Value.slice none 0 0] 37)).frozen? ⟨w.heap.size + 1 + 1, 1, none⟩ = false := by go_simp
  have kr2 : (((w.alloc (Obj.cells #[Value.bool (sgn x), Value.slice a1 (lms x).length c1] 26)).alloc (Obj.cells #[Value.bool (sgn y), Value.slice a2 (lms y).length c2] 26)).alloc (Obj.cells #[Value.bool false, Value.slice none 0 0, Value.bool false, Value.slice none 0 0] 37)).cell? ⟨w.heap.size + 1 + 1, 2, none⟩ = some (Value.bool false) := by go_simp
  have fr2 : (((w.alloc (Obj.cells #[Value.bool (sgn x), Value.slice a1 (lms x).length c1] 26)).alloc (Obj.cells #[Value.bool (sgn y), Value.slice a2 (lms y).length c2] 26)).alloc (Obj.cells #[Value.bool false, Value.slice none 0 0, Value.bool false, Value.slice none 0 0] 37)).frozen? ⟨w.heap.size + 1 + 1, 2, none⟩ = false := by go_simp
  have kr3 : (((w.alloc (Obj.cells #[Value.bool (sgn x), Value.slice a1 (lms x).length c1] 26)).alloc (Obj.cells #[Value.bool (sgn y), Value.slice a2 (lms y).length c2] 26)).alloc (Obj.cells #[Value.bool false, Value.slice none 0 0, Value.bool false, Value.slice none 0 0] 37)).cell? ⟨w.heap.size + 1 + 1, 3, none⟩ = some (Value.slice none 0 0) := by go_simp
  have fr3 : (((w.alloc (Obj.cells #[Value.bool (sgn x), Value.slice a1 (lms x).length c1] 26)).alloc (Obj.cells #[Value.bool (sgn y), Value.slice a2 (lms y).length c2] 26)).alloc (Obj.cells #[Value.bool false, Value.slice none 0 0, Value.bool false, Value.slice none 0 0] 37)).frozen? ⟨w.heap.size + 1 + 1, 3, none⟩ = false := by go_simp
  have zr : w.heap.size + 1 + 1 < (((w.alloc (Obj.cells #[Value.bool (sgn x), Value.slice a1 (lms x).length c1] 26)).alloc (Obj.cells #[Value.bool (sgn y), Value.slice a2 (lms y).length c2] 26)).alloc (Obj.cells #[Value.bool false, Value.slice none 0 0, Value.bool false, Value.slice none 0 0] 37)).heap.size := by simp only [World.size_alloc]; omega
  have HB := hide (bl_alloc (bl_alloc (bl_alloc (bl_refl w) (Obj.cells #[Value.bool (sgn x), Value.slice a1 (lms x).length c1] 26)) (Obj.cells #[Value.bool (sgn y), Value.slice a2 (lms y).length c2] 26)) (Obj.cells #[Value.bool false, Value.slice none 0 0, Value.bool false, Value.slice none 0 0] 37))
  have S1 := hide (s1.below HB.out)
  have S2 := hide (s2.below HB.out)
  have T1 := hide s1
  have T2 := hide s2
  clear s1 s2
  obtain ⟨hG0, hGs, hGl, hGL⟩ := sgG_facts hy (rfl : sgG x y = sgG x y) l2
  have hgL : (lms ((Int.gcd x y : Nat) : Int)).length ≤ 100000 := by rw [hGl]; exact hGL
  have eG : sgG x y = ((Int.gcd x y : Nat) : Int) := if_neg hn
  rw [eG] at hG0 hGL
  rw [eG]
  have hsy : sgn y = false := by unfold sgn; simp; omega
  have HSY := hide hsy
  clear eG hGs hGl hn hsy
  have HGC := hide (fun (w : World) h1 h2 => gcdS (.agg #[Value.bool (sgn x), Value.slice a1 (lms x).length c1]) (.agg #[Value.bool (sgn y), Value.slice a2 (lms y).length c2]) x y w h1 h2 l1 l2)
  generalize ((Int.gcd x y : Nat) : Int) = g at *
  go_enter Try.func76, Try.ntmps76
  go_wp2_with fail
  generalize (((w.alloc (Obj.cells #[Value.bool (sgn x), Value.slice a1 (lms x).length c1] 26)).alloc (Obj.cells #[Value.bool (sgn y), Value.slice a2 (lms y).length c2] 26)).alloc (Obj.cells #[Value.bool false, Value.slice none 0 0, Value.bool false, Value.slice none 0 0] 37)) = w1 at *
  refine (HGC.out _ ⟨a1, c1, rfl, S1.out⟩ ⟨a2, c2, rfl, S2.out⟩).mono ?_
  rintro e w2 ⟨v, rfl, ⟨ag, cg, rfl, hrg⟩, hb⟩
  replace ka0 := (hb.cell (p := ⟨w.heap.size, 0, none⟩) (by dsimp only; omega)).trans ka0
  replace ka1 := (hb.cell (p := ⟨w.heap.size, 1, none⟩) (by dsimp only; omega)).trans ka1
  replace kb0 := (hb.cell (p := ⟨w.heap.size + 1, 0, none⟩) (by dsimp only; omega)).trans kb0
  replace kb1 := (hb.cell (p := ⟨w.heap.size + 1, 1, none⟩) (by dsimp only; omega)).trans kb1
  replace kr0 := (hb.cell (p := ⟨w.heap.size + 1 + 1, 0, none⟩) (by dsimp only; omega)).trans kr0
  replace fr0 := (hb.frozen (p := ⟨w.heap.size + 1 + 1, 0, none⟩) (by dsimp only; omega)).trans fr0
  replace kr1 := (hb.cell (p := ⟨w.heap.size + 1 + 1, 1, none⟩) (by dsimp only; omega)).trans kr1
  replace fr1 := (hb.frozen (p := ⟨w.heap.size + 1 + 1, 1, none⟩) (by dsimp only; omega)).trans fr1
  replace kr2 := (hb.cell (p := ⟨w.heap.size + 1 + 1, 2, none⟩) (by dsimp only; omega)).trans kr2
  replace fr2 := (hb.frozen (p := ⟨w.heap.size + 1 + 1, 2, none⟩) (by dsimp only; omega)).trans fr2
  replace kr3 := (hb.cell (p := ⟨w.heap.size + 1 + 1, 3, none⟩) (by dsimp only; omega)).trans kr3
  replace fr3 := (hb.frozen (p := ⟨w.heap.size + 1 + 1, 3, none⟩) (by dsimp only; omega)).trans fr3
  replace S1 := hide (S1.out.below hb)
  replace S2 := hide (S2.out.below hb)
  replace zr := Nat.lt_of_lt_of_le zr hb.size
  replace HB := hide (bl_trans HB.out hb)
  clear hb
  have SG := hide hrg.1
  clear hrg HGC
  go_upto_region 2 with fail
  have yw3 : w2.heap.size + 1 ≤ (w2.alloc (Obj.cells #[Value.bool (sgn g), Value.slice ag (lms g).length cg] 26)).heap.size := by simp only [World.size_alloc]; omega
  have kg0 : (w2.alloc (Obj.cells #[Value.bool (sgn g), Value.slice ag (lms g).length cg] 26)).cell? ⟨w2.heap.size, 0, none⟩ = some (Value.bool (sgn g)) := by go_simp
  have fg0 : (w2.alloc (Obj.cells #[Value.bool (sgn g), Value.slice ag (lms g).length cg] 26)).frozen? ⟨w2.heap.size, 0, none⟩ = false := by go_simp
  have kg1 : (w2.alloc (Obj.cells #[Value.bool (sgn g), Value.slice ag (lms g).length cg] 26)).cell? ⟨w2.heap.size, 1, none⟩ = some (Value.slice ag (lms g).length cg) := by go_simp
  have fg1 : (w2.alloc (Obj.cells #[Value.bool (sgn g), Value.slice ag (lms g).length cg] 26)).frozen? ⟨w2.heap.size, 1, none⟩ = false := by go_simp
  have hbn := (bl_alloc (bl_refl w2) (Obj.cells #[Value.bool (sgn g), Value.slice ag (lms g).length cg] 26))
  have zw3 := zr
  replace ka0 := (hbn.cell (p := ⟨w.heap.size, 0, none⟩) (by dsimp only; omega)).trans ka0
  replace ka1 := (hbn.cell (p := ⟨w.heap.size, 1, none⟩) (by dsimp only; omega)).trans ka1
  replace kb0 := (hbn.cell (p := ⟨w.heap.size + 1, 0, none⟩) (by dsimp only; omega)).trans kb0
  replace kb1 := (hbn.cell (p := ⟨w.heap.size + 1, 1, none⟩) (by dsimp only; omega)).trans kb1
  replace kr0 := (hbn.cell (p := ⟨w.heap.size + 1 + 1, 0, none⟩) (by dsimp only; omega)).trans kr0
  replace fr0 := (hbn.frozen (p := ⟨w.heap.size + 1 + 1, 0, none⟩) (by dsimp only; omega)).trans fr0
  replace kr1 := (hbn.cell (p := ⟨w.heap.size + 1 + 1, 1, none⟩) (by dsimp only; omega)).trans kr1
  replace fr1 := (hbn.frozen (p := ⟨w.heap.size + 1 + 1, 1, none⟩) (by dsimp only; omega)).trans fr1
  replace kr2 := (hbn.cell (p := ⟨w.heap.size + 1 + 1, 2, none⟩) (by dsimp only; omega)).trans kr2
  replace fr2 := (hbn.frozen (p := ⟨w.heap.size + 1 + 1, 2, none⟩) (by dsimp only; omega)).trans fr2
  replace kr3 := (hbn.cell (p := ⟨w.heap.size + 1 + 1, 3, none⟩) (by dsimp only; omega)).trans kr3
  replace fr3 := (hbn.frozen (p := ⟨w.heap.size + 1 + 1, 3, none⟩) (by dsimp only; omega)).trans fr3
  replace S1 := hide (S1.out.below hbn)
  replace S2 := hide (S2.out.below hbn)
  replace SG := hide (SG.out.below hbn)
  replace zr := Nat.lt_of_lt_of_le zr hbn.size
  replace HB := hide (bl_trans HB.out hbn)
  clear hbn
  generalize (w2.alloc (Obj.cells #[Value.bool (sgn g), Value.slice ag (lms g).length cg] 26)) = w3 at *
  rw [HSY.out] at kb0
  go_wp2_with fail
  rw [← HSY.out] at kb0
  refine (divS (.agg #[.bool (sgn x), .slice a1 (lms x).length c1]) (.agg #[.bool (sgn g), .slice ag (lms g).length cg]) x g _ ⟨a1, c1, rfl, S1.out⟩ ⟨ag, cg, rfl, SG.out⟩ hG0 l1 hgL).mono ?_
  rintro e w4 ⟨aq1, cq1, ar1, cr1, rfl, ho1, hor1, hb⟩
  have yw4 := hb.size
  replace ka0 := (hb.cell (p := ⟨w.heap.size, 0, none⟩) (by dsimp only; omega)).trans ka0
  replace ka1 := (hb.cell (p := ⟨w.heap.size, 1, none⟩) (by dsimp only; omega)).trans ka1
  replace kb0 := (hb.cell (p := ⟨w.heap.size + 1, 0, none⟩) (by dsimp only; omega)).trans kb0
  replace kb1 := (hb.cell (p := ⟨w.heap.size + 1, 1, none⟩) (by dsimp only; omega)).trans kb1
  replace kr0 := (hb.cell (p := ⟨w.heap.size + 1 + 1, 0, none⟩) (by dsimp only; omega)).trans kr0
  replace fr0 := (hb.frozen (p := ⟨w.heap.size + 1 + 1, 0, none⟩) (by dsimp only; omega)).trans fr0
  replace kr1 := (hb.cell (p := ⟨w.heap.size + 1 + 1, 1, none⟩) (by dsimp only; omega)).trans kr1
  replace fr1 := (hb.frozen (p := ⟨w.heap.size + 1 + 1, 1, none⟩) (by dsimp only; omega)).trans fr1
  replace kr2 := (hb.cell (p := ⟨w.heap.size + 1 + 1, 2, none⟩) (by dsimp only; omega)).trans kr2
  replace fr2 := (hb.frozen (p := ⟨w.heap.size + 1 + 1, 2, none⟩) (by dsimp only; omega)).trans fr2
  replace kr3 := (hb.cell (p := ⟨w.heap.size + 1 + 1, 3, none⟩) (by dsimp only; omega)).trans kr3
  replace fr3 := (hb.frozen (p := ⟨w.heap.size + 1 + 1, 3, none⟩) (by dsimp only; omega)).trans fr3
  replace kg0 := (hb.cell (p := ⟨w2.heap.size, 0, none⟩) (by dsimp only; omega)).trans kg0
  replace fg0 := (hb.frozen (p := ⟨w2.heap.size, 0, none⟩) (by dsimp only; omega)).trans fg0
  replace kg1 := (hb.cell (p := ⟨w2.heap.size, 1, none⟩) (by dsimp only; omega)).trans kg1
  replace fg1 := (hb.frozen (p := ⟨w2.heap.size, 1, none⟩) (by dsimp only; omega)).trans fg1
  replace S1 := hide (S1.out.below hb)
  replace S2 := hide (S2.out.below hb)
  replace SG := hide (SG.out.below hb)
  replace zr := Nat.lt_of_lt_of_le zr hb.size
  replace HB := hide (bl_trans HB.out hb)
  clear hb
  clear hor1
  have O1 := hide ho1
  clear ho1
  go_upto_region 5 with fail
  have yw5 : w4.heap.size + 2 ≤ ((w4.alloc (Obj.cells #[Value.bool (sgn (x / g)), Value.slice aq1 (lms (x / g)).length cq1] 26)).alloc (Obj.cells #[Value.bool (sgn (x % g)), Value.slice ar1 (lms (x % g)).length cr1] 26)).heap.size := by simp only [World.size_alloc]; omega
  have kq10 : ((w4.alloc (Obj.cells #[Value.bool (sgn (x / g)), Value.slice aq1 (lms (x / g)).length cq1] 26)).alloc (Obj.cells #[Value.bool (sgn (x % g)), Value.slice ar1 (lms (x % g)).length cr1] 26)).cell? ⟨w4.heap.size, 0, none⟩ = some (Value.bool (sgn (x / g))) := by go_simp
  have kq11 : ((w4.alloc (Obj.cells #[Value.bool (sgn (x / g)), Value.slice aq1 (lms (x / g)).length cq1] 26)).alloc (Obj.cells #[Value.bool (sgn (x % g)), Value.slice ar1 (lms (x % g)).length cr1] 26)).cell? ⟨w4.heap.size, 1, none⟩ = some (Value.slice aq1 (lms (x / g)).length cq1) := by go_simp
  have hbn := (bl_alloc (bl_alloc (bl_refl w4) (Obj.cells #[Value.bool (sgn (x / g)), Value.slice aq1 (lms (x / g)).length cq1] 26)) (Obj.cells #[Value.bool (sgn (x % g)), Value.slice ar1 (lms (x % g)).length cr1] 26))
  have zw5 := zr
  replace ka0 := (hbn.cell (p := ⟨w.heap.size, 0, none⟩) (by dsimp only; omega)).trans ka0
  replace ka1 := (hbn.cell (p := ⟨w.heap.size, 1, none⟩) (by dsimp only; omega)).trans ka1
  replace kb0 := (hbn.cell (p := ⟨w.heap.size + 1, 0, none⟩) (by dsimp only; omega)).trans kb0
  replace kb1 := (hbn.cell (p := ⟨w.heap.size + 1, 1, none⟩) (by dsimp only; omega)).trans kb1
  replace kr0 := (hbn.cell (p := ⟨w.heap.size + 1 + 1, 0, none⟩) (by dsimp only; omega)).trans kr0
  replace fr0 := (hbn.frozen (p := ⟨w.heap.size + 1 + 1, 0, none⟩) (by dsimp only; omega)).trans fr0
  replace kr1 := (hbn.cell (p := ⟨w.heap.size + 1 + 1, 1, none⟩) (by dsimp only; omega)).trans kr1
  replace fr1 := (hbn.frozen (p := ⟨w.heap.size + 1 + 1, 1, none⟩) (by dsimp only; omega)).trans fr1
  replace kr2 := (hbn.cell (p := ⟨w.heap.size + 1 + 1, 2, none⟩) (by dsimp only; omega)).trans kr2
  replace fr2 := (hbn.frozen (p := ⟨w.heap.size + 1 + 1, 2, none⟩) (by dsimp only; omega)).trans fr2
  replace kr3 := (hbn.cell (p := ⟨w.heap.size + 1 + 1, 3, none⟩) (by dsimp only; omega)).trans kr3
  replace fr3 := (hbn.frozen (p := ⟨w.heap.size + 1 + 1, 3, none⟩) (by dsimp only; omega)).trans fr3
  replace kg0 := (hbn.cell (p := ⟨w2.heap.size, 0, none⟩) (by dsimp only; omega)).trans kg0
  replace fg0 := (hbn.frozen (p := ⟨w2.heap.size, 0, none⟩) (by dsimp only; omega)).trans fg0
  replace kg1 := (hbn.cell (p := ⟨w2.heap.size, 1, none⟩) (by dsimp only; omega)).trans kg1
  replace fg1 := (hbn.frozen (p := ⟨w2.heap.size, 1, none⟩) (by dsimp only; omega)).trans fg1
  replace S1 := hide (S1.out.below hbn)
  replace S2 := hide (S2.out.below hbn)
  replace SG := hide (SG.out.below hbn)
  replace O1 := hide (O1.out.below hbn)
  replace zr := Nat.lt_of_lt_of_le zr hbn.size
  replace HB := hide (bl_trans HB.out hbn)
  clear hbn
  generalize ((w4.alloc (Obj.cells #[Value.bool (sgn (x / g)), Value.slice aq1 (lms (x / g)).length cq1] 26)).alloc (Obj.cells #[Value.bool (sgn (x % g)), Value.slice ar1 (lms (x % g)).length cr1] 26)) = w5 at *
  go_wp2_with fail
  refine (divS (.agg #[.bool (sgn y), .slice a2 (lms y).length c2]) (.agg #[.bool (sgn g), .slice ag (lms g).length cg]) y g _ ⟨a2, c2, rfl, S2.out⟩ ⟨ag, cg, rfl, SG.out⟩ hG0 l2 hgL).mono ?_
  rintro e w6 ⟨aq2, cq2, ar2, cr2, rfl, ho2, hor2, hb⟩
  have HAP := hide (apart_two O1.out ho2)
  have yw6 := hb.size
  replace ka0 := (hb.cell (p := ⟨w.heap.size, 0, none⟩) (by dsimp only; omega)).trans ka0
  replace ka1 := (hb.cell (p := ⟨w.heap.size, 1, none⟩) (by dsimp only; omega)).trans ka1
  replace kb0 := (hb.cell (p := ⟨w.heap.size + 1, 0, none⟩) (by dsimp only; omega)).trans kb0
  replace kb1 := (hb.cell (p := ⟨w.heap.size + 1, 1, none⟩) (by dsimp only; omega)).trans kb1
  replace kr0 := (hb.cell (p := ⟨w.heap.size + 1 + 1, 0, none⟩) (by dsimp only; omega)).trans kr0
  replace fr0 := (hb.frozen (p := ⟨w.heap.size + 1 + 1, 0, none⟩) (by dsimp only; omega)).trans fr0
  replace kr1 := (hb.cell (p := ⟨w.heap.size + 1 + 1, 1, none⟩) (by dsimp only; omega)).trans kr1
  replace fr1 := (hb.frozen (p := ⟨w.heap.size + 1 + 1, 1, none⟩) (by dsimp only; omega)).trans fr1
  replace kr2 := (hb.cell (p := ⟨w.heap.size + 1 + 1, 2, none⟩) (by dsimp only; omega)).trans kr2
  replace fr2 := (hb.frozen (p := ⟨w.heap.size + 1 + 1, 2, none⟩) (by dsimp only; omega)).trans fr2
  replace kr3 := (hb.cell (p := ⟨w.heap.size + 1 + 1, 3, none⟩) (by dsimp only; omega)).trans kr3
  replace fr3 := (hb.frozen (p := ⟨w.heap.size + 1 + 1, 3, none⟩) (by dsimp only; omega)).trans fr3
  replace kg0 := (hb.cell (p := ⟨w2.heap.size, 0, none⟩) (by dsimp only; omega)).trans kg0
  replace fg0 := (hb.frozen (p := ⟨w2.heap.size, 0, none⟩) (by dsimp only; omega)).trans fg0
  replace kg1 := (hb.cell (p := ⟨w2.heap.size, 1, none⟩) (by dsimp only; omega)).trans kg1
  replace fg1 := (hb.frozen (p := ⟨w2.heap.size, 1, none⟩) (by dsimp only; omega)).trans fg1
  replace kq10 := (hb.cell (p := ⟨w4.heap.size, 0, none⟩) (by dsimp only; omega)).trans kq10
  replace kq11 := (hb.cell (p := ⟨w4.heap.size, 1, none⟩) (by dsimp only; omega)).trans kq11
  replace S1 := hide (S1.out.below hb)
  replace S2 := hide (S2.out.below hb)
  replace SG := hide (SG.out.below hb)
  replace O1 := hide (O1.out.below hb)
  replace zr := Nat.lt_of_lt_of_le zr hb.size
  replace HB := hide (bl_trans HB.out hb)
  clear hb
  clear hor2
  have O2 := hide ho2
  clear ho2
  go_upto_region 6 with fail
  have yw7 : w6.heap.size + 2 ≤ ((w6.alloc (Obj.cells #[Value.bool (sgn (y / g)), Value.slice aq2 (lms (y / g)).length cq2] 26)).alloc (Obj.cells #[Value.bool (sgn (y % g)), Value.slice ar2 (lms (y % g)).length cr2] 26)).heap.size := by simp only [World.size_alloc]; omega
  have kq20 : ((w6.alloc (Obj.cells #[Value.bool (sgn (y / g)), Value.slice aq2 (lms (y / g)).length cq2] 26)).alloc (Obj.cells #[Value.bool (sgn (y % g)), Value.slice ar2 (lms (y % g)).length cr2] 26)).cell? ⟨w6.heap.size, 0, none⟩ = some (Value.bool (sgn (y / g))) := by go_simp
  have kq21 : ((w6.alloc (Obj.cells #[Value.bool (sgn (y / g)), Value.slice aq2 (lms (y / g)).length cq2] 26)).alloc (Obj.cells #[Value.bool (sgn (y % g)), Value.slice ar2 (lms (y % g)).length cr2] 26)).cell? ⟨w6.heap.size, 1, none⟩ = some (Value.slice aq2 (lms (y / g)).length cq2) := by go_simp
  have hbn := (bl_alloc (bl_alloc (bl_refl w6) (Obj.cells #[Value.bool (sgn (y / g)), Value.slice aq2 (lms (y / g)).length cq2] 26)) (Obj.cells #[Value.bool (sgn (y % g)), Value.slice ar2 (lms (y % g)).length cr2] 26))
  have zw7 := zr
  replace ka0 := (hbn.cell (p := ⟨w.heap.size, 0, none⟩) (by dsimp only; omega)).trans ka0
  replace ka1 := (hbn.cell (p := ⟨w.heap.size, 1, none⟩) (by dsimp only; omega)).trans ka1
  replace kb0 := (hbn.cell (p := ⟨w.heap.size + 1, 0, none⟩) (by dsimp only; omega)).trans kb0
  replace kb1 := (hbn.cell (p := ⟨w.heap.size + 1, 1, none⟩) (by dsimp only; omega)).trans kb1
  replace kr0 := (hbn.cell (p := ⟨w.heap.size + 1 + 1, 0, none⟩) (by dsimp only; omega)).trans kr0
  replace fr0 := (hbn.frozen (p := ⟨w.heap.size + 1 + 1, 0, none⟩) (by dsimp only; omega)).trans fr0
  replace kr1 := (hbn.cell (p := ⟨w.heap.size + 1 + 1, 1, none⟩) (by dsimp only; omega)).trans kr1
  replace fr1 := (hbn.frozen (p := ⟨w.heap.size + 1 + 1, 1, none⟩) (by dsimp only; omega)).trans fr1
  replace kr2 := (hbn.cell (p := ⟨w.heap.size + 1 + 1, 2, none⟩) (by dsimp only; omega)).trans kr2
  replace fr2 := (hbn.frozen (p := ⟨w.heap.size + 1 + 1, 2, none⟩) (by dsimp only; omega)).trans fr2
  replace kr3 := (hbn.cell (p := ⟨w.heap.size + 1 + 1, 3, none⟩) (by dsimp only; omega)).trans kr3
  replace fr3 := (hbn.frozen (p := ⟨w.heap.size + 1 + 1, 3, none⟩) (by dsimp only; omega)).trans fr3
  replace kg0 := (hbn.cell (p := ⟨w2.heap.size, 0, none⟩) (by dsimp only; omega)).trans kg0
  replace fg0 := (hbn.frozen (p := ⟨w2.heap.size, 0, none⟩) (by dsimp only; omega)).trans fg0
  replace kg1 := (hbn.cell (p := ⟨w2.heap.size, 1, none⟩) (by dsimp only; omega)).trans kg1
  replace fg1 := (hbn.frozen (p := ⟨w2.heap.size, 1, none⟩) (by dsimp only; omega)).trans fg1
  replace kq10 := (hbn.cell (p := ⟨w4.heap.size, 0, none⟩) (by dsimp only; omega)).trans kq10
  replace kq11 := (hbn.cell (p := ⟨w4.heap.size, 1, none⟩) (by dsimp only; omega)).trans kq11
  replace S1 := hide (S1.out.below hbn)
  replace S2 := hide (S2.out.below hbn)
  replace SG := hide (SG.out.below hbn)
  replace O1 := hide (O1.out.below hbn)
  replace O2 := hide (O2.out.below hbn)
  replace zr := Nat.lt_of_lt_of_le zr hbn.size
  replace HB := hide (bl_trans HB.out hbn)
  clear hbn
  generalize ((w6.alloc (Obj.cells #[Value.bool (sgn (y / g)), Value.slice aq2 (lms (y / g)).length cq2] 26)).alloc (Obj.cells #[Value.bool (sgn (y % g)), Value.slice ar2 (lms (y % g)).length cr2] 26)) = w7 at *
  go_wp2_with fail
  refine bodyPost_ret (v := .agg #[.bool (sgn (x / g)), .slice aq1 (lms (x / g)).length cq1, .bool (sgn (y / g)), .slice aq2 (lms (y / g)).length cq2]) (by simp [results, Try.results76, go_sem, kr0, kr1, kr2, kr3]) rfl ?_
  obtain ⟨h1, h2, h3⟩ := fin_four (N := w.heap.size + 1 + 1) O1.out O2.out (by omega) (by omega) (by omega) HB.out (Value.bool (sgn (x / g))) (Value.slice aq1 (lms (x / g)).length cq1) (Value.bool (sgn (y / g))) (Value.slice aq2 (lms (y / g)).length cq2)
  exact ⟨aq1, cq1, aq2, cq2, rfl, h1, h2, HAP.out, h3⟩

set_option maxHeartbeats 600000 in
theorem makeRn (x y : Int) (a1 : Option Addr) (c1 : Nat) (a2 : Option Addr) (c2 : Nat) (w : World) (s1 : Seg w a1 (lms x).length c1 (lms x)) (s2 : Seg w a2 (lms y).length c2 (lms y)) (hy : y ≠ 0) (hn : y < 0) (l1 : (lms x).length ≤ 100000) (l2 : (lms y).length ≤ 100000) :
    Calls Try.prog 76 #[.agg #[Value.bool (sgn x), Value.slice a1 (lms x).length c1], .agg #[Value.bool (sgn y), Value.slice a2 (lms y).length c2]] w fun e w' => ∃ b1 e1 b2 e2, e = .returned (.agg #[.bool (sgn (x / sgG x y)), .slice b1 (lms (x / sgG x y)).length e1, .bool (sgn (y / sgG x y)), .slice b2 (lms (y / sgG x y)).length e2]) ∧ Own w' w.heap.size b1 (lms (x / sgG x y)).length e1 (lms (x / sgG x y)) ∧ Own w' w.heap.size b2 (lms (y / sgG x y)).length e2 (lms (y / sgG x y)) ∧ Apart b1 b2 ∧ Below w.heap.size w w' := by
  have ka0 : (((w.alloc (Obj.cells #[Value.bool (sgn x), Value.slice a1 (lms x).length c1] 26)).alloc (Obj.cells #[Value.bool (sgn y), Value.slice a2 (lms y).length c2] 26)).alloc (Obj.cells #[Value.bool false, Value.slice none 0 0, Value.bool false, Value.slice none 0 0] 37)).cell? ⟨w.heap.size, 0, none⟩ = some (Value.bool (sgn x)) := by go_simp
  have ka1 : (((w.alloc (Obj.cells #[Value.bool (sgn x), Value.slice a1 (lms x).length c1] 26)).alloc (Obj.cells #[Value.bool (sgn y), Value.slice a2 (lms y).length c2] 26)).alloc (Obj.cells #[Value.bool false, Value.slice none 0 0, Value.bool false, Value.slice none 0 0] 37)).cell? ⟨w.heap.size, 1, none⟩ = some (Value.slice a1 (lms x).length c1) := by go_simp
  have kb0 : (((w.alloc (Obj.cells #[Value.bool (sgn x), Value.slice a1 (lms x).length c1] 26)).alloc (Obj.cells #[Value.bool (sgn y), Value.slice a2 (lms y).length c2] 26)).alloc (Obj.cells #[Value.bool false, Value.slice none 0 0, Value.bool false, Value.slice none 0 0] 37)).cell? ⟨w.heap.size + 1, 0, none⟩ = some (Value.bool (sgn y)) := by go_simp
  have kb1 : (((w.alloc (Obj.cells #[Value.bool (sgn x), Value.slice a1 (lms x).length c1] 26)).alloc (Obj.cells #[Value.bool (sgn y), Value.slice a2 (lms y).length c2] 26)).alloc (Obj.cells #[Value.bool false, Value.slice none 0 0, Value.bool false, Value.slice none 0 0] 37)).cell? ⟨w.heap.size + 1, 1, none⟩ = some (Value.slice a2 (lms y).length c2) := by go_simp
  have kr0 : (((w.alloc (Obj.cells #[Value.bool (sgn x), Value.slice a1 (lms x).length c1] 26)).alloc (Obj.cells #[Value.bool (sgn y), Value.slice a2 (lms y).length c2] 26)).alloc (Obj.cells #[Value.bool false, Value.slice none 0 0, Value.bool false, Value.slice none 0 0] 37)).cell? ⟨w.heap.size + 1 + 1, 0, none⟩ = some (Value.bool false) := by go_simp
  have fr0 : (((w.alloc (Obj.cells #[Value.bool (sgn x), Value.slice a1 (lms x).length c1] 26)).alloc (Obj.cells #[Value.bool (sgn y), Value.slice a2 (lms y).length c2] 26)).alloc (Obj.cells #[Value.bool false, Value.slice none 0 0, Value.bool false, Value.slice none 0 0] 37)).frozen? ⟨w.heap.size + 1 + 1, 0, none⟩ = false := by go_simp
  have kr1 : (((w.alloc (Obj.cells #[Value.bool (sgn x), Value.slice a1 (lms x).length c1] 26)).alloc (Obj.cells #[Value.bool (sgn y), Value.slice a2 (lms y).length c2] 26)).alloc (Obj.cells #[Value.bool false, Value.slice none 0 0, Value.bool false, Value.slice none 0 0] 37)).cell? ⟨w.heap.size + 1 + 1, 1, none⟩ = some (Value.slice none 0 0) := by go_simp
  have fr1 : (((w.alloc (Obj.cells #[Value.bool (sgn x), Value.slice a1 (lms x).length c1] 26)).alloc (Obj.cells #[Value.bool (sgn y), Value.slice a2 (lms y).length c2] 26)).alloc (Obj.cells #[Value.bool false, Value.slice none 0 0, Value.bool false, Value.slice none 0 0] 37)).frozen? ⟨w.heap.size + 1 + 1, 1, none⟩ = false := by go_simp
  have kr2 : (((w.alloc (Obj.cells #[Value.bool (sgn x), Value.slice a1 (lms x).length c1] 26)).alloc (Obj.cells #[Value.bool (sgn y), Value.slice a2 (lms y).length c2] 26)).alloc (Obj.cells #[Value.bool false, Value.slice none 0 0, Value.bool false, Value.slice none 0 0] 37)).cell? ⟨w.heap.size + 1 + 1, 2, none⟩ = some (Value.bool false) := by go_simp
  have fr2 : (((w.alloc (Obj.cells #[Value.bool (sgn x), Value.slice a1 (lms x).length c1] 26)).alloc (Obj.cells #[Value.bool (sgn y), Value.slice a2 (lms y).length c2] 26)).alloc (Obj.cells #[Value.bool false, Value.slice none 0 0, Value.bool false, Value.slice none 0 0] 37)).frozen? ⟨w.heap.size + 1 + 1, 2, none⟩ = false := by go_simp
  have kr3 : (((w.alloc (Obj.cells #[Value.bool (sgn x), Value.slice a1 (lms x).length c1] 26)).alloc (Obj.cells #[Value.bool (sgn y), Value.slice a2 (lms y).length c2] 26)).alloc (Obj.cells #[Value.bool false, Value.slice none 0 0, Value.bool false, Value.slice none 0 0] 37)).cell? ⟨w.heap.size + 1 + 1, 3, none⟩ = some (Value.slice none 0 0) := by go_simp
  have fr3 : (((w.alloc (Obj.cells #[Value.bool (sgn x), Value.slice a1 (lms x).length c1] 26)).alloc (Obj.cells #[Value.bool (sgn y), Value.slice a2 (lms y).length c2] 26)).alloc (Obj.cells #[Value.bool false, Value.slice none 0 0, Value.bool false, Value.slice none 0 0] 37)).frozen? ⟨w.heap.size + 1 + 1, 3, none⟩ = false := by go_simp
  have zr : w.heap.size + 1 + 1 < (((w.alloc (Obj.cells #[Value.bool (sgn x), Value.slice a1 (lms x).length c1] 26)).alloc (Obj.cells #[Value.bool (sgn y), Value.slice a2 (lms y).length c2] 26)).alloc (Obj.cells #[Value.bool false, Value.slice none 0 0, Value.bool false, Value.slice none 0 0] 37)).heap.size := by simp only [World.size_alloc]; omega
  have HB := hide (bl_alloc (bl_alloc (bl_alloc (bl_refl w) (Obj.cells #[Value.bool (sgn x), Value.slice a1 (lms x).length c1] 26)) (Obj.cells #[Value.bool (sgn y), Value.slice a2 (lms y).length c2] 26)) (Obj.cells #[Value.bool false, Value.slice none 0 0, Value.bool false, Value.slice none 0 0] 37))
  have S1 := hide (s1.below HB.out)
  have S2 := hide (s2.below HB.out)
  have T1 := hide s1
  have T2 := hide s2
  clear s1 s2
  obtain ⟨hG0, hGs, hGl, hGL⟩ := sgG_facts hy (rfl : sgG x y = sgG x y) l2
  have hgL : (lms ((Int.gcd x y : Nat) : Int)).length ≤ 100000 := by rw [hGl]; exact hGL
  have eG : sgG x y = -((Int.gcd x y : Nat) : Int) := if_pos hn
  rw [eG] at hG0 hGL
  rw [eG]
  have hsy : sgn y = true := by unfold sgn; simp; omega
  have HSY := hide hsy
  clear eG hGs hGl hn hsy
  have HGC := hide (fun (w : World) h1 h2 => gcdS (.agg #[Value.bool (sgn x), Value.slice a1 (lms x).length c1]) (.agg #[Value.bool (sgn y), Value.slice a2 (lms y).length c2]) x y w h1 h2 l1 l2)
  generalize ((Int.gcd x y : Nat) : Int) = g at *
  go_enter Try.func76, Try.ntmps76
  go_wp2_with fail
  generalize (((w.alloc (Obj.cells #[Value.bool (sgn x), Value.slice a1 (lms x).length c1] 26)).alloc (Obj.cells #[Value.bool (sgn y), Value.slice a2 (lms y).length c2] 26)).alloc (Obj.cells #[Value.bool false, Value.slice none 0 0, Value.bool false, Value.slice none 0 0] 37)) = w1 at *
  refine (HGC.out _ ⟨a1, c1, rfl, S1.out⟩ ⟨a2, c2, rfl, S2.out⟩).mono ?_
  rintro e w2 ⟨v, rfl, ⟨ag, cg, rfl, hrg⟩, hb⟩
  replace ka0 := (hb.cell (p := ⟨w.heap.size, 0, none⟩) (by dsimp only; omega)).trans ka0
  replace ka1 := (hb.cell (p := ⟨w.heap.size, 1, none⟩) (by dsimp only; omega)).trans ka1
  replace kb0 := (hb.cell (p := ⟨w.heap.size + 1, 0, none⟩) (by dsimp only; omega)).trans kb0
  replace kb1 := (hb.cell (p := ⟨w.heap.size + 1, 1, none⟩) (by dsimp only; omega)).trans kb1
  replace kr0 := (hb.cell (p := ⟨w.heap.size + 1 + 1, 0, none⟩) (by dsimp only; omega)).trans kr0
  replace fr0 := (hb.frozen (p := ⟨w.heap.size + 1 + 1, 0, none⟩) (by dsimp only; omega)).trans fr0
  replace kr1 := (hb.cell (p := ⟨w.heap.size + 1 + 1, 1, none⟩) (by dsimp only; omega)).trans kr1
  replace fr1 := (hb.frozen (p := ⟨w.heap.size + 1 + 1, 1, none⟩) (by dsimp only; omega)).trans fr1
  replace kr2 := (hb.cell (p := ⟨w.heap.size + 1 + 1, 2, none⟩) (by dsimp only; omega)).trans kr2
  replace fr2 := (hb.frozen (p := ⟨w.heap.size + 1 + 1, 2, none⟩) (by dsimp only; omega)).trans fr2
  replace kr3 := (hb.cell (p := ⟨w.heap.size + 1 + 1, 3, none⟩) (by dsimp only; omega)).trans kr3
  replace fr3 := (hb.frozen (p := ⟨w.heap.size + 1 + 1, 3, none⟩) (by dsimp only; omega)).trans fr3
  replace S1 := hide (S1.out.below hb)
  replace S2 := hide (S2.out.below hb)
  replace zr := Nat.lt_of_lt_of_le zr hb.size
  replace HB := hide (bl_trans HB.out hb)
  clear hb
  have SG := hide hrg.1
  clear hrg HGC
  go_upto_region 2 with fail
  have yw3 : w2.heap.size + 1 ≤ (w2.alloc (Obj.cells #[Value.bool (sgn g), Value.slice ag (lms g).length cg] 26)).heap.size := by simp only [World.size_alloc]; omega
  have kg0 : (w2.alloc (Obj.cells #[Value.bool (sgn g), Value.slice ag (lms g).length cg] 26)).cell? ⟨w2.heap.size, 0, none⟩ = some (Value.bool (sgn g)) := by go_simp
  have fg0 : (w2.alloc (Obj.cells #[Value.bool (sgn g), Value.slice ag (lms g).length cg] 26)).frozen? ⟨w2.heap.size, 0, none⟩ = false := by go_simp
  have kg1 : (w2.alloc (Obj.cells #[Value.bool (sgn g), Value.slice ag (lms g).length cg] 26)).cell? ⟨w2.heap.size, 1, none⟩ = some (Value.slice ag (lms g).length cg) := by go_simp
  have fg1 : (w2.alloc (Obj.cells #[Value.bool (sgn g), Value.slice ag (lms g).length cg] 26)).frozen? ⟨w2.heap.size, 1, none⟩ = false := by go_simp
  have hbn := (bl_alloc (bl_refl w2) (Obj.cells #[Value.bool (sgn g), Value.slice ag (lms g).length cg] 26))
  have zw3 := zr
  replace ka0 := (hbn.cell (p := ⟨w.heap.size, 0, none⟩) (by dsimp only; omega)).trans ka0
  replace ka1 := (hbn.cell (p := ⟨w.heap.size, 1, none⟩) (by dsimp only; omega)).trans ka1
  replace kb0 := (hbn.cell (p := ⟨w.heap.size + 1, 0, none⟩) (by dsimp only; omega)).trans kb0
  replace kb1 := (hbn.cell (p := ⟨w.heap.size + 1, 1, none⟩) (by dsimp only; omega)).trans kb1
  replace kr0 := (hbn.cell (p := ⟨w.heap.size + 1 + 1, 0, none⟩) (by dsimp only; omega)).trans kr0
  replace fr0 := (hbn.frozen (p := ⟨w.heap.size + 1 + 1, 0, none⟩) (by dsimp only; omega)).trans fr0
  replace kr1 := (hbn.cell (p := ⟨w.heap.size + 1 + 1, 1, none⟩) (by dsimp only; omega)).trans kr1
  replace fr1 := (hbn.frozen (p := ⟨w.heap.size + 1 + 1, 1, none⟩) (by dsimp only; omega)).trans fr1
  replace kr2 := (hbn.cell (p := ⟨w.heap.size + 1 + 1, 2, none⟩) (by dsimp only; omega)).trans kr2
  replace fr2 := (hbn.frozen (p := ⟨w.heap.size + 1 + 1, 2, none⟩) (by dsimp only; omega)).trans fr2
  replace kr3 := (hbn.cell (p := ⟨w.heap.size + 1 + 1, 3, none⟩) (by dsimp only; omega)).trans kr3
  replace fr3 := (hbn.frozen (p := ⟨w.heap.size + 1 + 1, 3, none⟩) (by dsimp only; omega)).trans fr3
  replace S1 := hide (S1.out.below hbn)
  replace S2 := hide (S2.out.below hbn)
  replace SG := hide (SG.out.below hbn)
  replace zr := Nat.lt_of_lt_of_le zr hbn.size
  replace HB := hide (bl_trans HB.out hbn)
  clear hbn
  generalize (w2.alloc (Obj.cells #[Value.bool (sgn g), Value.slice ag (lms g).length cg] 26)) = w3 at *
  rw [HSY.out] at kb0
  go_wp2_with fail
  refine (negS (.agg #[.bool (sgn g), .slice ag (lms g).length cg]) g _ ⟨ag, cg, rfl, SG.out⟩ (by omega)).mono ?_
  rintro e w30 ⟨v, rfl, ⟨an, cn, rfl, hn⟩, hb⟩
  have yw30 := hb.size
  replace ka0 := (hb.cell (p := ⟨w.heap.size, 0, none⟩) (by dsimp only; omega)).trans ka0
  replace ka1 := (hb.cell (p := ⟨w.heap.size, 1, none⟩) (by dsimp only; omega)).trans ka1
  replace kb0 := (hb.cell (p := ⟨w.heap.size + 1, 0, none⟩) (by dsimp only; omega)).trans kb0
  replace kb1 := (hb.cell (p := ⟨w.heap.size + 1, 1, none⟩) (by dsimp only; omega)).trans kb1
  replace kr0 := (hb.cell (p := ⟨w.heap.size + 1 + 1, 0, none⟩) (by dsimp only; omega)).trans kr0
  replace fr0 := (hb.frozen (p := ⟨w.heap.size + 1 + 1, 0, none⟩) (by dsimp only; omega)).trans fr0
  replace kr1 := (hb.cell (p := ⟨w.heap.size + 1 + 1, 1, none⟩) (by dsimp only; omega)).trans kr1
  replace fr1 := (hb.frozen (p := ⟨w.heap.size + 1 + 1, 1, none⟩) (by dsimp only; omega)).trans fr1
  replace kr2 := (hb.cell (p := ⟨w.heap.size + 1 + 1, 2, none⟩) (by dsimp only; omega)).trans kr2
  replace fr2 := (hb.frozen (p := ⟨w.heap.size + 1 + 1, 2, none⟩) (by dsimp only; omega)).trans fr2
  replace kr3 := (hb.cell (p := ⟨w.heap.size + 1 + 1, 3, none⟩) (by dsimp only; omega)).trans kr3
  replace fr3 := (hb.frozen (p := ⟨w.heap.size + 1 + 1, 3, none⟩) (by dsimp only; omega)).trans fr3
  replace kg0 := (hb.cell (p := ⟨w2.heap.size, 0, none⟩) (by dsimp only; omega)).trans kg0
  replace fg0 := (hb.frozen (p := ⟨w2.heap.size, 0, none⟩) (by dsimp only; omega)).trans fg0
  replace kg1 := (hb.cell (p := ⟨w2.heap.size, 1, none⟩) (by dsimp only; omega)).trans kg1
  replace fg1 := (hb.frozen (p := ⟨w2.heap.size, 1, none⟩) (by dsimp only; omega)).trans fg1
  replace S1 := hide (S1.out.below hb)
  replace S2 := hide (S2.out.below hb)
  replace SG := hide (SG.out.below hb)
  replace zr := Nat.lt_of_lt_of_le zr hb.size
  replace HB := hide (bl_trans HB.out hb)
  clear hb
  clear SG
  have ON := hide hn
  clear hn
  go_upto_region 4 with fail
  replace ka0 := (cell_two (w := w30) (N := w2.heap.size) (x := (Value.bool (sgn (-g)))) (y := (Value.slice an (lms (-g)).length cn)) (p := ⟨w.heap.size, 0, none⟩) (by dsimp only; omega)).trans ka0
  replace ka1 := (cell_two (w := w30) (N := w2.heap.size) (x := (Value.bool (sgn (-g)))) (y := (Value.slice an (lms (-g)).length cn)) (p := ⟨w.heap.size, 1, none⟩) (by dsimp only; omega)).trans ka1
  replace kb0 := (cell_two (w := w30) (N := w2.heap.size) (x := (Value.bool (sgn (-g)))) (y := (Value.slice an (lms (-g)).length cn)) (p := ⟨w.heap.size + 1, 0, none⟩) (by dsimp only; omega)).trans kb0
  replace kb1 := (cell_two (w := w30) (N := w2.heap.size) (x := (Value.bool (sgn (-g)))) (y := (Value.slice an (lms (-g)).length cn)) (p := ⟨w.heap.size + 1, 1, none⟩) (by dsimp only; omega)).trans kb1
  replace kr0 := (cell_two (w := w30) (N := w2.heap.size) (x := (Value.bool (sgn (-g)))) (y := (Value.slice an (lms (-g)).length cn)) (p := ⟨w.heap.size + 1 + 1, 0, none⟩) (by dsimp only; omega)).trans kr0
  replace fr0 := (frozen_two (w := w30) (N := w2.heap.size) (x := (Value.bool (sgn (-g)))) (y := (Value.slice an (lms (-g)).length cn)) (p := ⟨w.heap.size + 1 + 1, 0, none⟩) (by dsimp only; omega)).trans fr0
  replace kr1 := (cell_two (w := w30) (N := w2.heap.size) (x := (Value.bool (sgn (-g)))) (y := (Value.slice an (lms (-g)).length cn)) (p := ⟨w.heap.size + 1 + 1, 1, none⟩) (by dsimp only; omega)).trans kr1
  replace fr1 := (frozen_two (w := w30) (N := w2.heap.size) (x := (Value.bool (sgn (-g)))) (y := (Value.slice an (lms (-g)).length cn)) (p := ⟨w.heap.size + 1 + 1, 1, none⟩) (by dsimp only; omega)).trans fr1
  replace kr2 := (cell_two (w := w30) (N := w2.heap.size) (x := (Value.bool (sgn (-g)))) (y := (Value.slice an (lms (-g)).length cn)) (p := ⟨w.heap.size + 1 + 1, 2, none⟩) (by dsimp only; omega)).trans kr2
  replace fr2 := (frozen_two (w := w30) (N := w2.heap.size) (x := (Value.bool (sgn (-g)))) (y := (Value.slice an (lms (-g)).length cn)) (p := ⟨w.heap.size + 1 + 1, 2, none⟩) (by dsimp only; omega)).trans fr2
  replace kr3 := (cell_two (w := w30) (N := w2.heap.size) (x := (Value.bool (sgn (-g)))) (y := (Value.slice an (lms (-g)).length cn)) (p := ⟨w.heap.size + 1 + 1, 3, none⟩) (by dsimp only; omega)).trans kr3
  replace fr3 := (frozen_two (w := w30) (N := w2.heap.size) (x := (Value.bool (sgn (-g)))) (y := (Value.slice an (lms (-g)).length cn)) (p := ⟨w.heap.size + 1 + 1, 3, none⟩) (by dsimp only; omega)).trans fr3
  have mg0 : ((w30.setCell ⟨w2.heap.size, 0, none⟩ (Value.bool (sgn (-g)))).setCell ⟨w2.heap.size, 1, none⟩ (Value.slice an (lms (-g)).length cn)).cell? ⟨w2.heap.size, 0, none⟩ = some (Value.bool (sgn (-g))) := by first | go_simp | simp [go_sem, kg0, kg1, fg0, fg1]
  have hg0 : ((w30.setCell ⟨w2.heap.size, 0, none⟩ (Value.bool (sgn (-g)))).setCell ⟨w2.heap.size, 1, none⟩ (Value.slice an (lms (-g)).length cn)).frozen? ⟨w2.heap.size, 0, none⟩ = false := by rw [World.frozen?_setCell, World.frozen?_setCell]; exact fg0
  have mg1 : ((w30.setCell ⟨w2.heap.size, 0, none⟩ (Value.bool (sgn (-g)))).setCell ⟨w2.heap.size, 1, none⟩ (Value.slice an (lms (-g)).length cn)).cell? ⟨w2.heap.size, 1, none⟩ = some (Value.slice an (lms (-g)).length cn) := by first | go_simp | simp [go_sem, kg0, kg1, fg0, fg1]
  have hg1 : ((w30.setCell ⟨w2.heap.size, 0, none⟩ (Value.bool (sgn (-g)))).setCell ⟨w2.heap.size, 1, none⟩ (Value.slice an (lms (-g)).length cn)).frozen? ⟨w2.heap.size, 1, none⟩ = false := by rw [World.frozen?_setCell, World.frozen?_setCell]; exact fg1
  clear kg0 kg1 fg0 fg1
  have kg0 := mg0
  clear mg0
  have kg1 := mg1
  clear mg1
  have fg0 := hg0
  clear hg0
  have fg1 := hg1
  clear hg1
  have yw31 : w30.heap.size ≤ ((w30.setCell ⟨w2.heap.size, 0, none⟩ (Value.bool (sgn (-g)))).setCell ⟨w2.heap.size, 1, none⟩ (Value.slice an (lms (-g)).length cn)).heap.size := by simp
  replace zr : w.heap.size + 1 + 1 < ((w30.setCell ⟨w2.heap.size, 0, none⟩ (Value.bool (sgn (-g)))).setCell ⟨w2.heap.size, 1, none⟩ (Value.slice an (lms (-g)).length cn)).heap.size := Nat.lt_of_lt_of_le zr yw31
  replace HB := hide ((HB.out.setCell (p := ⟨w2.heap.size, 0, none⟩) (by dsimp only; omega) (Value.bool (sgn (-g)))).setCell (p := ⟨w2.heap.size, 1, none⟩) (by dsimp only; omega) (Value.slice an (lms (-g)).length cn))
  replace S1 := hide (T1.out.below HB.out)
  replace S2 := hide (T2.out.below HB.out)
  have SG := hide ((ON.out.setCell (p := ⟨w2.heap.size, 0, none⟩) (by dsimp only; omega) (Value.bool (sgn (-g)))).setCell (p := ⟨w2.heap.size, 1, none⟩) (by dsimp only; omega) (Value.slice an (lms (-g)).length cn)).seg
  clear ON
  generalize ((w30.setCell ⟨w2.heap.size, 0, none⟩ (Value.bool (sgn (-g)))).setCell ⟨w2.heap.size, 1, none⟩ (Value.slice an (lms (-g)).length cn)) = w31 at *
  generalize hgh : -g = h at *
  have HGH := hide hgh
  clear hgh
  go_wp2_with fail
  rw [← HSY.out] at kb0
  refine (divS (.agg #[.bool (sgn x), .slice a1 (lms x).length c1]) (.agg #[.bool (sgn h), .slice an (lms h).length cn]) x h _ ⟨a1, c1, rfl, S1.out⟩ ⟨an, cn, rfl, SG.out⟩ hG0 l1 hGL).mono ?_
  rintro e w4 ⟨aq1, cq1, ar1, cr1, rfl, ho1, hor1, hb⟩
  have yw4 := hb.size
  replace ka0 := (hb.cell (p := ⟨w.heap.size, 0, none⟩) (by dsimp only; omega)).trans ka0
  replace ka1 := (hb.cell (p := ⟨w.heap.size, 1, none⟩) (by dsimp only; omega)).trans ka1
  replace kb0 := (hb.cell (p := ⟨w.heap.size + 1, 0, none⟩) (by dsimp only; omega)).trans kb0
  replace kb1 := (hb.cell (p := ⟨w.heap.size + 1, 1, none⟩) (by dsimp only; omega)).trans kb1
  replace kr0 := (hb.cell (p := ⟨w.heap.size + 1 + 1, 0, none⟩) (by dsimp only; omega)).trans kr0
  replace fr0 := (hb.frozen (p := ⟨w.heap.size + 1 + 1, 0, none⟩) (by dsimp only; omega)).trans fr0
  replace kr1 := (hb.cell (p := ⟨w.heap.size + 1 + 1, 1, none⟩) (by dsimp only; omega)).trans kr1
  replace fr1 := (hb.frozen (p := ⟨w.heap.size + 1 + 1, 1, none⟩) (by dsimp only; omega)).trans fr1
  replace kr2 := (hb.cell (p := ⟨w.heap.size + 1 + 1, 2, none⟩) (by dsimp only; omega)).trans kr2
  replace fr2 := (hb.frozen (p := ⟨w.heap.size + 1 + 1, 2, none⟩) (by dsimp only; omega)).trans fr2
  replace kr3 := (hb.cell (p := ⟨w.heap.size + 1 + 1, 3, none⟩) (by dsimp only; omega)).trans kr3
  replace fr3 := (hb.frozen (p := ⟨w.heap.size + 1 + 1, 3, none⟩) (by dsimp only; omega)).trans fr3
  replace kg0 := (hb.cell (p := ⟨w2.heap.size, 0, none⟩) (by dsimp only; omega)).trans kg0
  replace fg0 := (hb.frozen (p := ⟨w2.heap.size, 0, none⟩) (by dsimp only; omega)).trans fg0
  replace kg1 := (hb.cell (p := ⟨w2.heap.size, 1, none⟩) (by dsimp only; omega)).trans kg1
  replace fg1 := (hb.frozen (p := ⟨w2.heap.size, 1, none⟩) (by dsimp only; omega)).trans fg1
  replace S1 := hide (S1.out.below hb)
  replace S2 := hide (S2.out.below hb)
  replace SG := hide (SG.out.below hb)
  replace zr := Nat.lt_of_lt_of_le zr hb.size
  replace HB := hide (bl_trans HB.out hb)
  clear hb
  clear hor1
  have O1 := hide ho1
  clear ho1
  go_upto_region 5 with fail
  have yw5 : w4.heap.size + 2 ≤ ((w4.alloc (Obj.cells #[Value.bool (sgn (x / h)), Value.slice aq1 (lms (x / h)).length cq1] 26)).alloc (Obj.cells #[Value.bool (sgn (x % h)), Value.slice ar1 (lms (x % h)).length cr1] 26)).heap.size := by simp only [World.size_alloc]; omega
  have kq10 : ((w4.alloc (Obj.cells #[Value.bool (sgn (x / h)), Value.slice aq1 (lms (x / h)).length cq1] 26)).alloc (Obj.cells #[Value.bool (sgn (x % h)), Value.slice ar1 (lms (x % h)).length cr1] 26)).cell? ⟨w4.heap.size, 0, none⟩ = some (Value.bool (sgn (x / h))) := by go_simp
  have kq11 : ((w4.alloc (Obj.cells #[Value.bool (sgn (x / h)), Value.slice aq1 (lms (x / h)).length cq1] 26)).alloc (Obj.cells #[Value.bool (sgn (x % h)), Value.slice ar1 (lms (x % h)).length cr1] 26)).cell? ⟨w4.heap.size, 1, none⟩ = some (Value.slice aq1 (lms (x / h)).length cq1) := by go_simp
  have hbn := (bl_alloc (bl_alloc (bl_refl w4) (Obj.cells #[Value.bool (sgn (x / h)), Value.slice aq1 (lms (x / h)).length cq1] 26)) (Obj.cells #[Value.bool (sgn (x % h)), Value.slice ar1 (lms (x % h)).length cr1] 26))
  have zw5 := zr
  replace ka0 := (hbn.cell (p := ⟨w.heap.size, 0, none⟩) (by dsimp only; omega)).trans ka0
  replace ka1 := (hbn.cell (p := ⟨w.heap.size, 1, none⟩) (by dsimp only; omega)).trans ka1
  replace kb0 := (hbn.cell (p := ⟨w.heap.size + 1, 0, none⟩) (by dsimp only; omega)).trans kb0
  replace kb1 := (hbn.cell (p := ⟨w.heap.size + 1, 1, none⟩) (by dsimp only; omega)).trans kb1
  replace kr0 := (hbn.cell (p := ⟨w.heap.size + 1 + 1, 0, none⟩) (by dsimp only; omega)).trans kr0
  replace fr0 := (hbn.frozen (p := ⟨w.heap.size + 1 + 1, 0, none⟩) (by dsimp only; omega)).trans fr0
  replace kr1 := (hbn.cell (p := ⟨w.heap.size + 1 + 1, 1, none⟩) (by dsimp only; omega)).trans kr1
  replace fr1 := (hbn.frozen (p := ⟨w.heap.size + 1 + 1, 1, none⟩) (by dsimp only; omega)).trans fr1
  replace kr2 := (hbn.cell (p := ⟨w.heap.size + 1 + 1, 2, none⟩) (by dsimp only; omega)).trans kr2
  replace fr2 := (hbn.frozen (p := ⟨w.heap.size + 1 + 1, 2, none⟩) (by dsimp only; omega)).trans fr2
  replace kr3 := (hbn.cell (p := ⟨w.heap.size + 1 + 1, 3, none⟩) (by dsimp only; omega)).trans kr3
  replace fr3 := (hbn.frozen (p := ⟨w.heap.size + 1 + 1, 3, none⟩) (by dsimp only; omega)).trans fr3
  replace kg0 := (hbn.cell (p := ⟨w2.heap.size, 0, none⟩) (by dsimp only; omega)).trans kg0
  replace fg0 := (hbn.frozen (p := ⟨w2.heap.size, 0, none⟩) (by dsimp only; omega)).trans fg0
  replace kg1 := (hbn.cell (p := ⟨w2.heap.size, 1, none⟩) (by dsimp only; omega)).trans kg1
  replace fg1 := (hbn.frozen (p := ⟨w2.heap.size, 1, none⟩) (by dsimp only; omega)).trans fg1
  replace S1 := hide (S1.out.below hbn)
  replace S2 := hide (S2.out.below hbn)
  replace SG := hide (SG.out.below hbn)
  replace O1 := hide (O1.out.below hbn)
  replace zr := Nat.lt_of_lt_of_le zr hbn.size
  replace HB := hide (bl_trans HB.out hbn)
  clear hbn
  generalize ((w4.alloc (Obj.cells #[Value.bool (sgn (x / h)), Value.slice aq1 (lms (x / h)).length cq1] 26)).alloc (Obj.cells #[Value.bool (sgn (x % h)), Value.slice ar1 (lms (x % h)).length cr1] 26)) = w5 at *
  go_wp2_with fail
  refine (divS (.agg #[.bool (sgn y), .slice a2 (lms y).length c2]) (.agg #[.bool (sgn h), .slice an (lms h).length cn]) y h _ ⟨a2, c2, rfl, S2.out⟩ ⟨an, cn, rfl, SG.out⟩ hG0 l2 hGL).mono ?_
  rintro e w6 ⟨aq2, cq2, ar2, cr2, rfl, ho2, hor2, hb⟩
  have HAP := hide (apart_two O1.out ho2)
  have yw6 := hb.size
  replace ka0 := (hb.cell (p := ⟨w.heap.size, 0, none⟩) (by dsimp only; omega)).trans ka0
  replace ka1 := (hb.cell (p := ⟨w.heap.size, 1, none⟩) (by dsimp only; omega)).trans ka1
  replace kb0 := (hb.cell (p := ⟨w.heap.size + 1, 0, none⟩) (by dsimp only; omega)).trans kb0
  replace kb1 := (hb.cell (p := ⟨w.heap.size + 1, 1, none⟩) (by dsimp only; omega)).trans kb1
  replace kr0 := (hb.cell (p := ⟨w.heap.size + 1 + 1, 0, none⟩) (by dsimp only; omega)).trans kr0
  replace fr0 := (hb.frozen (p := ⟨w.heap.size + 1 + 1, 0, none⟩) (by dsimp only; omega)).trans fr0
  replace kr1 := (hb.cell (p := ⟨w.heap.size + 1 + 1, 1, none⟩) (by dsimp only; omega)).trans kr1
  replace fr1 := (hb.frozen (p := ⟨w.heap.size + 1 + 1, 1, none⟩) (by dsimp only; omega)).trans fr1
  replace kr2 := (hb.cell (p := ⟨w.heap.size + 1 + 1, 2, none⟩) (by dsimp only; omega)).trans kr2
  replace fr2 := (hb.frozen (p := ⟨w.heap.size + 1 + 1, 2, none⟩) (by dsimp only; omega)).trans fr2
  replace kr3 := (hb.cell (p := ⟨w.heap.size + 1 + 1, 3, none⟩) (by dsimp only; omega)).trans kr3
  replace fr3 := (hb.frozen (p := ⟨w.heap.size + 1 + 1, 3, none⟩) (by dsimp only; omega)).trans fr3
  replace kg0 := (hb.cell (p := ⟨w2.heap.size, 0, none⟩) (by dsimp only; omega)).trans kg0
  replace fg0 := (hb.frozen (p := ⟨w2.heap.size, 0, none⟩) (by dsimp only; omega)).trans fg0
  replace kg1 := (hb.cell (p := ⟨w2.heap.size, 1, none⟩) (by dsimp only; omega)).trans kg1
  replace fg1 := (hb.frozen (p := ⟨w2.heap.size, 1, none⟩) (by dsimp only; omega)).trans fg1
  replace kq10 := (hb.cell (p := ⟨w4.heap.size, 0, none⟩) (by dsimp only; omega)).trans kq10
  replace kq11 := (hb.cell (p := ⟨w4.heap.size, 1, none⟩) (by dsimp only; omega)).trans kq11
  replace S1 := hide (S1.out.below hb)
  replace S2 := hide (S2.out.below hb)
  replace SG := hide (SG.out.below hb)
  replace O1 := hide (O1.out.below hb)
  replace zr := Nat.lt_of_lt_of_le zr hb.size
  replace HB := hide (bl_trans HB.out hb)
  clear hb
  clear hor2
  have O2 := hide ho2
  clear ho2
  go_upto_region 6 with fail
  have yw7 : w6.heap.size + 2 ≤ ((w6.alloc (Obj.cells #[Value.bool (sgn (y / h)), Value.slice aq2 (lms (y / h)).length cq2] 26)).alloc (Obj.cells #[Value.bool (sgn (y % h)), Value.slice ar2 (lms (y % h)).length cr2] 26)).heap.size := by simp only [World.size_alloc]; omega
  have kq20 : ((w6.alloc (Obj.cells #[Value.bool (sgn (y / h)), Value.slice aq2 (lms (y / h)).length cq2] 26)).alloc (Obj.cells #[Value.bool (sgn (y % h)), Value.slice ar2 (lms (y % h)).length cr2] 26)).cell? ⟨w6.heap.size, 0, none⟩ = some (Value.bool (sgn (y / h))) := by go_simp
  have kq21 : ((w6.alloc (Obj.cells #[Value.bool (sgn (y / h)), Value.slice aq2 (lms (y / h)).length cq2] 26)).alloc (Obj.cells #[Value.bool (sgn (y % h)), Value.slice ar2 (lms (y % h)).length cr2] 26)).cell? ⟨w6.heap.size, 1, none⟩ = some (Value.slice aq2 (lms (y / h)).length cq2) := by go_simp
  have hbn := (bl_alloc (bl_alloc (bl_refl w6) (Obj.cells #[Value.bool (sgn (y / h)), Value.slice aq2 (lms (y / h)).length cq2] 26)) (Obj.cells #[Value.bool (sgn (y % h)), Value.slice ar2 (lms (y % h)).length cr2] 26))
  have zw7 := zr
  replace ka0 := (hbn.cell (p := ⟨w.heap.size, 0, none⟩) (by dsimp only; omega)).trans ka0
  replace ka1 := (hbn.cell (p := ⟨w.heap.size, 1, none⟩) (by dsimp only; omega)).trans ka1
  replace kb0 := (hbn.cell (p := ⟨w.heap.size + 1, 0, none⟩) (by dsimp only; omega)).trans kb0
  replace kb1 := (hbn.cell (p := ⟨w.heap.size + 1, 1, none⟩) (by dsimp only; omega)).trans kb1
  replace kr0 := (hbn.cell (p := ⟨w.heap.size + 1 + 1, 0, none⟩) (by dsimp only; omega)).trans kr0
  replace fr0 := (hbn.frozen (p := ⟨w.heap.size + 1 + 1, 0, none⟩) (by dsimp only; omega)).trans fr0
  replace kr1 := (hbn.cell (p := ⟨w.heap.size + 1 + 1, 1, none⟩) (by dsimp only; omega)).trans kr1
  replace fr1 := (hbn.frozen (p := ⟨w.heap.size + 1 + 1, 1, none⟩) (by dsimp only; omega)).trans fr1
  replace kr2 := (hbn.cell (p := ⟨w.heap.size + 1 + 1, 2, none⟩) (by dsimp only; omega)).trans kr2
  replace fr2 := (hbn.frozen (p := ⟨w.heap.size + 1 + 1, 2, none⟩) (by dsimp only; omega)).trans fr2
  replace kr3 := (hbn.cell (p := ⟨w.heap.size + 1 + 1, 3, none⟩) (by dsimp only; omega)).trans kr3
  replace fr3 := (hbn.frozen (p := ⟨w.heap.size + 1 + 1, 3, none⟩) (by dsimp only; omega)).trans fr3
  replace kg0 := (hbn.cell (p := ⟨w2.heap.size, 0, none⟩) (by dsimp only; omega)).trans kg0
  replace fg0 := (hbn.frozen (p := ⟨w2.heap.size, 0, none⟩) (by dsimp only; omega)).trans fg0
  replace kg1 := (hbn.cell (p := ⟨w2.heap.size, 1, none⟩) (by dsimp only; omega)).trans kg1
  replace fg1 := (hbn.frozen (p := ⟨w2.heap.size, 1, none⟩) (by dsimp only; omega)).trans fg1
  replace kq10 := (hbn.cell (p := ⟨w4.heap.size, 0, none⟩) (by dsimp only; omega)).trans kq10
  replace kq11 := (hbn.cell (p := ⟨w4.heap.size, 1, none⟩) (by dsimp only; omega)).trans kq11
  replace S1 := hide (S1.out.below hbn)
  replace S2 := hide (S2.out.below hbn)
  replace SG := hide (SG.out.below hbn)
  replace O1 := hide (O1.out.below hbn)
  replace O2 := hide (O2.out.below hbn)
  replace zr := Nat.lt_of_lt_of_le zr hbn.size
  replace HB := hide (bl_trans HB.out hbn)
  clear hbn
  generalize ((w6.alloc (Obj.cells #[Value.bool (sgn (y / h)), Value.slice aq2 (lms (y / h)).length cq2] 26)).alloc (Obj.cells #[Value.bool (sgn (y % h)), Value.slice ar2 (lms (y % h)).length cr2] 26)) = w7 at *
  go_wp2_with fail
  have hgh := HGH.out
  clear HGH
  subst hgh
  refine bodyPost_ret (v := .agg #[.bool (sgn (x / (-g))), .slice aq1 (lms (x / (-g))).length cq1, .bool (sgn (y / (-g))), .slice aq2 (lms (y / (-g))).length cq2]) (by simp [results, Try.results76, go_sem, kr0, kr1, kr2, kr3]) rfl ?_
  obtain ⟨h1, h2, h3⟩ := fin_four (N := w.heap.size + 1 + 1) O1.out O2.out (by omega) (by omega) (by omega) HB.out (Value.bool (sgn (x / (-g)))) (Value.slice aq1 (lms (x / (-g))).length cq1) (Value.bool (sgn (y / (-g)))) (Value.slice aq2 (lms (y / (-g))).length cq2)
  exact ⟨aq1, cq1, aq2, cq2, rfl, h1, h2, HAP.out, h3⟩

theorem makeR (x y : Int) (a1 : Option Addr) (c1 : Nat) (a2 : Option Addr) (c2 : Nat) (w : World) (s1 : Seg w a1 (lms x).length c1 (lms x)) (s2 : Seg w a2 (lms y).length c2 (lms y)) (hy : y ≠ 0) (l1 : (lms x).length ≤ 100000) (l2 : (lms y).length ≤ 100000) :
    Calls Try.prog 76 #[.agg #[Value.bool (sgn x), Value.slice a1 (lms x).length c1], .agg #[Value.bool (sgn y), Value.slice a2 (lms y).length c2]] w fun e w' => ∃ b1 e1 b2 e2, e = .returned (.agg #[.bool (sgn (x / sgG x y)), .slice b1 (lms (x / sgG x y)).length e1, .bool (sgn (y / sgG x y)), .slice b2 (lms (y / sgG x y)).length e2]) ∧ Own w' w.heap.size b1 (lms (x / sgG x y)).length e1 (lms (x / sgG x y)) ∧ Own w' w.heap.size b2 (lms (y / sgG x y)).length e2 (lms (y / sgG x y)) ∧ Apart b1 b2 ∧ Below w.heap.size w w' :=
  if hn : y < 0 then makeRn x y a1 c1 a2 c2 w s1 s2 hy hn l1 l2 else makeRp x y a1 c1 a2 c2 w s1 s2 hy hn l1 l2

end Go.Proofs.Ytknbfnhljblfkaa

/- The walks of ifRight and l03Fit: a fraction where it fits. -/
namespace Go.Proofs.Ytknbfnhljblfkaa
open Go.RowKit
set_option linter.unusedVariables false

/-- whether a fraction fits -/
def ftT (p q : Int) : Bool := fits p && fits q
/-- a fraction where it fits, else nothing -/
def ftV (p q : Int) (a : Option Addr) (c : Nat) (b : Option Addr) (d : Nat) : Value :=
  if ftT p q = true then .agg #[.bool (sgn p), .slice a (lms p).length c, .bool (sgn q), .slice b (lms q).length d] else .agg #[.bool false, .slice none 0 0, .bool false, .slice none 0 0]
theorem ok_fits (z : Int) : okB (sgn z) (lms z) = fits z := ok_of_num z
theorem set_four {w w1 : World} {N : Nat} (hN : w.heap.size ≤ N) (hb : Below w.heap.size w w1) (x y z t : Value) : Below w.heap.size w ((((w1.setCell ⟨N, 0, none⟩ x).setCell ⟨N, 1, none⟩ y).setCell ⟨N, 2, none⟩ z).setCell ⟨N, 3, none⟩ t) :=
  ((((hb).setCell (p := ⟨N, 0, none⟩) hN x).setCell (p := ⟨N, 1, none⟩) hN y).setCell (p := ⟨N, 2, none⟩) hN z).setCell (p := ⟨N, 3, none⟩) hN t

set_option maxHeartbeats 800000 in
theorem fitS (p q : Int) (a : Option Addr) (c : Nat) (b : Option Addr) (d : Nat) (w : World) (s1 : Seg w a (lms p).length c (lms p)) (s2 : Seg w b (lms q).length d (lms q)) :
    Calls Try.prog 42 #[Value.agg #[Value.bool (sgn p), Value.slice a (lms p).length c, Value.bool (sgn q), Value.slice b (lms q).length d]] w fun e w' => e = .returned (.tuple #[ftV p q a c b d, .bool (ftT p q)]) ∧ Below w.heap.size w w' := by
  have ka0 : ((w.alloc (Obj.cells #[Value.bool (sgn p), Value.slice a (lms p).length c, Value.bool (sgn q), Value.slice b (lms q).length d] 37)).alloc (Obj.cells #[Value.bool false, Value.slice none 0 0, Value.bool false, Value.slice none 0 0] 37)).cell? ⟨w.heap.size, 0, none⟩ = some (Value.bool (sgn p)) := by go_simp
  have ka1 : ((w.alloc (Obj.cells #[Value.bool (sgn p), Value.slice a (lms p).length c, Value.bool (sgn q), Value.slice b (lms q).length d] 37)).alloc (Obj.cells #[Value.bool false, Value.slice none 0 0, Value.bool false, Value.slice none 0 0] 37)).cell? ⟨w.heap.size, 1, none⟩ = some (Value.slice a (lms p).length c) := by go_simp
  have ka2 : ((w.alloc (Obj.cells #[Value.bool (sgn p), Value.slice a (lms p).length c, Value.bool (sgn q), Value.slice b (lms q).length d] 37)).alloc (Obj.cells #[Value.bool false, Value.slice none 0 0, Value.bool false, Value.slice none 0 0] 37)).cell? ⟨w.heap.size, 2, none⟩ = some (Value.bool (sgn q)) := by go_simp
  have ka3 : ((w.alloc (Obj.cells #[Value.bool (sgn p), Value.slice a (lms p).length c, Value.bool (sgn q), Value.slice b (lms q).length d] 37)).alloc (Obj.cells #[Value.bool false, Value.slice none 0 0, Value.bool false, Value.slice none 0 0] 37)).cell? ⟨w.heap.size, 3, none⟩ = some (Value.slice b (lms q).length d) := by go_simp
  have kr0 : ((w.alloc (Obj.cells #[Value.bool (sgn p), Value.slice a (lms p).length c, Value.bool (sgn q), Value.slice b (lms q).length d] 37)).alloc (Obj.cells #[Value.bool false, Value.slice none 0 0, Value.bool false, Value.slice none 0 0] 37)).cell? ⟨w.heap.size + 1, 0, none⟩ = some (Value.bool false) := by go_simp
  have fr0 : ((w.alloc (Obj.cells #[Value.bool (sgn p), Value.slice a (lms p).length c, Value.bool (sgn q), Value.slice b (lms q).length d] 37)).alloc (Obj.cells #[Value.bool false, Value.slice none 0 0, Value.bool false, Value.slice none 0 0] 37)).frozen? ⟨w.heap.size + 1, 0, none⟩ = false := by go_simp
  have kr1 : ((w.alloc (Obj.cells #[Value.bool (sgn p), Value.slice a (lms p).length c, Value.bool (sgn q), Value.slice b (lms q).length d] 37)).alloc (Obj.cells #[Value.bool false, Value.slice none 0 0, Value.bool false, Value.slice none 0 0] 37)).cell? ⟨w.heap.size + 1, 1, none⟩ = some (Value.slice none 0 0) := by go_simp
  have fr1 : ((w.alloc (Obj.cells #[Value.bool (sgn p), Value.slice a (lms p).length c, Value.bool (sgn q), Value.slice b (lms q).length d] 37)).alloc (Obj.cells #[Value.bool false, Value.slice none 0 0, Value.bool false, Value.slice none 0 0] 37)).frozen? ⟨w.heap.size + 1, 1, none⟩ = false := by go_simp
  have kr2 : ((w.alloc (Obj.cells #[Value.bool (sgn p), Value.slice a (lms p).length c, Value.bool (sgn q), Value.slice b (lms q).length d] 37)).alloc (Obj.cells #[Value.bool false, Value.slice none 0 0, Value.bool false, Value.slice none 0 0] 37)).cell? ⟨w.heap.size + 1, 2, none⟩ = some (Value.bool false) := by go_simp
  have fr2 : ((w.alloc (Obj.cells #[Value.bool (sgn p), Value.slice a (lms p).length c, Value.bool (sgn q), Value.slice b (lms q).length d] 37)).alloc (Obj.cells #[Value.bool false, Value.slice none 0 0, Value.bool false, Value.slice none 0 0] 37)).frozen? ⟨w.heap.size + 1, 2, none⟩ = false := by go_simp
  have kr3 : ((w.alloc (Obj.cells #[Value.bool (sgn p), Value.slice a (lms p).length c, Value.bool (sgn q), Value.slice b (lms q).length d] 37)).alloc (Obj.cells #[Value.bool false, Value.slice none 0 0, Value.bool false, Value.slice none 0 0] 37)).cell? ⟨w.heap.size + 1, 3, none⟩ = some (Value.slice none 0 0) := by go_simp
  have fr3 : ((w.alloc (Obj.cells #[Value.bool (sgn p), Value.slice a (lms p).length c, Value.bool (sgn q), Value.slice b (lms q).length d] 37)).alloc (Obj.cells #[Value.bool false, Value.slice none 0 0, Value.bool false, Value.slice none 0 0] 37)).frozen? ⟨w.heap.size + 1, 3, none⟩ = false := by go_simp
  have zr : w.heap.size + 1 < ((w.alloc (Obj.cells #[Value.bool (sgn p), Value.slice a (lms p).length c, Value.bool (sgn q), Value.slice b (lms q).length d] 37)).alloc (Obj.cells #[Value.bool false, Value.slice none 0 0, Value.bool false, Value.slice none 0 0] 37)).heap.size := by simp only [World.size_alloc]; omega
  have HB := hide (bl_alloc (bl_alloc (bl_refl w) (Obj.cells #[Value.bool (sgn p), Value.slice a (lms p).length c, Value.bool (sgn q), Value.slice b (lms q).length d] 37)) (Obj.cells #[Value.bool false, Value.slice none 0 0, Value.bool false, Value.slice none 0 0] 37))
  have S1 := hide (s1.below HB.out)
  have S2 := hide (s2.below HB.out)
  clear s1
  clear s2
  go_enter Try.func42, Try.ntmps42
  go_wp2_with fail
  generalize ((w.alloc (Obj.cells #[Value.bool (sgn p), Value.slice a (lms p).length c, Value.bool (sgn q), Value.slice b (lms q).length d] 37)).alloc (Obj.cells #[Value.bool false, Value.slice none 0 0, Value.bool false, Value.slice none 0 0] 37)) = w1 at *
  refine (okS _ (sgn p) (lms p) _ ⟨a, c, rfl, S1.out⟩).mono ?_
  rintro e w2 ⟨rfl, hb⟩
  have yw2 := hb.size
  replace ka0 := (hb.cell (p := ⟨w.heap.size, 0, none⟩) (by dsimp only; omega)).trans ka0
  replace ka1 := (hb.cell (p := ⟨w.heap.size, 1, none⟩) (by dsimp only; omega)).trans ka1
  replace ka2 := (hb.cell (p := ⟨w.heap.size, 2, none⟩) (by dsimp only; omega)).trans ka2
  replace ka3 := (hb.cell (p := ⟨w.heap.size, 3, none⟩) (by dsimp only; omega)).trans ka3
  replace kr0 := (hb.cell (p := ⟨w.heap.size + 1, 0, none⟩) (by dsimp only; omega)).trans kr0
  replace fr0 := (hb.frozen (p := ⟨w.heap.size + 1, 0, none⟩) (by dsimp only; omega)).trans fr0
  replace kr1 := (hb.cell (p := ⟨w.heap.size + 1, 1, none⟩) (by dsimp only; omega)).trans kr1
  replace fr1 := (hb.frozen (p := ⟨w.heap.size + 1, 1, none⟩) (by dsimp only; omega)).trans fr1
  replace kr2 := (hb.cell (p := ⟨w.heap.size + 1, 2, none⟩) (by dsimp only; omega)).trans kr2
  replace fr2 := (hb.frozen (p := ⟨w.heap.size + 1, 2, none⟩) (by dsimp only; omega)).trans fr2
  replace kr3 := (hb.cell (p := ⟨w.heap.size + 1, 3, none⟩) (by dsimp only; omega)).trans kr3
  replace fr3 := (hb.frozen (p := ⟨w.heap.size + 1, 3, none⟩) (by dsimp only; omega)).trans fr3
  replace S1 := hide (S1.out.below hb)
  replace S2 := hide (S2.out.below hb)
  replace zr := Nat.lt_of_lt_of_le zr hb.size
  replace HB := hide (bl_trans HB.out hb)
  clear hb
  rw [ok_fits]
  cases e1 : fits p with
  | false =>
    have HE : Hid (ftT p q = false) := hide (by unfold ftT; rw [e1]; rfl)
    clear e1
    go_wp2
    refine bodyPost_ret (v := (.tuple #[.agg #[.bool false, .slice none 0 0, .bool false, .slice none 0 0], .bool false])) (by simp [results, Try.results42, go_sem, kr0, kr1, kr2, kr3]) rfl ?_
    exact ⟨by unfold ftV; rw [HE.out]; rfl, by first | exact HB.out | exact set_four (N := w.heap.size + 1) (by omega) HB.out _ _ _ _⟩
  | true =>
  have E1 := hide e1
  clear e1
  go_wp2_with fail
  refine (okS _ (sgn q) (lms q) _ ⟨b, d, rfl, S2.out⟩).mono ?_
  rintro e w3 ⟨rfl, hb⟩
  have yw3 := hb.size
  replace ka0 := (hb.cell (p := ⟨w.heap.size, 0, none⟩) (by dsimp only; omega)).trans ka0
  replace ka1 := (hb.cell (p := ⟨w.heap.size, 1, none⟩) (by dsimp only; omega)).trans ka1
  replace ka2 := (hb.cell (p := ⟨w.heap.size, 2, none⟩) (by dsimp only; omega)).trans ka2
  replace ka3 := (hb.cell (p := ⟨w.heap.size, 3, none⟩) (by dsimp only; omega)).trans ka3
  replace kr0 := (hb.cell (p := ⟨w.heap.size + 1, 0, none⟩) (by dsimp only; omega)).trans kr0
  replace fr0 := (hb.frozen (p := ⟨w.heap.size + 1, 0, none⟩) (by dsimp only; omega)).trans fr0
  replace kr1 := (hb.cell (p := ⟨w.heap.size + 1, 1, none⟩) (by dsimp only; omega)).trans kr1
  replace fr1 := (hb.frozen (p := ⟨w.heap.size + 1, 1, none⟩) (by dsimp only; omega)).trans fr1
  replace kr2 := (hb.cell (p := ⟨w.heap.size + 1, 2, none⟩) (by dsimp only; omega)).trans kr2
  replace fr2 := (hb.frozen (p := ⟨w.heap.size + 1, 2, none⟩) (by dsimp only; omega)).trans fr2
  replace kr3 := (hb.cell (p := ⟨w.heap.size + 1, 3, none⟩) (by dsimp only; omega)).trans kr3
  replace fr3 := (hb.frozen (p := ⟨w.heap.size + 1, 3, none⟩) (by dsimp only; omega)).trans fr3
  replace S1 := hide (S1.out.below hb)
  replace S2 := hide (S2.out.below hb)
  replace zr := Nat.lt_of_lt_of_le zr hb.size
  replace HB := hide (bl_trans HB.out hb)
  clear hb
  rw [ok_fits]
  cases e2 : fits q with
  | false =>
    have HE : Hid (ftT p q = false) := hide (by unfold ftT; rw [e2, Bool.and_false])
    clear e2
    go_wp2
    refine bodyPost_ret (v := (.tuple #[.agg #[.bool false, .slice none 0 0, .bool false, .slice none 0 0], .bool false])) (by simp [results, Try.results42, go_sem, kr0, kr1, kr2, kr3]) rfl ?_
    exact ⟨by unfold ftV; rw [HE.out]; rfl, by first | exact HB.out | exact set_four (N := w.heap.size + 1) (by omega) HB.out _ _ _ _⟩
  | true =>
  have HE : Hid (ftT p q = true) := hide (by unfold ftT; rw [E1.out, e2]; rfl)
  clear e2
  go_wp2
  refine bodyPost_ret (v := (.tuple #[Value.agg #[Value.bool (sgn p), Value.slice a (lms p).length c, Value.bool (sgn q), Value.slice b (lms q).length d], .bool true])) (by simp [results, Try.results42, go_sem, kr0, kr1, kr2, kr3]) rfl ?_
  exact ⟨by unfold ftV; rw [HE.out]; rfl, by first | exact HB.out | exact set_four (N := w.heap.size + 1) (by omega) HB.out _ _ _ _⟩


end Go.Proofs.Ytknbfnhljblfkaa

/- The walks of both MakeRat. -/
namespace Go.Proofs.Ytknbfnhljblfkaa
open Go.RowKit
set_option linter.unusedVariables false

/-- whether there is an answer: what was asked ahead, a number to divide by, and what is left fits -/
def rtT (t : Bool) (x y : Int) : Bool := t && (decide (y ≠ 0) && ftT (x / sgG x y) (y / sgG x y))
def rtN (t : Bool) (x y : Int) : Int := if rtT t x y = true then x / sgG x y else 0
def rtD (t : Bool) (x y : Int) : Int := if rtT t x y = true then y / sgG x y else 0
/-- a fraction and a flag, in memory of their own -/
def RatAns (t : Bool) (x y : Int) (w w' : World) (e : Ending) : Prop :=
  ∃ a1 c1 a2 c2, e = .returned (.tuple #[.agg #[.bool (sgn (rtN t x y)), .slice a1 (lms (rtN t x y)).length c1, .bool (sgn (rtD t x y)), .slice a2 (lms (rtD t x y)).length c2], .bool (rtT t x y)]) ∧ Own w' w.heap.size a1 (lms (rtN t x y)).length c1 (lms (rtN t x y)) ∧ Own w' w.heap.size a2 (lms (rtD t x y)).length c2 (lms (rtD t x y)) ∧ Apart a1 a2 ∧ Below w.heap.size w w'
theorem ans_no {t : Bool} {x y : Int} {w w' : World} (h : rtT t x y = false) (hb : Below w.heap.size w w') : RatAns t x y w w' (.returned (.tuple #[.agg #[.bool false, .slice none 0 0, .bool false, .slice none 0 0], .bool false])) := by
  have h1 : rtN t x y = 0 := by unfold rtN; rw [h]; rfl
  have h2 : rtD t x y = 0 := by unfold rtD; rw [h]; rfl
  refine ⟨none, 0, none, 0, ?_, ?_, ?_, Apart.none _, hb⟩
  · rw [h1, h2, h, zero_sgn, zero_lms]; rfl
  · rw [h1, zero_lms]; exact Own.nil _ _
  · rw [h2, zero_lms]; exact Own.nil _ _
theorem ans_yes {t : Bool} {x y : Int} {w w' : World} {a1 a2 : Option Addr} {c1 c2 : Nat} (h : rtT t x y = true) (o1 : Own w' w.heap.size a1 (lms (x / sgG x y)).length c1 (lms (x / sgG x y))) (o2 : Own w' w.heap.size a2 (lms (y / sgG x y)).length c2 (lms (y / sgG x y))) (hap : Apart a1 a2) (hb : Below w.heap.size w w') :
    RatAns t x y w w' (.returned (.tuple #[.agg #[.bool (sgn (x / sgG x y)), .slice a1 (lms (x / sgG x y)).length c1, .bool (sgn (y / sgG x y)), .slice a2 (lms (y / sgG x y)).length c2], .bool true])) := by
  have h1 : rtN t x y = x / sgG x y := by unfold rtN; rw [h]; rfl
  have h2 : rtD t x y = y / sgG x y := by unfold rtD; rw [h]; rfl
  refine ⟨a1, c1, a2, c2, ?_, ?_, ?_, hap, hb⟩
  · rw [h1, h2, h]
  · rw [h1]; exact o1
  · rw [h2]; exact o2
theorem ans_ft {t : Bool} {x y : Int} (ht : t = true) (hy : y ≠ 0) : rtT t x y = ftT (x / sgG x y) (y / sgG x y) := by
  unfold rtT; rw [ht, decide_eq_true hy, Bool.true_and, Bool.true_and]
theorem rtN_len (t : Bool) (x y : Int) : (lms (rtN t x y)).length ≤ 40 := by
  unfold rtN
  by_cases h : rtT t x y = true
  · rw [if_pos h]; unfold rtT ftT fits at h; simp only [Bool.and_eq_true, decide_eq_true_eq] at h; exact Num.limbs_len.2 h.2.2.1
  · rw [if_neg h, zero_lms]; exact Nat.zero_le _
theorem rtD_len (t : Bool) (x y : Int) : (lms (rtD t x y)).length ≤ 40 := by
  unfold rtD
  by_cases h : rtT t x y = true
  · rw [if_pos h]; unfold rtT ftT fits at h; simp only [Bool.and_eq_true, decide_eq_true_eq] at h; exact Num.limbs_len.2 h.2.2.2
  · rw [if_neg h, zero_lms]; exact Nat.zero_le _
theorem ans_f {t : Bool} {x y : Int} (ht : t = false) : rtT t x y = false := by unfold rtT; rw [ht]; rfl
theorem ans_0 {t : Bool} {x y : Int} (hy : y = 0) : rtT t x y = false := by unfold rtT; rw [decide_eq_false (by omega), Bool.false_and, Bool.and_false]
theorem ftV_t {p q : Int} {a b : Option Addr} {c d : Nat} (h : ftT p q = true) : ftV p q a c b d = .agg #[.bool (sgn p), .slice a (lms p).length c, .bool (sgn q), .slice b (lms q).length d] := if_pos h
theorem ftV_f {p q : Int} {a b : Option Addr} {c d : Nat} (h : ftT p q = false) : ftV p q a c b d = .agg #[.bool false, .slice none 0 0, .bool false, .slice none 0 0] := if_neg (by rw [h]; decide)

end Go.Proofs.Ytknbfnhljblfkaa

/- The walks of what is done to two fractions: products and quotients, and the specification's sum. -/
namespace Go.Proofs.Ytknbfnhljblfkaa
open Go.RowKit
set_option linter.unusedVariables false

theorem cell_four {w : World} {N : Nat} {x y z t : Value} {p : Addr} (h : p.block ≠ N) : ((((w.setCell ⟨N, 0, none⟩ x).setCell ⟨N, 1, none⟩ y).setCell ⟨N, 2, none⟩ z).setCell ⟨N, 3, none⟩ t).cell? p = w.cell? p :=
  World.cell?_of_block ((Below.heap_setCell _ ⟨N, 3, none⟩ t p.block h).trans ((Below.heap_setCell _ ⟨N, 2, none⟩ z p.block h).trans ((Below.heap_setCell _ ⟨N, 1, none⟩ y p.block h).trans (Below.heap_setCell w ⟨N, 0, none⟩ x p.block h))))
theorem len_mul {x y : Int} {m n : Nat} (h1 : (lms x).length ≤ m) (h2 : (lms y).length ≤ n) : (lms (mulZ x y)).length ≤ m + n := by
  unfold lms mulZ at *
  refine Num.limbs_len.2 ?_
  rw [Int.natAbs_mul, Nat.pow_add]
  exact Nat.mul_lt_mul'' (Num.limbs_len.1 h1) (Num.limbs_len.1 h2)
theorem len_addN {a b c m : Nat} (h1 : (Num.limbs a).length ≤ m) (h2 : (Num.limbs b).length ≤ m) (h : c ≤ a + b) : (Num.limbs c).length ≤ m + 1 := by
  refine Num.limbs_len.2 (Nat.lt_of_lt_of_le ?_ (pw_two m))
  have := Num.limbs_len.1 h1
  have := Num.limbs_len.1 h2
  omega
theorem len_add {x y : Int} {m : Nat} (h1 : (lms x).length ≤ m) (h2 : (lms y).length ≤ m) : (lms (addZ x y)).length ≤ m + 1 := by
  unfold lms addZ at *; exact len_addN h1 h2 (by omega)
theorem len_sub {x y : Int} {m : Nat} (h1 : (lms x).length ≤ m) (h2 : (lms y).length ≤ m) : (lms (subZ x y)).length ≤ m + 1 := by
  unfold lms subZ at *; exact len_addN h1 h2 (by omega)
theorem prodL (v1 v2 : Value) (x y : Int) (w : World) (h1 : Is w v1 x) (h2 : Is w v2 y) (l1 : (lms x).length ≤ 500000) (l2 : (lms y).length ≤ 500000) :
    Calls Try.prog 36 #[v1, v2] w fun e w' => ∃ v, e = .returned v ∧ New w' w.heap.size v (mulZ x y) ∧ Below w.heap.size w w' := by
  have := prodI v1 v2 (sgn x) (sgn y) x.natAbs y.natAbs w h1 h2 l1 l2
  rw [mk_self, mk_self] at this
  exact this
theorem mulL (v1 v2 : Value) (x y : Int) (w : World) (h1 : Is w v1 x) (h2 : Is w v2 y) (l1 : (lms x).length ≤ 500000) (l2 : (lms y).length ≤ 500000) :
    Calls Try.prog 26 #[v1, v2] w fun e w' => ∃ v, e = .returned v ∧ New w' w.heap.size v (mulZ x y) ∧ Below w.heap.size w w' := mulS v1 v2 x y w h1 h2 l1 l2
theorem addL (v1 v2 : Value) (x y : Int) (w : World) (h1 : Is w v1 x) (h2 : Is w v2 y) (l1 : (lms x).length ≤ 500000) (l2 : (lms y).length ≤ 500000) :
    Calls Try.prog 53 #[v1, v2] w fun e w' => ∃ v, e = .returned v ∧ New w' w.heap.size v (addZ x y) ∧ Below w.heap.size w w' := addS v1 v2 x y w h1 h2 l1 l2
/-- a fraction made of two numbers, in memory of its own -/
def StAns (x y : Int) (w w' : World) (e : Ending) : Prop :=
  ∃ b1 e1 b2 e2, e = .returned (.agg #[.bool (sgn (x / sgG x y)), .slice b1 (lms (x / sgG x y)).length e1, .bool (sgn (y / sgG x y)), .slice b2 (lms (y / sgG x y)).length e2]) ∧ Own w' w.heap.size b1 (lms (x / sgG x y)).length e1 (lms (x / sgG x y)) ∧ Own w' w.heap.size b2 (lms (y / sgG x y)).length e2 (lms (y / sgG x y)) ∧ Apart b1 b2 ∧ Below w.heap.size w w'

end Go.Proofs.Ytknbfnhljblfkaa

/- Turning a fraction's sign, turning a fraction, and what that means for differences and quotients. -/
namespace Go.Proofs.Ytknbfnhljblfkaa
open Go.RowKit
set_option linter.unusedVariables false

theorem fitS_t (p q : Int) (a : Option Addr) (c : Nat) (b : Option Addr) (d : Nat) (w : World) (s1 : Seg w a (lms p).length c (lms p)) (s2 : Seg w b (lms q).length d (lms q)) (h : ftT p q = true) :
    Calls Try.prog 42 #[.agg #[.bool (sgn p), .slice a (lms p).length c, .bool (sgn q), .slice b (lms q).length d]] w fun e w' => e = .returned (.tuple #[.agg #[.bool (sgn p), .slice a (lms p).length c, .bool (sgn q), .slice b (lms q).length d], .bool true]) ∧ Below w.heap.size w w' := by
  have := fitS p q a c b d w s1 s2
  rw [ftV_t h, h] at this
  exact this
theorem fitS_f (p q : Int) (a : Option Addr) (c : Nat) (b : Option Addr) (d : Nat) (w : World) (s1 : Seg w a (lms p).length c (lms p)) (s2 : Seg w b (lms q).length d (lms q)) (h : ftT p q = false) :
    Calls Try.prog 42 #[.agg #[.bool (sgn p), .slice a (lms p).length c, .bool (sgn q), .slice b (lms q).length d]] w fun e w' => e = .returned (.tuple #[.agg #[.bool false, .slice none 0 0, .bool false, .slice none 0 0], .bool false]) ∧ Below w.heap.size w w' := by
  have := fitS p q a c b d w s1 s2
  rw [ftV_f h, h] at this
  exact this
theorem sub_neg (x1 y1 x2 y2 : Int) : addZ (mulZ x1 y2) (mulZ (-x2) y1) = subZ (mulZ x1 y2) (mulZ x2 y1) := by
  unfold addZ subZ mulZ; rw [Int.neg_mul]; omega
theorem sgG_dvd (x y : Int) : sgG x y ∣ x ∧ sgG x y ∣ y := by
  unfold sgG; split
  · exact ⟨Int.neg_dvd.2 (Int.gcd_dvd_left ..), Int.neg_dvd.2 (Int.gcd_dvd_right ..)⟩
  · exact ⟨Int.gcd_dvd_left .., Int.gcd_dvd_right ..⟩
theorem sgG_neg {x y : Int} (hy : y ≠ 0) : sgG (-x) (-y) = -sgG x y := by
  unfold sgG; rw [Int.neg_gcd, Int.gcd_neg]
  by_cases h : y < 0
  · rw [if_neg (by omega), if_pos h]; omega
  · rw [if_pos (by omega), if_neg h]
theorem div_neg_neg {x g : Int} (h : g ∣ x) : -x / -g = x / g := by
  rw [Int.ediv_neg, Int.neg_ediv_of_dvd h, Int.neg_neg]
theorem turn_one {x y : Int} (hg : Int.gcd x y = 1) (hx : x ≠ 0) : (y / sgG y x = y ∧ x / sgG y x = x) ∨ (y / sgG y x = -y ∧ x / sgG y x = -x) := by
  have : Int.gcd y x = 1 := by rw [Int.gcd_comm]; exact hg
  unfold sgG; rw [this]
  by_cases h : x < 0
  · right; rw [if_pos h]; constructor <;> simp
  · left; rw [if_neg h]; constructor <;> simp
theorem ans_quo {x1 y1 x2 y2 : Int} (hg : Int.gcd x2 y2 = 1) (hx : x2 ≠ 0) (hY : mulZ y1 x2 ≠ 0) {w w' : World} {e : Ending} (h : StAns (mulZ x1 (y2 / sgG y2 x2)) (mulZ y1 (x2 / sgG y2 x2)) w w' e) : StAns (mulZ x1 y2) (mulZ y1 x2) w w' e := by
  rcases turn_one hg hx with ⟨h1, h2⟩ | ⟨h1, h2⟩
  · rw [h1, h2] at h; exact h
  · rw [h1, h2] at h
    have e1 : mulZ x1 (-y2) = -mulZ x1 y2 := by unfold mulZ; rw [Int.mul_neg]
    have e2 : mulZ y1 (-x2) = -mulZ y1 x2 := by unfold mulZ; rw [Int.mul_neg]
    rw [e1, e2] at h
    unfold StAns at *
    rw [sgG_neg hY, div_neg_neg (sgG_dvd _ _).1, div_neg_neg (sgG_dvd _ _).2] at h
    exact h
theorem len_turn {x y : Int} (hg : Int.gcd x y = 1) (hx : x ≠ 0) : lms (y / sgG y x) = lms y ∧ lms (x / sgG y x) = lms x := by
  rcases turn_one hg hx with ⟨h1, h2⟩ | ⟨h1, h2⟩ <;> rw [h1, h2] <;> unfold lms <;> simp
set_option maxHeartbeats 800000 in
theorem turnRS (x y : Int) (a : Option Addr) (c : Nat) (b : Option Addr) (d : Nat) (w : World) (m1 : (lms x).length ≤ 1000) (m2 : (lms y).length ≤ 1000) (s1 : Seg w a (lms x).length c (lms x)) (s2 : Seg w b (lms y).length d (lms y)) (hx : x ≠ 0) :
    Calls Try.prog 60 #[Value.agg #[Value.bool (sgn x), Value.slice a (lms x).length c, Value.bool (sgn y), Value.slice b (lms y).length d]] w fun e w' => StAns y x w w' e := by
  have HX := hide hx
  clear hx
  have ka0 : ((w.alloc (Obj.cells #[Value.bool (sgn x), Value.slice a (lms x).length c, Value.bool (sgn y), Value.slice b (lms y).length d] 37)).alloc (Obj.cells #[Value.bool false, Value.slice none 0 0, Value.bool false, Value.slice none 0 0] 37)).cell? ⟨w.heap.size, 0, none⟩ = some (Value.bool (sgn x)) := by go_simp
  have ka1 : ((w.alloc (Obj.cells #[Value.bool (sgn x), Value.slice a (lms x).length c, Value.bool (sgn y), Value.slice b (lms y).length d] 37)).alloc (Obj.cells #[Value.bool false, Value.slice none 0 0, Value.bool false, Value.slice none 0 0] 37)).cell? ⟨w.heap.size, 1, none⟩ = some (Value.slice a (lms x).length c) := by go_simp
  have ka2 : ((w.alloc (Obj.cells #[Value.bool (sgn x), Value.slice a (lms x).length c, Value.bool (sgn y), Value.slice b (lms y).length d] 37)).alloc (Obj.cells #[Value.bool false, Value.slice none 0 0, Value.bool false, Value.slice none 0 0] 37)).cell? ⟨w.heap.size, 2, none⟩ = some (Value.bool (sgn y)) := by go_simp
  have ka3 : ((w.alloc (Obj.cells #[Value.bool (sgn x), Value.slice a (lms x).length c, Value.bool (sgn y), Value.slice b (lms y).length d] 37)).alloc (Obj.cells #[Value.bool false, Value.slice none 0 0, Value.bool false, Value.slice none 0 0] 37)).cell? ⟨w.heap.size, 3, none⟩ = some (Value.slice b (lms y).length d) := by go_simp
  have kr0 : ((w.alloc (Obj.cells #[Value.bool (sgn x), Value.slice a (lms x).length c, Value.bool (sgn y), Value.slice b (lms y).length d] 37)).alloc (Obj.cells #[Value.bool false, Value.slice none 0 0, Value.bool false, Value.slice none 0 0] 37)).cell? ⟨w.heap.size + 1, 0, none⟩ = some (Value.bool false) := by go_simp
  have fr0 : ((w.alloc (Obj.cells #[Value.bool (sgn x), Value.slice a (lms x).length c, Value.bool (sgn y), Value.slice b (lms y).length d] 37)).alloc (Obj.cells #[Value.bool false, Value.slice none 0 0, Value.bool false, Value.slice none 0 0] 37)).frozen? ⟨w.heap.size + 1, 0, none⟩ = false := by go_simp
  have kr1 : ((w.alloc (Obj.cells #[Value.bool (sgn x), Value.slice a (lms x).length c, Value.bool (sgn y), Value.slice b (lms y).length d] 37)).alloc (Obj.cells #[Value.bool false, Value.slice none 0 0, Value.bool false, Value.slice none 0 0] 37)).cell? ⟨w.heap.size + 1, 1, none⟩ = some (Value.slice none 0 0) := by go_simp
  have fr1 : ((w.alloc (Obj.cells #[Value.bool (sgn x), Value.slice a (lms x).length c, Value.bool (sgn y), Value.slice b (lms y).length d] 37)).alloc (Obj.cells #[Value.bool false, Value.slice none 0 0, Value.bool false, Value.slice none 0 0] 37)).frozen? ⟨w.heap.size + 1, 1, none⟩ = false := by go_simp
  have kr2 : ((w.alloc (Obj.cells #[Value.bool (sgn x), Value.slice a (lms x).length c, Value.bool (sgn y), Value.slice b (lms y).length d] 37)).alloc (Obj.cells #[Value.bool false, Value.slice none 0 0, Value.bool false, Value.slice none 0 0] 37)).cell? ⟨w.heap.size + 1, 2, none⟩ = some (Value.bool false) := by go_simp
  have fr2 : ((w.alloc (Obj.cells #[Value.bool (sgn x), Value.slice a (lms x).length c, Value.bool (sgn y), Value.slice b (lms y).length d] 37)).alloc (Obj.cells #[Value.bool false, Value.slice none 0 0, Value.bool false, Value.slice none 0 0] 37)).frozen? ⟨w.heap.size + 1, 2, none⟩ = false := by go_simp
  have kr3 : ((w.alloc (Obj.cells #[Value.bool (sgn x), Value.slice a (lms x).length c, Value.bool (sgn y), Value.slice b (lms y).length d] 37)).alloc (Obj.cells #[Value.bool false, Value.slice none 0 0, Value.bool false, Value.slice none 0 0] 37)).cell? ⟨w.heap.size + 1, 3, none⟩ = some (Value.slice none 0 0) := by go_simp
  have fr3 : ((w.alloc (Obj.cells #[Value.bool (sgn x), Value.slice a (lms x).length c, Value.bool (sgn y), Value.slice b (lms y).length d] 37)).alloc (Obj.cells #[Value.bool false, Value.slice none 0 0, Value.bool false, Value.slice none 0 0] 37)).frozen? ⟨w.heap.size + 1, 3, none⟩ = false := by go_simp
  have zr : w.heap.size + 1 < ((w.alloc (Obj.cells #[Value.bool (sgn x), Value.slice a (lms x).length c, Value.bool (sgn y), Value.slice b (lms y).length d] 37)).alloc (Obj.cells #[Value.bool false, Value.slice none 0 0, Value.bool false, Value.slice none 0 0] 37)).heap.size := by simp only [World.size_alloc]; omega
  have HB := hide (bl_alloc (bl_alloc (bl_refl w) (Obj.cells #[Value.bool (sgn x), Value.slice a (lms x).length c, Value.bool (sgn y), Value.slice b (lms y).length d] 37)) (Obj.cells #[Value.bool false, Value.slice none 0 0, Value.bool false, Value.slice none 0 0] 37))
  have S1 := hide (s1.below HB.out)
  have S2 := hide (s2.below HB.out)
  clear s1
  clear s2
  go_enter Try.func60, Try.ntmps60
  go_wp2_with fail
  generalize ((w.alloc (Obj.cells #[Value.bool (sgn x), Value.slice a (lms x).length c, Value.bool (sgn y), Value.slice b (lms y).length d] 37)).alloc (Obj.cells #[Value.bool false, Value.slice none 0 0, Value.bool false, Value.slice none 0 0] 37)) = w1 at *
  have z0 := zr
  refine (makeR y x b d a c _ S2.out S1.out HX.out (by omega) (by omega)).mono ?_
  rintro e w2 ⟨d1, f1, d2, f2, rfl, ho1, ho2, hap, hb⟩
  have yw2 := hb.size
  replace ka0 := (hb.cell (p := ⟨w.heap.size, 0, none⟩) (by dsimp only; omega)).trans ka0
  replace ka1 := (hb.cell (p := ⟨w.heap.size, 1, none⟩) (by dsimp only; omega)).trans ka1
  replace ka2 := (hb.cell (p := ⟨w.heap.size, 2, none⟩) (by dsimp only; omega)).trans ka2
  replace ka3 := (hb.cell (p := ⟨w.heap.size, 3, none⟩) (by dsimp only; omega)).trans ka3
  replace kr0 := (hb.cell (p := ⟨w.heap.size + 1, 0, none⟩) (by dsimp only; omega)).trans kr0
  replace fr0 := (hb.frozen (p := ⟨w.heap.size + 1, 0, none⟩) (by dsimp only; omega)).trans fr0
  replace kr1 := (hb.cell (p := ⟨w.heap.size + 1, 1, none⟩) (by dsimp only; omega)).trans kr1
  replace fr1 := (hb.frozen (p := ⟨w.heap.size + 1, 1, none⟩) (by dsimp only; omega)).trans fr1
  replace kr2 := (hb.cell (p := ⟨w.heap.size + 1, 2, none⟩) (by dsimp only; omega)).trans kr2
  replace fr2 := (hb.frozen (p := ⟨w.heap.size + 1, 2, none⟩) (by dsimp only; omega)).trans fr2
  replace kr3 := (hb.cell (p := ⟨w.heap.size + 1, 3, none⟩) (by dsimp only; omega)).trans kr3
  replace fr3 := (hb.frozen (p := ⟨w.heap.size + 1, 3, none⟩) (by dsimp only; omega)).trans fr3
  replace S1 := hide (S1.out.below hb)
  replace S2 := hide (S2.out.below hb)
  replace zr := Nat.lt_of_lt_of_le zr hb.size
  replace HB := hide (bl_trans HB.out hb)
  clear hb
  have HO1 := hide ho1
  have HO2 := hide ho2
  have HAP := hide hap
  clear ho1 ho2 hap
  go_wp2
  refine bodyPost_ret (v := (Value.agg #[Value.bool (sgn (y / sgG y x)), Value.slice d1 (lms (y / sgG y x)).length f1, Value.bool (sgn (x / sgG y x)), Value.slice d2 (lms (x / sgG y x)).length f2])) (by simp [results, Try.results60, go_sem, kr0, kr1, kr2, kr3]) rfl ?_
  obtain ⟨h1, h2, h3⟩ := fin_four (N := w.heap.size + 1) HO1.out HO2.out (by omega) (by omega) (by omega) HB.out (Value.bool (sgn (y / sgG y x))) (Value.slice d1 (lms (y / sgG y x)).length f1) (Value.bool (sgn (x / sgG y x))) (Value.slice d2 (lms (x / sgG y x)).length f2)
  exact ⟨d1, f1, d2, f2, rfl, h1, h2, HAP.out, h3⟩

end Go.Proofs.Ytknbfnhljblfkaa
