/- My texts RCmp, ShortR, in this order. -/
import Derived.Test.YtpmgpdlminacaaaGreatDoorPk27
/- The walks of both RatCmp. -/
namespace Go.Proofs.YtpmgpdlminacaaaGreatDoor
open Go.RowKit
set_option linter.unusedVariables false

/-- a right fraction as two numbers -/
theorem rat_num {n m : Bool} {xs ys : List Nat} (h1 : Num.Small xs) (h2 : Num.Small ys) (h : ratB n xs m ys = true) : ∃ x y : Int, n = sgn x ∧ xs = lms x ∧ m = sgn y ∧ ys = lms y ∧ x.natAbs < 4294967296 ^ 40 ∧ y.natAbs < 4294967296 ^ 40 ∧ 0 < y ∧ Int.gcd x y = 1 := by
  unfold ratB at h
  simp only [Bool.and_eq_true, decide_eq_true_eq] at h
  obtain ⟨x, rfl, rfl, hx⟩ := ok_num h1 h.1.1
  obtain ⟨y, rfl, rfl, hy⟩ := ok_num h2 h.1.2
  rw [nat_lms, nat_lms, mk_self, mk_self] at h
  exact ⟨x, y, rfl, rfl, rfl, rfl, hx, hy, h.2.1, h.2.2⟩
/-- the answer of RatCmp -/
def rcZ (n1 : Bool) (xs1 : List Nat) (m1 : Bool) (ys1 : List Nat) (n2 : Bool) (xs2 : List Nat) (m2 : Bool) (ys2 : List Nat) : Int :=
  if (ratB n1 xs1 m1 ys1 && ratB n2 xs2 m2 ys2) = true then cmpZ (mulZ (mk n1 (Num.nat xs1)) (mk m2 (Num.nat ys2))) (mulZ (mk n2 (Num.nat xs2)) (mk m1 (Num.nat ys1))) else 2

end Go.Proofs.YtpmgpdlminacaaaGreatDoor

/- The walk of the program's shortened. -/
namespace Go.Proofs.YtpmgpdlminacaaaGreatDoor
open Go.RowKit
set_option linter.unusedVariables false

/-- what two numbers share, with the sign of the second -/
def sgG (x y : Int) : Int := if y < 0 then -(Int.gcd x y : Int) else (Int.gcd x y : Int)
theorem limbs_mono {m n : Nat} (h : m ≤ n) : (Num.limbs m).length ≤ (Num.limbs n).length := Num.limbs_len.2 (Nat.lt_of_le_of_lt h (Num.limbs_len.1 (Nat.le_refl _)))
theorem sgG_facts {x y G : Int} (hy : y ≠ 0) (e : sgG x y = G) (l : (lms y).length ≤ 100000) : G ≠ 0 ∧ sgn y = sgn G ∧ lms ((Int.gcd x y : Nat) : Int) = lms G ∧ (lms G).length ≤ 100000 := by
  have hp : 0 < Int.gcd x y := Nat.pos_of_ne_zero (fun h => hy (Int.gcd_eq_zero_iff.1 h).2)
  have ha : G.natAbs = Int.gcd x y := by unfold sgG at e; split at e <;> omega
  have hle : Int.gcd x y ≤ y.natAbs := Nat.le_of_dvd (by omega) (Nat.gcd_dvd_right _ _)
  refine ⟨by omega, ?_, ?_, ?_⟩
  · unfold sgn; unfold sgG at e; split at e
    · rw [decide_eq_true (by omega), decide_eq_true (by omega)]
    · rw [decide_eq_false (by omega), decide_eq_false (by omega)]
  · unfold lms; rw [ha]; rfl
  · unfold lms; rw [ha]; exact Nat.le_trans (limbs_mono hle) l

theorem apart_two {W W' : World} {b n m c c' : Nat} {a a' : Option Addr} {xs ys : List Nat} (h : Own W b a n c xs) (h' : Own W' W.heap.size a' m c' ys) : Apart a a' := by
  rcases h.cases with ⟨rfl, _⟩ | ⟨g, rfl, _, h2⟩
  · exact Apart.none _
  · rcases h'.cases with ⟨rfl, _⟩ | ⟨g', rfl, h3, _⟩
    · exact Apart.none' _
    · exact Apart.blocks (by omega)

set_option maxHeartbeats 400000 in
theorem shortI' (x y : Int) (a1 : Option Addr) (c1 : Nat) (a2 : Option Addr) (c2 : Nat) (w : World) (s1 : Seg w a1 (lms x).length c1 (lms x)) (s2 : Seg w a2 (lms y).length c2 (lms y)) (hy : y ≠ 0) (l1 : (lms x).length ≤ 100000) (l2 : (lms y).length ≤ 100000) :
    Calls Tryz.prog 67 #[.agg #[Value.bool (sgn x), Value.slice a1 (lms x).length c1], .agg #[Value.bool (sgn y), Value.slice a2 (lms y).length c2]] w fun e w' => ∃ b1 e1 b2 e2, e = .returned (.agg #[.bool (sgn (x / sgG x y)), .slice b1 (lms (x / sgG x y)).length e1, .bool (sgn (y / sgG x y)), .slice b2 (lms (y / sgG x y)).length e2]) ∧ Own w' w.heap.size b1 (lms (x / sgG x y)).length e1 (lms (x / sgG x y)) ∧ Own w' w.heap.size b2 (lms (y / sgG x y)).length e2 (lms (y / sgG x y)) ∧ Apart b1 b2 ∧ Below w.heap.size w w' := by
  have ka0 : (((w.alloc (Obj.cells #[Value.bool (sgn x), Value.slice a1 (lms x).length c1] 24)).alloc (Obj.cells #[Value.bool (sgn y), Value.slice a2 (lms y).length c2] 24)).alloc (Obj.cells #[Value.bool false, Value.slice none 0 0, Value.bool false, Value.slice none 0 0] 26)).cell? ⟨w.heap.size, 0, none⟩ = some (Value.bool (sgn x)) := by go_simp
  have fa0 : (((w.alloc (Obj.cells #[Value.bool (sgn x), Value.slice a1 (lms x).length c1] 24)).alloc (Obj.cells #[Value.bool (sgn y), Value.slice a2 (lms y).length c2] 24)).alloc (Obj.cells #[Value.bool false, Value.slice none 0 0, Value.bool false, Value.slice none 0 0] 26)).frozen? ⟨w.heap.size, 0, none⟩ = false := by go_simp
  have ka1 : (((w.alloc (Obj.cells #[Value.bool (sgn x), Value.slice a1 (lms x).length c1] 24)).alloc (Obj.cells #[Value.bool (sgn y), Value.slice a2 (lms y).length c2] 24)).alloc (Obj.cells #[Value.bool false, Value.slice none 0 0, Value.bool false, Value.slice none 0 0] 26)).cell? ⟨w.heap.size, 1, none⟩ = some (Value.slice a1 (lms x).length c1) := by go_simp
  have fa1 : (((w.alloc (Obj.cells #[Value.bool (sgn x), Value.slice a1 (lms x).length c1] 24)).alloc (Obj.cells #[Value.bool (sgn y), Value.slice a2 (lms y).length c2] 24)).alloc (Obj.cells #[Value.bool false, Value.slice none 0 0, Value.bool false, Value.slice none 0 0] 26)).frozen? ⟨w.heap.size, 1, none⟩ = false := by go_simp
  have kb0 : (((w.alloc (Obj.cells #[Value.bool (sgn x), Value.slice a1 (lms x).length c1] 24)).alloc (Obj.cells #[Value.bool (sgn y), Value.slice a2 (lms y).length c2] 24)).alloc (Obj.cells #[Value.bool false, Value.slice none 0 0, Value.bool false, Value.slice none 0 0] 26)).cell? ⟨w.heap.size + 1, 0, none⟩ = some (Value.bool (sgn y)) := by go_simp
  have fb0 : (((w.alloc (Obj.cells #[Value.bool (sgn x), Value.slice a1 (lms x).length c1] 24)).alloc (Obj.cells #[Value.bool (sgn y), Value.slice a2 (lms y).length c2] 24)).alloc (Obj.cells #[Value.bool false, Value.slice none 0 0, Value.bool false, Value.slice none 0 0] 26)).frozen? ⟨w.heap.size + 1, 0, none⟩ = false := by go_simp
  have kb1 : (((w.alloc (Obj.cells #[Value.bool (sgn x), Value.slice a1 (lms x).length c1] 24)).alloc (Obj.cells #[Value.bool (sgn y), Value.slice a2 (lms y).length c2] 24)).alloc (Obj.cells #[Value.bool false, Value.slice none 0 0, Value.bool false, Value.slice none 0 0] 26)).cell? ⟨w.heap.size + 1, 1, none⟩ = some (Value.slice a2 (lms y).length c2) := by go_simp
  have fb1 : (((w.alloc (Obj.cells #[Value.bool (sgn x), Value.slice a1 (lms x).length c1] 24)).alloc (Obj.cells #[Value.bool (sgn y), Value.slice a2 (lms y).length c2] 24)).alloc (Obj.cells #[Value.bool false, Value.slice none 0 0, Value.bool false, Value.slice none 0 0] 26)).frozen? ⟨w.heap.size + 1, 1, none⟩ = false := by go_simp
  have kr0 : (((w.alloc (Obj.cells #[Value.bool (sgn x), Value.slice a1 (lms x).length c1] 24)).alloc (Obj.cells #[Value.bool (sgn y), Value.slice a2 (lms y).length c2] 24)).alloc (Obj.cells #[Value.bool false, Value.slice none 0 0, Value.bool false, Value.slice none 0 0] 26)).cell? ⟨w.heap.size + 1 + 1, 0, none⟩ = some (Value.bool false) := by go_simp
  have fr0 : (((w.alloc (Obj.cells #[Value.bool (sgn x), Value.slice a1 (lms x).length c1] 24)).alloc (Obj.cells #[Value.bool (sgn y), Value.slice a2 (lms y).length c2] 24)).alloc (Obj.cells #[Value.bool false, Value.slice none 0 0, Value.bool false, Value.slice none 0 0] 26)).frozen? ⟨w.heap.size + 1 + 1, 0, none⟩ = false := by go_simp
  have kr1 : (((w.alloc (Obj.cells #[Value.bool (sgn x), Value.slice a1 (lms x).length c1] 24)).alloc (Obj.cells #[Value.bool (sgn y), Value.slice a2 (lms y).length c2] 24)).alloc (Obj.cells #[Value.bool false, Value.slice none 0 0, Value.bool false, Value.slice none 0 0] 26)).cell? ⟨w.heap.size + 1 + 1, 1, none⟩ = some (Value.slice none 0 0) := by go_simp
  have fr1 : (((w.alloc (Obj.cells #[Value.bool (sgn x), Value.slice a1 (lms x).length c1] 24)).alloc (Obj.cells #[Value.bool (sgn y), Value.slice a2 (lms y).length c2] 24)).alloc (Obj.cells #[Value.bool false, Value.slice none 0 0, Value.bool false, Value.slice none 0 0] 26)).frozen? ⟨w.heap.size + 1 + 1, 1, none⟩ = false := by go_simp
  have kr2 : (((w.alloc (Obj.cells #[Value.bool (sgn x), Value.slice a1 (lms x).length c1] 24)).alloc (Obj.cells #[Value.bool (sgn y), Value.slice a2 (lms y).length c2] 24)).alloc (Obj.cells #[Value.bool false, Value.slice none 0 0, Value.bool false, Value.slice none 0 0] 26)).cell? ⟨w.heap.size + 1 + 1, 2, none⟩ = some (Value.bool false) := by go_simp
  have fr2 : (((w.alloc (Obj.cells #[Value.bool (sgn x), Value.slice a1 (lms x).length c1] 24)).alloc (Obj.cells #[Value.bool (sgn y), Value.slice a2 (lms y).length c2] 24)).alloc (Obj.cells #[Value.bool false, Value.slice none 0 0, Value.bool false, Value.slice none 0 0] 26)).frozen? ⟨w.heap.size + 1 + 1, 2, none⟩ = false := by go_simp
  have kr3 : (((w.alloc (Obj.cells #[Value.bool (sgn x), Value.slice a1 (lms x).length c1] 24)).alloc (Obj.cells #[Value.bool (sgn y), Value.slice a2 (lms y).length c2] 24)).alloc (Obj.cells #[Value.bool false, Value.slice none 0 0, Value.bool false, Value.slice none 0 0] 26)).cell? ⟨w.heap.size + 1 + 1, 3, none⟩ = some (Value.slice none 0 0) := by go_simp
  have fr3 : (((w.alloc (Obj.cells #[Value.bool (sgn x), Value.slice a1 (lms x).length c1] 24)).alloc (Obj.cells #[Value.bool (sgn y), Value.slice a2 (lms y).length c2] 24)).alloc (Obj.cells #[Value.bool false, Value.slice none 0 0, Value.bool false, Value.slice none 0 0] 26)).frozen? ⟨w.heap.size + 1 + 1, 3, none⟩ = false := by go_simp
  have zr : w.heap.size + 1 + 1 < (((w.alloc (Obj.cells #[Value.bool (sgn x), Value.slice a1 (lms x).length c1] 24)).alloc (Obj.cells #[Value.bool (sgn y), Value.slice a2 (lms y).length c2] 24)).alloc (Obj.cells #[Value.bool false, Value.slice none 0 0, Value.bool false, Value.slice none 0 0] 26)).heap.size := by simp only [World.size_alloc]; omega
  have HB := hide (bl_alloc (bl_alloc (bl_alloc (bl_refl w) (Obj.cells #[Value.bool (sgn x), Value.slice a1 (lms x).length c1] 24)) (Obj.cells #[Value.bool (sgn y), Value.slice a2 (lms y).length c2] 24)) (Obj.cells #[Value.bool false, Value.slice none 0 0, Value.bool false, Value.slice none 0 0] 26))
  have S1 := hide (s1.below HB.out)
  have S2 := hide (s2.below HB.out)
  have S20 := hide s2
  clear s1 s2
  obtain ⟨G, eG⟩ : ∃ G, sgG x y = G := ⟨_, rfl⟩
  obtain ⟨hG0, hGs, hGl, hGL⟩ := sgG_facts hy eG l2
  rw [eG]
  have HEG := hide eG
  have HGS := hide hGs
  have HGL := hide hGl
  clear eG hGs hGl
  go_enter Tryz.func67, Tryz.ntmps67
  go_wp2_with fail
  generalize (((w.alloc (Obj.cells #[Value.bool (sgn x), Value.slice a1 (lms x).length c1] 24)).alloc (Obj.cells #[Value.bool (sgn y), Value.slice a2 (lms y).length c2] 24)).alloc (Obj.cells #[Value.bool false, Value.slice none 0 0, Value.bool false, Value.slice none 0 0] 26)) = w1 at *
  refine (gcdI _ _ x y _ ⟨a1, c1, rfl, S1.out⟩ ⟨a2, c2, rfl, S2.out⟩ (by omega) (by omega)).mono ?_
  rintro e w2 ⟨v, rfl, ⟨ag, cg, rfl, hog⟩, hb⟩
  have z1 := zr
  replace ka0 := (hb.cell (p := ⟨w.heap.size, 0, none⟩) (by dsimp only; omega)).trans ka0
  replace fa0 := (hb.frozen (p := ⟨w.heap.size, 0, none⟩) (by dsimp only; omega)).trans fa0
  replace ka1 := (hb.cell (p := ⟨w.heap.size, 1, none⟩) (by dsimp only; omega)).trans ka1
  replace fa1 := (hb.frozen (p := ⟨w.heap.size, 1, none⟩) (by dsimp only; omega)).trans fa1
  replace kb0 := (hb.cell (p := ⟨w.heap.size + 1, 0, none⟩) (by dsimp only; omega)).trans kb0
  replace fb0 := (hb.frozen (p := ⟨w.heap.size + 1, 0, none⟩) (by dsimp only; omega)).trans fb0
  replace kb1 := (hb.cell (p := ⟨w.heap.size + 1, 1, none⟩) (by dsimp only; omega)).trans kb1
  replace fb1 := (hb.frozen (p := ⟨w.heap.size + 1, 1, none⟩) (by dsimp only; omega)).trans fb1
  replace kr0 := (hb.cell (p := ⟨w.heap.size + 1 + 1, 0, none⟩) (by dsimp only; omega)).trans kr0
  replace fr0 := (hb.frozen (p := ⟨w.heap.size + 1 + 1, 0, none⟩) (by dsimp only; omega)).trans fr0
  replace kr1 := (hb.cell (p := ⟨w.heap.size + 1 + 1, 1, none⟩) (by dsimp only; omega)).trans kr1
  replace fr1 := (hb.frozen (p := ⟨w.heap.size + 1 + 1, 1, none⟩) (by dsimp only; omega)).trans fr1
  replace kr2 := (hb.cell (p := ⟨w.heap.size + 1 + 1, 2, none⟩) (by dsimp only; omega)).trans kr2
  replace fr2 := (hb.frozen (p := ⟨w.heap.size + 1 + 1, 2, none⟩) (by dsimp only; omega)).trans fr2
  replace kr3 := (hb.cell (p := ⟨w.heap.size + 1 + 1, 3, none⟩) (by dsimp only; omega)).trans kr3
  replace fr3 := (hb.frozen (p := ⟨w.heap.size + 1 + 1, 3, none⟩) (by dsimp only; omega)).trans fr3
  replace zr := Nat.lt_of_lt_of_le zr hb.size
  replace HB := hide (bl_trans HB.out hb)
  replace S1 := hide (S1.out.below hb)
  replace S2 := hide (S2.out.below hb)
  clear hb
  have SG := hide hog.seg
  have OG : Hid (∀ g o s, ag = some ⟨g, o, s⟩ → w.heap.size + 1 + 1 < g) := hide (fun g o s e => by rcases hog.cases with ⟨h, _⟩ | ⟨g2, h, h1, _⟩ <;> rw [h] at e <;> cases e; omega)
  have y1 := zr
  clear hog
  have hA := bl_alloc (bl_refl w2) (Obj.cells #[Value.bool (sgn ((Int.gcd x y : Nat) : Int)), Value.slice ag (lms ((Int.gcd x y : Nat) : Int)).length cg] 24)
  have hC := bl_alloc (bl_refl w2) (Obj.cells #[Value.bool (sgn y), Value.slice ag (lms ((Int.gcd x y : Nat) : Int)).length cg] 24)
  have qb0 := (hA.cell (p := ⟨w.heap.size + 1, 0, none⟩) (by dsimp only; omega)).trans kb0
  have ma0 := (hC.cell (p := ⟨w.heap.size, 0, none⟩) (by dsimp only; omega)).trans ka0
  have ga0 := (hC.frozen (p := ⟨w.heap.size, 0, none⟩) (by dsimp only; omega)).trans fa0
  have ma1 := (hC.cell (p := ⟨w.heap.size, 1, none⟩) (by dsimp only; omega)).trans ka1
  have ga1 := (hC.frozen (p := ⟨w.heap.size, 1, none⟩) (by dsimp only; omega)).trans fa1
  have mb0 := (hC.cell (p := ⟨w.heap.size + 1, 0, none⟩) (by dsimp only; omega)).trans kb0
  have gb0 := (hC.frozen (p := ⟨w.heap.size + 1, 0, none⟩) (by dsimp only; omega)).trans fb0
  have mb1 := (hC.cell (p := ⟨w.heap.size + 1, 1, none⟩) (by dsimp only; omega)).trans kb1
  have gb1 := (hC.frozen (p := ⟨w.heap.size + 1, 1, none⟩) (by dsimp only; omega)).trans fb1
  have mr0 := (hC.cell (p := ⟨w.heap.size + 1 + 1, 0, none⟩) (by dsimp only; omega)).trans kr0
  have gr0 := (hC.frozen (p := ⟨w.heap.size + 1 + 1, 0, none⟩) (by dsimp only; omega)).trans fr0
  have mr1 := (hC.cell (p := ⟨w.heap.size + 1 + 1, 1, none⟩) (by dsimp only; omega)).trans kr1
  have gr1 := (hC.frozen (p := ⟨w.heap.size + 1 + 1, 1, none⟩) (by dsimp only; omega)).trans fr1
  have mr2 := (hC.cell (p := ⟨w.heap.size + 1 + 1, 2, none⟩) (by dsimp only; omega)).trans kr2
  have gr2 := (hC.frozen (p := ⟨w.heap.size + 1 + 1, 2, none⟩) (by dsimp only; omega)).trans fr2
  have mr3 := (hC.cell (p := ⟨w.heap.size + 1 + 1, 3, none⟩) (by dsimp only; omega)).trans kr3
  have gr3 := (hC.frozen (p := ⟨w.heap.size + 1 + 1, 3, none⟩) (by dsimp only; omega)).trans fr3
  have mg0 : (w2.alloc (Obj.cells #[Value.bool (sgn y), Value.slice ag (lms ((Int.gcd x y : Nat) : Int)).length cg] 24)).cell? ⟨w2.heap.size, 0, none⟩ = some (Value.bool (sgn y)) := by go_simp
  have mg1 : (w2.alloc (Obj.cells #[Value.bool (sgn y), Value.slice ag (lms ((Int.gcd x y : Nat) : Int)).length cg] 24)).cell? ⟨w2.heap.size, 1, none⟩ = some (Value.slice ag (lms ((Int.gcd x y : Nat) : Int)).length cg) := by go_simp
  have zg : w2.heap.size < (w2.alloc (Obj.cells #[Value.bool (sgn y), Value.slice ag (lms ((Int.gcd x y : Nat) : Int)).length cg] 24)).heap.size := by simp only [World.size_alloc]; omega
  have y2 := zr
  replace S1 := hide (S1.out.below hC)
  replace S2 := hide (S2.out.below hC)
  replace SG := hide (SG.out.below hC)
  replace HB := hide (bl_trans HB.out hC)
  replace zr := Nat.lt_of_lt_of_le zr hC.size
  clear hA hC
  clear ka0 fa0 ka1 fa1 kb0 fb0 kb1 fb1 kr0 fr0 kr1 fr1 kr2 fr2 kr3 fr3
  go_wp2_with fail
  clear qb0
  generalize w2.alloc (Obj.cells #[Value.bool (sgn y), Value.slice ag (lms ((Int.gcd x y : Nat) : Int)).length cg] 24) = w3 at *
  have HIG : Hid (∀ w', Below w3.heap.size w3 w' → Is w' (.agg #[Value.bool (sgn y), Value.slice ag (lms ((Int.gcd x y : Nat) : Int)).length cg]) G) := hide (fun w' hb => by refine ⟨ag, cg, ?_, ?_⟩; rw [HGS.out, HGL.out]; have := SG.out.below hb; rw [HGL.out] at this; exact this)
  refine (divI _ _ x G _ ⟨a1, c1, rfl, S1.out⟩ (HIG.out _ (bl_refl w3)) hG0 (by omega) (by omega)).mono ?_
  rintro e w5 ⟨a3, c3, a4, c4, rfl, ho3, -, -, hb⟩
  replace ma0 := (hb.cell (p := ⟨w.heap.size, 0, none⟩) (by dsimp only; omega)).trans ma0
  replace ga0 := (hb.frozen (p := ⟨w.heap.size, 0, none⟩) (by dsimp only; omega)).trans ga0
  replace ma1 := (hb.cell (p := ⟨w.heap.size, 1, none⟩) (by dsimp only; omega)).trans ma1
  replace ga1 := (hb.frozen (p := ⟨w.heap.size, 1, none⟩) (by dsimp only; omega)).trans ga1
  replace mb0 := (hb.cell (p := ⟨w.heap.size + 1, 0, none⟩) (by dsimp only; omega)).trans mb0
  replace gb0 := (hb.frozen (p := ⟨w.heap.size + 1, 0, none⟩) (by dsimp only; omega)).trans gb0
  replace mb1 := (hb.cell (p := ⟨w.heap.size + 1, 1, none⟩) (by dsimp only; omega)).trans mb1
  replace gb1 := (hb.frozen (p := ⟨w.heap.size + 1, 1, none⟩) (by dsimp only; omega)).trans gb1
  replace mr0 := (hb.cell (p := ⟨w.heap.size + 1 + 1, 0, none⟩) (by dsimp only; omega)).trans mr0
  replace gr0 := (hb.frozen (p := ⟨w.heap.size + 1 + 1, 0, none⟩) (by dsimp only; omega)).trans gr0
  replace mr1 := (hb.cell (p := ⟨w.heap.size + 1 + 1, 1, none⟩) (by dsimp only; omega)).trans mr1
  replace gr1 := (hb.frozen (p := ⟨w.heap.size + 1 + 1, 1, none⟩) (by dsimp only; omega)).trans gr1
  replace mr2 := (hb.cell (p := ⟨w.heap.size + 1 + 1, 2, none⟩) (by dsimp only; omega)).trans mr2
  replace gr2 := (hb.frozen (p := ⟨w.heap.size + 1 + 1, 2, none⟩) (by dsimp only; omega)).trans gr2
  replace mr3 := (hb.cell (p := ⟨w.heap.size + 1 + 1, 3, none⟩) (by dsimp only; omega)).trans mr3
  replace gr3 := (hb.frozen (p := ⟨w.heap.size + 1 + 1, 3, none⟩) (by dsimp only; omega)).trans gr3
  replace mg0 := (hb.cell (p := ⟨w2.heap.size, 0, none⟩) (by dsimp only; omega)).trans mg0
  replace mg1 := (hb.cell (p := ⟨w2.heap.size, 1, none⟩) (by dsimp only; omega)).trans mg1
  have h35 := hb.size
  have HL35 := hide hb
  replace S2 := hide (S2.out.below hb)
  replace HB := hide (bl_trans HB.out hb)
  have HO3 := hide ho3
  clear hb ho3 S1
  have : ¬ w.heap.size = w.heap.size + 1 := by omega
  have : ¬ w.heap.size = w.heap.size + 1 + 1 := by omega
  have : ¬ w.heap.size + 1 = w.heap.size + 1 + 1 := by omega
  have : ¬ w.heap.size = w2.heap.size := by omega
  have : ¬ w2.heap.size = w.heap.size := by omega
  have : ¬ w.heap.size + 1 = w2.heap.size := by omega
  have : ¬ w2.heap.size = w.heap.size + 1 := by omega
  have : ¬ w.heap.size + 1 + 1 = w2.heap.size := by omega
  have : ¬ w2.heap.size = w.heap.size + 1 + 1 := by omega
  generalize eX : x / G = X at *
  have EX := hide eX
  clear eX
  go_wp2_with fail
  have ca0 : ((w5.setCell ⟨w.heap.size, 0, none⟩ (Value.bool (sgn X))).setCell ⟨w.heap.size, 1, none⟩ (Value.slice a3 (lms X).length c3)).cell? ⟨w.heap.size, 0, none⟩ = some (Value.bool (sgn X)) := by go_simp
  have ca1 : ((w5.setCell ⟨w.heap.size, 0, none⟩ (Value.bool (sgn X))).setCell ⟨w.heap.size, 1, none⟩ (Value.slice a3 (lms X).length c3)).cell? ⟨w.heap.size, 1, none⟩ = some (Value.slice a3 (lms X).length c3) := by go_simp
  have cb0 : ((w5.setCell ⟨w.heap.size, 0, none⟩ (Value.bool (sgn X))).setCell ⟨w.heap.size, 1, none⟩ (Value.slice a3 (lms X).length c3)).cell? ⟨w.heap.size + 1, 0, none⟩ = some (Value.bool (sgn y)) := by go_simp
  have db0 : ((w5.setCell ⟨w.heap.size, 0, none⟩ (Value.bool (sgn X))).setCell ⟨w.heap.size, 1, none⟩ (Value.slice a3 (lms X).length c3)).frozen? ⟨w.heap.size + 1, 0, none⟩ = false := by go_simp
  have cb1 : ((w5.setCell ⟨w.heap.size, 0, none⟩ (Value.bool (sgn X))).setCell ⟨w.heap.size, 1, none⟩ (Value.slice a3 (lms X).length c3)).cell? ⟨w.heap.size + 1, 1, none⟩ = some (Value.slice a2 (lms y).length c2) := by go_simp
  have db1 : ((w5.setCell ⟨w.heap.size, 0, none⟩ (Value.bool (sgn X))).setCell ⟨w.heap.size, 1, none⟩ (Value.slice a3 (lms X).length c3)).frozen? ⟨w.heap.size + 1, 1, none⟩ = false := by go_simp
  have cr0 : ((w5.setCell ⟨w.heap.size, 0, none⟩ (Value.bool (sgn X))).setCell ⟨w.heap.size, 1, none⟩ (Value.slice a3 (lms X).length c3)).cell? ⟨w.heap.size + 1 + 1, 0, none⟩ = some (Value.bool false) := by go_simp
  have dr0 : ((w5.setCell ⟨w.heap.size, 0, none⟩ (Value.bool (sgn X))).setCell ⟨w.heap.size, 1, none⟩ (Value.slice a3 (lms X).length c3)).frozen? ⟨w.heap.size + 1 + 1, 0, none⟩ = false := by go_simp
  have cr1 : ((w5.setCell ⟨w.heap.size, 0, none⟩ (Value.bool (sgn X))).setCell ⟨w.heap.size, 1, none⟩ (Value.slice a3 (lms X).length c3)).cell? ⟨w.heap.size + 1 + 1, 1, none⟩ = some (Value.slice none 0 0) := by go_simp
  have dr1 : ((w5.setCell ⟨w.heap.size, 0, none⟩ (Value.bool (sgn X))).setCell ⟨w.heap.size, 1, none⟩ (Value.slice a3 (lms X).length c3)).frozen? ⟨w.heap.size + 1 + 1, 1, none⟩ = false := by go_simp
  have cr2 : ((w5.setCell ⟨w.heap.size, 0, none⟩ (Value.bool (sgn X))).setCell ⟨w.heap.size, 1, none⟩ (Value.slice a3 (lms X).length c3)).cell? ⟨w.heap.size + 1 + 1, 2, none⟩ = some (Value.bool false) := by go_simp
  have dr2 : ((w5.setCell ⟨w.heap.size, 0, none⟩ (Value.bool (sgn X))).setCell ⟨w.heap.size, 1, none⟩ (Value.slice a3 (lms X).length c3)).frozen? ⟨w.heap.size + 1 + 1, 2, none⟩ = false := by go_simp
  have cr3 : ((w5.setCell ⟨w.heap.size, 0, none⟩ (Value.bool (sgn X))).setCell ⟨w.heap.size, 1, none⟩ (Value.slice a3 (lms X).length c3)).cell? ⟨w.heap.size + 1 + 1, 3, none⟩ = some (Value.slice none 0 0) := by go_simp
  have dr3 : ((w5.setCell ⟨w.heap.size, 0, none⟩ (Value.bool (sgn X))).setCell ⟨w.heap.size, 1, none⟩ (Value.slice a3 (lms X).length c3)).frozen? ⟨w.heap.size + 1 + 1, 3, none⟩ = false := by go_simp
  have cg0 : ((w5.setCell ⟨w.heap.size, 0, none⟩ (Value.bool (sgn X))).setCell ⟨w.heap.size, 1, none⟩ (Value.slice a3 (lms X).length c3)).cell? ⟨w2.heap.size, 0, none⟩ = some (Value.bool (sgn y)) := by go_simp
  have cg1 : ((w5.setCell ⟨w.heap.size, 0, none⟩ (Value.bool (sgn X))).setCell ⟨w.heap.size, 1, none⟩ (Value.slice a3 (lms X).length c3)).cell? ⟨w2.heap.size, 1, none⟩ = some (Value.slice ag (lms ((Int.gcd x y : Nat) : Int)).length cg) := by go_simp
  have hz6 : ((w5.setCell ⟨w.heap.size, 0, none⟩ (Value.bool (sgn X))).setCell ⟨w.heap.size, 1, none⟩ (Value.slice a3 (lms X).length c3)).heap.size = w5.heap.size := by simp
  have HO6 : Hid (Own ((w5.setCell ⟨w.heap.size, 0, none⟩ (Value.bool (sgn X))).setCell ⟨w.heap.size, 1, none⟩ (Value.slice a3 (lms X).length c3)) w3.heap.size a3 (lms X).length c3 (lms X)) := hide ((HO3.out.setCell (p := ⟨w.heap.size, 0, none⟩) (by dsimp only; omega) _).setCell (p := ⟨w.heap.size, 1, none⟩) (by dsimp only; omega) _)
  have HB6 : Hid (Below w.heap.size w ((w5.setCell ⟨w.heap.size, 0, none⟩ (Value.bool (sgn X))).setCell ⟨w.heap.size, 1, none⟩ (Value.slice a3 (lms X).length c3))) := hide ((HB.out.setCell (p := ⟨w.heap.size, 0, none⟩) (Nat.le_refl _) _).setCell (p := ⟨w.heap.size, 1, none⟩) (Nat.le_refl _) _)
  have S26 : Hid (Seg ((w5.setCell ⟨w.heap.size, 0, none⟩ (Value.bool (sgn X))).setCell ⟨w.heap.size, 1, none⟩ (Value.slice a3 (lms X).length c3)) a2 (lms y).length c2 (lms y)) := hide ((S2.out.grownLow S20.out (grown_set _ ⟨w.heap.size, 0, none⟩ _) (fun k e => by cases e; exact Nat.le_refl _)).grownLow S20.out (grown_set _ ⟨w.heap.size, 1, none⟩ _) (fun k e => by cases e; exact Nat.le_refl _))
  have SG6 : Hid (Seg ((w5.setCell ⟨w.heap.size, 0, none⟩ (Value.bool (sgn X))).setCell ⟨w.heap.size, 1, none⟩ (Value.slice a3 (lms X).length c3)) ag (lms ((Int.gcd x y : Nat) : Int)).length cg (lms ((Int.gcd x y : Nat) : Int))) := hide (((SG.out.below HL35.out).setOff (p := ⟨w.heap.size, 0, none⟩) (fun _ g o s e => by have := OG.out g o s e; dsimp only; omega) _).setOff (p := ⟨w.heap.size, 1, none⟩) (fun _ g o s e => by have := OG.out g o s e; dsimp only; omega) _)
  clear HO3 HB S2 SG HIG HL35 ma0 ga0 ma1 ga1 mb0 gb0 mb1 gb1 mr0 gr0 mr1 gr1 mr2 gr2 mr3 gr3 mg0 mg1
  generalize ((w5.setCell ⟨w.heap.size, 0, none⟩ (Value.bool (sgn X))).setCell ⟨w.heap.size, 1, none⟩ (Value.slice a3 (lms X).length c3)) = w6 at *
  rw [hz6.symm] at h35
  clear hz6
  refine (divI _ _ y G _ ⟨a2, c2, rfl, S26.out⟩ ⟨ag, cg, by rw [HGS.out, HGL.out], by have := SG6.out; rw [HGL.out] at this; exact this⟩ hG0 (by omega) (by omega)).mono ?_
  rintro e w7 ⟨b3, e3, b4, e4, rfl, hq3, -, -, hb⟩
  replace ca0 := (hb.cell (p := ⟨w.heap.size, 0, none⟩) (by dsimp only; omega)).trans ca0
  replace ca1 := (hb.cell (p := ⟨w.heap.size, 1, none⟩) (by dsimp only; omega)).trans ca1
  replace cb0 := (hb.cell (p := ⟨w.heap.size + 1, 0, none⟩) (by dsimp only; omega)).trans cb0
  replace db0 := (hb.frozen (p := ⟨w.heap.size + 1, 0, none⟩) (by dsimp only; omega)).trans db0
  replace cb1 := (hb.cell (p := ⟨w.heap.size + 1, 1, none⟩) (by dsimp only; omega)).trans cb1
  replace db1 := (hb.frozen (p := ⟨w.heap.size + 1, 1, none⟩) (by dsimp only; omega)).trans db1
  replace cr0 := (hb.cell (p := ⟨w.heap.size + 1 + 1, 0, none⟩) (by dsimp only; omega)).trans cr0
  replace dr0 := (hb.frozen (p := ⟨w.heap.size + 1 + 1, 0, none⟩) (by dsimp only; omega)).trans dr0
  replace cr1 := (hb.cell (p := ⟨w.heap.size + 1 + 1, 1, none⟩) (by dsimp only; omega)).trans cr1
  replace dr1 := (hb.frozen (p := ⟨w.heap.size + 1 + 1, 1, none⟩) (by dsimp only; omega)).trans dr1
  replace cr2 := (hb.cell (p := ⟨w.heap.size + 1 + 1, 2, none⟩) (by dsimp only; omega)).trans cr2
  replace dr2 := (hb.frozen (p := ⟨w.heap.size + 1 + 1, 2, none⟩) (by dsimp only; omega)).trans dr2
  replace cr3 := (hb.cell (p := ⟨w.heap.size + 1 + 1, 3, none⟩) (by dsimp only; omega)).trans cr3
  replace dr3 := (hb.frozen (p := ⟨w.heap.size + 1 + 1, 3, none⟩) (by dsimp only; omega)).trans dr3
  have HAP := hide (apart_two HO6.out hq3)
  replace HO6 := hide (HO6.out.below hb)
  have HQ := hide (hq3.mono (base' := w3.heap.size) (by omega))
  replace HB6 := hide (bl_trans HB6.out hb)
  clear hb hq3 S26 SG6 cg0 cg1
  generalize eY : y / G = Y at *
  have EY := hide eY
  clear eY
  go_wp2
  rw [EX.out, EY.out]
  refine bodyPost_ret (v := .agg #[.bool (sgn X), .slice a3 (lms X).length c3, .bool (sgn Y), .slice b3 (lms Y).length e3]) (by simp [results, Tryz.results67, go_sem, *]) rfl ⟨a3, c3, b3, e3, rfl, ?_, ?_, HAP.out, ?_⟩
  · exact ((((((HO6.out.setCell (p := ⟨w.heap.size + 1, 0, none⟩) (by dsimp only; omega) _).setCell (p := ⟨w.heap.size + 1, 1, none⟩) (by dsimp only; omega) _).setCell (p := ⟨w.heap.size + 1 + 1, 0, none⟩) (by dsimp only; omega) _).setCell (p := ⟨w.heap.size + 1 + 1, 1, none⟩) (by dsimp only; omega) _).setCell (p := ⟨w.heap.size + 1 + 1, 2, none⟩) (by dsimp only; omega) _).setCell (p := ⟨w.heap.size + 1 + 1, 3, none⟩) (by dsimp only; omega) _).mono (by omega)
  · exact ((((((HQ.out.setCell (p := ⟨w.heap.size + 1, 0, none⟩) (by dsimp only; omega) _).setCell (p := ⟨w.heap.size + 1, 1, none⟩) (by dsimp only; omega) _).setCell (p := ⟨w.heap.size + 1 + 1, 0, none⟩) (by dsimp only; omega) _).setCell (p := ⟨w.heap.size + 1 + 1, 1, none⟩) (by dsimp only; omega) _).setCell (p := ⟨w.heap.size + 1 + 1, 2, none⟩) (by dsimp only; omega) _).setCell (p := ⟨w.heap.size + 1 + 1, 3, none⟩) (by dsimp only; omega) _).mono (by omega)
  · exact ((((((HB6.out.setCell (p := ⟨w.heap.size + 1, 0, none⟩) (by dsimp only; omega) _).setCell (p := ⟨w.heap.size + 1, 1, none⟩) (by dsimp only; omega) _).setCell (p := ⟨w.heap.size + 1 + 1, 0, none⟩) (by dsimp only; omega) _).setCell (p := ⟨w.heap.size + 1 + 1, 1, none⟩) (by dsimp only; omega) _).setCell (p := ⟨w.heap.size + 1 + 1, 2, none⟩) (by dsimp only; omega) _).setCell (p := ⟨w.heap.size + 1 + 1, 3, none⟩) (by dsimp only; omega) _)
end Go.Proofs.YtpmgpdlminacaaaGreatDoor
