/- My texts RTopL, in this order. -/
import Derived.Test.YtpjckilmbidbgaaPk48
/- Turning a fraction's sign, turning a fraction, and what that means for differences and quotients. -/
namespace Go.Proofs.Ytpjckilmbidbgaa
open Go.RowKit
set_option linter.unusedVariables false

theorem fitS_t (p q : Int) (a : Option Addr) (c : Nat) (b : Option Addr) (d : Nat) (w : World) (s1 : Seg w a (lms p).length c (lms p)) (s2 : Seg w b (lms q).length d (lms q)) (h : ftT p q = true) :
    Calls Try.prog 27 #[.agg #[.bool (sgn p), .slice a (lms p).length c, .bool (sgn q), .slice b (lms q).length d]] w fun e w' => e = .returned (.tuple #[.agg #[.bool (sgn p), .slice a (lms p).length c, .bool (sgn q), .slice b (lms q).length d], .bool true]) ∧ Below w.heap.size w w' := by
  have := fitS p q a c b d w s1 s2
  rw [ftV_t h, h] at this
  exact this
theorem fitS_f (p q : Int) (a : Option Addr) (c : Nat) (b : Option Addr) (d : Nat) (w : World) (s1 : Seg w a (lms p).length c (lms p)) (s2 : Seg w b (lms q).length d (lms q)) (h : ftT p q = false) :
    Calls Try.prog 27 #[.agg #[.bool (sgn p), .slice a (lms p).length c, .bool (sgn q), .slice b (lms q).length d]] w fun e w' => e = .returned (.tuple #[.agg #[.bool false, .slice none 0 0, .bool false, .slice none 0 0], .bool false]) ∧ Below w.heap.size w w' := by
  have := fitS p q a c b d w s1 s2
  rw [ftV_f h, h] at this
  exact this
theorem sub_neg (x1 y1 x2 y2 : Int) : addZ (mulZ x1 y2) (mulZ (-x2) y1) = subZ (mulZ x1 y2) (mulZ x2 y1) := by
  unfold addZ subZ mulZ; rw [Int.neg_mul]; omega
theorem sgG_dvd (x y : Int) : sgG x y ∣ x ∧ sgG x y ∣ y := by
  unfold sgG; split
  · exact ⟨Int.neg_dvd.2 (Int.gcd_dvd_left ..), Int.neg_dvd.2 (Int.gcd_dvd_right ..)⟩
  · exact ⟨Int.gcd_dvd_left .., Int.gcd_dvd_right ..⟩
theorem sgG_neg {x y : Int} (hy : y ≠ 0) : sgG (-x) (-y) = -sgG x y := by
  unfold sgG; rw [Int.neg_gcd, Int.gcd_neg]
  by_cases h : y < 0
  · rw [if_neg (by omega), if_pos h]; omega
  · rw [if_pos (by omega), if_neg h]
theorem div_neg_neg {x g : Int} (h : g ∣ x) : -x / -g = x / g := by
  rw [Int.ediv_neg, Int.neg_ediv_of_dvd h, Int.neg_neg]
theorem turn_one {x y : Int} (hg : Int.gcd x y = 1) (hx : x ≠ 0) : (y / sgG y x = y ∧ x / sgG y x = x) ∨ (y / sgG y x = -y ∧ x / sgG y x = -x) := by
  have : Int.gcd y x = 1 := by rw [Int.gcd_comm]; exact hg
  unfold sgG; rw [this]
  by_cases h : x < 0
  · right; rw [if_pos h]; constructor <;> simp
  · left; rw [if_neg h]; constructor <;> simp
theorem ans_quo {x1 y1 x2 y2 : Int} (hg : Int.gcd x2 y2 = 1) (hx : x2 ≠ 0) (hY : mulZ y1 x2 ≠ 0) {w w' : World} {e : Ending} (h : StAns (mulZ x1 (y2 / sgG y2 x2)) (mulZ y1 (x2 / sgG y2 x2)) w w' e) : StAns (mulZ x1 y2) (mulZ y1 x2) w w' e := by
  rcases turn_one hg hx with ⟨h1, h2⟩ | ⟨h1, h2⟩
  · rw [h1, h2] at h; exact h
  · rw [h1, h2] at h
    have e1 : mulZ x1 (-y2) = -mulZ x1 y2 := by unfold mulZ; rw [Int.mul_neg]
    have e2 : mulZ y1 (-x2) = -mulZ y1 x2 := by unfold mulZ; rw [Int.mul_neg]
    rw [e1, e2] at h
    unfold StAns at *
    rw [sgG_neg hY, div_neg_neg (sgG_dvd _ _).1, div_neg_neg (sgG_dvd _ _).2] at h
    exact h
theorem len_turn {x y : Int} (hg : Int.gcd x y = 1) (hx : x ≠ 0) : lms (y / sgG y x) = lms y ∧ lms (x / sgG y x) = lms x := by
  rcases turn_one hg hx with ⟨h1, h2⟩ | ⟨h1, h2⟩ <;> rw [h1, h2] <;> unfold lms <;> simp
theorem subRS (x1 y1 x2 y2 : Int) (a1 : Option Addr) (c1 : Nat) (b1 : Option Addr) (e1 : Nat) (a2 : Option Addr) (c2 : Nat) (b2 : Option Addr) (e2 : Nat) (w : World) (m1 : (lms x1).length ≤ 1000) (m2 : (lms y1).length ≤ 1000) (m3 : (lms x2).length ≤ 1000) (m4 : (lms y2).length ≤ 1000)
    (s1 : Seg w a1 (lms x1).length c1 (lms x1)) (t1 : Seg w b1 (lms y1).length e1 (lms y1)) (s2 : Seg w a2 (lms (-x2)).length c2 (lms (-x2))) (t2 : Seg w b2 (lms y2).length e2 (lms y2)) (hY : mulZ y1 y2 ≠ 0) :
    Calls Try.prog 28 #[Value.agg #[Value.bool (sgn x1), Value.slice a1 (lms x1).length c1, Value.bool (sgn y1), Value.slice b1 (lms y1).length e1], Value.agg #[Value.bool (sgn (-x2)), Value.slice a2 (lms (-x2)).length c2, Value.bool (sgn y2), Value.slice b2 (lms y2).length e2]] w fun e w' => StAns (subZ (mulZ x1 y2) (mulZ x2 y1)) (mulZ y1 y2) w w' e := by
  have := addRS x1 y1 (-x2) y2 a1 c1 b1 e1 a2 c2 b2 e2 w m1 m2 (by rw [neg_len]; exact m3) m4 s1 t1 s2 t2 hY
  rw [sub_neg] at this
  exact this
theorem quoRS (x1 y1 x2 y2 : Int) (a1 : Option Addr) (c1 : Nat) (b1 : Option Addr) (e1 : Nat) (a2 : Option Addr) (c2 : Nat) (b2 : Option Addr) (e2 : Nat) (w : World) (m1 : (lms x1).length ≤ 1000) (m2 : (lms y1).length ≤ 1000) (m3 : (lms x2).length ≤ 1000) (m4 : (lms y2).length ≤ 1000)
    (s1 : Seg w a1 (lms x1).length c1 (lms x1)) (t1 : Seg w b1 (lms y1).length e1 (lms y1)) (s2 : Seg w a2 (lms (y2 / sgG y2 x2)).length c2 (lms (y2 / sgG y2 x2))) (t2 : Seg w b2 (lms (x2 / sgG y2 x2)).length e2 (lms (x2 / sgG y2 x2))) (hg : Int.gcd x2 y2 = 1) (hx : x2 ≠ 0) (hY : mulZ y1 x2 ≠ 0) :
    Calls Try.prog 29 #[Value.agg #[Value.bool (sgn x1), Value.slice a1 (lms x1).length c1, Value.bool (sgn y1), Value.slice b1 (lms y1).length e1], Value.agg #[Value.bool (sgn (y2 / sgG y2 x2)), Value.slice a2 (lms (y2 / sgG y2 x2)).length c2, Value.bool (sgn (x2 / sgG y2 x2)), Value.slice b2 (lms (x2 / sgG y2 x2)).length e2]] w fun e w' => StAns (mulZ x1 y2) (mulZ y1 x2) w w' e :=
  (mulRS x1 y1 (y2 / sgG y2 x2) (x2 / sgG y2 x2) a1 c1 b1 e1 a2 c2 b2 e2 w m1 m2 (by rw [(len_turn hg hx).1]; exact m4) (by rw [(len_turn hg hx).2]; exact m3) s1 t1 s2 t2 (by
    rcases turn_one hg hx with ⟨h1, h2⟩ | ⟨h1, h2⟩ <;> rw [h2]
    · exact hY
    · unfold mulZ at *; rw [Int.mul_neg]; omega)).mono fun e w' h => ans_quo hg hx hY h

set_option maxHeartbeats 800000 in
theorem turnRS (x y : Int) (a : Option Addr) (c : Nat) (b : Option Addr) (d : Nat) (w : World) (m1 : (lms x).length ≤ 1000) (m2 : (lms y).length ≤ 1000) (s1 : Seg w a (lms x).length c (lms x)) (s2 : Seg w b (lms y).length d (lms y)) (hx : x ≠ 0) :
    Calls Try.prog 30 #[Value.agg #[Value.bool (sgn x), Value.slice a (lms x).length c, Value.bool (sgn y), Value.slice b (lms y).length d]] w fun e w' => StAns y x w w' e := by
  have HX := hide hx
  clear hx
  have ka0 : ((w.alloc (Obj.cells #[Value.bool (sgn x), Value.slice a (lms x).length c, Value.bool (sgn y), Value.slice b (lms y).length d] 28)).alloc (Obj.cells #[Value.bool false, Value.slice none 0 0, Value.bool false, Value.slice none 0 0] 28)).cell? ⟨w.heap.size, 0, none⟩ = some (Value.bool (sgn x)) := by go_simp
  have ka1 : ((w.alloc (Obj.cells #[Value.bool (sgn x), Value.slice a (lms x).length c, Value.bool (sgn y), Value.slice b (lms y).length d] 28)).alloc (Obj.cells #[Value.bool false, Value.slice none 0 0, Value.bool false, Value.slice none 0 0] 28)).cell? ⟨w.heap.size, 1, none⟩ = some (Value.slice a (lms x).length c) := by go_simp
  have ka2 : ((w.alloc (Obj.cells #[Value.bool (sgn x), Value.slice a (lms x).length c, Value.bool (sgn y), Value.slice b (lms y).length d] 28)).alloc (Obj.cells #[Value.bool false, Value.slice none 0 0, Value.bool false, Value.slice none 0 0] 28)).cell? ⟨w.heap.size, 2, none⟩ = some (Value.bool (sgn y)) := by go_simp
  have ka3 : ((w.alloc (Obj.cells #[Value.bool (sgn x), Value.slice a (lms x).length c, Value.bool (sgn y), Value.slice b (lms y).length d] 28)).alloc (Obj.cells #[Value.bool false, Value.slice none 0 0, Value.bool false, Value.slice none 0 0] 28)).cell? ⟨w.heap.size, 3, none⟩ = some (Value.slice b (lms y).length d) := by go_simp
  have kr0 : ((w.alloc (Obj.cells #[Value.bool (sgn x), Value.slice a (lms x).length c, Value.bool (sgn y), Value.slice b (lms y).length d] 28)).alloc (Obj.cells #[Value.bool false, Value.slice none 0 0, Value.bool false, Value.slice none 0 0] 28)).cell? ⟨w.heap.size + 1, 0, none⟩ = some (Value.bool false) := by go_simp
  have fr0 : ((w.alloc (Obj.cells #[Value.bool (sgn x), Value.slice a (lms x).length c, Value.bool (sgn y), Value.slice b (lms y).length d] 28)).alloc (Obj.cells #[Value.bool false, Value.slice none 0 0, Value.bool false, Value.slice none 0 0] 28)).frozen? ⟨w.heap.size + 1, 0, none⟩ = false := by go_simp
  have kr1 : ((w.alloc (Obj.cells #[Value.bool (sgn x), Value.slice a (lms x).length c, Value.bool (sgn y), Value.slice b (lms y).length d] 28)).alloc (Obj.cells #[Value.bool false, Value.slice none 0 0, Value.bool false, Value.slice none 0 0] 28)).cell? ⟨w.heap.size + 1, 1, none⟩ = some (Value.slice none 0 0) := by go_simp
  have fr1 : ((w.alloc (Obj.cells #[Value.bool (sgn x), Value.slice a (lms x).length c, Value.bool (sgn y), Value.slice b (lms y).length d] 28)).alloc (Obj.cells #[Value.bool false, Value.slice none 0 0, Value.bool false, Value.slice none 0 0] 28)).frozen? ⟨w.heap.size + 1, 1, none⟩ = false := by go_simp
  have kr2 : ((w.alloc (Obj.cells #[Value.bool (sgn x), Value.slice a (lms x).length c, Value.bool (sgn y), Value.slice b (lms y).length d] 28)).alloc (Obj.cells #[Value.bool false, Value.slice none 0 0, Value.bool false, Value.slice none 0 0] 28)).cell? ⟨w.heap.size + 1, 2, none⟩ = some (Value.bool false) := by go_simp
  have fr2 : ((w.alloc (Obj.cells #[Value.bool (sgn x), Value.slice a (lms x).length c, Value.bool (sgn y), Value.slice b (lms y).length d] 28)).alloc (Obj.cells #[Value.bool false, Value.slice none 0 0, Value.bool false, Value.slice none 0 0] 28)).frozen? ⟨w.heap.size + 1, 2, none⟩ = false := by go_simp
  have kr3 : ((w.alloc (Obj.cells #[Value.bool (sgn x), Value.slice a (lms x).length c, Value.bool (sgn y), Value.slice b (lms y).length d] 28)).alloc (Obj.cells #[Value.bool false, Value.slice none 0 0, Value.bool false, Value.slice none 0 0] 28)).cell? ⟨w.heap.size + 1, 3, none⟩ = some (Value.slice none 0 0) := by go_simp
  have fr3 : ((w.alloc (Obj.cells #[Value.bool (sgn x), Value.slice a (lms x).length c, Value.bool (sgn y), Value.slice b (lms y).length d] 28)).alloc (Obj.cells #[Value.bool false, Value.slice none 0 0, Value.bool false, Value.slice none 0 0] 28)).frozen? ⟨w.heap.size + 1, 3, none⟩ = false := by go_simp
  have zr : w.heap.size + 1 < ((w.alloc (Obj.cells #[Value.bool (sgn x), Value.slice a (lms x).length c, Value.bool (sgn y), Value.slice b (lms y).length d] 28)).alloc (Obj.cells #[Value.bool false, Value.slice none 0 0, Value.bool false, Value.slice none 0 0] 28)).heap.size := by simp only [World.size_alloc]; omega
  have HB := hide (bl_alloc (bl_alloc (bl_refl w) (Obj.cells #[Value.bool (sgn x), Value.slice a (lms x).length c, Value.bool (sgn y), Value.slice b (lms y).length d] 28)) (Obj.cells #[Value.bool false, Value.slice none 0 0, Value.bool false, Value.slice none 0 0] 28))
  have S1 := hide (s1.below HB.out)
  have S2 := hide (s2.below HB.out)
  clear s1
  clear s2
  go_enter Try.func30, Try.ntmps30
  go_wp2_with fail
  generalize ((w.alloc (Obj.cells #[Value.bool (sgn x), Value.slice a (lms x).length c, Value.bool (sgn y), Value.slice b (lms y).length d] 28)).alloc (Obj.cells #[Value.bool false, Value.slice none 0 0, Value.bool false, Value.slice none 0 0] 28)) = w1 at *
  have z0 := zr
  refine (makeR y x b d a c _ S2.out S1.out HX.out (by omega) (by omega)).mono ?_
  rintro e w2 ⟨d1, f1, d2, f2, rfl, ho1, ho2, hap, hb⟩
  have yw2 := hb.size
  replace ka0 := (hb.cell (p := ⟨w.heap.size, 0, none⟩) (by dsimp only; omega)).trans ka0
  replace ka1 := (hb.cell (p := ⟨w.heap.size, 1, none⟩) (by dsimp only; omega)).trans ka1
  replace ka2 := (hb.cell (p := ⟨w.heap.size, 2, none⟩) (by dsimp only; omega)).trans ka2
  replace ka3 := (hb.cell (p := ⟨w.heap.size, 3, none⟩) (by dsimp only; omega)).trans ka3
  replace kr0 := (hb.cell (p := ⟨w.heap.size + 1, 0, none⟩) (by dsimp only; omega)).trans kr0
  replace fr0 := (hb.frozen (p := ⟨w.heap.size + 1, 0, none⟩) (by dsimp only; omega)).trans fr0
  replace kr1 := (hb.cell (p := ⟨w.heap.size + 1, 1, none⟩) (by dsimp only; omega)).trans kr1
  replace fr1 := (hb.frozen (p := ⟨w.heap.size + 1, 1, none⟩) (by dsimp only; omega)).trans fr1
  replace kr2 := (hb.cell (p := ⟨w.heap.size + 1, 2, none⟩) (by dsimp only; omega)).trans kr2
  replace fr2 := (hb.frozen (p := ⟨w.heap.size + 1, 2, none⟩) (by dsimp only; omega)).trans fr2
  replace kr3 := (hb.cell (p := ⟨w.heap.size + 1, 3, none⟩) (by dsimp only; omega)).trans kr3
  replace fr3 := (hb.frozen (p := ⟨w.heap.size + 1, 3, none⟩) (by dsimp only; omega)).trans fr3
  replace S1 := hide (S1.out.below hb)
  replace S2 := hide (S2.out.below hb)
  replace zr := Nat.lt_of_lt_of_le zr hb.size
  replace HB := hide (bl_trans HB.out hb)
  clear hb
  have HO1 := hide ho1
  have HO2 := hide ho2
  have HAP := hide hap
  clear ho1 ho2 hap
  go_wp2
  refine bodyPost_ret (v := (Value.agg #[Value.bool (sgn (y / sgG y x)), Value.slice d1 (lms (y / sgG y x)).length f1, Value.bool (sgn (x / sgG y x)), Value.slice d2 (lms (x / sgG y x)).length f2])) (by simp [results, Try.results30, go_sem, kr0, kr1, kr2, kr3]) rfl ?_
  obtain ⟨h1, h2, h3⟩ := fin_four (N := w.heap.size + 1) HO1.out HO2.out (by omega) (by omega) (by omega) HB.out (Value.bool (sgn (y / sgG y x))) (Value.slice d1 (lms (y / sgG y x)).length f1) (Value.bool (sgn (x / sgG y x))) (Value.slice d2 (lms (x / sgG y x)).length f2)
  exact ⟨d1, f1, d2, f2, rfl, h1, h2, HAP.out, h3⟩

end Go.Proofs.Ytpjckilmbidbgaa
