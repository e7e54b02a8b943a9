/- My texts PwP, PwQ, in this order. -/
import Derived.Test.YtknbfnhljblfkaaPk51
/- The walk of the program's RatPow. -/
namespace Go.Proofs.Ytknbfnhljblfkaa
open Go.RowKit
set_option linter.unusedVariables false

set_option maxHeartbeats 4000000 in
theorem RatPowP (n1 : Bool) (xs1 : List Nat) (m1 : Bool) (ys1 : List Nat) (n : Int) (a1 : Option Addr) (c1 : Nat) (b1 : Option Addr) (e1 : Nat) (w : World) (s1 : Seg w a1 xs1.length c1 xs1) (t1 : Seg w b1 ys1.length e1 ys1) (hi1 : -9223372036854775808 ≤ n) (hi2 : n ≤ 9223372036854775807) :
    Calls Try.prog 15 #[Value.agg #[Value.bool n1, Value.slice a1 xs1.length c1, Value.bool m1, Value.slice b1 ys1.length e1], .int .i64 n] w fun e w' => PrAns (ratB n1 xs1 m1 ys1 && pwG (mk n1 (Num.nat xs1)) n) (pwX (mk n1 (Num.nat xs1)) (mk m1 (Num.nat ys1)) n) (pwY (mk n1 (Num.nat xs1)) (mk m1 (Num.nat ys1)) n) (Int.natAbs n) w w' e := by
  have hmf : ∀ (fn : Fn) (first cap : Array Value) (w : World), (Instr.makeFunc fn first cap).run Try.prog w = .ok (.func fn first cap) w := fun _ _ _ _ => rfl
  have G1 := hide s1.2.2.2.1
  have G2 := hide t1.2.2.2.1
  have ka0 : ((w.alloc (Obj.cells #[Value.bool n1, Value.slice a1 xs1.length c1, Value.bool m1, Value.slice b1 ys1.length e1] 37)).alloc (Obj.cells #[Value.bool false, Value.slice none 0 0, Value.bool false, Value.slice none 0 0] 37)).cell? ⟨w.heap.size, 0, none⟩ = some (Value.bool n1) := by go_simp
  have ka1 : ((w.alloc (Obj.cells #[Value.bool n1, Value.slice a1 xs1.length c1, Value.bool m1, Value.slice b1 ys1.length e1] 37)).alloc (Obj.cells #[Value.bool false, Value.slice none 0 0, Value.bool false, Value.slice none 0 0] 37)).cell? ⟨w.heap.size, 1, none⟩ = some (Value.slice a1 xs1.length c1) := by go_simp
  have ka2 : ((w.alloc (Obj.cells #[Value.bool n1, Value.slice a1 xs1.length c1, Value.bool m1, Value.slice b1 ys1.length e1] 37)).alloc (Obj.cells #[Value.bool false, Value.slice none 0 0, Value.bool false, Value.slice none 0 0] 37)).cell? ⟨w.heap.size, 2, none⟩ = some (Value.bool m1) := by go_simp
  have ka3 : ((w.alloc (Obj.cells #[Value.bool n1, Value.slice a1 xs1.length c1, Value.bool m1, Value.slice b1 ys1.length e1] 37)).alloc (Obj.cells #[Value.bool false, Value.slice none 0 0, Value.bool false, Value.slice none 0 0] 37)).cell? ⟨w.heap.size, 3, none⟩ = some (Value.slice b1 ys1.length e1) := by go_simp
  have kr0 : ((w.alloc (Obj.cells #[Value.bool n1, Value.slice a1 xs1.length c1, Value.bool m1, Value.slice b1 ys1.length e1] 37)).alloc (Obj.cells #[Value.bool false, Value.slice none 0 0, Value.bool false, Value.slice none 0 0] 37)).cell? ⟨w.heap.size + 1, 0, none⟩ = some (Value.bool false) := by go_simp
  have fr0 : ((w.alloc (Obj.cells #[Value.bool n1, Value.slice a1 xs1.length c1, Value.bool m1, Value.slice b1 ys1.length e1] 37)).alloc (Obj.cells #[Value.bool false, Value.slice none 0 0, Value.bool false, Value.slice none 0 0] 37)).frozen? ⟨w.heap.size + 1, 0, none⟩ = false := by go_simp
  have kr1 : ((w.alloc (Obj.cells #[Value.bool n1, Value.slice a1 xs1.length c1, Value.bool m1, Value.slice b1 ys1.length e1] 37)).alloc (Obj.cells #[Value.bool false, Value.slice none 0 0, Value.bool false, Value.slice none 0 0] 37)).cell? ⟨w.heap.size + 1, 1, none⟩ = some (Value.slice none 0 0) := by go_simp
  have fr1 : ((w.alloc (Obj.cells #[Value.bool n1, Value.slice a1 xs1.length c1, Value.bool m1, Value.slice b1 ys1.length e1] 37)).alloc (Obj.cells #[Value.bool false, Value.slice none 0 0, Value.bool false, Value.slice none 0 0] 37)).frozen? ⟨w.heap.size + 1, 1, none⟩ = false := by go_simp
  have kr2 : ((w.alloc (Obj.cells #[Value.bool n1, Value.slice a1 xs1.length c1, Value.bool m1, Value.slice b1 ys1.length e1] 37)).alloc (Obj.cells #[Value.bool false, Value.slice none 0 0, Value.bool false, Value.slice none 0 0] 37)).cell? ⟨w.heap.size + 1, 2, none⟩ = some (Value.bool false) := by go_simp
  have fr2 : ((w.alloc (Obj.cells #[Value.bool n1, Value.slice a1 xs1.length c1, Value.bool m1, Value.slice b1 ys1.length e1] 37)).alloc (Obj.cells #[Value.bool false, Value.slice none 0 0, Value.bool false, Value.slice none 0 0] 37)).frozen? ⟨w.heap.size + 1, 2, none⟩ = false := by go_simp
  have kr3 : ((w.alloc (Obj.cells #[Value.bool n1, Value.slice a1 xs1.length c1, Value.bool m1, Value.slice b1 ys1.length e1] 37)).alloc (Obj.cells #[Value.bool false, Value.slice none 0 0, Value.bool false, Value.slice none 0 0] 37)).cell? ⟨w.heap.size + 1, 3, none⟩ = some (Value.slice none 0 0) := by go_simp
  have fr3 : ((w.alloc (Obj.cells #[Value.bool n1, Value.slice a1 xs1.length c1, Value.bool m1, Value.slice b1 ys1.length e1] 37)).alloc (Obj.cells #[Value.bool false, Value.slice none 0 0, Value.bool false, Value.slice none 0 0] 37)).frozen? ⟨w.heap.size + 1, 3, none⟩ = false := by go_simp
  have zr : w.heap.size + 1 < ((w.alloc (Obj.cells #[Value.bool n1, Value.slice a1 xs1.length c1, Value.bool m1, Value.slice b1 ys1.length e1] 37)).alloc (Obj.cells #[Value.bool false, Value.slice none 0 0, Value.bool false, Value.slice none 0 0] 37)).heap.size := by simp only [World.size_alloc]; omega
  have HB := hide (bl_alloc (bl_alloc (bl_refl w) (Obj.cells #[Value.bool n1, Value.slice a1 xs1.length c1, Value.bool m1, Value.slice b1 ys1.length e1] 37)) (Obj.cells #[Value.bool false, Value.slice none 0 0, Value.bool false, Value.slice none 0 0] 37))
  have S1 := hide (s1.below HB.out)
  have T1 := hide (t1.below HB.out)
  clear s1
  clear t1
  go_enter Try.func15, Try.ntmps15
  go_wp2_with fail
  generalize ((w.alloc (Obj.cells #[Value.bool n1, Value.slice a1 xs1.length c1, Value.bool m1, Value.slice b1 ys1.length e1] 37)).alloc (Obj.cells #[Value.bool false, Value.slice none 0 0, Value.bool false, Value.slice none 0 0] 37)) = w1 at *
  have z0 := zr
  refine (rightI n1 xs1 m1 ys1 a1 c1 b1 e1 _ S1.out T1.out).mono ?_
  rintro e w2 ⟨rfl, hb⟩
  have yw2 := hb.size
  replace ka0 := (hb.cell (p := ⟨w.heap.size, 0, none⟩) (by dsimp only; omega)).trans ka0
  replace ka1 := (hb.cell (p := ⟨w.heap.size, 1, none⟩) (by dsimp only; omega)).trans ka1
  replace ka2 := (hb.cell (p := ⟨w.heap.size, 2, none⟩) (by dsimp only; omega)).trans ka2
  replace ka3 := (hb.cell (p := ⟨w.heap.size, 3, none⟩) (by dsimp only; omega)).trans ka3
  replace kr0 := (hb.cell (p := ⟨w.heap.size + 1, 0, none⟩) (by dsimp only; omega)).trans kr0
  replace fr0 := (hb.frozen (p := ⟨w.heap.size + 1, 0, none⟩) (by dsimp only; omega)).trans fr0
  replace kr1 := (hb.cell (p := ⟨w.heap.size + 1, 1, none⟩) (by dsimp only; omega)).trans kr1
  replace fr1 := (hb.frozen (p := ⟨w.heap.size + 1, 1, none⟩) (by dsimp only; omega)).trans fr1
  replace kr2 := (hb.cell (p := ⟨w.heap.size + 1, 2, none⟩) (by dsimp only; omega)).trans kr2
  replace fr2 := (hb.frozen (p := ⟨w.heap.size + 1, 2, none⟩) (by dsimp only; omega)).trans fr2
  replace kr3 := (hb.cell (p := ⟨w.heap.size + 1, 3, none⟩) (by dsimp only; omega)).trans kr3
  replace fr3 := (hb.frozen (p := ⟨w.heap.size + 1, 3, none⟩) (by dsimp only; omega)).trans fr3
  replace S1 := hide (S1.out.below hb)
  replace T1 := hide (T1.out.below hb)
  replace zr := Nat.lt_of_lt_of_le zr hb.size
  replace HB := hide (bl_trans HB.out hb)
  clear hb
  cases h1 : ratB n1 xs1 m1 ys1 with
  | false =>
    have E1 := hide h1
    clear h1
    have HE : Hid (prT (ratB n1 xs1 m1 ys1 && pwG (mk n1 (Num.nat xs1)) n) (pwX (mk n1 (Num.nat xs1)) (mk m1 (Num.nat ys1)) n) (pwY (mk n1 (Num.nat xs1)) (mk m1 (Num.nat ys1)) n) (Int.natAbs n) = false) := hide (pr_f (by rw [E1.out]; rfl))
    go_wp2
    refine bodyPost_ret (v := (.tuple #[.agg #[.bool false, .slice none 0 0, .bool false, .slice none 0 0], .bool false])) (by simp [results, Try.results15, go_sem, kr0, kr1, kr2, kr3]) rfl ?_
    exact pr_no HE.out (by first | exact HB.out | exact set_four (N := w.heap.size + 1) (by omega) HB.out _ _ _ _)
  | true =>
  have R1 := hide h1
  clear h1
  obtain ⟨x, y, rfl, rfl, rfl, rfl, hx, hy, hp, hg⟩ := rat_num G1.out G2.out R1.out
  have l1 : (lms x).length ≤ 1000 := Nat.le_trans (Num.limbs_len.2 hx) (by decide)
  have l2 : (lms y).length ≤ 1000 := Nat.le_trans (Num.limbs_len.2 hy) (by decide)
  have HX := hide hx
  have HY := hide hy
  have HP := hide hp
  have HG := hide hg
  clear hx hy hp hg G1 G2
  by_cases hr : n < -1000
  · skip
    have hG : Hid (pwG x n = false) := hide (pwG_out (by omega))
    have HE : Hid (prT (ratB (sgn x) (lms x) (sgn y) (lms y) && pwG x n) (pwX x y n) (pwY x y n) (Int.natAbs n) = false) := hide (pr_f (by rw [hG.out, Bool.and_false]))
    go_wp2
    refine bodyPost_ret (v := (.tuple #[.agg #[.bool false, .slice none 0 0, .bool false, .slice none 0 0], .bool false])) (by simp [results, Try.results15, go_sem, kr0, kr1, kr2, kr3]) rfl ?_
    simp only [nat_lms, mk_self]
    exact pr_no HE.out (by first | exact HB.out | exact set_four (N := w.heap.size + 1) (by omega) HB.out _ _ _ _)
  by_cases hn : n < 0
  · skip
    obtain ⟨k, rfl⟩ : ∃ k : Nat, n = -(k : Int) := ⟨n.natAbs, by omega⟩
    go_wp2_with fail
    refine (noughtI _ (sgn x) (lms x) _ ⟨a1, c1, rfl, S1.out⟩).mono ?_
    rintro e w3 ⟨rfl, hb⟩
    have yw3 := hb.size
    replace ka0 := (hb.cell (p := ⟨w.heap.size, 0, none⟩) (by dsimp only; omega)).trans ka0
    replace ka1 := (hb.cell (p := ⟨w.heap.size, 1, none⟩) (by dsimp only; omega)).trans ka1
    replace ka2 := (hb.cell (p := ⟨w.heap.size, 2, none⟩) (by dsimp only; omega)).trans ka2
    replace ka3 := (hb.cell (p := ⟨w.heap.size, 3, none⟩) (by dsimp only; omega)).trans ka3
    replace kr0 := (hb.cell (p := ⟨w.heap.size + 1, 0, none⟩) (by dsimp only; omega)).trans kr0
    replace fr0 := (hb.frozen (p := ⟨w.heap.size + 1, 0, none⟩) (by dsimp only; omega)).trans fr0
    replace kr1 := (hb.cell (p := ⟨w.heap.size + 1, 1, none⟩) (by dsimp only; omega)).trans kr1
    replace fr1 := (hb.frozen (p := ⟨w.heap.size + 1, 1, none⟩) (by dsimp only; omega)).trans fr1
    replace kr2 := (hb.cell (p := ⟨w.heap.size + 1, 2, none⟩) (by dsimp only; omega)).trans kr2
    replace fr2 := (hb.frozen (p := ⟨w.heap.size + 1, 2, none⟩) (by dsimp only; omega)).trans fr2
    replace kr3 := (hb.cell (p := ⟨w.heap.size + 1, 3, none⟩) (by dsimp only; omega)).trans kr3
    replace fr3 := (hb.frozen (p := ⟨w.heap.size + 1, 3, none⟩) (by dsimp only; omega)).trans fr3
    replace S1 := hide (S1.out.below hb)
    replace T1 := hide (T1.out.below hb)
    replace zr := Nat.lt_of_lt_of_le zr hb.size
    replace HB := hide (bl_trans HB.out hb)
    clear hb
    rw [len_zero]
    by_cases hz : x = 0
    · skip
      rw [decide_eq_true hz]
      have hG : Hid (pwG x (-(k : Int)) = false) := hide (pwG_zero hn hz)
      clear hz
      have HE : Hid (prT (ratB (sgn x) (lms x) (sgn y) (lms y) && pwG x (-(k : Int))) (pwX x y (-(k : Int))) (pwY x y (-(k : Int))) (Int.natAbs (-(k : Int))) = false) := hide (pr_f (by rw [hG.out, Bool.and_false]))
      go_wp2
      refine bodyPost_ret (v := (.tuple #[.agg #[.bool false, .slice none 0 0, .bool false, .slice none 0 0], .bool false])) (by simp [results, Try.results15, go_sem, kr0, kr1, kr2, kr3]) rfl ?_
      simp only [nat_lms, mk_self]
      exact pr_no HE.out (by first | exact HB.out | exact set_four (N := w.heap.size + 1) (by omega) HB.out _ _ _ _)
    rw [decide_eq_false hz]
    have HZ := hide hz
    clear hz
    go_wp2_with fail
    refine (turnJ x y a1 c1 b1 e1 _ S1.out T1.out l1 l2 HP.out HG.out HZ.out).mono ?_
    rintro e w4 ⟨g1, i1, g2, i2, rfl, ho1, ho2, hap, hb⟩
    have yw4 := hb.size
    replace ka0 := (hb.cell (p := ⟨w.heap.size, 0, none⟩) (by dsimp only; omega)).trans ka0
    replace ka1 := (hb.cell (p := ⟨w.heap.size, 1, none⟩) (by dsimp only; omega)).trans ka1
    replace ka2 := (hb.cell (p := ⟨w.heap.size, 2, none⟩) (by dsimp only; omega)).trans ka2
    replace ka3 := (hb.cell (p := ⟨w.heap.size, 3, none⟩) (by dsimp only; omega)).trans ka3
    replace kr0 := (hb.cell (p := ⟨w.heap.size + 1, 0, none⟩) (by dsimp only; omega)).trans kr0
    replace fr0 := (hb.frozen (p := ⟨w.heap.size + 1, 0, none⟩) (by dsimp only; omega)).trans fr0
    replace kr1 := (hb.cell (p := ⟨w.heap.size + 1, 1, none⟩) (by dsimp only; omega)).trans kr1
    replace fr1 := (hb.frozen (p := ⟨w.heap.size + 1, 1, none⟩) (by dsimp only; omega)).trans fr1
    replace kr2 := (hb.cell (p := ⟨w.heap.size + 1, 2, none⟩) (by dsimp only; omega)).trans kr2
    replace fr2 := (hb.frozen (p := ⟨w.heap.size + 1, 2, none⟩) (by dsimp only; omega)).trans fr2
    replace kr3 := (hb.cell (p := ⟨w.heap.size + 1, 3, none⟩) (by dsimp only; omega)).trans kr3
    replace fr3 := (hb.frozen (p := ⟨w.heap.size + 1, 3, none⟩) (by dsimp only; omega)).trans fr3
    replace S1 := hide (S1.out.below hb)
    replace T1 := hide (T1.out.below hb)
    replace zr := Nat.lt_of_lt_of_le zr hb.size
    replace HB := hide (bl_trans HB.out hb)
    clear hb
    have P1 := hide ho1.seg
    have P2 := hide ho2.seg
    clear ho1 ho2 hap
    go_wp2_with fail
    have HF := hide (turn_fits HX.out HY.out HG.out HZ.out)
    refine (eachP (y / sgG y x) (x / sgG y x) g1 i1 g2 i2 _ P1.out P2.out k HF.out.1 HF.out.2 (by omega) (by omega)).mono ?_
    rintro e w5 ⟨d1, f1, d2, f2, rfl, ho1, ho2, hap, hb⟩
    have yw5 := hb.size
    replace ka0 := (hb.cell (p := ⟨w.heap.size, 0, none⟩) (by dsimp only; omega)).trans ka0
    replace ka1 := (hb.cell (p := ⟨w.heap.size, 1, none⟩) (by dsimp only; omega)).trans ka1
    replace ka2 := (hb.cell (p := ⟨w.heap.size, 2, none⟩) (by dsimp only; omega)).trans ka2
    replace ka3 := (hb.cell (p := ⟨w.heap.size, 3, none⟩) (by dsimp only; omega)).trans ka3
    replace kr0 := (hb.cell (p := ⟨w.heap.size + 1, 0, none⟩) (by dsimp only; omega)).trans kr0
    replace fr0 := (hb.frozen (p := ⟨w.heap.size + 1, 0, none⟩) (by dsimp only; omega)).trans fr0
    replace kr1 := (hb.cell (p := ⟨w.heap.size + 1, 1, none⟩) (by dsimp only; omega)).trans kr1
    replace fr1 := (hb.frozen (p := ⟨w.heap.size + 1, 1, none⟩) (by dsimp only; omega)).trans fr1
    replace kr2 := (hb.cell (p := ⟨w.heap.size + 1, 2, none⟩) (by dsimp only; omega)).trans kr2
    replace fr2 := (hb.frozen (p := ⟨w.heap.size + 1, 2, none⟩) (by dsimp only; omega)).trans fr2
    replace kr3 := (hb.cell (p := ⟨w.heap.size + 1, 3, none⟩) (by dsimp only; omega)).trans kr3
    replace fr3 := (hb.frozen (p := ⟨w.heap.size + 1, 3, none⟩) (by dsimp only; omega)).trans fr3
    replace S1 := hide (S1.out.below hb)
    replace T1 := hide (T1.out.below hb)
    replace P1 := hide (P1.out.below hb)
    replace P2 := hide (P2.out.below hb)
    replace zr := Nat.lt_of_lt_of_le zr hb.size
    replace HB := hide (bl_trans HB.out hb)
    clear hb
    have O1 := hide ho1
    have O2 := hide ho2
    have HAP := hide hap
    clear ho1 ho2 hap
    generalize hN : prN (decide ((k : Int) ≤ 1000)) (y / sgG y x) (x / sgG y x) ((k : Int).toNat) = PN at *
    generalize hD : prD (decide ((k : Int) ≤ 1000)) (y / sgG y x) (x / sgG y x) ((k : Int).toNat) = PD at *
    generalize hT : prT (decide ((k : Int) ≤ 1000)) (y / sgG y x) (x / sgG y x) ((k : Int).toNat) = PT at *
    have HN := hide hN
    have HD := hide hD
    have HTT := hide hT
    clear hN hD hT
    go_wp2
    refine bodyPost_ret (v := (.tuple #[Value.agg #[Value.bool (sgn PN), Value.slice d1 (lms PN).length f1, Value.bool (sgn PD), Value.slice d2 (lms PD).length f2], .bool PT])) (by simp [results, Try.results15, go_sem, kr0, kr1, kr2, kr3]) rfl ?_
    obtain ⟨h1, h2, h3⟩ := fin_four (N := w.heap.size + 1) O1.out O2.out (by omega) (by omega) (by omega) HB.out (Value.bool (sgn PN)) (Value.slice d1 (lms PN).length f1) (Value.bool (sgn PD)) (Value.slice d2 (lms PD).length f2)
    simp only [nat_lms, mk_self]
    refine pw_neg R1.out hn (by omega) HZ.out k rfl ?_
    rw [show true = decide ((k : Int) ≤ 1000) from (decide_eq_true (by omega)).symm, show PrAns (decide ((k : Int) ≤ 1000)) (y / sgG y x) (x / sgG y x) k = PrAns (decide ((k : Int) ≤ 1000)) (y / sgG y x) (x / sgG y x) (k : Int).toNat from rfl]
    unfold PrAns
    rw [HN.out, HD.out, HTT.out]
    exact ⟨d1, f1, d2, f2, rfl, h1, h2, HAP.out, h3⟩
  obtain ⟨k, rfl⟩ : ∃ k : Nat, n = (k : Int) := ⟨n.toNat, by omega⟩
  go_wp2_with fail
  refine (eachP x y a1 c1 b1 e1 _ S1.out T1.out k HX.out HY.out (by omega) (by omega)).mono ?_
  rintro e w3 ⟨d1, f1, d2, f2, rfl, ho1, ho2, hap, hb⟩
  have yw3 := hb.size
  replace ka0 := (hb.cell (p := ⟨w.heap.size, 0, none⟩) (by dsimp only; omega)).trans ka0
  replace ka1 := (hb.cell (p := ⟨w.heap.size, 1, none⟩) (by dsimp only; omega)).trans ka1
  replace ka2 := (hb.cell (p := ⟨w.heap.size, 2, none⟩) (by dsimp only; omega)).trans ka2
  replace ka3 := (hb.cell (p := ⟨w.heap.size, 3, none⟩) (by dsimp only; omega)).trans ka3
  replace kr0 := (hb.cell (p := ⟨w.heap.size + 1, 0, none⟩) (by dsimp only; omega)).trans kr0
  replace fr0 := (hb.frozen (p := ⟨w.heap.size + 1, 0, none⟩) (by dsimp only; omega)).trans fr0
  replace kr1 := (hb.cell (p := ⟨w.heap.size + 1, 1, none⟩) (by dsimp only; omega)).trans kr1
  replace fr1 := (hb.frozen (p := ⟨w.heap.size + 1, 1, none⟩) (by dsimp only; omega)).trans fr1
  replace kr2 := (hb.cell (p := ⟨w.heap.size + 1, 2, none⟩) (by dsimp only; omega)).trans kr2
  replace fr2 := (hb.frozen (p := ⟨w.heap.size + 1, 2, none⟩) (by dsimp only; omega)).trans fr2
  replace kr3 := (hb.cell (p := ⟨w.heap.size + 1, 3, none⟩) (by dsimp only; omega)).trans kr3
  replace fr3 := (hb.frozen (p := ⟨w.heap.size + 1, 3, none⟩) (by dsimp only; omega)).trans fr3
  replace S1 := hide (S1.out.below hb)
  replace T1 := hide (T1.out.below hb)
  replace zr := Nat.lt_of_lt_of_le zr hb.size
  replace HB := hide (bl_trans HB.out hb)
  clear hb
  have O1 := hide ho1
  have O2 := hide ho2
  have HAP := hide hap
  clear ho1 ho2 hap
  generalize hN : prN (decide ((k : Int) ≤ 1000)) x y ((k : Int).toNat) = PN at *
  generalize hD : prD (decide ((k : Int) ≤ 1000)) x y ((k : Int).toNat) = PD at *
  generalize hT : prT (decide ((k : Int) ≤ 1000)) x y ((k : Int).toNat) = PT at *
  have HN := hide hN
  have HD := hide hD
  have HTT := hide hT
  clear hN hD hT
  go_wp2
  refine bodyPost_ret (v := (.tuple #[Value.agg #[Value.bool (sgn PN), Value.slice d1 (lms PN).length f1, Value.bool (sgn PD), Value.slice d2 (lms PD).length f2], .bool PT])) (by simp [results, Try.results15, go_sem, kr0, kr1, kr2, kr3]) rfl ?_
  obtain ⟨h1, h2, h3⟩ := fin_four (N := w.heap.size + 1) O1.out O2.out (by omega) (by omega) (by omega) HB.out (Value.bool (sgn PN)) (Value.slice d1 (lms PN).length f1) (Value.bool (sgn PD)) (Value.slice d2 (lms PD).length f2)
  simp only [nat_lms, mk_self]
  refine pw_pos R1.out (by omega) k rfl ?_
  rw [show PrAns (decide ((k : Int) ≤ 1000)) x y k = PrAns (decide ((k : Int) ≤ 1000)) x y (k : Int).toNat from rfl]
  unfold PrAns
  rw [HN.out, HD.out, HTT.out]
  exact ⟨d1, f1, d2, f2, rfl, h1, h2, HAP.out, h3⟩


end Go.Proofs.Ytknbfnhljblfkaa

/- The walk of the specification's RatPow. -/
namespace Go.Proofs.Ytknbfnhljblfkaa
open Go.RowKit
set_option linter.unusedVariables false

set_option maxHeartbeats 4000000 in
theorem RatPowQ (n1 : Bool) (xs1 : List Nat) (m1 : Bool) (ys1 : List Nat) (n : Int) (a1 : Option Addr) (c1 : Nat) (b1 : Option Addr) (e1 : Nat) (w : World) (s1 : Seg w a1 xs1.length c1 xs1) (t1 : Seg w b1 ys1.length e1 ys1) (hi1 : -9223372036854775808 ≤ n) (hi2 : n ≤ 9223372036854775807) :
    Calls Try.prog 13 #[Value.agg #[Value.bool n1, Value.slice a1 xs1.length c1, Value.bool m1, Value.slice b1 ys1.length e1], .int .i64 n] w fun e w' => PrAns (ratB n1 xs1 m1 ys1 && pwG (mk n1 (Num.nat xs1)) n) (pwX (mk n1 (Num.nat xs1)) (mk m1 (Num.nat ys1)) n) (pwY (mk n1 (Num.nat xs1)) (mk m1 (Num.nat ys1)) n) (Int.natAbs n) w w' e := by
  have G1 := hide s1.2.2.2.1
  have G2 := hide t1.2.2.2.1
  have ka0 : ((w.alloc (Obj.cells #[Value.bool n1, Value.slice a1 xs1.length c1, Value.bool m1, Value.slice b1 ys1.length e1] 37)).alloc (Obj.cells #[Value.bool false, Value.slice none 0 0, Value.bool false, Value.slice none 0 0] 37)).cell? ⟨w.heap.size, 0, none⟩ = some (Value.bool n1) := by go_simp
  have ka1 : ((w.alloc (Obj.cells #[Value.bool n1, Value.slice a1 xs1.length c1, Value.bool m1, Value.slice b1 ys1.length e1] 37)).alloc (Obj.cells #[Value.bool false, Value.slice none 0 0, Value.bool false, Value.slice none 0 0] 37)).cell? ⟨w.heap.size, 1, none⟩ = some (Value.slice a1 xs1.length c1) := by go_simp
  have ka2 : ((w.alloc (Obj.cells #[Value.bool n1, Value.slice a1 xs1.length c1, Value.bool m1, Value.slice b1 ys1.length e1] 37)).alloc (Obj.cells #[Value.bool false, Value.slice none 0 0, Value.bool false, Value.slice none 0 0] 37)).cell? ⟨w.heap.size, 2, none⟩ = some (Value.bool m1) := by go_simp
  have ka3 : ((w.alloc (Obj.cells #[Value.bool n1, Value.slice a1 xs1.length c1, Value.bool m1, Value.slice b1 ys1.length e1] 37)).alloc (Obj.cells #[Value.bool false, Value.slice none 0 0, Value.bool false, Value.slice none 0 0] 37)).cell? ⟨w.heap.size, 3, none⟩ = some (Value.slice b1 ys1.length e1) := by go_simp
  have kr0 : ((w.alloc (Obj.cells #[Value.bool n1, Value.slice a1 xs1.length c1, Value.bool m1, Value.slice b1 ys1.length e1] 37)).alloc (Obj.cells #[Value.bool false, Value.slice none 0 0, Value.bool false, Value.slice none 0 0] 37)).cell? ⟨w.heap.size + 1, 0, none⟩ = some (Value.bool false) := by go_simp
  have fr0 : ((w.alloc (Obj.cells #[Value.bool n1, Value.slice a1 xs1.length c1, Value.bool m1, Value.slice b1 ys1.length e1] 37)).alloc (Obj.cells #[Value.bool false, Value.slice none 0 0, Value.bool false, Value.slice none 0 0] 37)).frozen? ⟨w.heap.size + 1, 0, none⟩ = false := by go_simp
  have kr1 : ((w.alloc (Obj.cells #[Value.bool n1, Value.slice a1 xs1.length c1, Value.bool m1, Value.slice b1 ys1.length e1] 37)).alloc (Obj.cells #[Value.bool false, Value.slice none 0 0, Value.bool false, Value.slice none 0 0] 37)).cell? ⟨w.heap.size + 1, 1, none⟩ = some (Value.slice none 0 0) := by go_simp
  have fr1 : ((w.alloc (Obj.cells #[Value.bool n1, Value.slice a1 xs1.length c1, Value.bool m1, Value.slice b1 ys1.length e1] 37)).alloc (Obj.cells #[Value.bool false, Value.slice none 0 0, Value.bool false, Value.slice none 0 0] 37)).frozen? ⟨w.heap.size + 1, 1, none⟩ = false := by go_simp
  have kr2 : ((w.alloc (Obj.cells #[Value.bool n1, Value.slice a1 xs1.length c1, Value.bool m1, Value.slice b1 ys1.length e1] 37)).alloc (Obj.cells #[Value.bool false, Value.slice none 0 0, Value.bool false, Value.slice none 0 0] 37)).cell? ⟨w.heap.size + 1, 2, none⟩ = some (Value.bool false) := by go_simp
  have fr2 : ((w.alloc (Obj.cells #[Value.bool n1, Value.slice a1 xs1.length c1, Value.bool m1, Value.slice b1 ys1.length e1] 37)).alloc (Obj.cells #[Value.bool false, Value.slice none 0 0, Value.bool false, Value.slice none 0 0] 37)).frozen? ⟨w.heap.size + 1, 2, none⟩ = false := by go_simp
  have kr3 : ((w.alloc (Obj.cells #[Value.bool n1, Value.slice a1 xs1.length c1, Value.bool m1, Value.slice b1 ys1.length e1] 37)).alloc (Obj.cells #[Value.bool false, Value.slice none 0 0, Value.bool false, Value.slice none 0 0] 37)).cell? ⟨w.heap.size + 1, 3, none⟩ = some (Value.slice none 0 0) := by go_simp
  have fr3 : ((w.alloc (Obj.cells #[Value.bool n1, Value.slice a1 xs1.length c1, Value.bool m1, Value.slice b1 ys1.length e1] 37)).alloc (Obj.cells #[Value.bool false, Value.slice none 0 0, Value.bool false, Value.slice none 0 0] 37)).frozen? ⟨w.heap.size + 1, 3, none⟩ = false := by go_simp
  have zr : w.heap.size + 1 < ((w.alloc (Obj.cells #[Value.bool n1, Value.slice a1 xs1.length c1, Value.bool m1, Value.slice b1 ys1.length e1] 37)).alloc (Obj.cells #[Value.bool false, Value.slice none 0 0, Value.bool false, Value.slice none 0 0] 37)).heap.size := by simp only [World.size_alloc]; omega
  have HB := hide (bl_alloc (bl_alloc (bl_refl w) (Obj.cells #[Value.bool n1, Value.slice a1 xs1.length c1, Value.bool m1, Value.slice b1 ys1.length e1] 37)) (Obj.cells #[Value.bool false, Value.slice none 0 0, Value.bool false, Value.slice none 0 0] 37))
  have S1 := hide (s1.below HB.out)
  have T1 := hide (t1.below HB.out)
  clear s1
  clear t1
  go_enter Try.func13, Try.ntmps13
  go_wp2_with fail
  generalize ((w.alloc (Obj.cells #[Value.bool n1, Value.slice a1 xs1.length c1, Value.bool m1, Value.slice b1 ys1.length e1] 37)).alloc (Obj.cells #[Value.bool false, Value.slice none 0 0, Value.bool false, Value.slice none 0 0] 37)) = w1 at *
  have z0 := zr
  refine (RatOkQ n1 xs1 m1 ys1 a1 c1 b1 e1 _ S1.out T1.out).mono ?_
  rintro e w2 ⟨rfl, hb⟩
  have yw2 := hb.size
  replace ka0 := (hb.cell (p := ⟨w.heap.size, 0, none⟩) (by dsimp only; omega)).trans ka0
  replace ka1 := (hb.cell (p := ⟨w.heap.size, 1, none⟩) (by dsimp only; omega)).trans ka1
  replace ka2 := (hb.cell (p := ⟨w.heap.size, 2, none⟩) (by dsimp only; omega)).trans ka2
  replace ka3 := (hb.cell (p := ⟨w.heap.size, 3, none⟩) (by dsimp only; omega)).trans ka3
  replace kr0 := (hb.cell (p := ⟨w.heap.size + 1, 0, none⟩) (by dsimp only; omega)).trans kr0
  replace fr0 := (hb.frozen (p := ⟨w.heap.size + 1, 0, none⟩) (by dsimp only; omega)).trans fr0
  replace kr1 := (hb.cell (p := ⟨w.heap.size + 1, 1, none⟩) (by dsimp only; omega)).trans kr1
  replace fr1 := (hb.frozen (p := ⟨w.heap.size + 1, 1, none⟩) (by dsimp only; omega)).trans fr1
  replace kr2 := (hb.cell (p := ⟨w.heap.size + 1, 2, none⟩) (by dsimp only; omega)).trans kr2
  replace fr2 := (hb.frozen (p := ⟨w.heap.size + 1, 2, none⟩) (by dsimp only; omega)).trans fr2
  replace kr3 := (hb.cell (p := ⟨w.heap.size + 1, 3, none⟩) (by dsimp only; omega)).trans kr3
  replace fr3 := (hb.frozen (p := ⟨w.heap.size + 1, 3, none⟩) (by dsimp only; omega)).trans fr3
  replace S1 := hide (S1.out.below hb)
  replace T1 := hide (T1.out.below hb)
  replace zr := Nat.lt_of_lt_of_le zr hb.size
  replace HB := hide (bl_trans HB.out hb)
  clear hb
  cases h1 : ratB n1 xs1 m1 ys1 with
  | false =>
    have E1 := hide h1
    clear h1
    have HE : Hid (prT (ratB n1 xs1 m1 ys1 && pwG (mk n1 (Num.nat xs1)) n) (pwX (mk n1 (Num.nat xs1)) (mk m1 (Num.nat ys1)) n) (pwY (mk n1 (Num.nat xs1)) (mk m1 (Num.nat ys1)) n) (Int.natAbs n) = false) := hide (pr_f (by rw [E1.out]; rfl))
    go_wp2
    refine bodyPost_ret (v := (.tuple #[.agg #[.bool false, .slice none 0 0, .bool false, .slice none 0 0], .bool false])) (by simp [results, Try.results13, go_sem, kr0, kr1, kr2, kr3]) rfl ?_
    exact pr_no HE.out (by first | exact HB.out | exact set_four (N := w.heap.size + 1) (by omega) HB.out _ _ _ _)
  | true =>
  have R1 := hide h1
  clear h1
  obtain ⟨x, y, rfl, rfl, rfl, rfl, hx, hy, hp, hg⟩ := rat_num G1.out G2.out R1.out
  have l1 : (lms x).length ≤ 1000 := Nat.le_trans (Num.limbs_len.2 hx) (by decide)
  have l2 : (lms y).length ≤ 1000 := Nat.le_trans (Num.limbs_len.2 hy) (by decide)
  have HX := hide hx
  have HY := hide hy
  have HP := hide hp
  have HG := hide hg
  clear hx hy hp hg G1 G2
  go_wp2_with fail
  refine (inL n (-1000) 1000 _).mono ?_
  rintro e w3 ⟨rfl, hb⟩
  have yw3 := hb.size
  replace ka0 := (hb.cell (p := ⟨w.heap.size, 0, none⟩) (by dsimp only; omega)).trans ka0
  replace ka1 := (hb.cell (p := ⟨w.heap.size, 1, none⟩) (by dsimp only; omega)).trans ka1
  replace ka2 := (hb.cell (p := ⟨w.heap.size, 2, none⟩) (by dsimp only; omega)).trans ka2
  replace ka3 := (hb.cell (p := ⟨w.heap.size, 3, none⟩) (by dsimp only; omega)).trans ka3
  replace kr0 := (hb.cell (p := ⟨w.heap.size + 1, 0, none⟩) (by dsimp only; omega)).trans kr0
  replace fr0 := (hb.frozen (p := ⟨w.heap.size + 1, 0, none⟩) (by dsimp only; omega)).trans fr0
  replace kr1 := (hb.cell (p := ⟨w.heap.size + 1, 1, none⟩) (by dsimp only; omega)).trans kr1
  replace fr1 := (hb.frozen (p := ⟨w.heap.size + 1, 1, none⟩) (by dsimp only; omega)).trans fr1
  replace kr2 := (hb.cell (p := ⟨w.heap.size + 1, 2, none⟩) (by dsimp only; omega)).trans kr2
  replace fr2 := (hb.frozen (p := ⟨w.heap.size + 1, 2, none⟩) (by dsimp only; omega)).trans fr2
  replace kr3 := (hb.cell (p := ⟨w.heap.size + 1, 3, none⟩) (by dsimp only; omega)).trans kr3
  replace fr3 := (hb.frozen (p := ⟨w.heap.size + 1, 3, none⟩) (by dsimp only; omega)).trans fr3
  replace S1 := hide (S1.out.below hb)
  replace T1 := hide (T1.out.below hb)
  replace zr := Nat.lt_of_lt_of_le zr hb.size
  replace HB := hide (bl_trans HB.out hb)
  clear hb
  by_cases hr : -1000 ≤ n ∧ n ≤ 1000
  · skip
    rw [decide_eq_true hr]
    have hr1 := hr.1
    have hr2 := hr.2
    clear hr
    by_cases hn : n < 0
    · skip
      obtain ⟨k, rfl⟩ : ∃ k : Nat, n = -(k : Int) := ⟨n.natAbs, by omega⟩
      by_cases hz : x = 0
      · skip
        have hl : (((lms x).length : Int) == 0) = true := by rw [hz, zero_lms]; rfl
        have hG : Hid (pwG x (-(k : Int)) = false) := hide (pwG_zero hn hz)
        clear hz
        have HE : Hid (prT (ratB (sgn x) (lms x) (sgn y) (lms y) && pwG x (-(k : Int))) (pwX x y (-(k : Int))) (pwY x y (-(k : Int))) (Int.natAbs (-(k : Int))) = false) := hide (pr_f (by rw [hG.out, Bool.and_false]))
        go_wp2
        refine bodyPost_ret (v := (.tuple #[.agg #[.bool false, .slice none 0 0, .bool false, .slice none 0 0], .bool false])) (by simp [results, Try.results13, go_sem, kr0, kr1, kr2, kr3]) rfl ?_
        simp only [nat_lms, mk_self]
        exact pr_no HE.out (by first | exact HB.out | exact set_four (N := w.heap.size + 1) (by omega) HB.out _ _ _ _)
      have hl : (((lms x).length : Int) == 0) = false := by rw [beq_eq_false_iff_ne]; intro e; exact hz (sgn_lms_nil (by omega))
      have HZ := hide hz
      clear hz
      go_wp2_with fail
      refine (powNS x y a1 c1 b1 e1 _ S1.out T1.out k (by omega) (by omega) HX.out HY.out HZ.out HG.out).mono ?_
      rintro e w4 ⟨p, q, d1, f1, d2, f2, rfl, hl1, hl2, ho1, ho2, hap, hb⟩
      have yw4 := hb.size
      replace ka0 := (hb.cell (p := ⟨w.heap.size, 0, none⟩) (by dsimp only; omega)).trans ka0
      replace ka1 := (hb.cell (p := ⟨w.heap.size, 1, none⟩) (by dsimp only; omega)).trans ka1
      replace ka2 := (hb.cell (p := ⟨w.heap.size, 2, none⟩) (by dsimp only; omega)).trans ka2
      replace ka3 := (hb.cell (p := ⟨w.heap.size, 3, none⟩) (by dsimp only; omega)).trans ka3
      replace kr0 := (hb.cell (p := ⟨w.heap.size + 1, 0, none⟩) (by dsimp only; omega)).trans kr0
      replace fr0 := (hb.frozen (p := ⟨w.heap.size + 1, 0, none⟩) (by dsimp only; omega)).trans fr0
      replace kr1 := (hb.cell (p := ⟨w.heap.size + 1, 1, none⟩) (by dsimp only; omega)).trans kr1
      replace fr1 := (hb.frozen (p := ⟨w.heap.size + 1, 1, none⟩) (by dsimp only; omega)).trans fr1
      replace kr2 := (hb.cell (p := ⟨w.heap.size + 1, 2, none⟩) (by dsimp only; omega)).trans kr2
      replace fr2 := (hb.frozen (p := ⟨w.heap.size + 1, 2, none⟩) (by dsimp only; omega)).trans fr2
      replace kr3 := (hb.cell (p := ⟨w.heap.size + 1, 3, none⟩) (by dsimp only; omega)).trans kr3
      replace fr3 := (hb.frozen (p := ⟨w.heap.size + 1, 3, none⟩) (by dsimp only; omega)).trans fr3
      replace S1 := hide (S1.out.below hb)
      replace T1 := hide (T1.out.below hb)
      replace zr := Nat.lt_of_lt_of_le zr hb.size
      replace HB := hide (bl_trans HB.out hb)
      clear hb
      have O1 := hide ho1
      have O2 := hide ho2
      have HAP := hide hap
      clear ho1 ho2 hap
      have HL1 := hide hl1
      have HL2 := hide hl2
      clear hl1 hl2
      have HFT := hide (like_ft HL1.out HL2.out)
      go_wp2_with fail
      cases e3 : ftT p q with
      | false =>
        have HE := hide e3
        clear e3
        refine (fitS_f p q d1 f1 d2 f2 _ O1.out.seg O2.out.seg HE.out).mono ?_
        rintro e w5 ⟨rfl, hb⟩
        have yw5 := hb.size
        replace ka0 := (hb.cell (p := ⟨w.heap.size, 0, none⟩) (by dsimp only; omega)).trans ka0
        replace ka1 := (hb.cell (p := ⟨w.heap.size, 1, none⟩) (by dsimp only; omega)).trans ka1
        replace ka2 := (hb.cell (p := ⟨w.heap.size, 2, none⟩) (by dsimp only; omega)).trans ka2
        replace ka3 := (hb.cell (p := ⟨w.heap.size, 3, none⟩) (by dsimp only; omega)).trans ka3
        replace kr0 := (hb.cell (p := ⟨w.heap.size + 1, 0, none⟩) (by dsimp only; omega)).trans kr0
        replace fr0 := (hb.frozen (p := ⟨w.heap.size + 1, 0, none⟩) (by dsimp only; omega)).trans fr0
        replace kr1 := (hb.cell (p := ⟨w.heap.size + 1, 1, none⟩) (by dsimp only; omega)).trans kr1
        replace fr1 := (hb.frozen (p := ⟨w.heap.size + 1, 1, none⟩) (by dsimp only; omega)).trans fr1
        replace kr2 := (hb.cell (p := ⟨w.heap.size + 1, 2, none⟩) (by dsimp only; omega)).trans kr2
        replace fr2 := (hb.frozen (p := ⟨w.heap.size + 1, 2, none⟩) (by dsimp only; omega)).trans fr2
        replace kr3 := (hb.cell (p := ⟨w.heap.size + 1, 3, none⟩) (by dsimp only; omega)).trans kr3
        replace fr3 := (hb.frozen (p := ⟨w.heap.size + 1, 3, none⟩) (by dsimp only; omega)).trans fr3
        replace S1 := hide (S1.out.below hb)
        replace T1 := hide (T1.out.below hb)
        replace O1 := hide (O1.out.below hb)
        replace O2 := hide (O2.out.below hb)
        replace zr := Nat.lt_of_lt_of_le zr hb.size
        replace HB := hide (bl_trans HB.out hb)
        clear hb
        go_wp2
        refine bodyPost_ret (v := (.tuple #[.agg #[.bool false, .slice none 0 0, .bool false, .slice none 0 0], .bool false])) (by simp [results, Try.results13, go_sem, kr0, kr1, kr2, kr3]) rfl ?_
        simp only [nat_lms, mk_self]
        refine pw_neg R1.out hn (by omega) HZ.out k rfl ?_
        exact pr_no (HFT.out.trans HE.out) (by first | exact HB.out | exact set_four (N := w.heap.size + 1) (by omega) HB.out _ _ _ _)
      | true =>
      have HE := hide e3
      clear e3
      refine (fitS_t p q d1 f1 d2 f2 _ O1.out.seg O2.out.seg HE.out).mono ?_
      rintro e w5 ⟨rfl, hb⟩
      have yw5 := hb.size
      replace ka0 := (hb.cell (p := ⟨w.heap.size, 0, none⟩) (by dsimp only; omega)).trans ka0
      replace ka1 := (hb.cell (p := ⟨w.heap.size, 1, none⟩) (by dsimp only; omega)).trans ka1
      replace ka2 := (hb.cell (p := ⟨w.heap.size, 2, none⟩) (by dsimp only; omega)).trans ka2
      replace ka3 := (hb.cell (p := ⟨w.heap.size, 3, none⟩) (by dsimp only; omega)).trans ka3
      replace kr0 := (hb.cell (p := ⟨w.heap.size + 1, 0, none⟩) (by dsimp only; omega)).trans kr0
      replace fr0 := (hb.frozen (p := ⟨w.heap.size + 1, 0, none⟩) (by dsimp only; omega)).trans fr0
      replace kr1 := (hb.cell (p := ⟨w.heap.size + 1, 1, none⟩) (by dsimp only; omega)).trans kr1
      replace fr1 := (hb.frozen (p := ⟨w.heap.size + 1, 1, none⟩) (by dsimp only; omega)).trans fr1
      replace kr2 := (hb.cell (p := ⟨w.heap.size + 1, 2, none⟩) (by dsimp only; omega)).trans kr2
      replace fr2 := (hb.frozen (p := ⟨w.heap.size + 1, 2, none⟩) (by dsimp only; omega)).trans fr2
      replace kr3 := (hb.cell (p := ⟨w.heap.size + 1, 3, none⟩) (by dsimp only; omega)).trans kr3
      replace fr3 := (hb.frozen (p := ⟨w.heap.size + 1, 3, none⟩) (by dsimp only; omega)).trans fr3
      replace S1 := hide (S1.out.below hb)
      replace T1 := hide (T1.out.below hb)
      replace O1 := hide (O1.out.below hb)
      replace O2 := hide (O2.out.below hb)
      replace zr := Nat.lt_of_lt_of_le zr hb.size
      replace HB := hide (bl_trans HB.out hb)
      clear hb
      go_wp2
      refine bodyPost_ret (v := (.tuple #[Value.agg #[Value.bool (sgn p), Value.slice d1 (lms p).length f1, Value.bool (sgn q), Value.slice d2 (lms q).length f2], .bool true])) (by simp [results, Try.results13, go_sem, kr0, kr1, kr2, kr3]) rfl ?_
      have hE := HE.out
      unfold ftT at hE
      rw [Bool.and_eq_true] at hE
      obtain ⟨h1, h2, h3⟩ := fin_four (N := w.heap.size + 1) O1.out O2.out (by omega) (by omega) (by omega) HB.out (Value.bool (sgn p)) (Value.slice d1 (lms p).length f1) (Value.bool (sgn q)) (Value.slice d2 (lms q).length f2)
      simp only [nat_lms, mk_self]
      refine pw_neg R1.out hn (by omega) HZ.out k rfl ?_
      exact pr_yes (HFT.out.trans HE.out) (like_eq HL1.out hE.1) (like_eq HL2.out hE.2) h1 h2 HAP.out h3
    obtain ⟨k, rfl⟩ : ∃ k : Nat, n = (k : Int) := ⟨n.toNat, by omega⟩
    go_wp2_with fail
    refine (powRS x y a1 c1 b1 e1 _ S1.out T1.out k (by omega) HX.out HY.out).mono ?_
    rintro e w4 ⟨p, q, d1, f1, d2, f2, rfl, hl1, hl2, ho1, ho2, hap, hb⟩
    have yw4 := hb.size
    replace ka0 := (hb.cell (p := ⟨w.heap.size, 0, none⟩) (by dsimp only; omega)).trans ka0
    replace ka1 := (hb.cell (p := ⟨w.heap.size, 1, none⟩) (by dsimp only; omega)).trans ka1
    replace ka2 := (hb.cell (p := ⟨w.heap.size, 2, none⟩) (by dsimp only; omega)).trans ka2
    replace ka3 := (hb.cell (p := ⟨w.heap.size, 3, none⟩) (by dsimp only; omega)).trans ka3
    replace kr0 := (hb.cell (p := ⟨w.heap.size + 1, 0, none⟩) (by dsimp only; omega)).trans kr0
    replace fr0 := (hb.frozen (p := ⟨w.heap.size + 1, 0, none⟩) (by dsimp only; omega)).trans fr0
    replace kr1 := (hb.cell (p := ⟨w.heap.size + 1, 1, none⟩) (by dsimp only; omega)).trans kr1
    replace fr1 := (hb.frozen (p := ⟨w.heap.size + 1, 1, none⟩) (by dsimp only; omega)).trans fr1
    replace kr2 := (hb.cell (p := ⟨w.heap.size + 1, 2, none⟩) (by dsimp only; omega)).trans kr2
    replace fr2 := (hb.frozen (p := ⟨w.heap.size + 1, 2, none⟩) (by dsimp only; omega)).trans fr2
    replace kr3 := (hb.cell (p := ⟨w.heap.size + 1, 3, none⟩) (by dsimp only; omega)).trans kr3
    replace fr3 := (hb.frozen (p := ⟨w.heap.size + 1, 3, none⟩) (by dsimp only; omega)).trans fr3
    replace S1 := hide (S1.out.below hb)
    replace T1 := hide (T1.out.below hb)
    replace zr := Nat.lt_of_lt_of_le zr hb.size
    replace HB := hide (bl_trans HB.out hb)
    clear hb
    have O1 := hide ho1
    have O2 := hide ho2
    have HAP := hide hap
    clear ho1 ho2 hap
    have HL1 := hide hl1
    have HL2 := hide hl2
    clear hl1 hl2
    have HFT := hide (like_ft HL1.out HL2.out)
    go_wp2_with fail
    cases e3 : ftT p q with
    | false =>
      have HE := hide e3
      clear e3
      refine (fitS_f p q d1 f1 d2 f2 _ O1.out.seg O2.out.seg HE.out).mono ?_
      rintro e w5 ⟨rfl, hb⟩
      have yw5 := hb.size
      replace ka0 := (hb.cell (p := ⟨w.heap.size, 0, none⟩) (by dsimp only; omega)).trans ka0
      replace ka1 := (hb.cell (p := ⟨w.heap.size, 1, none⟩) (by dsimp only; omega)).trans ka1
      replace ka2 := (hb.cell (p := ⟨w.heap.size, 2, none⟩) (by dsimp only; omega)).trans ka2
      replace ka3 := (hb.cell (p := ⟨w.heap.size, 3, none⟩) (by dsimp only; omega)).trans ka3
      replace kr0 := (hb.cell (p := ⟨w.heap.size + 1, 0, none⟩) (by dsimp only; omega)).trans kr0
      replace fr0 := (hb.frozen (p := ⟨w.heap.size + 1, 0, none⟩) (by dsimp only; omega)).trans fr0
      replace kr1 := (hb.cell (p := ⟨w.heap.size + 1, 1, none⟩) (by dsimp only; omega)).trans kr1
      replace fr1 := (hb.frozen (p := ⟨w.heap.size + 1, 1, none⟩) (by dsimp only; omega)).trans fr1
      replace kr2 := (hb.cell (p := ⟨w.heap.size + 1, 2, none⟩) (by dsimp only; omega)).trans kr2
      replace fr2 := (hb.frozen (p := ⟨w.heap.size + 1, 2, none⟩) (by dsimp only; omega)).trans fr2
      replace kr3 := (hb.cell (p := ⟨w.heap.size + 1, 3, none⟩) (by dsimp only; omega)).trans kr3
      replace fr3 := (hb.frozen (p := ⟨w.heap.size + 1, 3, none⟩) (by dsimp only; omega)).trans fr3
      replace S1 := hide (S1.out.below hb)
      replace T1 := hide (T1.out.below hb)
      replace O1 := hide (O1.out.below hb)
      replace O2 := hide (O2.out.below hb)
      replace zr := Nat.lt_of_lt_of_le zr hb.size
      replace HB := hide (bl_trans HB.out hb)
      clear hb
      go_wp2
      refine bodyPost_ret (v := (.tuple #[.agg #[.bool false, .slice none 0 0, .bool false, .slice none 0 0], .bool false])) (by simp [results, Try.results13, go_sem, kr0, kr1, kr2, kr3]) rfl ?_
      simp only [nat_lms, mk_self]
      (refine pw_pos R1.out (by omega) k rfl ?_; rw [decide_eq_true (show (k : Int) ≤ 1000 by omega)])
      exact pr_no (HFT.out.trans HE.out) (by first | exact HB.out | exact set_four (N := w.heap.size + 1) (by omega) HB.out _ _ _ _)
    | true =>
    have HE := hide e3
    clear e3
    refine (fitS_t p q d1 f1 d2 f2 _ O1.out.seg O2.out.seg HE.out).mono ?_
    rintro e w5 ⟨rfl, hb⟩
    have yw5 := hb.size
    replace ka0 := (hb.cell (p := ⟨w.heap.size, 0, none⟩) (by dsimp only; omega)).trans ka0
    replace ka1 := (hb.cell (p := ⟨w.heap.size, 1, none⟩) (by dsimp only; omega)).trans ka1
    replace ka2 := (hb.cell (p := ⟨w.heap.size, 2, none⟩) (by dsimp only; omega)).trans ka2
    replace ka3 := (hb.cell (p := ⟨w.heap.size, 3, none⟩) (by dsimp only; omega)).trans ka3
    replace kr0 := (hb.cell (p := ⟨w.heap.size + 1, 0, none⟩) (by dsimp only; omega)).trans kr0
    replace fr0 := (hb.frozen (p := ⟨w.heap.size + 1, 0, none⟩) (by dsimp only; omega)).trans fr0
    replace kr1 := (hb.cell (p := ⟨w.heap.size + 1, 1, none⟩) (by dsimp only; omega)).trans kr1
    replace fr1 := (hb.frozen (p := ⟨w.heap.size + 1, 1, none⟩) (by dsimp only; omega)).trans fr1
    replace kr2 := (hb.cell (p := ⟨w.heap.size + 1, 2, none⟩) (by dsimp only; omega)).trans kr2
    replace fr2 := (hb.frozen (p := ⟨w.heap.size + 1, 2, none⟩) (by dsimp only; omega)).trans fr2
    replace kr3 := (hb.cell (p := ⟨w.heap.size + 1, 3, none⟩) (by dsimp only; omega)).trans kr3
    replace fr3 := (hb.frozen (p := ⟨w.heap.size + 1, 3, none⟩) (by dsimp only; omega)).trans fr3
    replace S1 := hide (S1.out.below hb)
    replace T1 := hide (T1.out.below hb)
    replace O1 := hide (O1.out.below hb)
    replace O2 := hide (O2.out.below hb)
    replace zr := Nat.lt_of_lt_of_le zr hb.size
    replace HB := hide (bl_trans HB.out hb)
    clear hb
    go_wp2
    refine bodyPost_ret (v := (.tuple #[Value.agg #[Value.bool (sgn p), Value.slice d1 (lms p).length f1, Value.bool (sgn q), Value.slice d2 (lms q).length f2], .bool true])) (by simp [results, Try.results13, go_sem, kr0, kr1, kr2, kr3]) rfl ?_
    have hE := HE.out
    unfold ftT at hE
    rw [Bool.and_eq_true] at hE
    obtain ⟨h1, h2, h3⟩ := fin_four (N := w.heap.size + 1) O1.out O2.out (by omega) (by omega) (by omega) HB.out (Value.bool (sgn p)) (Value.slice d1 (lms p).length f1) (Value.bool (sgn q)) (Value.slice d2 (lms q).length f2)
    simp only [nat_lms, mk_self]
    (refine pw_pos R1.out (by omega) k rfl ?_; rw [decide_eq_true (show (k : Int) ≤ 1000 by omega)])
    exact pr_yes (HFT.out.trans HE.out) (like_eq HL1.out hE.1) (like_eq HL2.out hE.2) h1 h2 HAP.out h3
  rw [decide_eq_false hr]
  have hG : Hid (pwG x n = false) := hide (pwG_out hr)
  clear hr
  have HE : Hid (prT (ratB (sgn x) (lms x) (sgn y) (lms y) && pwG x n) (pwX x y n) (pwY x y n) (Int.natAbs n) = false) := hide (pr_f (by rw [hG.out, Bool.and_false]))
  go_wp2
  refine bodyPost_ret (v := (.tuple #[.agg #[.bool false, .slice none 0 0, .bool false, .slice none 0 0], .bool false])) (by simp [results, Try.results13, go_sem, kr0, kr1, kr2, kr3]) rfl ?_
  simp only [nat_lms, mk_self]
  exact pr_no HE.out (by first | exact HB.out | exact set_four (N := w.heap.size + 1) (by omega) HB.out _ _ _ _)


end Go.Proofs.Ytknbfnhljblfkaa
