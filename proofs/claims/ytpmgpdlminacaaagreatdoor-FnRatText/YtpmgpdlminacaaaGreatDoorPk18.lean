/- My texts DrR, DrRS, DrRA, DrQ, in this order. -/
import Derived.Test.YtpmgpdlminacaaaGreatDoorPk08
import Derived.Test.YtpmgpdlminacaaaGreatDoorPk17
import Derived.Test.YtpmgpdlminacaaaGreatDoorPk01
/- Draws of fractions: the state in the midst of one, and what helps. -/
namespace Go.Proofs.YtpmgpdlminacaaaGreatDoor
open Go.RowKit
set_option linter.unusedVariables false

/-- in the midst of a draw of a fraction: the cursor, the box of the answer, all that was there -/
structure Dst4 (w : World) (B : Nat) (a : Option Addr) (len cap : Nat) (wr : World) : Prop where
  cur : Cur B a len cap wr
  only : Only B w wr
  r0 : wr.cell? ⟨w.heap.size, 0, none⟩ = some (.bool false)
  r1 : wr.cell? ⟨w.heap.size, 1, none⟩ = some (.slice none 0 0)
  r2 : wr.cell? ⟨w.heap.size, 2, none⟩ = some (.bool false)
  r3 : wr.cell? ⟨w.heap.size, 3, none⟩ = some (.slice none 0 0)
  g0 : wr.frozen? ⟨w.heap.size, 0, none⟩ = false
  g1 : wr.frozen? ⟨w.heap.size, 1, none⟩ = false
  g2 : wr.frozen? ⟨w.heap.size, 2, none⟩ = false
  g3 : wr.frozen? ⟨w.heap.size, 3, none⟩ = false
  z : w.heap.size < wr.heap.size
theorem Dst4.init {w : World} {B : Nat} {a : Option Addr} {len cap : Nat} (h : Cur B a len cap w) : Dst4 w B a len cap (w.alloc (Obj.cells #[Value.bool false, Value.slice none 0 0, Value.bool false, Value.slice none 0 0] 26)) :=
  ⟨h.alloc _, (Only.refl B w).alloc _, by go_simp, by go_simp, by go_simp, by go_simp, by go_simp, by go_simp, by go_simp, by go_simp, by simp only [World.size_alloc]; omega⟩
theorem Dst4.on {w2 : World} {w wr : World} {B : Nat} {a : Option Addr} {len cap : Nat} (h : Dst4 w B a len cap wr) (hB : B < w.heap.size) (hc : Cur B a len cap w2) (ho : Only B wr w2) : Dst4 w B a len cap w2 := by
  have hz := h.z
  exact ⟨hc, h.only.trans ho, (ho.cell (p := ⟨w.heap.size, 0, none⟩) hz (by dsimp only; omega)).trans h.r0, (ho.cell (p := ⟨w.heap.size, 1, none⟩) hz (by dsimp only; omega)).trans h.r1, (ho.cell (p := ⟨w.heap.size, 2, none⟩) hz (by dsimp only; omega)).trans h.r2, (ho.cell (p := ⟨w.heap.size, 3, none⟩) hz (by dsimp only; omega)).trans h.r3, (ho.frozen (p := ⟨w.heap.size, 0, none⟩) hz (by dsimp only; omega)).trans h.g0, (ho.frozen (p := ⟨w.heap.size, 1, none⟩) hz (by dsimp only; omega)).trans h.g1, (ho.frozen (p := ⟨w.heap.size, 2, none⟩) hz (by dsimp only; omega)).trans h.g2, (ho.frozen (p := ⟨w.heap.size, 3, none⟩) hz (by dsimp only; omega)).trans h.g3, Nat.lt_of_lt_of_le hz ho.size⟩
theorem Dst4.bel {w2 : World} {w wr : World} {B : Nat} {a : Option Addr} {len cap : Nat} (h : Dst4 w B a len cap wr) (hb : Below wr.heap.size wr w2) : Dst4 w B a len cap w2 := by
  have hz := h.z
  exact ⟨h.cur.bel hb, h.only.bel hb, (hb.cell (p := ⟨w.heap.size, 0, none⟩) hz).trans h.r0, (hb.cell (p := ⟨w.heap.size, 1, none⟩) hz).trans h.r1, (hb.cell (p := ⟨w.heap.size, 2, none⟩) hz).trans h.r2, (hb.cell (p := ⟨w.heap.size, 3, none⟩) hz).trans h.r3, (hb.frozen (p := ⟨w.heap.size, 0, none⟩) hz).trans h.g0, (hb.frozen (p := ⟨w.heap.size, 1, none⟩) hz).trans h.g1, (hb.frozen (p := ⟨w.heap.size, 2, none⟩) hz).trans h.g2, (hb.frozen (p := ⟨w.heap.size, 3, none⟩) hz).trans h.g3, Nat.lt_of_lt_of_le hz hb.size⟩
theorem set_four_b {w w1 : World} {N : Nat} (hN : w.heap.size ≤ N) (x y z t : Value) : Below w.heap.size w1 ((((w1.setCell ⟨N, 0, none⟩ x).setCell ⟨N, 1, none⟩ y).setCell ⟨N, 2, none⟩ z).setCell ⟨N, 3, none⟩ t) :=
  ((((Below.refl w.heap.size w1).setCell (p := ⟨N, 0, none⟩) hN x).setCell (p := ⟨N, 1, none⟩) hN y).setCell (p := ⟨N, 2, none⟩) hN z).setCell (p := ⟨N, 3, none⟩) hN t
theorem Dst4.fin {w wr : World} {B : Nat} {a : Option Addr} {len cap : Nat} (h : Dst4 w B a len cap wr) (hB : B < w.heap.size) (x y z t : Value) : Cur B a len cap ((((wr.setCell ⟨w.heap.size, 0, none⟩ x).setCell ⟨w.heap.size, 1, none⟩ y).setCell ⟨w.heap.size, 2, none⟩ z).setCell ⟨w.heap.size, 3, none⟩ t) ∧ Only B w ((((wr.setCell ⟨w.heap.size, 0, none⟩ x).setCell ⟨w.heap.size, 1, none⟩ y).setCell ⟨w.heap.size, 2, none⟩ z).setCell ⟨w.heap.size, 3, none⟩ t) := by
  have hb : Below w.heap.size wr ((((wr.setCell ⟨w.heap.size, 0, none⟩ x).setCell ⟨w.heap.size, 1, none⟩ y).setCell ⟨w.heap.size, 2, none⟩ z).setCell ⟨w.heap.size, 3, none⟩ t) := set_four_b (Nat.le_refl _) x y z t
  exact ⟨h.cur.kept (hb.mono hB), ⟨hb.os.trans h.only.os, hb.tape.trans h.only.tape, hb.output.trans h.only.output, Nat.le_trans h.only.size hb.size, fun k hk hn => (hb.block k hk).trans (h.only.block k hk hn)⟩⟩
theorem own_four {w w1 : World} {N b n c : Nat} {a : Option Addr} {xs : List Nat} (h : Own w1 b a n c xs) (hN : N < b) (wN : w.heap.size ≤ N) (x y z t : Value) : Own ((((w1.setCell ⟨N, 0, none⟩ x).setCell ⟨N, 1, none⟩ y).setCell ⟨N, 2, none⟩ z).setCell ⟨N, 3, none⟩ t) w.heap.size a n c xs :=
  ((((h.setCell (p := ⟨N, 0, none⟩) hN x).setCell (p := ⟨N, 1, none⟩) hN y).setCell (p := ⟨N, 2, none⟩) hN z).setCell (p := ⟨N, 3, none⟩) hN t).mono (by omega)
/-- a drawn fraction, of numbers -/
def RatN (w : World) (B : Nat) (a : Option Addr) (len cap : Nat) (w' : World) (e : Ending) : Prop :=
  ∃ p a1 c1 q a2 c2, e = .returned (.agg #[.bool (sgn p), .slice a1 (lms p).length c1, .bool (sgn q), .slice a2 (lms q).length c2]) ∧ (lms p).length ≤ 100 ∧ (lms q).length ≤ 100 ∧ Own w' w.heap.size a1 (lms p).length c1 (lms p) ∧ Own w' w.heap.size a2 (lms q).length c2 (lms q) ∧ Cur B a len cap w' ∧ Only B w w'
theorem Dst4.done {w wr : World} {B : Nat} {a : Option Addr} {len cap : Nat} {p q : Int} {a1 a2 : Option Addr} {c1 c2 b1 b2 : Nat} (h : Dst4 w B a len cap wr) (hB : B < w.heap.size) (lp : (lms p).length ≤ 100) (lq : (lms q).length ≤ 100) (o1 : Own wr b1 a1 (lms p).length c1 (lms p)) (o2 : Own wr b2 a2 (lms q).length c2 (lms q)) (h1 : w.heap.size < b1) (h2 : w.heap.size < b2) (x y z t : Value) :
    RatN w B a len cap ((((wr.setCell ⟨w.heap.size, 0, none⟩ x).setCell ⟨w.heap.size, 1, none⟩ y).setCell ⟨w.heap.size, 2, none⟩ z).setCell ⟨w.heap.size, 3, none⟩ t) (.returned (.agg #[.bool (sgn p), .slice a1 (lms p).length c1, .bool (sgn q), .slice a2 (lms q).length c2])) :=
  ⟨p, a1, c1, q, a2, c2, rfl, lp, lq, own_four o1 h1 (Nat.le_refl _) _ _ _ _, own_four o2 h2 (Nat.le_refl _) _ _ _ _, (h.fin hB x y z t).1, (h.fin hB x y z t).2⟩
theorem len_quot {x g : Int} (h : g ∣ x) : (lms (x / g)).length ≤ (lms x).length := by
  unfold lms
  refine limbs_mono ?_
  obtain ⟨k, rfl⟩ := h
  by_cases hg : g = 0
  · subst hg; simp
  · rw [Int.mul_ediv_cancel_left _ hg, Int.natAbs_mul]
    exact Nat.le_mul_of_pos_left _ (by omega)
theorem dvd_sgG (x y : Int) : sgG x y ∣ x ∧ sgG x y ∣ y := by
  unfold sgG; split
  · exact ⟨Int.neg_dvd.2 (Int.gcd_dvd_left ..), Int.neg_dvd.2 (Int.gcd_dvd_right ..)⟩
  · exact ⟨Int.gcd_dvd_left .., Int.gcd_dvd_right ..⟩
theorem len_red {x y : Int} {n : Nat} (hx : (lms x).length ≤ n) (hy : (lms y).length ≤ n) : (lms (x / sgG x y)).length ≤ n ∧ (lms (y / sgG x y)).length ≤ n :=
  ⟨Nat.le_trans (len_quot (dvd_sgG x y).1) hx, Nat.le_trans (len_quot (dvd_sgG x y).2) hy⟩
end Go.Proofs.YtpmgpdlminacaaaGreatDoor

/- The walk of a draw of some fraction. -/
namespace Go.Proofs.YtpmgpdlminacaaaGreatDoor
open Go.RowKit
set_option linter.unusedVariables false

set_option maxHeartbeats 2000000 in
theorem ofR (z : Int) (w : World) (h1 : -9223372036854775808 ≤ z) (h2 : z ≤ 9223372036854775807) :
    Calls Tryz.prog 110 #[.int .i64 z] w fun e w' => ∃ a1 c1 a2 c2, e = .returned (.agg #[.bool (sgn z), .slice a1 (lms z).length c1, .bool (sgn 1), .slice a2 (lms 1).length c2]) ∧ Own w' w.heap.size a1 (lms z).length c1 (lms z) ∧ Own w' w.heap.size a2 (lms 1).length c2 (lms 1) ∧ Below w.heap.size w w' := by
  have kr0 : (w.alloc (Obj.cells #[Value.bool false, Value.slice none 0 0, Value.bool false, Value.slice none 0 0] 26)).cell? ⟨w.heap.size, 0, none⟩ = some (Value.bool false) := by go_simp
  have fr0 : (w.alloc (Obj.cells #[Value.bool false, Value.slice none 0 0, Value.bool false, Value.slice none 0 0] 26)).frozen? ⟨w.heap.size, 0, none⟩ = false := by go_simp
  have kr1 : (w.alloc (Obj.cells #[Value.bool false, Value.slice none 0 0, Value.bool false, Value.slice none 0 0] 26)).cell? ⟨w.heap.size, 1, none⟩ = some (Value.slice none 0 0) := by go_simp
  have fr1 : (w.alloc (Obj.cells #[Value.bool false, Value.slice none 0 0, Value.bool false, Value.slice none 0 0] 26)).frozen? ⟨w.heap.size, 1, none⟩ = false := by go_simp
  have kr2 : (w.alloc (Obj.cells #[Value.bool false, Value.slice none 0 0, Value.bool false, Value.slice none 0 0] 26)).cell? ⟨w.heap.size, 2, none⟩ = some (Value.bool false) := by go_simp
  have fr2 : (w.alloc (Obj.cells #[Value.bool false, Value.slice none 0 0, Value.bool false, Value.slice none 0 0] 26)).frozen? ⟨w.heap.size, 2, none⟩ = false := by go_simp
  have kr3 : (w.alloc (Obj.cells #[Value.bool false, Value.slice none 0 0, Value.bool false, Value.slice none 0 0] 26)).cell? ⟨w.heap.size, 3, none⟩ = some (Value.slice none 0 0) := by go_simp
  have fr3 : (w.alloc (Obj.cells #[Value.bool false, Value.slice none 0 0, Value.bool false, Value.slice none 0 0] 26)).frozen? ⟨w.heap.size, 3, none⟩ = false := by go_simp
  have zr : w.heap.size < (w.alloc (Obj.cells #[Value.bool false, Value.slice none 0 0, Value.bool false, Value.slice none 0 0] 26)).heap.size := by simp only [World.size_alloc]; omega
  have HB := hide (bl_alloc (bl_refl w) (Obj.cells #[Value.bool false, Value.slice none 0 0, Value.bool false, Value.slice none 0 0] 26))
  go_enter Tryz.func110, Tryz.ntmps110
  go_upto_region 1 with fail
  generalize w.alloc (Obj.cells #[Value.bool false, Value.slice none 0 0, Value.bool false, Value.slice none 0 0] 26) = wa at *
  go_wp2_with fail
  refine (fromS z _ h1 h2).mono ?_
  rintro e w2 ⟨v, rfl, ⟨a1, c1, rfl, ho1⟩, hb⟩
  have O1 := hide ho1
  have y2 := hb.size
  replace kr0 := (hb.cell (p := ⟨w.heap.size, 0, none⟩) zr).trans kr0
  replace fr0 := (hb.frozen (p := ⟨w.heap.size, 0, none⟩) zr).trans fr0
  replace kr1 := (hb.cell (p := ⟨w.heap.size, 1, none⟩) zr).trans kr1
  replace fr1 := (hb.frozen (p := ⟨w.heap.size, 1, none⟩) zr).trans fr1
  replace kr2 := (hb.cell (p := ⟨w.heap.size, 2, none⟩) zr).trans kr2
  replace fr2 := (hb.frozen (p := ⟨w.heap.size, 2, none⟩) zr).trans fr2
  replace kr3 := (hb.cell (p := ⟨w.heap.size, 3, none⟩) zr).trans kr3
  replace fr3 := (hb.frozen (p := ⟨w.heap.size, 3, none⟩) zr).trans fr3
  replace HB := hide (bl_trans HB.out hb)
  have zr2 := Nat.lt_of_lt_of_le zr hb.size
  clear hb ho1
  go_wp2_with fail
  refine (fromS 1 _ (by omega) (by omega)).mono ?_
  rintro e w3 ⟨v, rfl, ⟨a2, c2, rfl, ho2⟩, hb⟩
  have O2 := hide ho2
  replace O1 := hide (O1.out.below hb)
  replace kr0 := (hb.cell (p := ⟨w.heap.size, 0, none⟩) zr2).trans kr0
  replace fr0 := (hb.frozen (p := ⟨w.heap.size, 0, none⟩) zr2).trans fr0
  replace kr1 := (hb.cell (p := ⟨w.heap.size, 1, none⟩) zr2).trans kr1
  replace fr1 := (hb.frozen (p := ⟨w.heap.size, 1, none⟩) zr2).trans fr1
  replace kr2 := (hb.cell (p := ⟨w.heap.size, 2, none⟩) zr2).trans kr2
  replace fr2 := (hb.frozen (p := ⟨w.heap.size, 2, none⟩) zr2).trans fr2
  replace kr3 := (hb.cell (p := ⟨w.heap.size, 3, none⟩) zr2).trans kr3
  replace fr3 := (hb.frozen (p := ⟨w.heap.size, 3, none⟩) zr2).trans fr3
  replace HB := hide (bl_trans HB.out hb)
  clear hb ho2
  go_wp2
  refine bodyPost_ret (v := (.agg #[.bool (sgn z), .slice a1 (lms z).length c1, .bool (sgn 1), .slice a2 (lms 1).length c2])) (by simp [results, Tryz.results110, go_sem, kr0, kr1, kr2, kr3]) rfl ?_
  exact ⟨a1, c1, a2, c2, rfl, own_four O1.out zr (Nat.le_refl _) _ _ _ _, own_four O2.out zr2 (Nat.le_refl _) _ _ _ _, set_four (Nat.le_refl _) HB.out _ _ _ _⟩

set_option maxHeartbeats 4000000 in
theorem someR (B : Nat) (a : Option Addr) (len cap : Nat) (w : World) (hc : Cur B a len cap w) :
    Calls Tryz.prog 76 #[.pointer (some ⟨B, 0, none⟩)] w fun e w' => RatN w B a len cap w' e := by
  have hB := hc.hB
  have HBB := hide hB
  have HD := hide (Dst4.init hc)
  clear hc
  go_enter Tryz.func76, Tryz.ntmps76
  go_upto_region 1 with fail
  generalize w.alloc (Obj.cells #[Value.bool false, Value.slice none 0 0, Value.bool false, Value.slice none 0 0] 26) = wa at *
  go_wp2_with fail
  refine (belowD B a len cap _ HD.out.cur 8 (by omega)).mono ?_
  rintro e w2 ⟨x, hx, rfl, hcw2, how2⟩
  have hx' : 0 ≤ x ∧ x < 8 := by rcases hx with h | h <;> omega
  obtain ⟨hxa, hxb⟩ := hx'
  replace HD := hide (HD.out.on HBB.out hcw2 how2)
  clear hcw2 how2
  clear hx
  by_cases h0 : x = 0
  · have e0 : (x == 0) = true := by rw [h0]; rfl
    clear h0
    go_wp2_with fail
    have hb := bl_alloc (bl_refl w2) (Obj.cells #[Value.int .i64 0, Value.int .i64 1, Value.int .i64 (-1), Value.int .i64 2, Value.int .i64 1000] 3)
    have HPK := hide (new_ints w2 #[Value.int .i64 0, Value.int .i64 1, Value.int .i64 (-1), Value.int .i64 2, Value.int .i64 1000] 3 (fun z => -9223372036854775808 ≤ z ∧ z ≤ 9223372036854775807) (by
      intro v hv
      simp only [List.mem_cons, List.not_mem_nil, or_false] at hv
      rcases hv with rfl | rfl | rfl | rfl | rfl
      all_goals exact ⟨_, by omega, rfl⟩) 5 (by simp))
    have zL : w2.heap.size < (w2.alloc (Obj.cells #[Value.int .i64 0, Value.int .i64 1, Value.int .i64 (-1), Value.int .i64 2, Value.int .i64 1000] 3)).heap.size := by simp only [World.size_alloc]; omega
    have hB2 := HD.out.z
    replace HD := hide (HD.out.bel hb)
    clear hb
    generalize w2.alloc (Obj.cells #[Value.int .i64 0, Value.int .i64 1, Value.int .i64 (-1), Value.int .i64 2, Value.int .i64 1000] 3) = w3 at *
    refine (pickIntD B a len cap _ HD.out.cur w2.heap.size 5 (fun z => -9223372036854775808 ≤ z ∧ z ≤ 9223372036854775807) zL (by omega) (by omega) (by omega) HPK.out).mono ?_
    rintro e w4 ⟨z, hz, rfl, hcw4, how4⟩
    obtain ⟨hza, hzb⟩ := hz
    replace HD := hide (HD.out.on HBB.out hcw4 how4)
    clear hcw4 how4
    clear HPK zL hB2
    go_wp2_with fail
    refine (ofR z _ (by omega) (by omega)).mono ?_
    rintro e wz ⟨d1, f1, d2, f2, rfl, ho1, ho2, hbwz⟩
    have HLA := hide (len_int z (by omega) (by omega))
    have HLB := hide (len_int 1 (by omega) (by omega))
    have zz := HD.out.z
    have P1 := hide ho1
    have P2 := hide ho2
    clear ho1 ho2
    replace HD := hide (HD.out.bel hbwz)
    clear hbwz
    have kr0 := HD.out.r0
    have kr1 := HD.out.r1
    have kr2 := HD.out.r2
    have kr3 := HD.out.r3
    have fr0 := HD.out.g0
    have fr1 := HD.out.g1
    have fr2 := HD.out.g2
    have fr3 := HD.out.g3
    have zr := HD.out.z
    go_wp2
    refine bodyPost_ret (v := (.agg #[.bool (sgn z), .slice d1 (lms z).length f1, .bool (sgn 1), .slice d2 (lms 1).length f2])) (by simp [results, Tryz.results76, go_sem, kr0, kr1, kr2, kr3]) rfl ?_
    exact HD.out.done HBB.out (by have := HLA.out; omega) (by have := HLB.out; omega) P1.out P2.out zz zz _ _ _ _
  have e0 : (x == 0) = false := by rw [beq_eq_false_iff_ne]; exact h0
  by_cases h1 : x = 1
  · have e1 : (x == 1) = true := by rw [h1]; rfl
    clear h0 h1
    go_wp2_with fail
    refine (bigD 4 B a len cap _ HD.out.cur (by omega)).mono ?_
    rintro e w3 ⟨p, aA, cA, rfl, hl, ho, hcw3, how3⟩
    have zA := HD.out.z
    have HLA := hide hl
    have OA := hide ho
    clear hl ho
    replace HD := hide (HD.out.on HBB.out hcw3 how3)
    clear hcw3 how3
    go_wp2_with fail
    refine (bigD 4 B a len cap _ HD.out.cur (by omega)).mono ?_
    rintro e w4 ⟨q0, aC, cC, rfl, hl, ho, hcw4, how4⟩
    have zC := HD.out.z
    have HLC := hide hl
    have OC := hide ho
    clear hl ho
    replace OA := hide (OA.out.only how4 (by have := HBB.out; omega))
    replace HD := hide (HD.out.on HBB.out hcw4 how4)
    clear hcw4 how4
    have hfl := fun (wx : World) => field_limbs (Value.bool (sgn q0)) (Value.slice aC (lms q0).length cC) wx ⟨_, _, _, rfl⟩
    go_wp2_with fail
    refine (makeS false aC (lms q0).length cC (lms q0) _ OC.out.seg (by have := HLC.out; omega)).mono ?_
    rintro e w5 ⟨v, rfl, ⟨aD, cD, rfl, ho⟩, hbw5⟩
    have HLD : Hid ((lms (mk false (Num.nat (lms q0)))).length ≤ 4) := hide (Nat.le_trans (small_len (n := false) (lms_small q0)) HLC.out)
    have HPOS : Hid (0 ≤ mk false (Num.nat (lms q0))) := hide (by unfold mk; simp)
    have OD := hide ho
    clear ho hfl
    replace OA := hide (OA.out.below hbw5)
    replace OC := hide (OC.out.below hbw5)
    replace HD := hide (HD.out.bel hbw5)
    clear hbw5
    generalize mk false (Num.nat (lms q0)) = u at *
    go_wp2_with fail
    refine (fromS 1 _ (by omega) (by omega)).mono ?_
    rintro e w6 ⟨v, rfl, ⟨aE, cE, rfl, ho⟩, hbw6⟩
    have zE := HD.out.z
    have HLE := hide (len_int 1 (by omega) (by omega))
    have OE := hide ho
    clear ho
    replace OA := hide (OA.out.below hbw6)
    replace OD := hide (OD.out.below hbw6)
    replace HD := hide (HD.out.bel hbw6)
    clear hbw6
    go_wp2_with fail
    refine (addL _ _ u 1 _ ⟨aD, cD, rfl, OD.out.seg⟩ ⟨aE, cE, rfl, OE.out.seg⟩ (by have := HLD.out; omega) (by have := HLE.out; omega)).mono ?_
    rintro e w7 ⟨v, rfl, ⟨aF, cF, rfl, ho⟩, hbw7⟩
    have HLF : Hid ((lms (addZ u 1)).length ≤ 5) := hide (len_add HLD.out (by have := HLE.out; omega))
    have HNZ : Hid (addZ u 1 ≠ 0) := hide (by have := HPOS.out; unfold addZ; omega)
    have OF_ := hide ho
    clear ho
    replace OA := hide (OA.out.below hbw7)
    replace HD := hide (HD.out.bel hbw7)
    clear hbw7
    generalize addZ u 1 = q at *
    have OF := OF_
    clear OF_
    go_wp2_with fail
    refine (makeR p q aA cA aF cF _ OA.out.seg OF.out.seg (HNZ.out) (by have := HLA.out; omega) (by have := HLF.out; omega)).mono ?_
    rintro e wz ⟨d1, f1, d2, f2, rfl, ho1, ho2, -, hbwz⟩
    have HLR := hide (len_red (x := p) (y := q) (n := 100) (by have := HLA.out; omega) (by have := HLF.out; omega))
    have zz := HD.out.z
    have P1 := hide ho1
    have P2 := hide ho2
    clear ho1 ho2
    replace HD := hide (HD.out.bel hbwz)
    clear hbwz
    have kr0 := HD.out.r0
    have kr1 := HD.out.r1
    have kr2 := HD.out.r2
    have kr3 := HD.out.r3
    have fr0 := HD.out.g0
    have fr1 := HD.out.g1
    have fr2 := HD.out.g2
    have fr3 := HD.out.g3
    have zr := HD.out.z
    go_wp2
    refine bodyPost_ret (v := (.agg #[.bool (sgn (p / sgG p q)), .slice d1 (lms (p / sgG p q)).length f1, .bool (sgn (q / sgG p q)), .slice d2 (lms (q / sgG p q)).length f2])) (by simp [results, Tryz.results76, go_sem, kr0, kr1, kr2, kr3]) rfl ?_
    exact HD.out.done HBB.out HLR.out.1 HLR.out.2 P1.out P2.out zz zz _ _ _ _
  have e1 : (x == 1) = false := by rw [beq_eq_false_iff_ne]; exact h1
  by_cases h2 : x = 2
  · have e2 : (x == 2) = true := by rw [h2]; rfl
    clear h0 h1 h2
    go_wp2_with fail
    refine (bigD 40 B a len cap _ HD.out.cur (by omega)).mono ?_
    rintro e w3 ⟨p, aA, cA, rfl, hl, ho, hcw3, how3⟩
    have zA := HD.out.z
    have HLA := hide hl
    have OA := hide ho
    clear hl ho
    replace HD := hide (HD.out.on HBB.out hcw3 how3)
    clear hcw3 how3
    go_wp2_with fail
    refine (belowD B a len cap _ HD.out.cur 1279 (by omega)).mono ?_
    rintro e w4 ⟨y, hy, rfl, hcw4, how4⟩
    have hy' : 0 ≤ y ∧ y < 1279 := by rcases hy with h | h <;> omega
    obtain ⟨hya, hyb⟩ := hy'
    replace OA := hide (OA.out.only how4 (by have := HBB.out; omega))
    replace HD := hide (HD.out.on HBB.out hcw4 how4)
    clear hcw4 how4
    obtain ⟨K, rfl⟩ := Int.eq_ofNat_of_zero_le hya
    clear hy
    go_wp2_with fail
    refine (bitD K _ (by omega)).mono ?_
    rintro e w5 ⟨q, aF, cF, rfl, hl0, ho0, hbw5⟩
    have OF := hide ho0
    have HLF := hide hl0.1
    have HNZ := hide hl0.2
    clear ho0 hl0
    replace OA := hide (OA.out.below hbw5)
    replace HD := hide (HD.out.bel hbw5)
    clear hbw5
    go_wp2_with fail
    refine (makeR p q aA cA aF cF _ OA.out.seg OF.out.seg (HNZ.out) (by have := HLA.out; omega) (by have := HLF.out; omega)).mono ?_
    rintro e wz ⟨d1, f1, d2, f2, rfl, ho1, ho2, -, hbwz⟩
    have HLR := hide (len_red (x := p) (y := q) (n := 100) (by have := HLA.out; omega) (by have := HLF.out; omega))
    have zz := HD.out.z
    have P1 := hide ho1
    have P2 := hide ho2
    clear ho1 ho2
    replace HD := hide (HD.out.bel hbwz)
    clear hbwz
    have kr0 := HD.out.r0
    have kr1 := HD.out.r1
    have kr2 := HD.out.r2
    have kr3 := HD.out.r3
    have fr0 := HD.out.g0
    have fr1 := HD.out.g1
    have fr2 := HD.out.g2
    have fr3 := HD.out.g3
    have zr := HD.out.z
    go_wp2
    refine bodyPost_ret (v := (.agg #[.bool (sgn (p / sgG p q)), .slice d1 (lms (p / sgG p q)).length f1, .bool (sgn (q / sgG p q)), .slice d2 (lms (q / sgG p q)).length f2])) (by simp [results, Tryz.results76, go_sem, kr0, kr1, kr2, kr3]) rfl ?_
    exact HD.out.done HBB.out HLR.out.1 HLR.out.2 P1.out P2.out zz zz _ _ _ _
  · have e2 : (x == 2) = false := by rw [beq_eq_false_iff_ne]; exact h2
    clear h0 h1 h2
    go_wp2_with fail
    refine (belowD B a len cap _ HD.out.cur 400 (by omega)).mono ?_
    rintro e w3 ⟨y, hy, rfl, hcw3, how3⟩
    have hy' : 0 ≤ y ∧ y < 400 := by rcases hy with h | h <;> omega
    obtain ⟨hya, hyb⟩ := hy'
    replace HD := hide (HD.out.on HBB.out hcw3 how3)
    clear hcw3 how3
    clear hy
    go_wp2_with fail
    refine (fromS (y - 150) _ (by omega) (by omega)).mono ?_
    rintro e w4 ⟨v, rfl, ⟨aA, cA, rfl, ho⟩, hbw4⟩
    have zA := HD.out.z
    have HLA := hide (len_int (y - 150) (by omega) (by omega))
    have OA := hide ho
    clear ho
    replace HD := hide (HD.out.bel hbw4)
    clear hbw4
    generalize y - 150 = p at *
    go_wp2_with fail
    refine (belowD B a len cap _ HD.out.cur 24 (by omega)).mono ?_
    rintro e w5 ⟨u, hu, rfl, hcw5, how5⟩
    have hu' : 0 ≤ u ∧ u < 24 := by rcases hu with h | h <;> omega
    obtain ⟨hua, hub⟩ := hu'
    replace OA := hide (OA.out.only how5 (by have := HBB.out; omega))
    replace HD := hide (HD.out.on HBB.out hcw5 how5)
    clear hcw5 how5
    clear hu
    have HNZ : Hid (1 + u ≠ 0) := hide (by omega)
    go_wp2_with fail
    refine (fromS (1 + u) _ (by omega) (by omega)).mono ?_
    rintro e w6 ⟨v, rfl, ⟨aF, cF, rfl, ho⟩, hbw6⟩
    have zF := HD.out.z
    have HLF := hide (len_int (1 + u) (by omega) (by omega))
    have OF := hide ho
    clear ho
    replace OA := hide (OA.out.below hbw6)
    replace HD := hide (HD.out.bel hbw6)
    clear hbw6
    generalize 1 + u = q at *
    go_wp2_with fail
    refine (makeR p q aA cA aF cF _ OA.out.seg OF.out.seg (HNZ.out) (by have := HLA.out; omega) (by have := HLF.out; omega)).mono ?_
    rintro e wz ⟨d1, f1, d2, f2, rfl, ho1, ho2, -, hbwz⟩
    have HLR := hide (len_red (x := p) (y := q) (n := 100) (by have := HLA.out; omega) (by have := HLF.out; omega))
    have zz := HD.out.z
    have P1 := hide ho1
    have P2 := hide ho2
    clear ho1 ho2
    replace HD := hide (HD.out.bel hbwz)
    clear hbwz
    have kr0 := HD.out.r0
    have kr1 := HD.out.r1
    have kr2 := HD.out.r2
    have kr3 := HD.out.r3
    have fr0 := HD.out.g0
    have fr1 := HD.out.g1
    have fr2 := HD.out.g2
    have fr3 := HD.out.g3
    have zr := HD.out.z
    go_wp2
    refine bodyPost_ret (v := (.agg #[.bool (sgn (p / sgG p q)), .slice d1 (lms (p / sgG p q)).length f1, .bool (sgn (q / sgG p q)), .slice d2 (lms (q / sgG p q)).length f2])) (by simp [results, Tryz.results76, go_sem, kr0, kr1, kr2, kr3]) rfl ?_
    exact HD.out.done HBB.out HLR.out.1 HLR.out.2 P1.out P2.out zz zz _ _ _ _
end Go.Proofs.YtpmgpdlminacaaaGreatDoor

/- The walk of a draw of any fraction, not right sometimes. -/
namespace Go.Proofs.YtpmgpdlminacaaaGreatDoor
open Go.RowKit
set_option linter.unusedVariables false

/-- any drawn fraction -/
def RatA (w : World) (B : Nat) (a : Option Addr) (len cap : Nat) (w' : World) (e : Ending) : Prop :=
  ∃ n a1 c1 xs m a2 c2 ys, e = .returned (.agg #[.bool n, .slice a1 xs.length c1, .bool m, .slice a2 ys.length c2]) ∧ Own w' w.heap.size a1 xs.length c1 xs ∧ Own w' w.heap.size a2 ys.length c2 ys ∧ Cur B a len cap w' ∧ Only B w w'
theorem Dst4.doneA {w wr : World} {B : Nat} {a : Option Addr} {len cap : Nat} {n m : Bool} {xs ys : List Nat} {a1 a2 : Option Addr} {c1 c2 b1 b2 : Nat} (h : Dst4 w B a len cap wr) (hB : B < w.heap.size) (o1 : Own wr b1 a1 xs.length c1 xs) (o2 : Own wr b2 a2 ys.length c2 ys) (h1 : w.heap.size < b1) (h2 : w.heap.size < b2) (x y z t : Value) :
    RatA w B a len cap ((((wr.setCell ⟨w.heap.size, 0, none⟩ x).setCell ⟨w.heap.size, 1, none⟩ y).setCell ⟨w.heap.size, 2, none⟩ z).setCell ⟨w.heap.size, 3, none⟩ t) (.returned (.agg #[.bool n, .slice a1 xs.length c1, .bool m, .slice a2 ys.length c2])) :=
  ⟨n, a1, c1, xs, m, a2, c2, ys, rfl, own_four o1 h1 (Nat.le_refl _) _ _ _ _, own_four o2 h2 (Nat.le_refl _) _ _ _ _, (h.fin hB x y z t).1, (h.fin hB x y z t).2⟩

set_option maxHeartbeats 4000000 in
set_option maxRecDepth 20000 in
theorem anyR (B : Nat) (a : Option Addr) (len cap : Nat) (w : World) (hc : Cur B a len cap w) :
    Calls Tryz.prog 35 #[.pointer (some ⟨B, 0, none⟩)] w fun e w' => RatA w B a len cap w' e := by
  have hB := hc.hB
  have HBB := hide hB
  have HD := hide (Dst4.init hc)
  have hzr : (w.alloc (Obj.cells #[Value.bool false, Value.slice none 0 0, Value.bool false, Value.slice none 0 0] 26)).heap.size = w.heap.size + 1 := by simp
  have HZR := hide hzr
  clear hc hzr
  go_enter Tryz.func35, Tryz.ntmps35
  go_upto_region 1 with fail
  generalize w.alloc (Obj.cells #[Value.bool false, Value.slice none 0 0, Value.bool false, Value.slice none 0 0] 26) = wa at *
  go_wp2_with fail
  refine (someR B a len cap _ HD.out.cur).mono ?_
  rintro e w2 ⟨p, aA, cA, q, aF, cF, rfl, hlA, hlF, hoA, hoF, hcw2, how2⟩
  have HLA := hide hlA
  have HLF := hide hlF
  have zwa : w.heap.size < wa.heap.size := by have := HZR.out; omega
  replace HD := hide (HD.out.on HBB.out hcw2 how2)
  clear hcw2 how2
  have z2 := HD.out.z
  have hbx := bl_alloc (bl_refl w2) (Obj.cells #[Value.bool (sgn p), Value.slice aA (lms p).length cA, Value.bool (sgn q), Value.slice aF (lms q).length cF] 26)
  have OA := hide (hoA.below hbx)
  have OF := hide (hoF.below hbx)
  replace HD := hide (HD.out.bel hbx)
  have kx0 : (w2.alloc (Obj.cells #[Value.bool (sgn p), Value.slice aA (lms p).length cA, Value.bool (sgn q), Value.slice aF (lms q).length cF] 26)).cell? ⟨w2.heap.size, 0, none⟩ = some (Value.bool (sgn p)) := by go_simp
  have kx1 : (w2.alloc (Obj.cells #[Value.bool (sgn p), Value.slice aA (lms p).length cA, Value.bool (sgn q), Value.slice aF (lms q).length cF] 26)).cell? ⟨w2.heap.size, 1, none⟩ = some (Value.slice aA (lms p).length cA) := by go_simp
  have kx2 : (w2.alloc (Obj.cells #[Value.bool (sgn p), Value.slice aA (lms p).length cA, Value.bool (sgn q), Value.slice aF (lms q).length cF] 26)).cell? ⟨w2.heap.size, 2, none⟩ = some (Value.bool (sgn q)) := by go_simp
  have kx3 : (w2.alloc (Obj.cells #[Value.bool (sgn p), Value.slice aA (lms p).length cA, Value.bool (sgn q), Value.slice aF (lms q).length cF] 26)).cell? ⟨w2.heap.size, 3, none⟩ = some (Value.slice aF (lms q).length cF) := by go_simp
  have zx : w2.heap.size < (w2.alloc (Obj.cells #[Value.bool (sgn p), Value.slice aA (lms p).length cA, Value.bool (sgn q), Value.slice aF (lms q).length cF] 26)).heap.size := by simp only [World.size_alloc]; omega
  clear hbx hoA hoF hlA hlF HZR
  go_upto_region 2 with fail
  generalize (w2.alloc (Obj.cells #[Value.bool (sgn p), Value.slice aA (lms p).length cA, Value.bool (sgn q), Value.slice aF (lms q).length cF] 26)) = w3 at *
  generalize w2.heap.size = X at *
  go_wp2_with fail
  refine (belowD B a len cap _ HD.out.cur 30 (by omega)).mono ?_
  rintro e w4 ⟨y, hy, rfl, hcw4, how4⟩
  have hy' : 0 ≤ y ∧ y < 30 := by rcases hy with h | h <;> omega
  obtain ⟨hya, hyb⟩ := hy'
  replace kx0 := (how4.cell (p := ⟨X, 0, none⟩) zx (by dsimp only; omega)).trans kx0
  replace kx1 := (how4.cell (p := ⟨X, 1, none⟩) zx (by dsimp only; omega)).trans kx1
  replace kx2 := (how4.cell (p := ⟨X, 2, none⟩) zx (by dsimp only; omega)).trans kx2
  replace kx3 := (how4.cell (p := ⟨X, 3, none⟩) zx (by dsimp only; omega)).trans kx3
  replace zx := Nat.lt_of_lt_of_le zx how4.size
  replace OA := hide (OA.out.only how4 (by have := HBB.out; omega))
  replace OF := hide (OF.out.only how4 (by have := HBB.out; omega))
  replace HD := hide (HD.out.on HBB.out hcw4 how4)
  clear hcw4 how4
  clear hy
  have kr0 := HD.out.r0
  have kr1 := HD.out.r1
  have kr2 := HD.out.r2
  have kr3 := HD.out.r3
  have fr0 := HD.out.g0
  have fr1 := HD.out.g1
  have fr2 := HD.out.g2
  have fr3 := HD.out.g3
  have zr := HD.out.z
  by_cases h0 : y = 0
  · have e0 : (y == 0) = true := by rw [h0]; rfl
    clear h0
    go_wp2
    refine bodyPost_ret (v := (.agg #[.bool (sgn p), .slice aA (lms p).length cA, .bool false, .slice none 0 0])) (by simp [results, Tryz.results35, go_sem, kr0, kr1, kr2, kr3]) rfl ?_
    exact HD.out.doneA (ys := []) HBB.out OA.out (Own.nil w4 (w.heap.size + 1)) zwa (Nat.lt_succ_self _) _ _ _ _
  have e0 : (y == 0) = false := by rw [beq_eq_false_iff_ne]; exact h0
  by_cases h1 : y = 1
  · have e1 : (y == 1) = true := by rw [h1]; rfl
    clear h0 h1
    have H6 := hide (len_int 6 (by omega) (by omega))
    go_upto_region 6 with fail
    have KP : Hid (∀ w', Below w4.heap.size w4 w' → (w'.cell? ⟨X, 0, none⟩ = some (Value.bool (sgn p)) ∧ w'.cell? ⟨X, 1, none⟩ = some (Value.slice aA (lms p).length cA) ∧ w'.cell? ⟨X, 2, none⟩ = some (Value.bool (sgn q)) ∧ w'.cell? ⟨X, 3, none⟩ = some (Value.slice aF (lms q).length cF))) := hide (fun w' hb => ⟨(hb.cell (p := ⟨X, 0, none⟩) zx).trans kx0, (hb.cell (p := ⟨X, 1, none⟩) zx).trans kx1, (hb.cell (p := ⟨X, 2, none⟩) zx).trans kx2, (hb.cell (p := ⟨X, 3, none⟩) zx).trans kx3⟩)
    have KP4 : Hid (∀ w', Below w4.heap.size w4 w' → ∀ q0 q1 q2 q3, (((((w'.setCell ⟨w.heap.size, 0, none⟩ q0).setCell ⟨w.heap.size, 1, none⟩ q1).setCell ⟨w.heap.size, 2, none⟩ q2).setCell ⟨w.heap.size, 3, none⟩ q3).cell? ⟨X, 0, none⟩ = some (Value.bool (sgn p)) ∧ ((((w'.setCell ⟨w.heap.size, 0, none⟩ q0).setCell ⟨w.heap.size, 1, none⟩ q1).setCell ⟨w.heap.size, 2, none⟩ q2).setCell ⟨w.heap.size, 3, none⟩ q3).cell? ⟨X, 1, none⟩ = some (Value.slice aA (lms p).length cA) ∧ ((((w'.setCell ⟨w.heap.size, 0, none⟩ q0).setCell ⟨w.heap.size, 1, none⟩ q1).setCell ⟨w.heap.size, 2, none⟩ q2).setCell ⟨w.heap.size, 3, none⟩ q3).cell? ⟨X, 2, none⟩ = some (Value.bool (sgn q)) ∧ ((((w'.setCell ⟨w.heap.size, 0, none⟩ q0).setCell ⟨w.heap.size, 1, none⟩ q1).setCell ⟨w.heap.size, 2, none⟩ q2).setCell ⟨w.heap.size, 3, none⟩ q3).cell? ⟨X, 3, none⟩ = some (Value.slice aF (lms q).length cF))) := hide (fun w' hb q0 q1 q2 q3 => ⟨(cell_four (p := ⟨X, 0, none⟩) (by dsimp only; omega)).trans ((hb.cell (p := ⟨X, 0, none⟩) zx).trans kx0), (cell_four (p := ⟨X, 1, none⟩) (by dsimp only; omega)).trans ((hb.cell (p := ⟨X, 1, none⟩) zx).trans kx1), (cell_four (p := ⟨X, 2, none⟩) (by dsimp only; omega)).trans ((hb.cell (p := ⟨X, 2, none⟩) zx).trans kx2), (cell_four (p := ⟨X, 3, none⟩) (by dsimp only; omega)).trans ((hb.cell (p := ⟨X, 3, none⟩) zx).trans kx3)⟩)
    go_region_held3 (fun w' => w'.cell? ⟨X, 0, none⟩ = some (Value.bool (sgn p)) ∧ w'.cell? ⟨X, 1, none⟩ = some (Value.slice aA (lms p).length cA) ∧ w'.cell? ⟨X, 2, none⟩ = some (Value.bool (sgn q)) ∧ w'.cell? ⟨X, 3, none⟩ = some (Value.slice aF (lms q).length cF))
      (first | with_reducible exact KP.out _ (bl_refl w4).drew | with_reducible exact KP4.out _ hbD _ _ _ _ | with_reducible exact KP.out _ hbD | with_reducible exact KP.out _ hbC | with_reducible exact KP.out _ hbB | with_reducible exact KP.out _ hbA)
      (first
        | (have hq := hbC; go_at_call 78; refine (mulL _ _ q 6 _ ⟨aF, cF, rfl, OF.out.seg.below hbC⟩ ⟨uC, vC, rfl, hoC.seg⟩ (by have := HLF.out; omega) (by have := H6.out; omega)).mono ?_; rintro e wD ⟨_, rfl, ⟨uD, vD, rfl, hoD⟩, hbDr⟩; have hbD : Below w4.heap.size w4 wD := bl_trans hbC hbDr; have kr0 := (hbD.cell (p := ⟨w.heap.size, 0, none⟩) zr).trans kr0; have fr0 := (hbD.frozen (p := ⟨w.heap.size, 0, none⟩) zr).trans fr0; have kr1 := (hbD.cell (p := ⟨w.heap.size, 1, none⟩) zr).trans kr1; have fr1 := (hbD.frozen (p := ⟨w.heap.size, 1, none⟩) zr).trans fr1; have kr2 := (hbD.cell (p := ⟨w.heap.size, 2, none⟩) zr).trans kr2; have fr2 := (hbD.frozen (p := ⟨w.heap.size, 2, none⟩) zr).trans fr2; have kr3 := (hbD.cell (p := ⟨w.heap.size, 3, none⟩) zr).trans kr3; have fr3 := (hbD.frozen (p := ⟨w.heap.size, 3, none⟩) zr).trans fr3; have qC := hbC.size; have P1 := hide (hoB.below (bl_trans hbCr hbDr)); have P2 := hide hoD; have qB := hbA.size; clear hq)
        | (have hq := hbB; go_at_call 79; refine (fromS 6 _ (by omega) (by omega)).mono ?_; rintro e wC ⟨_, rfl, ⟨uC, vC, rfl, hoC⟩, hbCr⟩; have hbC : Below w4.heap.size w4 wC := bl_trans hbB hbCr; clear hq)
        | (have hq := hbA; go_at_call 78; refine (mulL _ _ p 6 _ ⟨aA, cA, rfl, OA.out.seg.below hbA⟩ ⟨uA, vA, rfl, hoA.seg⟩ (by have := HLA.out; omega) (by have := H6.out; omega)).mono ?_; rintro e wB ⟨_, rfl, ⟨uB, vB, rfl, hoB⟩, hbBr⟩; have hbB : Below w4.heap.size w4 wB := bl_trans hbA hbBr; clear hq)
        | (go_at_call 79; refine (fromS 6 _ (by omega) (by omega)).mono ?_; rintro e wA ⟨_, rfl, ⟨uA, vA, rfl, hoA⟩, hbAr⟩; have hbA : Below w4.heap.size w4 wA := (bl_refl w4).drew.trans hbAr))
    replace HD := hide (HD.out.bel hbD)
    clear KP KP4 hbA hbAr hbB hbBr hbC hbCr hbD hbDr hoA hoB hoC hoD
    go_wp2
    refine bodyPost_ret (v := (.agg #[.bool (sgn (mulZ p 6)), .slice uB (lms (mulZ p 6)).length vB, .bool (sgn (mulZ q 6)), .slice uD (lms (mulZ q 6)).length vD])) (by simp [results, Tryz.results35, go_sem, kr0, kr1, kr2, kr3]) rfl ?_
    exact HD.out.doneA HBB.out P1.out P2.out (by omega) (by omega) _ _ _ _
  have e1 : (y == 1) = false := by rw [beq_eq_false_iff_ne]; exact h1
  by_cases h2 : y = 2
  · have e2 : (y == 2) = true := by rw [h2]; rfl
    clear h0 h1 h2
    go_upto_region 8 with fail
    have KP : Hid (∀ w', Below w4.heap.size w4 w' → (w'.cell? ⟨X, 0, none⟩ = some (Value.bool (sgn p)) ∧ w'.cell? ⟨X, 1, none⟩ = some (Value.slice aA (lms p).length cA) ∧ w'.cell? ⟨X, 2, none⟩ = some (Value.bool (sgn q)) ∧ w'.cell? ⟨X, 3, none⟩ = some (Value.slice aF (lms q).length cF))) := hide (fun w' hb => ⟨(hb.cell (p := ⟨X, 0, none⟩) zx).trans kx0, (hb.cell (p := ⟨X, 1, none⟩) zx).trans kx1, (hb.cell (p := ⟨X, 2, none⟩) zx).trans kx2, (hb.cell (p := ⟨X, 3, none⟩) zx).trans kx3⟩)
    have KP4 : Hid (∀ w', Below w4.heap.size w4 w' → ∀ q0 q1 q2 q3, (((((w'.setCell ⟨w.heap.size, 0, none⟩ q0).setCell ⟨w.heap.size, 1, none⟩ q1).setCell ⟨w.heap.size, 2, none⟩ q2).setCell ⟨w.heap.size, 3, none⟩ q3).cell? ⟨X, 0, none⟩ = some (Value.bool (sgn p)) ∧ ((((w'.setCell ⟨w.heap.size, 0, none⟩ q0).setCell ⟨w.heap.size, 1, none⟩ q1).setCell ⟨w.heap.size, 2, none⟩ q2).setCell ⟨w.heap.size, 3, none⟩ q3).cell? ⟨X, 1, none⟩ = some (Value.slice aA (lms p).length cA) ∧ ((((w'.setCell ⟨w.heap.size, 0, none⟩ q0).setCell ⟨w.heap.size, 1, none⟩ q1).setCell ⟨w.heap.size, 2, none⟩ q2).setCell ⟨w.heap.size, 3, none⟩ q3).cell? ⟨X, 2, none⟩ = some (Value.bool (sgn q)) ∧ ((((w'.setCell ⟨w.heap.size, 0, none⟩ q0).setCell ⟨w.heap.size, 1, none⟩ q1).setCell ⟨w.heap.size, 2, none⟩ q2).setCell ⟨w.heap.size, 3, none⟩ q3).cell? ⟨X, 3, none⟩ = some (Value.slice aF (lms q).length cF))) := hide (fun w' hb q0 q1 q2 q3 => ⟨(cell_four (p := ⟨X, 0, none⟩) (by dsimp only; omega)).trans ((hb.cell (p := ⟨X, 0, none⟩) zx).trans kx0), (cell_four (p := ⟨X, 1, none⟩) (by dsimp only; omega)).trans ((hb.cell (p := ⟨X, 1, none⟩) zx).trans kx1), (cell_four (p := ⟨X, 2, none⟩) (by dsimp only; omega)).trans ((hb.cell (p := ⟨X, 2, none⟩) zx).trans kx2), (cell_four (p := ⟨X, 3, none⟩) (by dsimp only; omega)).trans ((hb.cell (p := ⟨X, 3, none⟩) zx).trans kx3)⟩)
    go_region_held3 (fun w' => w'.cell? ⟨X, 0, none⟩ = some (Value.bool (sgn p)) ∧ w'.cell? ⟨X, 1, none⟩ = some (Value.slice aA (lms p).length cA) ∧ w'.cell? ⟨X, 2, none⟩ = some (Value.bool (sgn q)) ∧ w'.cell? ⟨X, 3, none⟩ = some (Value.slice aF (lms q).length cF))
      (first | with_reducible exact KP.out _ (bl_refl w4).drew | with_reducible exact KP4.out _ hbA _ _ _ _ | with_reducible exact KP.out _ hbA)
      (first | (go_at_call 60; refine (negS _ q _ ⟨aF, cF, rfl, OF.out.seg.below (bl_refl w4).drew⟩ (by have := HLF.out; omega)).mono ?_; rintro e wA ⟨_, rfl, ⟨uA, vA, rfl, hoA⟩, hbAr⟩; have hbA : Below w4.heap.size w4 wA := (bl_refl w4).drew.trans hbAr; have kr0 := (hbA.cell (p := ⟨w.heap.size, 0, none⟩) zr).trans kr0; have fr0 := (hbA.frozen (p := ⟨w.heap.size, 0, none⟩) zr).trans fr0; have kr1 := (hbA.cell (p := ⟨w.heap.size, 1, none⟩) zr).trans kr1; have fr1 := (hbA.frozen (p := ⟨w.heap.size, 1, none⟩) zr).trans fr1; have kr2 := (hbA.cell (p := ⟨w.heap.size, 2, none⟩) zr).trans kr2; have fr2 := (hbA.frozen (p := ⟨w.heap.size, 2, none⟩) zr).trans fr2; have kr3 := (hbA.cell (p := ⟨w.heap.size, 3, none⟩) zr).trans kr3; have fr3 := (hbA.frozen (p := ⟨w.heap.size, 3, none⟩) zr).trans fr3; have P2 := hide (hoA.mono (base' := w4.heap.size) (Nat.le_of_eq (by first | rfl | (simp only [World.size_drew])))); clear hoA))
    have P1 := hide (OA.out.below hbA)
    replace HD := hide (HD.out.bel hbA)
    clear KP KP4 hbA hbAr
    go_wp2
    refine bodyPost_ret (v := (.agg #[.bool (sgn p), .slice aA (lms p).length cA, .bool (sgn (-q)), .slice uA (lms (-q)).length vA])) (by simp [results, Tryz.results35, go_sem, kr0, kr1, kr2, kr3]) rfl ?_
    exact HD.out.doneA HBB.out P1.out P2.out zwa zr _ _ _ _
  have e2 : (y == 2) = false := by rw [beq_eq_false_iff_ne]; exact h2
  by_cases h3 : y = 3
  · have e3 : (y == 3) = true := by rw [h3]; rfl
    clear h0 h1 h2 h3 kr0 kr1 kr2 kr3 fr0 fr1 fr2 fr3
    go_wp2_with fail
    refine (anyB B a len cap _ HD.out.cur).mono ?_
    rintro e w5 ⟨n1, a1, c1, xs, rfl, hl, ho, hcw5, how5⟩
    have P1 := hide ho
    clear ho hl
    replace HD := hide (HD.out.on HBB.out hcw5 how5)
    clear hcw5 how5
    have z5 := HD.out.z
    go_wp2_with fail
    refine (anyB B a len cap _ HD.out.cur).mono ?_
    rintro e w6 ⟨n2, a2, c2, ys, rfl, hl, ho, hcw6, how6⟩
    have P2 := hide ho
    clear ho hl
    replace P1 := hide (P1.out.only how6 (by have := HBB.out; omega))
    replace HD := hide (HD.out.on HBB.out hcw6 how6)
    clear hcw6 how6
    clear zr
    have kr0 := HD.out.r0
    have kr1 := HD.out.r1
    have kr2 := HD.out.r2
    have kr3 := HD.out.r3
    have fr0 := HD.out.g0
    have fr1 := HD.out.g1
    have fr2 := HD.out.g2
    have fr3 := HD.out.g3
    have zr := HD.out.z
    go_wp2
    refine bodyPost_ret (v := (.agg #[.bool n1, .slice a1 xs.length c1, .bool n2, .slice a2 ys.length c2])) (by simp [results, Tryz.results35, go_sem, kr0, kr1, kr2, kr3]) rfl ?_
    exact HD.out.doneA HBB.out P1.out P2.out (by omega) (by omega) _ _ _ _
  · have e3 : (y == 3) = false := by rw [beq_eq_false_iff_ne]; exact h3
    clear h0 h1 h2 h3
    go_wp2
    refine bodyPost_ret (v := (.agg #[.bool (sgn p), .slice aA (lms p).length cA, .bool (sgn q), .slice aF (lms q).length cF])) (by simp [results, Tryz.results35, go_sem, kr0, kr1, kr2, kr3]) rfl ?_
    exact HD.out.doneA HBB.out OA.out OF.out zwa zwa _ _ _ _
end Go.Proofs.YtpmgpdlminacaaaGreatDoor

/- The walks of the draws of the laws, and of whether two fractions are alike. -/
namespace Go.Proofs.YtpmgpdlminacaaaGreatDoor
open Go.RowKit
set_option linter.unusedVariables false

theorem own4 {w1 : World} {N b n c : Nat} {a : Option Addr} {xs : List Nat} (h : Own w1 b a n c xs) (hN : N < b) (x y z t : Value) : Own ((((w1.setCell ⟨N, 0, none⟩ x).setCell ⟨N, 1, none⟩ y).setCell ⟨N, 2, none⟩ z).setCell ⟨N, 3, none⟩ t) b a n c xs :=
  (((h.setCell (p := ⟨N, 0, none⟩) hN x).setCell (p := ⟨N, 1, none⟩) hN y).setCell (p := ⟨N, 2, none⟩) hN z).setCell (p := ⟨N, 3, none⟩) hN t
theorem Only.drew {B : Nat} {a w : World} (h : Only B a w) : Only B a w.drew := ⟨h.os, h.tape, h.output, h.size, h.block⟩
theorem only_of_drew {B : Nat} {a w : World} (h : Only B a.drew w) : Only B a w := ⟨h.os, h.tape, h.output, h.size, h.block⟩
theorem Cur.drew {B : Nat} {a : Option Addr} {len cap : Nat} {w : World} (h : Cur B a len cap w) : Cur B a len cap w.drew := h.drewN 1
set_option maxHeartbeats 2000000 in
theorem sameR (n : Bool) (xs : List Nat) (m : Bool) (ys : List Nat) (a1 : Option Addr) (c1 : Nat) (b1 : Option Addr) (e1 : Nat) (a2 : Option Addr) (c2 : Nat) (b2 : Option Addr) (e2 : Nat) (w : World)
    (s1 : Seg w a1 xs.length c1 xs) (t1 : Seg w b1 ys.length e1 ys) (s2 : Seg w a2 xs.length c2 xs) (t2 : Seg w b2 ys.length e2 ys) :
    Calls Tryz.prog 15 #[.agg #[.bool n, .slice a1 xs.length c1, .bool m, .slice b1 ys.length e1], .agg #[.bool n, .slice a2 xs.length c2, .bool m, .slice b2 ys.length e2]] w fun e w' => e = .returned (.bool true) ∧ Below w.heap.size w w' := by
  have ka0 : ((w.alloc (Obj.cells #[Value.bool n, Value.slice a1 xs.length c1, Value.bool m, Value.slice b1 ys.length e1] 26)).alloc (Obj.cells #[Value.bool n, Value.slice a2 xs.length c2, Value.bool m, Value.slice b2 ys.length e2] 26)).cell? ⟨w.heap.size, 0, none⟩ = some (Value.bool n) := by go_simp
  have ka1 : ((w.alloc (Obj.cells #[Value.bool n, Value.slice a1 xs.length c1, Value.bool m, Value.slice b1 ys.length e1] 26)).alloc (Obj.cells #[Value.bool n, Value.slice a2 xs.length c2, Value.bool m, Value.slice b2 ys.length e2] 26)).cell? ⟨w.heap.size, 1, none⟩ = some (Value.slice a1 xs.length c1) := by go_simp
  have ka2 : ((w.alloc (Obj.cells #[Value.bool n, Value.slice a1 xs.length c1, Value.bool m, Value.slice b1 ys.length e1] 26)).alloc (Obj.cells #[Value.bool n, Value.slice a2 xs.length c2, Value.bool m, Value.slice b2 ys.length e2] 26)).cell? ⟨w.heap.size, 2, none⟩ = some (Value.bool m) := by go_simp
  have ka3 : ((w.alloc (Obj.cells #[Value.bool n, Value.slice a1 xs.length c1, Value.bool m, Value.slice b1 ys.length e1] 26)).alloc (Obj.cells #[Value.bool n, Value.slice a2 xs.length c2, Value.bool m, Value.slice b2 ys.length e2] 26)).cell? ⟨w.heap.size, 3, none⟩ = some (Value.slice b1 ys.length e1) := by go_simp
  have kb0 : ((w.alloc (Obj.cells #[Value.bool n, Value.slice a1 xs.length c1, Value.bool m, Value.slice b1 ys.length e1] 26)).alloc (Obj.cells #[Value.bool n, Value.slice a2 xs.length c2, Value.bool m, Value.slice b2 ys.length e2] 26)).cell? ⟨w.heap.size + 1, 0, none⟩ = some (Value.bool n) := by go_simp
  have kb1 : ((w.alloc (Obj.cells #[Value.bool n, Value.slice a1 xs.length c1, Value.bool m, Value.slice b1 ys.length e1] 26)).alloc (Obj.cells #[Value.bool n, Value.slice a2 xs.length c2, Value.bool m, Value.slice b2 ys.length e2] 26)).cell? ⟨w.heap.size + 1, 1, none⟩ = some (Value.slice a2 xs.length c2) := by go_simp
  have kb2 : ((w.alloc (Obj.cells #[Value.bool n, Value.slice a1 xs.length c1, Value.bool m, Value.slice b1 ys.length e1] 26)).alloc (Obj.cells #[Value.bool n, Value.slice a2 xs.length c2, Value.bool m, Value.slice b2 ys.length e2] 26)).cell? ⟨w.heap.size + 1, 2, none⟩ = some (Value.bool m) := by go_simp
  have kb3 : ((w.alloc (Obj.cells #[Value.bool n, Value.slice a1 xs.length c1, Value.bool m, Value.slice b1 ys.length e1] 26)).alloc (Obj.cells #[Value.bool n, Value.slice a2 xs.length c2, Value.bool m, Value.slice b2 ys.length e2] 26)).cell? ⟨w.heap.size + 1, 3, none⟩ = some (Value.slice b2 ys.length e2) := by go_simp
  have za : w.heap.size < ((w.alloc (Obj.cells #[Value.bool n, Value.slice a1 xs.length c1, Value.bool m, Value.slice b1 ys.length e1] 26)).alloc (Obj.cells #[Value.bool n, Value.slice a2 xs.length c2, Value.bool m, Value.slice b2 ys.length e2] 26)).heap.size := by simp only [World.size_alloc]; omega
  have zb : w.heap.size + 1 < ((w.alloc (Obj.cells #[Value.bool n, Value.slice a1 xs.length c1, Value.bool m, Value.slice b1 ys.length e1] 26)).alloc (Obj.cells #[Value.bool n, Value.slice a2 xs.length c2, Value.bool m, Value.slice b2 ys.length e2] 26)).heap.size := by simp only [World.size_alloc]; omega
  have HB := hide (bl_alloc (bl_alloc (bl_refl w) (Obj.cells #[Value.bool n, Value.slice a1 xs.length c1, Value.bool m, Value.slice b1 ys.length e1] 26)) (Obj.cells #[Value.bool n, Value.slice a2 xs.length c2, Value.bool m, Value.slice b2 ys.length e2] 26))
  have S1 := hide (s1.below HB.out)
  have T1 := hide (t1.below HB.out)
  have S2 := hide (s2.below HB.out)
  have T2 := hide (t2.below HB.out)
  clear s1 t1 s2 t2
  go_enter Tryz.func15, Tryz.ntmps15
  go_wp2_with fail
  generalize ((w.alloc (Obj.cells #[Value.bool n, Value.slice a1 xs.length c1, Value.bool m, Value.slice b1 ys.length e1] 26)).alloc (Obj.cells #[Value.bool n, Value.slice a2 xs.length c2, Value.bool m, Value.slice b2 ys.length e2] 26)) = w1 at *
  refine (sameB n xs a1 c1 a2 c2 _ S1.out S2.out).mono ?_
  rintro e w2 ⟨rfl, hb⟩
  replace ka0 := (hb.cell (p := ⟨w.heap.size, 0, none⟩) za).trans ka0
  replace ka1 := (hb.cell (p := ⟨w.heap.size, 1, none⟩) za).trans ka1
  replace ka2 := (hb.cell (p := ⟨w.heap.size, 2, none⟩) za).trans ka2
  replace ka3 := (hb.cell (p := ⟨w.heap.size, 3, none⟩) za).trans ka3
  replace kb0 := (hb.cell (p := ⟨w.heap.size + 1, 0, none⟩) zb).trans kb0
  replace kb1 := (hb.cell (p := ⟨w.heap.size + 1, 1, none⟩) zb).trans kb1
  replace kb2 := (hb.cell (p := ⟨w.heap.size + 1, 2, none⟩) zb).trans kb2
  replace kb3 := (hb.cell (p := ⟨w.heap.size + 1, 3, none⟩) zb).trans kb3
  replace T1 := hide (T1.out.below hb)
  replace T2 := hide (T2.out.below hb)
  replace HB := hide (bl_trans HB.out hb)
  clear hb
  go_wp2_with fail
  refine (sameB m ys b1 e1 b2 e2 _ T1.out T2.out).mono ?_
  rintro e w3 ⟨rfl, hb⟩
  replace HB := hide (bl_trans HB.out hb)
  clear hb
  go_wp2
  go_ret
  exact ⟨rfl, HB.out⟩

set_option maxHeartbeats 2000000 in
theorem drawFloor (a : Option Addr) (len cap : Nat) (w : World) (hr : Row a len cap w) :
    Calls Tryz.prog 12 #[.slice a len cap] w fun e w' => ∃ n a1 c1 xs m b1 e1 ys, e = .returned (.agg #[.bool n, .slice a1 xs.length c1, .bool m, .slice b1 ys.length e1]) ∧ Seg w' a1 xs.length c1 xs ∧ Seg w' b1 ys.length e1 ys ∧ Below w.heap.size w w' := by
  have kr0 : (w.alloc (Obj.cells #[Value.bool false, Value.slice none 0 0, Value.bool false, Value.slice none 0 0] 26)).cell? ⟨w.heap.size, 0, none⟩ = some (Value.bool false) := by go_simp
  have fr0 : (w.alloc (Obj.cells #[Value.bool false, Value.slice none 0 0, Value.bool false, Value.slice none 0 0] 26)).frozen? ⟨w.heap.size, 0, none⟩ = false := by go_simp
  have kr1 : (w.alloc (Obj.cells #[Value.bool false, Value.slice none 0 0, Value.bool false, Value.slice none 0 0] 26)).cell? ⟨w.heap.size, 1, none⟩ = some (Value.slice none 0 0) := by go_simp
  have fr1 : (w.alloc (Obj.cells #[Value.bool false, Value.slice none 0 0, Value.bool false, Value.slice none 0 0] 26)).frozen? ⟨w.heap.size, 1, none⟩ = false := by go_simp
  have kr2 : (w.alloc (Obj.cells #[Value.bool false, Value.slice none 0 0, Value.bool false, Value.slice none 0 0] 26)).cell? ⟨w.heap.size, 2, none⟩ = some (Value.bool false) := by go_simp
  have fr2 : (w.alloc (Obj.cells #[Value.bool false, Value.slice none 0 0, Value.bool false, Value.slice none 0 0] 26)).frozen? ⟨w.heap.size, 2, none⟩ = false := by go_simp
  have kr3 : (w.alloc (Obj.cells #[Value.bool false, Value.slice none 0 0, Value.bool false, Value.slice none 0 0] 26)).cell? ⟨w.heap.size, 3, none⟩ = some (Value.slice none 0 0) := by go_simp
  have fr3 : (w.alloc (Obj.cells #[Value.bool false, Value.slice none 0 0, Value.bool false, Value.slice none 0 0] 26)).frozen? ⟨w.heap.size, 3, none⟩ = false := by go_simp
  have zr : w.heap.size < (w.alloc (Obj.cells #[Value.bool false, Value.slice none 0 0, Value.bool false, Value.slice none 0 0] 26)).heap.size := by simp only [World.size_alloc]; omega
  have HB := hide (bl_alloc (bl_refl w) (Obj.cells #[Value.bool false, Value.slice none 0 0, Value.bool false, Value.slice none 0 0] 26))
  have HR := hide (hr.bel HB.out)
  clear hr
  go_enter Tryz.func12, Tryz.ntmps12
  go_upto_region 1 with fail
  generalize (w.alloc (Obj.cells #[Value.bool false, Value.slice none 0 0, Value.bool false, Value.slice none 0 0] 26)) = wa at *
  go_wp2_with fail
  refine (newD a len cap _ HR.out).mono ?_
  rintro e w2 ⟨rfl, hc2, hb2⟩
  replace kr0 := (hb2.cell (p := ⟨w.heap.size, 0, none⟩) zr).trans kr0
  replace fr0 := (hb2.frozen (p := ⟨w.heap.size, 0, none⟩) zr).trans fr0
  replace kr1 := (hb2.cell (p := ⟨w.heap.size, 1, none⟩) zr).trans kr1
  replace fr1 := (hb2.frozen (p := ⟨w.heap.size, 1, none⟩) zr).trans fr1
  replace kr2 := (hb2.cell (p := ⟨w.heap.size, 2, none⟩) zr).trans kr2
  replace fr2 := (hb2.frozen (p := ⟨w.heap.size, 2, none⟩) zr).trans fr2
  replace kr3 := (hb2.cell (p := ⟨w.heap.size, 3, none⟩) zr).trans kr3
  replace fr3 := (hb2.frozen (p := ⟨w.heap.size, 3, none⟩) zr).trans fr3
  have z2 := Nat.lt_of_lt_of_le zr hb2.size
  replace HB := hide (bl_trans HB.out hb2)
  have HC := hide hc2
  clear hb2 hc2 HR
  go_wp2_with fail
  refine (anyR _ a len cap _ HC.out).mono ?_
  rintro e w3 ⟨n, a1, c1, xs, m, b1, e1, ys, rfl, ho1, ho2, hc3, ho3⟩
  replace kr0 := (ho3.cell (p := ⟨w.heap.size, 0, none⟩) z2 (by dsimp only; omega)).trans kr0
  replace fr0 := (ho3.frozen (p := ⟨w.heap.size, 0, none⟩) z2 (by dsimp only; omega)).trans fr0
  replace kr1 := (ho3.cell (p := ⟨w.heap.size, 1, none⟩) z2 (by dsimp only; omega)).trans kr1
  replace fr1 := (ho3.frozen (p := ⟨w.heap.size, 1, none⟩) z2 (by dsimp only; omega)).trans fr1
  replace kr2 := (ho3.cell (p := ⟨w.heap.size, 2, none⟩) z2 (by dsimp only; omega)).trans kr2
  replace fr2 := (ho3.frozen (p := ⟨w.heap.size, 2, none⟩) z2 (by dsimp only; omega)).trans fr2
  replace kr3 := (ho3.cell (p := ⟨w.heap.size, 3, none⟩) z2 (by dsimp only; omega)).trans kr3
  replace fr3 := (ho3.frozen (p := ⟨w.heap.size, 3, none⟩) z2 (by dsimp only; omega)).trans fr3
  replace HB := hide (HB.out.trans (ho3.below (by omega) (by omega)))
  have O1 := hide ho1
  have O2 := hide ho2
  clear hc3 ho3 ho1 ho2 HC
  go_wp2
  refine bodyPost_ret (v := (.agg #[.bool n, .slice a1 xs.length c1, .bool m, .slice b1 ys.length e1])) (by simp [results, Tryz.results12, go_sem, kr0, kr1, kr2, kr3]) rfl ?_
  exact ⟨n, a1, c1, xs, m, b1, e1, ys, rfl, (own_four (w := w) O1.out z2 (Nat.le_refl _) _ _ _ _).seg, (own_four (w := w) O2.out z2 (Nat.le_refl _) _ _ _ _).seg, set_four (Nat.le_refl _) HB.out _ _ _ _⟩

end Go.Proofs.YtpmgpdlminacaaaGreatDoor
