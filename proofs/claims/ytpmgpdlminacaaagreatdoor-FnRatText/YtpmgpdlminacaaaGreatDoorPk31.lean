/- My texts DrR, DrRS, in this order. -/
import Derived.Test.YtpmgpdlminacaaaGreatDoorPk08
import Derived.Test.YtpmgpdlminacaaaGreatDoorPk30
import Derived.Test.YtpmgpdlminacaaaGreatDoorPk03
/- Draws of fractions: the state in the midst of one, and what helps. -/
namespace Go.Proofs.YtpmgpdlminacaaaGreatDoor
open Go.RowKit
set_option linter.unusedVariables false

/-- in the midst of a draw of a fraction: the cursor, the box of the answer, all that was there -/
structure Dst4 (w : World) (B : Nat) (a : Option Addr) (len cap : Nat) (wr : World) : Prop where
  cur : Cur B a len cap wr
  only : Only B w wr
  r0 : wr.cell? ⟨w.heap.size, 0, none⟩ = some (.bool false)
  r1 : wr.cell? ⟨w.heap.size, 1, none⟩ = some (.slice none 0 0)
  r2 : wr.cell? ⟨w.heap.size, 2, none⟩ = some (.bool false)
  r3 : wr.cell? ⟨w.heap.size, 3, none⟩ = some (.slice none 0 0)
  g0 : wr.frozen? ⟨w.heap.size, 0, none⟩ = false
  g1 : wr.frozen? ⟨w.heap.size, 1, none⟩ = false
  g2 : wr.frozen? ⟨w.heap.size, 2, none⟩ = false
  g3 : wr.frozen? ⟨w.heap.size, 3, none⟩ = false
  z : w.heap.size < wr.heap.size
theorem Dst4.init {w : World} {B : Nat} {a : Option Addr} {len cap : Nat} (h : Cur B a len cap w) : Dst4 w B a len cap (w.alloc (Obj.cells #[Value.bool false, Value.slice none 0 0, Value.bool false, Value.slice none 0 0] 26)) :=
  ⟨h.alloc _, (Only.refl B w).alloc _, by go_simp, by go_simp, by go_simp, by go_simp, by go_simp, by go_simp, by go_simp, by go_simp, by simp only [World.size_alloc]; omega⟩
theorem Dst4.on {w2 : World} {w wr : World} {B : Nat} {a : Option Addr} {len cap : Nat} (h : Dst4 w B a len cap wr) (hB : B < w.heap.size) (hc : Cur B a len cap w2) (ho : Only B wr w2) : Dst4 w B a len cap w2 := by
  have hz := h.z
  exact ⟨hc, h.only.trans ho, (ho.cell (p := ⟨w.heap.size, 0, none⟩) hz (by dsimp only; omega)).trans h.r0, (ho.cell (p := ⟨w.heap.size, 1, none⟩) hz (by dsimp only; omega)).trans h.r1, (ho.cell (p := ⟨w.heap.size, 2, none⟩) hz (by dsimp only; omega)).trans h.r2, (ho.cell (p := ⟨w.heap.size, 3, none⟩) hz (by dsimp only; omega)).trans h.r3, (ho.frozen (p := ⟨w.heap.size, 0, none⟩) hz (by dsimp only; omega)).trans h.g0, (ho.frozen (p := ⟨w.heap.size, 1, none⟩) hz (by dsimp only; omega)).trans h.g1, (ho.frozen (p := ⟨w.heap.size, 2, none⟩) hz (by dsimp only; omega)).trans h.g2, (ho.frozen (p := ⟨w.heap.size, 3, none⟩) hz (by dsimp only; omega)).trans h.g3, Nat.lt_of_lt_of_le hz ho.size⟩
theorem Dst4.bel {w2 : World} {w wr : World} {B : Nat} {a : Option Addr} {len cap : Nat} (h : Dst4 w B a len cap wr) (hb : Below wr.heap.size wr w2) : Dst4 w B a len cap w2 := by
  have hz := h.z
  exact ⟨h.cur.bel hb, h.only.bel hb, (hb.cell (p := ⟨w.heap.size, 0, none⟩) hz).trans h.r0, (hb.cell (p := ⟨w.heap.size, 1, none⟩) hz).trans h.r1, (hb.cell (p := ⟨w.heap.size, 2, none⟩) hz).trans h.r2, (hb.cell (p := ⟨w.heap.size, 3, none⟩) hz).trans h.r3, (hb.frozen (p := ⟨w.heap.size, 0, none⟩) hz).trans h.g0, (hb.frozen (p := ⟨w.heap.size, 1, none⟩) hz).trans h.g1, (hb.frozen (p := ⟨w.heap.size, 2, none⟩) hz).trans h.g2, (hb.frozen (p := ⟨w.heap.size, 3, none⟩) hz).trans h.g3, Nat.lt_of_lt_of_le hz hb.size⟩
theorem set_four_b {w w1 : World} {N : Nat} (hN : w.heap.size ≤ N) (x y z t : Value) : Below w.heap.size w1 ((((w1.setCell ⟨N, 0, none⟩ x).setCell ⟨N, 1, none⟩ y).setCell ⟨N, 2, none⟩ z).setCell ⟨N, 3, none⟩ t) :=
  ((((Below.refl w.heap.size w1).setCell (p := ⟨N, 0, none⟩) hN x).setCell (p := ⟨N, 1, none⟩) hN y).setCell (p := ⟨N, 2, none⟩) hN z).setCell (p := ⟨N, 3, none⟩) hN t
theorem Dst4.fin {w wr : World} {B : Nat} {a : Option Addr} {len cap : Nat} (h : Dst4 w B a len cap wr) (hB : B < w.heap.size) (x y z t : Value) : Cur B a len cap ((((wr.setCell ⟨w.heap.size, 0, none⟩ x).setCell ⟨w.heap.size, 1, none⟩ y).setCell ⟨w.heap.size, 2, none⟩ z).setCell ⟨w.heap.size, 3, none⟩ t) ∧ Only B w ((((wr.setCell ⟨w.heap.size, 0, none⟩ x).setCell ⟨w.heap.size, 1, none⟩ y).setCell ⟨w.heap.size, 2, none⟩ z).setCell ⟨w.heap.size, 3, none⟩ t) := by
  have hb : Below w.heap.size wr ((((wr.setCell ⟨w.heap.size, 0, none⟩ x).setCell ⟨w.heap.size, 1, none⟩ y).setCell ⟨w.heap.size, 2, none⟩ z).setCell ⟨w.heap.size, 3, none⟩ t) := set_four_b (Nat.le_refl _) x y z t
  exact ⟨h.cur.kept (hb.mono hB), ⟨hb.os.trans h.only.os, hb.tape.trans h.only.tape, hb.output.trans h.only.output, Nat.le_trans h.only.size hb.size, fun k hk hn => (hb.block k hk).trans (h.only.block k hk hn)⟩⟩
theorem own_four {w w1 : World} {N b n c : Nat} {a : Option Addr} {xs : List Nat} (h : Own w1 b a n c xs) (hN : N < b) (wN : w.heap.size ≤ N) (x y z t : Value) : Own ((((w1.setCell ⟨N, 0, none⟩ x).setCell ⟨N, 1, none⟩ y).setCell ⟨N, 2, none⟩ z).setCell ⟨N, 3, none⟩ t) w.heap.size a n c xs :=
  ((((h.setCell (p := ⟨N, 0, none⟩) hN x).setCell (p := ⟨N, 1, none⟩) hN y).setCell (p := ⟨N, 2, none⟩) hN z).setCell (p := ⟨N, 3, none⟩) hN t).mono (by omega)
/-- a drawn fraction, of numbers -/
def RatN (w : World) (B : Nat) (a : Option Addr) (len cap : Nat) (w' : World) (e : Ending) : Prop :=
  ∃ p a1 c1 q a2 c2, e = .returned (.agg #[.bool (sgn p), .slice a1 (lms p).length c1, .bool (sgn q), .slice a2 (lms q).length c2]) ∧ (lms p).length ≤ 100 ∧ (lms q).length ≤ 100 ∧ Own w' w.heap.size a1 (lms p).length c1 (lms p) ∧ Own w' w.heap.size a2 (lms q).length c2 (lms q) ∧ Cur B a len cap w' ∧ Only B w w'
theorem Dst4.done {w wr : World} {B : Nat} {a : Option Addr} {len cap : Nat} {p q : Int} {a1 a2 : Option Addr} {c1 c2 b1 b2 : Nat} (h : Dst4 w B a len cap wr) (hB : B < w.heap.size) (lp : (lms p).length ≤ 100) (lq : (lms q).length ≤ 100) (o1 : Own wr b1 a1 (lms p).length c1 (lms p)) (o2 : Own wr b2 a2 (lms q).length c2 (lms q)) (h1 : w.heap.size < b1) (h2 : w.heap.size < b2) (x y z t : Value) :
    RatN w B a len cap ((((wr.setCell ⟨w.heap.size, 0, none⟩ x).setCell ⟨w.heap.size, 1, none⟩ y).setCell ⟨w.heap.size, 2, none⟩ z).setCell ⟨w.heap.size, 3, none⟩ t) (.returned (.agg #[.bool (sgn p), .slice a1 (lms p).length c1, .bool (sgn q), .slice a2 (lms q).length c2])) :=
  ⟨p, a1, c1, q, a2, c2, rfl, lp, lq, own_four o1 h1 (Nat.le_refl _) _ _ _ _, own_four o2 h2 (Nat.le_refl _) _ _ _ _, (h.fin hB x y z t).1, (h.fin hB x y z t).2⟩
theorem len_quot {x g : Int} (h : g ∣ x) : (lms (x / g)).length ≤ (lms x).length := by
  unfold lms
  refine limbs_mono ?_
  obtain ⟨k, rfl⟩ := h
  by_cases hg : g = 0
  · subst hg; simp
  · rw [Int.mul_ediv_cancel_left _ hg, Int.natAbs_mul]
    exact Nat.le_mul_of_pos_left _ (by omega)
theorem dvd_sgG (x y : Int) : sgG x y ∣ x ∧ sgG x y ∣ y := by
  unfold sgG; split
  · exact ⟨Int.neg_dvd.2 (Int.gcd_dvd_left ..), Int.neg_dvd.2 (Int.gcd_dvd_right ..)⟩
  · exact ⟨Int.gcd_dvd_left .., Int.gcd_dvd_right ..⟩
theorem len_red {x y : Int} {n : Nat} (hx : (lms x).length ≤ n) (hy : (lms y).length ≤ n) : (lms (x / sgG x y)).length ≤ n ∧ (lms (y / sgG x y)).length ≤ n :=
  ⟨Nat.le_trans (len_quot (dvd_sgG x y).1) hx, Nat.le_trans (len_quot (dvd_sgG x y).2) hy⟩
end Go.Proofs.YtpmgpdlminacaaaGreatDoor

/- The walk of a draw of some fraction. -/
namespace Go.Proofs.YtpmgpdlminacaaaGreatDoor
open Go.RowKit
set_option linter.unusedVariables false

set_option maxHeartbeats 2000000 in
theorem ofR (z : Int) (w : World) (h1 : -9223372036854775808 ≤ z) (h2 : z ≤ 9223372036854775807) :
    Calls Tryz.prog 110 #[.int .i64 z] w fun e w' => ∃ a1 c1 a2 c2, e = .returned (.agg #[.bool (sgn z), .slice a1 (lms z).length c1, .bool (sgn 1), .slice a2 (lms 1).length c2]) ∧ Own w' w.heap.size a1 (lms z).length c1 (lms z) ∧ Own w' w.heap.size a2 (lms 1).length c2 (lms 1) ∧ Below w.heap.size w w' := by
  have kr0 : (w.alloc (Obj.cells #[Value.bool false, Value.slice none 0 0, Value.bool false, Value.slice none 0 0] 26)).cell? ⟨w.heap.size, 0, none⟩ = some (Value.bool false) := by go_simp
  have fr0 : (w.alloc (Obj.cells #[Value.bool false, Value.slice none 0 0, Value.bool false, Value.slice none 0 0] 26)).frozen? ⟨w.heap.size, 0, none⟩ = false := by go_simp
  have kr1 : (w.alloc (Obj.cells #[Value.bool false, Value.slice none 0 0, Value.bool false, Value.slice none 0 0] 26)).cell? ⟨w.heap.size, 1, none⟩ = some (Value.slice none 0 0) := by go_simp
  have fr1 : (w.alloc (Obj.cells #[Value.bool false, Value.slice none 0 0, Value.bool false, Value.slice none 0 0] 26)).frozen? ⟨w.heap.size, 1, none⟩ = false := by go_simp
  have kr2 : (w.alloc (Obj.cells #[Value.bool false, Value.slice none 0 0, Value.bool false, Value.slice none 0 0] 26)).cell? ⟨w.heap.size, 2, none⟩ = some (Value.bool false) := by go_simp
  have fr2 : (w.alloc (Obj.cells #[Value.bool false, Value.slice none 0 0, Value.bool false, Value.slice none 0 0] 26)).frozen? ⟨w.heap.size, 2, none⟩ = false := by go_simp
  have kr3 : (w.alloc (Obj.cells #[Value.bool false, Value.slice none 0 0, Value.bool false, Value.slice none 0 0] 26)).cell? ⟨w.heap.size, 3, none⟩ = some (Value.slice none 0 0) := by go_simp
  have fr3 : (w.alloc (Obj.cells #[Value.bool false, Value.slice none 0 0, Value.bool false, Value.slice none 0 0] 26)).frozen? ⟨w.heap.size, 3, none⟩ = false := by go_simp
  have zr : w.heap.size < (w.alloc (Obj.cells #[Value.bool false, Value.slice none 0 0, Value.bool false, Value.slice none 0 0] 26)).heap.size := by simp only [World.size_alloc]; omega
  have HB := hide (bl_alloc (bl_refl w) (Obj.cells #[Value.bool false, Value.slice none 0 0, Value.bool false, Value.slice none 0 0] 26))
  go_enter Tryz.func110, Tryz.ntmps110
  go_upto_region 1 with fail
  generalize w.alloc (Obj.cells #[Value.bool false, Value.slice none 0 0, Value.bool false, Value.slice none 0 0] 26) = wa at *
  go_wp2_with fail
  refine (fromS z _ h1 h2).mono ?_
  rintro e w2 ⟨v, rfl, ⟨a1, c1, rfl, ho1⟩, hb⟩
  have O1 := hide ho1
  have y2 := hb.size
  replace kr0 := (hb.cell (p := ⟨w.heap.size, 0, none⟩) zr).trans kr0
  replace fr0 := (hb.frozen (p := ⟨w.heap.size, 0, none⟩) zr).trans fr0
  replace kr1 := (hb.cell (p := ⟨w.heap.size, 1, none⟩) zr).trans kr1
  replace fr1 := (hb.frozen (p := ⟨w.heap.size, 1, none⟩) zr).trans fr1
  replace kr2 := (hb.cell (p := ⟨w.heap.size, 2, none⟩) zr).trans kr2
  replace fr2 := (hb.frozen (p := ⟨w.heap.size, 2, none⟩) zr).trans fr2
  replace kr3 := (hb.cell (p := ⟨w.heap.size, 3, none⟩) zr).trans kr3
  replace fr3 := (hb.frozen (p := ⟨w.heap.size, 3, none⟩) zr).trans fr3
  replace HB := hide (bl_trans HB.out hb)
  have zr2 := Nat.lt_of_lt_of_le zr hb.size
  clear hb ho1
  go_wp2_with fail
  refine (fromS 1 _ (by omega) (by omega)).mono ?_
  rintro e w3 ⟨v, rfl, ⟨a2, c2, rfl, ho2⟩, hb⟩
  have O2 := hide ho2
  replace O1 := hide (O1.out.below hb)
  replace kr0 := (hb.cell (p := ⟨w.heap.size, 0, none⟩) zr2).trans kr0
  replace fr0 := (hb.frozen (p := ⟨w.heap.size, 0, none⟩) zr2).trans fr0
  replace kr1 := (hb.cell (p := ⟨w.heap.size, 1, none⟩) zr2).trans kr1
  replace fr1 := (hb.frozen (p := ⟨w.heap.size, 1, none⟩) zr2).trans fr1
  replace kr2 := (hb.cell (p := ⟨w.heap.size, 2, none⟩) zr2).trans kr2
  replace fr2 := (hb.frozen (p := ⟨w.heap.size, 2, none⟩) zr2).trans fr2
  replace kr3 := (hb.cell (p := ⟨w.heap.size, 3, none⟩) zr2).trans kr3
  replace fr3 := (hb.frozen (p := ⟨w.heap.size, 3, none⟩) zr2).trans fr3
  replace HB := hide (bl_trans HB.out hb)
  clear hb ho2
  go_wp2
  refine bodyPost_ret (v := (.agg #[.bool (sgn z), .slice a1 (lms z).length c1, .bool (sgn 1), .slice a2 (lms 1).length c2])) (by simp [results, Tryz.results110, go_sem, kr0, kr1, kr2, kr3]) rfl ?_
  exact ⟨a1, c1, a2, c2, rfl, own_four O1.out zr (Nat.le_refl _) _ _ _ _, own_four O2.out zr2 (Nat.le_refl _) _ _ _ _, set_four (Nat.le_refl _) HB.out _ _ _ _⟩

set_option maxHeartbeats 4000000 in
theorem someR (B : Nat) (a : Option Addr) (len cap : Nat) (w : World) (hc : Cur B a len cap w) :
    Calls Tryz.prog 76 #[.pointer (some ⟨B, 0, none⟩)] w fun e w' => RatN w B a len cap w' e := by
  have hB := hc.hB
  have HBB := hide hB
  have HD := hide (Dst4.init hc)
  clear hc
  go_enter Tryz.func76, Tryz.ntmps76
  go_upto_region 1 with fail
  generalize w.alloc (Obj.cells #[Value.bool false, Value.slice none 0 0, Value.bool false, Value.slice none 0 0] 26) = wa at *
  go_wp2_with fail
  refine (belowD B a len cap _ HD.out.cur 8 (by omega)).mono ?_
  rintro e w2 ⟨x, hx, rfl, hcw2, how2⟩
  have hx' : 0 ≤ x ∧ x < 8 := by rcases hx with h | h <;> omega
  obtain ⟨hxa, hxb⟩ := hx'
  replace HD := hide (HD.out.on HBB.out hcw2 how2)
  clear hcw2 how2
  clear hx
  by_cases h0 : x = 0
  · have e0 : (x == 0) = true := by rw [h0]; rfl
    clear h0
    go_wp2_with fail
    have hb := bl_alloc (bl_refl w2) (Obj.cells #[Value.int .i64 0, Value.int .i64 1, Value.int .i64 (-1), Value.int .i64 2, Value.int .i64 1000] 3)
    have HPK := hide (new_ints w2 #[Value.int .i64 0, Value.int .i64 1, Value.int .i64 (-1), Value.int .i64 2, Value.int .i64 1000] 3 (fun z => -9223372036854775808 ≤ z ∧ z ≤ 9223372036854775807) (by
      intro v hv
      simp only [List.mem_cons, List.not_mem_nil, or_false] at hv
      rcases hv with rfl | rfl | rfl | rfl | rfl
      all_goals exact ⟨_, by omega, rfl⟩) 5 (by simp))
    have zL : w2.heap.size < (w2.alloc (Obj.cells #[Value.int .i64 0, Value.int .i64 1, Value.int .i64 (-1), Value.int .i64 2, Value.int .i64 1000] 3)).heap.size := by simp only [World.size_alloc]; omega
    have hB2 := HD.out.z
    replace HD := hide (HD.out.bel hb)
    clear hb
    generalize w2.alloc (Obj.cells #[Value.int .i64 0, Value.int .i64 1, Value.int .i64 (-1), Value.int .i64 2, Value.int .i64 1000] 3) = w3 at *
    refine (pickIntD B a len cap _ HD.out.cur w2.heap.size 5 (fun z => -9223372036854775808 ≤ z ∧ z ≤ 9223372036854775807) zL (by omega) (by omega) (by omega) HPK.out).mono ?_
    rintro e w4 ⟨z, hz, rfl, hcw4, how4⟩
    obtain ⟨hza, hzb⟩ := hz
    replace HD := hide (HD.out.on HBB.out hcw4 how4)
    clear hcw4 how4
    clear HPK zL hB2
    go_wp2_with fail
    refine (ofR z _ (by omega) (by omega)).mono ?_
    rintro e wz ⟨d1, f1, d2, f2, rfl, ho1, ho2, hbwz⟩
    have HLA := hide (len_int z (by omega) (by omega))
    have HLB := hide (len_int 1 (by omega) (by omega))
    have zz := HD.out.z
    have P1 := hide ho1
    have P2 := hide ho2
    clear ho1 ho2
    replace HD := hide (HD.out.bel hbwz)
    clear hbwz
    have kr0 := HD.out.r0
    have kr1 := HD.out.r1
    have kr2 := HD.out.r2
    have kr3 := HD.out.r3
    have fr0 := HD.out.g0
    have fr1 := HD.out.g1
    have fr2 := HD.out.g2
    have fr3 := HD.out.g3
    have zr := HD.out.z
    go_wp2
    refine bodyPost_ret (v := (.agg #[.bool (sgn z), .slice d1 (lms z).length f1, .bool (sgn 1), .slice d2 (lms 1).length f2])) (by simp [results, Tryz.results76, go_sem, kr0, kr1, kr2, kr3]) rfl ?_
    exact HD.out.done HBB.out (by have := HLA.out; omega) (by have := HLB.out; omega) P1.out P2.out zz zz _ _ _ _
  have e0 : (x == 0) = false := by rw [beq_eq_false_iff_ne]; exact h0
  by_cases h1 : x = 1
  · have e1 : (x == 1) = true := by rw [h1]; rfl
    clear h0 h1
    go_wp2_with fail
    refine (bigD 4 B a len cap _ HD.out.cur (by omega)).mono ?_
    rintro e w3 ⟨p, aA, cA, rfl, hl, ho, hcw3, how3⟩
    have zA := HD.out.z
    have HLA := hide hl
    have OA := hide ho
    clear hl ho
    replace HD := hide (HD.out.on HBB.out hcw3 how3)
    clear hcw3 how3
    go_wp2_with fail
    refine (bigD 4 B a len cap _ HD.out.cur (by omega)).mono ?_
    rintro e w4 ⟨q0, aC, cC, rfl, hl, ho, hcw4, how4⟩
    have zC := HD.out.z
    have HLC := hide hl
    have OC := hide ho
    clear hl ho
    replace OA := hide (OA.out.only how4 (by have := HBB.out; omega))
    replace HD := hide (HD.out.on HBB.out hcw4 how4)
    clear hcw4 how4
    have hfl := fun (wx : World) => field_limbs (Value.bool (sgn q0)) (Value.slice aC (lms q0).length cC) wx ⟨_, _, _, rfl⟩
    go_wp2_with fail
    refine (makeS false aC (lms q0).length cC (lms q0) _ OC.out.seg (by have := HLC.out; omega)).mono ?_
    rintro e w5 ⟨v, rfl, ⟨aD, cD, rfl, ho⟩, hbw5⟩
    have HLD : Hid ((lms (mk false (Num.nat (lms q0)))).length ≤ 4) := hide (Nat.le_trans (small_len (n := false) (lms_small q0)) HLC.out)
    have HPOS : Hid (0 ≤ mk false (Num.nat (lms q0))) := hide (by unfold mk; simp)
    have OD := hide ho
    clear ho hfl
    replace OA := hide (OA.out.below hbw5)
    replace OC := hide (OC.out.below hbw5)
    replace HD := hide (HD.out.bel hbw5)
    clear hbw5
    generalize mk false (Num.nat (lms q0)) = u at *
    go_wp2_with fail
    refine (fromS 1 _ (by omega) (by omega)).mono ?_
    rintro e w6 ⟨v, rfl, ⟨aE, cE, rfl, ho⟩, hbw6⟩
    have zE := HD.out.z
    have HLE := hide (len_int 1 (by omega) (by omega))
    have OE := hide ho
    clear ho
    replace OA := hide (OA.out.below hbw6)
    replace OD := hide (OD.out.below hbw6)
    replace HD := hide (HD.out.bel hbw6)
    clear hbw6
    go_wp2_with fail
    refine (addL _ _ u 1 _ ⟨aD, cD, rfl, OD.out.seg⟩ ⟨aE, cE, rfl, OE.out.seg⟩ (by have := HLD.out; omega) (by have := HLE.out; omega)).mono ?_
    rintro e w7 ⟨v, rfl, ⟨aF, cF, rfl, ho⟩, hbw7⟩
    have HLF : Hid ((lms (addZ u 1)).length ≤ 5) := hide (len_add HLD.out (by have := HLE.out; omega))
    have HNZ : Hid (addZ u 1 ≠ 0) := hide (by have := HPOS.out; unfold addZ; omega)
    have OF_ := hide ho
    clear ho
    replace OA := hide (OA.out.below hbw7)
    replace HD := hide (HD.out.bel hbw7)
    clear hbw7
    generalize addZ u 1 = q at *
    have OF := OF_
    clear OF_
    go_wp2_with fail
    refine (makeR p q aA cA aF cF _ OA.out.seg OF.out.seg (HNZ.out) (by have := HLA.out; omega) (by have := HLF.out; omega)).mono ?_
    rintro e wz ⟨d1, f1, d2, f2, rfl, ho1, ho2, -, hbwz⟩
    have HLR := hide (len_red (x := p) (y := q) (n := 100) (by have := HLA.out; omega) (by have := HLF.out; omega))
    have zz := HD.out.z
    have P1 := hide ho1
    have P2 := hide ho2
    clear ho1 ho2
    replace HD := hide (HD.out.bel hbwz)
    clear hbwz
    have kr0 := HD.out.r0
    have kr1 := HD.out.r1
    have kr2 := HD.out.r2
    have kr3 := HD.out.r3
    have fr0 := HD.out.g0
    have fr1 := HD.out.g1
    have fr2 := HD.out.g2
    have fr3 := HD.out.g3
    have zr := HD.out.z
    go_wp2
    refine bodyPost_ret (v := (.agg #[.bool (sgn (p / sgG p q)), .slice d1 (lms (p / sgG p q)).length f1, .bool (sgn (q / sgG p q)), .slice d2 (lms (q / sgG p q)).length f2])) (by simp [results, Tryz.results76, go_sem, kr0, kr1, kr2, kr3]) rfl ?_
    exact HD.out.done HBB.out HLR.out.1 HLR.out.2 P1.out P2.out zz zz _ _ _ _
  have e1 : (x == 1) = false := by rw [beq_eq_false_iff_ne]; exact h1
  by_cases h2 : x = 2
  · have e2 : (x == 2) = true := by rw [h2]; rfl
    clear h0 h1 h2
    go_wp2_with fail
    refine (bigD 40 B a len cap _ HD.out.cur (by omega)).mono ?_
    rintro e w3 ⟨p, aA, cA, rfl, hl, ho, hcw3, how3⟩
    have zA := HD.out.z
    have HLA := hide hl
    have OA := hide ho
    clear hl ho
    replace HD := hide (HD.out.on HBB.out hcw3 how3)
    clear hcw3 how3
    go_wp2_with fail
    refine (belowD B a len cap _ HD.out.cur 1279 (by omega)).mono ?_
    rintro e w4 ⟨y, hy, rfl, hcw4, how4⟩
    have hy' : 0 ≤ y ∧ y < 1279 := by rcases hy with h | h <;> omega
    obtain ⟨hya, hyb⟩ := hy'
    replace OA := hide (OA.out.only how4 (by have := HBB.out; omega))
    replace HD := hide (HD.out.on HBB.out hcw4 how4)
    clear hcw4 how4
    obtain ⟨K, rfl⟩ := Int.eq_ofNat_of_zero_le hya
    clear hy
    go_wp2_with fail
    refine (bitD K _ (by omega)).mono ?_
    rintro e w5 ⟨q, aF, cF, rfl, hl0, ho0, hbw5⟩
    have OF := hide ho0
    have HLF := hide hl0.1
    have HNZ := hide hl0.2
    clear ho0 hl0
    replace OA := hide (OA.out.below hbw5)
    replace HD := hide (HD.out.bel hbw5)
    clear hbw5
    go_wp2_with fail
    refine (makeR p q aA cA aF cF _ OA.out.seg OF.out.seg (HNZ.out) (by have := HLA.out; omega) (by have := HLF.out; omega)).mono ?_
    rintro e wz ⟨d1, f1, d2, f2, rfl, ho1, ho2, -, hbwz⟩
    have HLR := hide (len_red (x := p) (y := q) (n := 100) (by have := HLA.out; omega) (by have := HLF.out; omega))
    have zz := HD.out.z
    have P1 := hide ho1
    have P2 := hide ho2
    clear ho1 ho2
    replace HD := hide (HD.out.bel hbwz)
    clear hbwz
    have kr0 := HD.out.r0
    have kr1 := HD.out.r1
    have kr2 := HD.out.r2
    have kr3 := HD.out.r3
    have fr0 := HD.out.g0
    have fr1 := HD.out.g1
    have fr2 := HD.out.g2
    have fr3 := HD.out.g3
    have zr := HD.out.z
    go_wp2
    refine bodyPost_ret (v := (.agg #[.bool (sgn (p / sgG p q)), .slice d1 (lms (p / sgG p q)).length f1, .bool (sgn (q / sgG p q)), .slice d2 (lms (q / sgG p q)).length f2])) (by simp [results, Tryz.results76, go_sem, kr0, kr1, kr2, kr3]) rfl ?_
    exact HD.out.done HBB.out HLR.out.1 HLR.out.2 P1.out P2.out zz zz _ _ _ _
  · have e2 : (x == 2) = false := by rw [beq_eq_false_iff_ne]; exact h2
    clear h0 h1 h2
    go_wp2_with fail
    refine (belowD B a len cap _ HD.out.cur 400 (by omega)).mono ?_
    rintro e w3 ⟨y, hy, rfl, hcw3, how3⟩
    have hy' : 0 ≤ y ∧ y < 400 := by rcases hy with h | h <;> omega
    obtain ⟨hya, hyb⟩ := hy'
    replace HD := hide (HD.out.on HBB.out hcw3 how3)
    clear hcw3 how3
    clear hy
    go_wp2_with fail
    refine (fromS (y - 150) _ (by omega) (by omega)).mono ?_
    rintro e w4 ⟨v, rfl, ⟨aA, cA, rfl, ho⟩, hbw4⟩
    have zA := HD.out.z
    have HLA := hide (len_int (y - 150) (by omega) (by omega))
    have OA := hide ho
    clear ho
    replace HD := hide (HD.out.bel hbw4)
    clear hbw4
    generalize y - 150 = p at *
    go_wp2_with fail
    refine (belowD B a len cap _ HD.out.cur 24 (by omega)).mono ?_
    rintro e w5 ⟨u, hu, rfl, hcw5, how5⟩
    have hu' : 0 ≤ u ∧ u < 24 := by rcases hu with h | h <;> omega
    obtain ⟨hua, hub⟩ := hu'
    replace OA := hide (OA.out.only how5 (by have := HBB.out; omega))
    replace HD := hide (HD.out.on HBB.out hcw5 how5)
    clear hcw5 how5
    clear hu
    have HNZ : Hid (1 + u ≠ 0) := hide (by omega)
    go_wp2_with fail
    refine (fromS (1 + u) _ (by omega) (by omega)).mono ?_
    rintro e w6 ⟨v, rfl, ⟨aF, cF, rfl, ho⟩, hbw6⟩
    have zF := HD.out.z
    have HLF := hide (len_int (1 + u) (by omega) (by omega))
    have OF := hide ho
    clear ho
    replace OA := hide (OA.out.below hbw6)
    replace HD := hide (HD.out.bel hbw6)
    clear hbw6
    generalize 1 + u = q at *
    go_wp2_with fail
    refine (makeR p q aA cA aF cF _ OA.out.seg OF.out.seg (HNZ.out) (by have := HLA.out; omega) (by have := HLF.out; omega)).mono ?_
    rintro e wz ⟨d1, f1, d2, f2, rfl, ho1, ho2, -, hbwz⟩
    have HLR := hide (len_red (x := p) (y := q) (n := 100) (by have := HLA.out; omega) (by have := HLF.out; omega))
    have zz := HD.out.z
    have P1 := hide ho1
    have P2 := hide ho2
    clear ho1 ho2
    replace HD := hide (HD.out.bel hbwz)
    clear hbwz
    have kr0 := HD.out.r0
    have kr1 := HD.out.r1
    have kr2 := HD.out.r2
    have kr3 := HD.out.r3
    have fr0 := HD.out.g0
    have fr1 := HD.out.g1
    have fr2 := HD.out.g2
    have fr3 := HD.out.g3
    have zr := HD.out.z
    go_wp2
    refine bodyPost_ret (v := (.agg #[.bool (sgn (p / sgG p q)), .slice d1 (lms (p / sgG p q)).length f1, .bool (sgn (q / sgG p q)), .slice d2 (lms (q / sgG p q)).length f2])) (by simp [results, Tryz.results76, go_sem, kr0, kr1, kr2, kr3]) rfl ?_
    exact HD.out.done HBB.out HLR.out.1 HLR.out.2 P1.out P2.out zz zz _ _ _ _
end Go.Proofs.YtpmgpdlminacaaaGreatDoor
