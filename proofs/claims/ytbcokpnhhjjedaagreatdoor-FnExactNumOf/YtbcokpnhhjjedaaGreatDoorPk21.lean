/- My texts ReS, RdM, RrZ, RrT, NoX, NoL, in this order. -/
import Derived.Test.YtbcokpnhhjjedaaGreatDoorPk20
import Derived.Test.YtbcokpnhhjjedaaGreatDoorPk15
import Derived.Test.YtbcokpnhhjjedaaGreatDoorPk14
/- The walk of l03Read: a text without a sign, read from the left. -/
namespace Go.Proofs.YtbcokpnhhjjedaaGreatDoor
open Go.RowKit
set_option linter.unusedVariables false

theorem runS1 (s : ByteArray) (i : Nat) (w : World) (hi : i + 1 ≤ s.size) (hs : s.size ≤ 400) :
    Calls Tryz.prog 26 #[.string s, .int .i64 ((i : Int) + 1)] w fun e w' => e = .returned (.int .i64 (runN s (i + 1) : Nat)) ∧ w' = w := runS s (i + 1) w hi hs
set_option maxHeartbeats 4000000 in
set_option maxRecDepth 20000 in
theorem rdF1 (s : ByteArray) (i j : Nat) (o : Option (Nat × Nat)) (w : World) (hs : s.size ≤ 400) (hI : runN s 0 = i) (hi : i = 0) (ho : o = none) :
    Calls Tryz.prog 16 #[.string s] w fun e w' => RawAns o w w' e := by
  have HI' := hide hI
  have HO' := hide ho
  clear hI ho
  have hi' : (i : Int) = 0 := by omega
  have hi2 : ((i : Int) == 0) = true := by rw [beq_iff_eq]; exact hi'
  have kr0 : (w.alloc (Obj.cells #[Value.bool false, Value.slice none 0 0, Value.bool false, Value.slice none 0 0] 29)).cell? ⟨w.heap.size, 0, none⟩ = some (Value.bool false) := by go_simp
  have fr0 : (w.alloc (Obj.cells #[Value.bool false, Value.slice none 0 0, Value.bool false, Value.slice none 0 0] 29)).frozen? ⟨w.heap.size, 0, none⟩ = false := by go_simp
  have kr1 : (w.alloc (Obj.cells #[Value.bool false, Value.slice none 0 0, Value.bool false, Value.slice none 0 0] 29)).cell? ⟨w.heap.size, 1, none⟩ = some (Value.slice none 0 0) := by go_simp
  have fr1 : (w.alloc (Obj.cells #[Value.bool false, Value.slice none 0 0, Value.bool false, Value.slice none 0 0] 29)).frozen? ⟨w.heap.size, 1, none⟩ = false := by go_simp
  have kr2 : (w.alloc (Obj.cells #[Value.bool false, Value.slice none 0 0, Value.bool false, Value.slice none 0 0] 29)).cell? ⟨w.heap.size, 2, none⟩ = some (Value.bool false) := by go_simp
  have fr2 : (w.alloc (Obj.cells #[Value.bool false, Value.slice none 0 0, Value.bool false, Value.slice none 0 0] 29)).frozen? ⟨w.heap.size, 2, none⟩ = false := by go_simp
  have kr3 : (w.alloc (Obj.cells #[Value.bool false, Value.slice none 0 0, Value.bool false, Value.slice none 0 0] 29)).cell? ⟨w.heap.size, 3, none⟩ = some (Value.slice none 0 0) := by go_simp
  have fr3 : (w.alloc (Obj.cells #[Value.bool false, Value.slice none 0 0, Value.bool false, Value.slice none 0 0] 29)).frozen? ⟨w.heap.size, 3, none⟩ = false := by go_simp
  have zr : w.heap.size < (w.alloc (Obj.cells #[Value.bool false, Value.slice none 0 0, Value.bool false, Value.slice none 0 0] 29)).heap.size := by simp only [World.size_alloc]; omega
  have HB := hide (bl_alloc (bl_refl w) (Obj.cells #[Value.bool false, Value.slice none 0 0, Value.bool false, Value.slice none 0 0] 29))
  go_enter Tryz.func16, Tryz.ntmps16
  go_wp2_with fail
  generalize (w.alloc (Obj.cells #[Value.bool false, Value.slice none 0 0, Value.bool false, Value.slice none 0 0] 29)) = w1 at *
  have z0 := zr
  refine (runS s 0 _ (Nat.zero_le _) hs).mono ?_
  rw [HI'.out]
  rintro e w' ⟨rfl, hw⟩
  subst w'
  go_wp2
  refine bodyPost_ret (v := (.tuple #[.agg #[.bool false, .slice none 0 0, .bool false, .slice none 0 0], .bool false])) (by simp [results, Tryz.results16, go_sem, kr0, kr1, kr2, kr3]) rfl ?_
  exact raw_no HO'.out (set_four (Nat.le_refl _) HB.out _ _ _ _)

set_option maxHeartbeats 4000000 in
set_option maxRecDepth 20000 in
theorem rdF2 (s : ByteArray) (i j : Nat) (o : Option (Nat × Nat)) (w : World) (hs : s.size ≤ 400) (hI : runN s 0 = i) (hi : 0 < i) (hil : i < s.size) (h47 : (s[i].toNat : Int) = 47) (hJ : runN s (i + 1) = j) (hij : i + 1 ≤ j) (hjs : j ≤ s.size) (hdt : digAll (s.extract (i + 1) j).data.toList = true) (hjl : j < s.size) (ho : o = none) :
    Calls Tryz.prog 16 #[.string s] w fun e w' => RawAns o w w' e := by
  have HI' := hide hI
  have HJ' := hide hJ
  have HDT' := hide hdt
  have HO' := hide ho
  clear hI hJ hdt ho
  have hi' : ¬ (i : Int) = 0 := by omega
  have hi2 : ((i : Int) == 0) = false := by rw [beq_eq_false_iff_ne]; exact hi'
  have hi3 : (0 : Int) ≤ (i : Int) := by omega
  have hil' : (i : Int) < (s.size : Int) := by omega
  have hil2 : (i : Int) ≤ (s.size : Int) := by omega
  have hij' : (i : Int) + 1 ≤ (j : Int) := by omega
  have hjs' : (j : Int) ≤ (s.size : Int) := by omega
  have hjl' : (j : Int) < (s.size : Int) := by omega
  have kr0 : (w.alloc (Obj.cells #[Value.bool false, Value.slice none 0 0, Value.bool false, Value.slice none 0 0] 29)).cell? ⟨w.heap.size, 0, none⟩ = some (Value.bool false) := by go_simp
  have fr0 : (w.alloc (Obj.cells #[Value.bool false, Value.slice none 0 0, Value.bool false, Value.slice none 0 0] 29)).frozen? ⟨w.heap.size, 0, none⟩ = false := by go_simp
  have kr1 : (w.alloc (Obj.cells #[Value.bool false, Value.slice none 0 0, Value.bool false, Value.slice none 0 0] 29)).cell? ⟨w.heap.size, 1, none⟩ = some (Value.slice none 0 0) := by go_simp
  have fr1 : (w.alloc (Obj.cells #[Value.bool false, Value.slice none 0 0, Value.bool false, Value.slice none 0 0] 29)).frozen? ⟨w.heap.size, 1, none⟩ = false := by go_simp
  have kr2 : (w.alloc (Obj.cells #[Value.bool false, Value.slice none 0 0, Value.bool false, Value.slice none 0 0] 29)).cell? ⟨w.heap.size, 2, none⟩ = some (Value.bool false) := by go_simp
  have fr2 : (w.alloc (Obj.cells #[Value.bool false, Value.slice none 0 0, Value.bool false, Value.slice none 0 0] 29)).frozen? ⟨w.heap.size, 2, none⟩ = false := by go_simp
  have kr3 : (w.alloc (Obj.cells #[Value.bool false, Value.slice none 0 0, Value.bool false, Value.slice none 0 0] 29)).cell? ⟨w.heap.size, 3, none⟩ = some (Value.slice none 0 0) := by go_simp
  have fr3 : (w.alloc (Obj.cells #[Value.bool false, Value.slice none 0 0, Value.bool false, Value.slice none 0 0] 29)).frozen? ⟨w.heap.size, 3, none⟩ = false := by go_simp
  have zr : w.heap.size < (w.alloc (Obj.cells #[Value.bool false, Value.slice none 0 0, Value.bool false, Value.slice none 0 0] 29)).heap.size := by simp only [World.size_alloc]; omega
  have HB := hide (bl_alloc (bl_refl w) (Obj.cells #[Value.bool false, Value.slice none 0 0, Value.bool false, Value.slice none 0 0] 29))
  go_enter Tryz.func16, Tryz.ntmps16
  go_wp2_with fail
  generalize (w.alloc (Obj.cells #[Value.bool false, Value.slice none 0 0, Value.bool false, Value.slice none 0 0] 29)) = w1 at *
  have z0 := zr
  refine (runS s 0 _ (Nat.zero_le _) hs).mono ?_
  rw [HI'.out]
  rintro e w' ⟨rfl, hw⟩
  subst w'
  go_wp2_with fail
  refine (runS1 s i _ (by omega) hs).mono ?_
  rw [HJ'.out]
  rintro e w' ⟨rfl, hw⟩
  subst w'
  go_wp2_with fail
  have hds : (s.extract (i + 1) j).size ≤ 400 := by rw [ByteArray.size_extract]; omega
  refine (digitsS (s.extract (i + 1) j) _ HDT'.out hds).mono ?_
  have hl1 : (lms (valN (s.extract (i + 1) j).data.toList : Int)).length ≤ 200 := lms_short HDT'.out (by rw [bsize]; exact hds)
  generalize valN (s.extract (i + 1) j).data.toList = d at *
  rintro e w2 ⟨v1, rfl, ⟨a1, c1, rfl, ho1⟩, hb⟩
  have yw2 := hb.size
  replace kr0 := (hb.cell (p := ⟨w.heap.size, 0, none⟩) (by dsimp only; omega)).trans kr0
  replace fr0 := (hb.frozen (p := ⟨w.heap.size, 0, none⟩) (by dsimp only; omega)).trans fr0
  replace kr1 := (hb.cell (p := ⟨w.heap.size, 1, none⟩) (by dsimp only; omega)).trans kr1
  replace fr1 := (hb.frozen (p := ⟨w.heap.size, 1, none⟩) (by dsimp only; omega)).trans fr1
  replace kr2 := (hb.cell (p := ⟨w.heap.size, 2, none⟩) (by dsimp only; omega)).trans kr2
  replace fr2 := (hb.frozen (p := ⟨w.heap.size, 2, none⟩) (by dsimp only; omega)).trans fr2
  replace kr3 := (hb.cell (p := ⟨w.heap.size, 3, none⟩) (by dsimp only; omega)).trans kr3
  replace fr3 := (hb.frozen (p := ⟨w.heap.size, 3, none⟩) (by dsimp only; omega)).trans fr3
  replace zr := Nat.lt_of_lt_of_le zr hb.size
  replace HB := hide (bl_trans HB.out hb)
  clear hb
  have S1 := hide ho1.seg
  clear ho1
  have yw3 : w2.heap.size + 1 ≤ (w2.alloc (Obj.cells #[Value.bool (sgn (d : Int)), Value.slice a1 (lms (d : Int)).length c1] 27)).heap.size := by simp only [World.size_alloc]; omega
  have kd0 : (w2.alloc (Obj.cells #[Value.bool (sgn (d : Int)), Value.slice a1 (lms (d : Int)).length c1] 27)).cell? ⟨w2.heap.size, 0, none⟩ = some (Value.bool (sgn (d : Int))) := by go_simp
  have kd1 : (w2.alloc (Obj.cells #[Value.bool (sgn (d : Int)), Value.slice a1 (lms (d : Int)).length c1] 27)).cell? ⟨w2.heap.size, 1, none⟩ = some (Value.slice a1 (lms (d : Int)).length c1) := by go_simp
  have hbn := (bl_alloc (bl_refl w2) (Obj.cells #[Value.bool (sgn (d : Int)), Value.slice a1 (lms (d : Int)).length c1] 27))
  replace kr0 := (hbn.cell (p := ⟨w.heap.size, 0, none⟩) (by dsimp only; omega)).trans kr0
  replace fr0 := (hbn.frozen (p := ⟨w.heap.size, 0, none⟩) (by dsimp only; omega)).trans fr0
  replace kr1 := (hbn.cell (p := ⟨w.heap.size, 1, none⟩) (by dsimp only; omega)).trans kr1
  replace fr1 := (hbn.frozen (p := ⟨w.heap.size, 1, none⟩) (by dsimp only; omega)).trans fr1
  replace kr2 := (hbn.cell (p := ⟨w.heap.size, 2, none⟩) (by dsimp only; omega)).trans kr2
  replace fr2 := (hbn.frozen (p := ⟨w.heap.size, 2, none⟩) (by dsimp only; omega)).trans fr2
  replace kr3 := (hbn.cell (p := ⟨w.heap.size, 3, none⟩) (by dsimp only; omega)).trans kr3
  replace fr3 := (hbn.frozen (p := ⟨w.heap.size, 3, none⟩) (by dsimp only; omega)).trans fr3
  replace S1 := hide (S1.out.below hbn)
  replace zr := Nat.lt_of_lt_of_le zr hbn.size
  replace HB := hide (bl_trans HB.out hbn)
  clear hbn
  go_wp2_with fail
  generalize (w2.alloc (Obj.cells #[Value.bool (sgn (d : Int)), Value.slice a1 (lms (d : Int)).length c1] 27)) = w3 at *
  refine (runS1 s i _ (by omega) hs).mono ?_
  rw [HJ'.out]
  rintro e w' ⟨rfl, hw⟩
  subst w'
  go_wp2
  refine bodyPost_ret (v := (.tuple #[.agg #[.bool false, .slice none 0 0, .bool false, .slice none 0 0], .bool false])) (by simp [results, Tryz.results16, go_sem, kr0, kr1, kr2, kr3]) rfl ?_
  exact raw_no HO'.out (set_four (Nat.le_refl _) HB.out _ _ _ _)

set_option maxHeartbeats 4000000 in
set_option maxRecDepth 20000 in
theorem rdF3 (s : ByteArray) (i j : Nat) (o : Option (Nat × Nat)) (w : World) (hs : s.size ≤ 400) (hI : runN s 0 = i) (hi : 0 < i) (hil : i < s.size) (h47 : (s[i].toNat : Int) = 47) (hJ : runN s (i + 1) = j) (hij : i + 1 ≤ j) (hjs : j ≤ s.size) (hdt : digAll (s.extract (i + 1) j).data.toList = true) (hjl : j = s.size) (hz : valN (s.extract (i + 1) j).data.toList = 0) (ho : o = none) :
    Calls Tryz.prog 16 #[.string s] w fun e w' => RawAns o w w' e := by
  have HI' := hide hI
  have HJ' := hide hJ
  have HDT' := hide hdt
  have HO' := hide ho
  clear hI hJ hdt ho
  have hi' : ¬ (i : Int) = 0 := by omega
  have hi2 : ((i : Int) == 0) = false := by rw [beq_eq_false_iff_ne]; exact hi'
  have hi3 : (0 : Int) ≤ (i : Int) := by omega
  have hil' : (i : Int) < (s.size : Int) := by omega
  have hil2 : (i : Int) ≤ (s.size : Int) := by omega
  have hij' : (i : Int) + 1 ≤ (j : Int) := by omega
  have hjs' : (j : Int) ≤ (s.size : Int) := by omega
  have hjl' : ¬ (j : Int) < (s.size : Int) := by omega
  clear hjl
  have HZ := hide hz
  clear hz
  have kr0 : (w.alloc (Obj.cells #[Value.bool false, Value.slice none 0 0, Value.bool false, Value.slice none 0 0] 29)).cell? ⟨w.heap.size, 0, none⟩ = some (Value.bool false) := by go_simp
  have fr0 : (w.alloc (Obj.cells #[Value.bool false, Value.slice none 0 0, Value.bool false, Value.slice none 0 0] 29)).frozen? ⟨w.heap.size, 0, none⟩ = false := by go_simp
  have kr1 : (w.alloc (Obj.cells #[Value.bool false, Value.slice none 0 0, Value.bool false, Value.slice none 0 0] 29)).cell? ⟨w.heap.size, 1, none⟩ = some (Value.slice none 0 0) := by go_simp
  have fr1 : (w.alloc (Obj.cells #[Value.bool false, Value.slice none 0 0, Value.bool false, Value.slice none 0 0] 29)).frozen? ⟨w.heap.size, 1, none⟩ = false := by go_simp
  have kr2 : (w.alloc (Obj.cells #[Value.bool false, Value.slice none 0 0, Value.bool false, Value.slice none 0 0] 29)).cell? ⟨w.heap.size, 2, none⟩ = some (Value.bool false) := by go_simp
  have fr2 : (w.alloc (Obj.cells #[Value.bool false, Value.slice none 0 0, Value.bool false, Value.slice none 0 0] 29)).frozen? ⟨w.heap.size, 2, none⟩ = false := by go_simp
  have kr3 : (w.alloc (Obj.cells #[Value.bool false, Value.slice none 0 0, Value.bool false, Value.slice none 0 0] 29)).cell? ⟨w.heap.size, 3, none⟩ = some (Value.slice none 0 0) := by go_simp
  have fr3 : (w.alloc (Obj.cells #[Value.bool false, Value.slice none 0 0, Value.bool false, Value.slice none 0 0] 29)).frozen? ⟨w.heap.size, 3, none⟩ = false := by go_simp
  have zr : w.heap.size < (w.alloc (Obj.cells #[Value.bool false, Value.slice none 0 0, Value.bool false, Value.slice none 0 0] 29)).heap.size := by simp only [World.size_alloc]; omega
  have HB := hide (bl_alloc (bl_refl w) (Obj.cells #[Value.bool false, Value.slice none 0 0, Value.bool false, Value.slice none 0 0] 29))
  go_enter Tryz.func16, Tryz.ntmps16
  go_wp2_with fail
  generalize (w.alloc (Obj.cells #[Value.bool false, Value.slice none 0 0, Value.bool false, Value.slice none 0 0] 29)) = w1 at *
  have z0 := zr
  refine (runS s 0 _ (Nat.zero_le _) hs).mono ?_
  rw [HI'.out]
  rintro e w' ⟨rfl, hw⟩
  subst w'
  go_wp2_with fail
  refine (runS1 s i _ (by omega) hs).mono ?_
  rw [HJ'.out]
  rintro e w' ⟨rfl, hw⟩
  subst w'
  go_wp2_with fail
  have hds : (s.extract (i + 1) j).size ≤ 400 := by rw [ByteArray.size_extract]; omega
  refine (digitsS (s.extract (i + 1) j) _ HDT'.out hds).mono ?_
  have hl1 : (lms (valN (s.extract (i + 1) j).data.toList : Int)).length ≤ 200 := lms_short HDT'.out (by rw [bsize]; exact hds)
  rw [HZ.out, show ((0 : Nat) : Int) = 0 from rfl]
  clear hl1
  rintro e w2 ⟨v1, rfl, ⟨a1, c1, rfl, ho1⟩, hb⟩
  have yw2 := hb.size
  replace kr0 := (hb.cell (p := ⟨w.heap.size, 0, none⟩) (by dsimp only; omega)).trans kr0
  replace fr0 := (hb.frozen (p := ⟨w.heap.size, 0, none⟩) (by dsimp only; omega)).trans fr0
  replace kr1 := (hb.cell (p := ⟨w.heap.size, 1, none⟩) (by dsimp only; omega)).trans kr1
  replace fr1 := (hb.frozen (p := ⟨w.heap.size, 1, none⟩) (by dsimp only; omega)).trans fr1
  replace kr2 := (hb.cell (p := ⟨w.heap.size, 2, none⟩) (by dsimp only; omega)).trans kr2
  replace fr2 := (hb.frozen (p := ⟨w.heap.size, 2, none⟩) (by dsimp only; omega)).trans fr2
  replace kr3 := (hb.cell (p := ⟨w.heap.size, 3, none⟩) (by dsimp only; omega)).trans kr3
  replace fr3 := (hb.frozen (p := ⟨w.heap.size, 3, none⟩) (by dsimp only; omega)).trans fr3
  replace zr := Nat.lt_of_lt_of_le zr hb.size
  replace HB := hide (bl_trans HB.out hb)
  clear hb
  have S1 := hide ho1.seg
  clear ho1
  rw [zero_lms] at S1 ⊢
  rw [zero_sgn]
  have yw3 : w2.heap.size + 1 ≤ (w2.alloc (Obj.cells #[Value.bool false, Value.slice a1 ([] : List Nat).length c1] 27)).heap.size := by simp only [World.size_alloc]; omega
  have kd0 : (w2.alloc (Obj.cells #[Value.bool false, Value.slice a1 ([] : List Nat).length c1] 27)).cell? ⟨w2.heap.size, 0, none⟩ = some (Value.bool false) := by go_simp
  have kd1 : (w2.alloc (Obj.cells #[Value.bool false, Value.slice a1 ([] : List Nat).length c1] 27)).cell? ⟨w2.heap.size, 1, none⟩ = some (Value.slice a1 ([] : List Nat).length c1) := by go_simp
  have hbn := (bl_alloc (bl_refl w2) (Obj.cells #[Value.bool false, Value.slice a1 ([] : List Nat).length c1] 27))
  replace kr0 := (hbn.cell (p := ⟨w.heap.size, 0, none⟩) (by dsimp only; omega)).trans kr0
  replace fr0 := (hbn.frozen (p := ⟨w.heap.size, 0, none⟩) (by dsimp only; omega)).trans fr0
  replace kr1 := (hbn.cell (p := ⟨w.heap.size, 1, none⟩) (by dsimp only; omega)).trans kr1
  replace fr1 := (hbn.frozen (p := ⟨w.heap.size, 1, none⟩) (by dsimp only; omega)).trans fr1
  replace kr2 := (hbn.cell (p := ⟨w.heap.size, 2, none⟩) (by dsimp only; omega)).trans kr2
  replace fr2 := (hbn.frozen (p := ⟨w.heap.size, 2, none⟩) (by dsimp only; omega)).trans fr2
  replace kr3 := (hbn.cell (p := ⟨w.heap.size, 3, none⟩) (by dsimp only; omega)).trans kr3
  replace fr3 := (hbn.frozen (p := ⟨w.heap.size, 3, none⟩) (by dsimp only; omega)).trans fr3
  replace S1 := hide (S1.out.below hbn)
  replace zr := Nat.lt_of_lt_of_le zr hbn.size
  replace HB := hide (bl_trans HB.out hbn)
  clear hbn
  go_wp2_with fail
  generalize (w2.alloc (Obj.cells #[Value.bool false, Value.slice a1 ([] : List Nat).length c1] 27)) = w3 at *
  refine (runS1 s i _ (by omega) hs).mono ?_
  rw [HJ'.out]
  rintro e w' ⟨rfl, hw⟩
  subst w'
  go_wp2
  refine bodyPost_ret (v := (.tuple #[.agg #[.bool false, .slice none 0 0, .bool false, .slice none 0 0], .bool false])) (by simp [results, Tryz.results16, go_sem, kr0, kr1, kr2, kr3]) rfl ?_
  exact raw_no HO'.out (set_four (Nat.le_refl _) HB.out _ _ _ _)

set_option maxHeartbeats 4000000 in
set_option maxRecDepth 20000 in
theorem rdY1 (s : ByteArray) (i j : Nat) (o : Option (Nat × Nat)) (w : World) (hs : s.size ≤ 400) (hI : runN s 0 = i) (hi : 0 < i) (hil : i < s.size) (h47 : (s[i].toNat : Int) = 47) (hJ : runN s (i + 1) = j) (hij : i + 1 ≤ j) (hjs : j ≤ s.size) (hdt : digAll (s.extract (i + 1) j).data.toList = true) (hjl : j = s.size) (hz : valN (s.extract (i + 1) j).data.toList ≠ 0) (hdw : digAll (s.extract 0 i).data.toList = true) (ho : o = some (valN (s.extract 0 i).data.toList, valN (s.extract (i + 1) j).data.toList)) :
    Calls Tryz.prog 16 #[.string s] w fun e w' => RawAns o w w' e := by
  have HI' := hide hI
  have HJ' := hide hJ
  have HDT' := hide hdt
  have HDW' := hide hdw
  have HO' := hide ho
  clear hI hJ hdt hdw ho
  have hi' : ¬ (i : Int) = 0 := by omega
  have hi2 : ((i : Int) == 0) = false := by rw [beq_eq_false_iff_ne]; exact hi'
  have hi3 : (0 : Int) ≤ (i : Int) := by omega
  have hil' : (i : Int) < (s.size : Int) := by omega
  have hil2 : (i : Int) ≤ (s.size : Int) := by omega
  have hij' : (i : Int) + 1 ≤ (j : Int) := by omega
  have hjs' : (j : Int) ≤ (s.size : Int) := by omega
  have hjl' : ¬ (j : Int) < (s.size : Int) := by omega
  clear hjl
  have HZ := hide hz
  clear hz
  have kr0 : (w.alloc (Obj.cells #[Value.bool false, Value.slice none 0 0, Value.bool false, Value.slice none 0 0] 29)).cell? ⟨w.heap.size, 0, none⟩ = some (Value.bool false) := by go_simp
  have fr0 : (w.alloc (Obj.cells #[Value.bool false, Value.slice none 0 0, Value.bool false, Value.slice none 0 0] 29)).frozen? ⟨w.heap.size, 0, none⟩ = false := by go_simp
  have kr1 : (w.alloc (Obj.cells #[Value.bool false, Value.slice none 0 0, Value.bool false, Value.slice none 0 0] 29)).cell? ⟨w.heap.size, 1, none⟩ = some (Value.slice none 0 0) := by go_simp
  have fr1 : (w.alloc (Obj.cells #[Value.bool false, Value.slice none 0 0, Value.bool false, Value.slice none 0 0] 29)).frozen? ⟨w.heap.size, 1, none⟩ = false := by go_simp
  have kr2 : (w.alloc (Obj.cells #[Value.bool false, Value.slice none 0 0, Value.bool false, Value.slice none 0 0] 29)).cell? ⟨w.heap.size, 2, none⟩ = some (Value.bool false) := by go_simp
  have fr2 : (w.alloc (Obj.cells #[Value.bool false, Value.slice none 0 0, Value.bool false, Value.slice none 0 0] 29)).frozen? ⟨w.heap.size, 2, none⟩ = false := by go_simp
  have kr3 : (w.alloc (Obj.cells #[Value.bool false, Value.slice none 0 0, Value.bool false, Value.slice none 0 0] 29)).cell? ⟨w.heap.size, 3, none⟩ = some (Value.slice none 0 0) := by go_simp
  have fr3 : (w.alloc (Obj.cells #[Value.bool false, Value.slice none 0 0, Value.bool false, Value.slice none 0 0] 29)).frozen? ⟨w.heap.size, 3, none⟩ = false := by go_simp
  have zr : w.heap.size < (w.alloc (Obj.cells #[Value.bool false, Value.slice none 0 0, Value.bool false, Value.slice none 0 0] 29)).heap.size := by simp only [World.size_alloc]; omega
  have HB := hide (bl_alloc (bl_refl w) (Obj.cells #[Value.bool false, Value.slice none 0 0, Value.bool false, Value.slice none 0 0] 29))
  go_enter Tryz.func16, Tryz.ntmps16
  go_wp2_with fail
  generalize (w.alloc (Obj.cells #[Value.bool false, Value.slice none 0 0, Value.bool false, Value.slice none 0 0] 29)) = w1 at *
  have z0 := zr
  refine (runS s 0 _ (Nat.zero_le _) hs).mono ?_
  rw [HI'.out]
  rintro e w' ⟨rfl, hw⟩
  subst w'
  go_wp2_with fail
  refine (runS1 s i _ (by omega) hs).mono ?_
  rw [HJ'.out]
  rintro e w' ⟨rfl, hw⟩
  subst w'
  go_wp2_with fail
  have hds : (s.extract (i + 1) j).size ≤ 400 := by rw [ByteArray.size_extract]; omega
  refine (digitsS (s.extract (i + 1) j) _ HDT'.out hds).mono ?_
  have hl1 : (lms (valN (s.extract (i + 1) j).data.toList : Int)).length ≤ 200 := lms_short HDT'.out (by rw [bsize]; exact hds)
  generalize valN (s.extract (i + 1) j).data.toList = d at *
  rintro e w2 ⟨v1, rfl, ⟨a1, c1, rfl, ho1⟩, hb⟩
  have yw2 := hb.size
  replace kr0 := (hb.cell (p := ⟨w.heap.size, 0, none⟩) (by dsimp only; omega)).trans kr0
  replace fr0 := (hb.frozen (p := ⟨w.heap.size, 0, none⟩) (by dsimp only; omega)).trans fr0
  replace kr1 := (hb.cell (p := ⟨w.heap.size, 1, none⟩) (by dsimp only; omega)).trans kr1
  replace fr1 := (hb.frozen (p := ⟨w.heap.size, 1, none⟩) (by dsimp only; omega)).trans fr1
  replace kr2 := (hb.cell (p := ⟨w.heap.size, 2, none⟩) (by dsimp only; omega)).trans kr2
  replace fr2 := (hb.frozen (p := ⟨w.heap.size, 2, none⟩) (by dsimp only; omega)).trans fr2
  replace kr3 := (hb.cell (p := ⟨w.heap.size, 3, none⟩) (by dsimp only; omega)).trans kr3
  replace fr3 := (hb.frozen (p := ⟨w.heap.size, 3, none⟩) (by dsimp only; omega)).trans fr3
  replace zr := Nat.lt_of_lt_of_le zr hb.size
  replace HB := hide (bl_trans HB.out hb)
  clear hb
  have S1 := hide ho1.seg
  clear ho1
  have yw3 : w2.heap.size + 1 ≤ (w2.alloc (Obj.cells #[Value.bool (sgn (d : Int)), Value.slice a1 (lms (d : Int)).length c1] 27)).heap.size := by simp only [World.size_alloc]; omega
  have kd0 : (w2.alloc (Obj.cells #[Value.bool (sgn (d : Int)), Value.slice a1 (lms (d : Int)).length c1] 27)).cell? ⟨w2.heap.size, 0, none⟩ = some (Value.bool (sgn (d : Int))) := by go_simp
  have kd1 : (w2.alloc (Obj.cells #[Value.bool (sgn (d : Int)), Value.slice a1 (lms (d : Int)).length c1] 27)).cell? ⟨w2.heap.size, 1, none⟩ = some (Value.slice a1 (lms (d : Int)).length c1) := by go_simp
  have hbn := (bl_alloc (bl_refl w2) (Obj.cells #[Value.bool (sgn (d : Int)), Value.slice a1 (lms (d : Int)).length c1] 27))
  replace kr0 := (hbn.cell (p := ⟨w.heap.size, 0, none⟩) (by dsimp only; omega)).trans kr0
  replace fr0 := (hbn.frozen (p := ⟨w.heap.size, 0, none⟩) (by dsimp only; omega)).trans fr0
  replace kr1 := (hbn.cell (p := ⟨w.heap.size, 1, none⟩) (by dsimp only; omega)).trans kr1
  replace fr1 := (hbn.frozen (p := ⟨w.heap.size, 1, none⟩) (by dsimp only; omega)).trans fr1
  replace kr2 := (hbn.cell (p := ⟨w.heap.size, 2, none⟩) (by dsimp only; omega)).trans kr2
  replace fr2 := (hbn.frozen (p := ⟨w.heap.size, 2, none⟩) (by dsimp only; omega)).trans fr2
  replace kr3 := (hbn.cell (p := ⟨w.heap.size, 3, none⟩) (by dsimp only; omega)).trans kr3
  replace fr3 := (hbn.frozen (p := ⟨w.heap.size, 3, none⟩) (by dsimp only; omega)).trans fr3
  replace S1 := hide (S1.out.below hbn)
  replace zr := Nat.lt_of_lt_of_le zr hbn.size
  replace HB := hide (bl_trans HB.out hbn)
  clear hbn
  go_wp2_with fail
  generalize (w2.alloc (Obj.cells #[Value.bool (sgn (d : Int)), Value.slice a1 (lms (d : Int)).length c1] 27)) = w3 at *
  refine (runS1 s i _ (by omega) hs).mono ?_
  rw [HJ'.out]
  rintro e w' ⟨rfl, hw⟩
  subst w'
  have hdl : ((((lms (d : Int)).length : Nat) : Int) == 0) = false := by rw [beq_eq_false_iff_ne]; intro e; exact HZ.out (by have := sgn_lms_nil (z := (d : Int)) (by omega); omega)
  go_wp2_with fail
  have hws : (s.extract 0 i).size ≤ 400 := by rw [ByteArray.size_extract]; omega
  have hl2 : (lms (valN (s.extract 0 i).data.toList : Int)).length ≤ 200 := lms_short HDW'.out (by rw [bsize]; exact hws)
  have hd0 : (d : Int) ≠ 0 := by have := HZ.out; omega
  obtain ⟨x, hx⟩ : ∃ x, valN (s.extract 0 i).data.toList = x := ⟨_, rfl⟩
  rw [hx] at HO' hl2
  have HX := hide hx
  clear hx
  go_region_with
    (first
      | (go_at_call 27; refine (digitsS (s.extract 0 i) _ HDW'.out hws).mono ?_; rw [HX.out]; rintro e wA ⟨vA, rfl, ⟨aA, cA, rfl, hoA⟩, hbAr⟩; have hbA : Below w3.heap.size w3 wA := (bl_refl w3).drew.trans hbAr; have yA := hbA.size; have kd0 := (hbAr.cell (p := ⟨w2.heap.size, 0, none⟩) (by dsimp only; rw [World.size_drew]; omega)).trans kd0; have kd1 := (hbAr.cell (p := ⟨w2.heap.size, 1, none⟩) (by dsimp only; rw [World.size_drew]; omega)).trans kd1; have kr0 := (hbA.cell (p := ⟨w.heap.size, 0, none⟩) (by dsimp only; omega)).trans kr0; have fr0 := (hbA.frozen (p := ⟨w.heap.size, 0, none⟩) (by dsimp only; omega)).trans fr0; have kr1 := (hbA.cell (p := ⟨w.heap.size, 1, none⟩) (by dsimp only; omega)).trans kr1; have fr1 := (hbA.frozen (p := ⟨w.heap.size, 1, none⟩) (by dsimp only; omega)).trans fr1; have kr2 := (hbA.cell (p := ⟨w.heap.size, 2, none⟩) (by dsimp only; omega)).trans kr2; have fr2 := (hbA.frozen (p := ⟨w.heap.size, 2, none⟩) (by dsimp only; omega)).trans fr2; have kr3 := (hbA.cell (p := ⟨w.heap.size, 3, none⟩) (by dsimp only; omega)).trans kr3; have fr3 := (hbA.frozen (p := ⟨w.heap.size, 3, none⟩) (by dsimp only; omega)).trans fr3)
      | (go_at_call 28; refine (makeR (x : Int) (d : Int) aA cA a1 c1 _ hoA.seg (S1.out.below hbA) hd0 (by omega) (by omega)).mono ?_; rintro e wB ⟨d1, f1, d2, f2, rfl, hu1, hu2, hap, hbBr⟩; have hbB : Below w3.heap.size w3 wB := bl_trans hbA hbBr; have yB := hbBr.size; have kr0 := (hbBr.cell (p := ⟨w.heap.size, 0, none⟩) (by dsimp only; omega)).trans kr0; have fr0 := (hbBr.frozen (p := ⟨w.heap.size, 0, none⟩) (by dsimp only; omega)).trans fr0; have kr1 := (hbBr.cell (p := ⟨w.heap.size, 1, none⟩) (by dsimp only; omega)).trans kr1; have fr1 := (hbBr.frozen (p := ⟨w.heap.size, 1, none⟩) (by dsimp only; omega)).trans fr1; have kr2 := (hbBr.cell (p := ⟨w.heap.size, 2, none⟩) (by dsimp only; omega)).trans kr2; have fr2 := (hbBr.frozen (p := ⟨w.heap.size, 2, none⟩) (by dsimp only; omega)).trans fr2; have kr3 := (hbBr.cell (p := ⟨w.heap.size, 3, none⟩) (by dsimp only; omega)).trans kr3; have fr3 := (hbBr.frozen (p := ⟨w.heap.size, 3, none⟩) (by dsimp only; omega)).trans fr3; have HO1 := hide hu1; have HO2 := hide hu2; have HAP := hide hap; clear hu1 hu2 hap))
  all_goals go_wp2
  all_goals refine bodyPost_ret (v := .tuple #[Value.agg #[Value.bool (sgn ((x : Int) / sgG (x : Int) (d : Int))), Value.slice d1 (lms ((x : Int) / sgG (x : Int) (d : Int))).length f1, Value.bool (sgn ((d : Int) / sgG (x : Int) (d : Int))), Value.slice d2 (lms ((d : Int) / sgG (x : Int) (d : Int))).length f2], .bool true]) (by simp [results, Tryz.results16, go_sem, kr0, kr1, kr2, kr3]) rfl ?_
  all_goals have h1 := own_four' (lo := w.heap.size) HO1.out (show w.heap.size < _ by omega) (by omega) (Value.bool (sgn ((x : Int) / sgG (x : Int) (d : Int)))) (Value.slice d1 (lms ((x : Int) / sgG (x : Int) (d : Int))).length f1) (Value.bool (sgn ((d : Int) / sgG (x : Int) (d : Int)))) (Value.slice d2 (lms ((d : Int) / sgG (x : Int) (d : Int))).length f2)
  all_goals have h2 := own_four' (lo := w.heap.size) HO2.out (show w.heap.size < _ by omega) (by omega) (Value.bool (sgn ((x : Int) / sgG (x : Int) (d : Int)))) (Value.slice d1 (lms ((x : Int) / sgG (x : Int) (d : Int))).length f1) (Value.bool (sgn ((d : Int) / sgG (x : Int) (d : Int)))) (Value.slice d2 (lms ((d : Int) / sgG (x : Int) (d : Int))).length f2)
  all_goals exact raw_yes HO'.out rfl rfl h1 h2 HAP.out (set_four (Nat.le_refl _) (bl_trans HB.out hbB) _ _ _ _)

set_option maxHeartbeats 4000000 in
set_option maxRecDepth 20000 in
theorem rdD1 (s : ByteArray) (i j : Nat) (o : Option (Nat × Nat)) (w : World) (hs : s.size ≤ 400) (hI : runN s 0 = i) (hi : 0 < i) (hil : i < s.size) (h47 : ((s[i].toNat : Int) == 47) = false) (hdw : digAll (s.extract 0 i).data.toList = true) (ho : o = decS' (s.extract 0 i).data.toList (s.extract i s.size).data.toList) :
    Calls Tryz.prog 16 #[.string s] w fun e w' => RawAns o w w' e := by
  have HI' := hide hI
  have HDW' := hide hdw
  have HO' := hide ho
  clear hI hdw ho
  have hi' : ¬ (i : Int) = 0 := by omega
  have hi2 : ((i : Int) == 0) = false := by rw [beq_eq_false_iff_ne]; exact hi'
  have hi3 : (0 : Int) ≤ (i : Int) := by omega
  have hil' : (i : Int) < (s.size : Int) := by omega
  have hil2 : (i : Int) ≤ (s.size : Int) := by omega
  have kr0 : (w.alloc (Obj.cells #[Value.bool false, Value.slice none 0 0, Value.bool false, Value.slice none 0 0] 29)).cell? ⟨w.heap.size, 0, none⟩ = some (Value.bool false) := by go_simp
  have fr0 : (w.alloc (Obj.cells #[Value.bool false, Value.slice none 0 0, Value.bool false, Value.slice none 0 0] 29)).frozen? ⟨w.heap.size, 0, none⟩ = false := by go_simp
  have kr1 : (w.alloc (Obj.cells #[Value.bool false, Value.slice none 0 0, Value.bool false, Value.slice none 0 0] 29)).cell? ⟨w.heap.size, 1, none⟩ = some (Value.slice none 0 0) := by go_simp
  have fr1 : (w.alloc (Obj.cells #[Value.bool false, Value.slice none 0 0, Value.bool false, Value.slice none 0 0] 29)).frozen? ⟨w.heap.size, 1, none⟩ = false := by go_simp
  have kr2 : (w.alloc (Obj.cells #[Value.bool false, Value.slice none 0 0, Value.bool false, Value.slice none 0 0] 29)).cell? ⟨w.heap.size, 2, none⟩ = some (Value.bool false) := by go_simp
  have fr2 : (w.alloc (Obj.cells #[Value.bool false, Value.slice none 0 0, Value.bool false, Value.slice none 0 0] 29)).frozen? ⟨w.heap.size, 2, none⟩ = false := by go_simp
  have kr3 : (w.alloc (Obj.cells #[Value.bool false, Value.slice none 0 0, Value.bool false, Value.slice none 0 0] 29)).cell? ⟨w.heap.size, 3, none⟩ = some (Value.slice none 0 0) := by go_simp
  have fr3 : (w.alloc (Obj.cells #[Value.bool false, Value.slice none 0 0, Value.bool false, Value.slice none 0 0] 29)).frozen? ⟨w.heap.size, 3, none⟩ = false := by go_simp
  have zr : w.heap.size < (w.alloc (Obj.cells #[Value.bool false, Value.slice none 0 0, Value.bool false, Value.slice none 0 0] 29)).heap.size := by simp only [World.size_alloc]; omega
  have HB := hide (bl_alloc (bl_refl w) (Obj.cells #[Value.bool false, Value.slice none 0 0, Value.bool false, Value.slice none 0 0] 29))
  go_enter Tryz.func16, Tryz.ntmps16
  go_wp2_with fail
  generalize (w.alloc (Obj.cells #[Value.bool false, Value.slice none 0 0, Value.bool false, Value.slice none 0 0] 29)) = w1 at *
  have z0 := zr
  refine (runS s 0 _ (Nat.zero_le _) hs).mono ?_
  rw [HI'.out]
  rintro e w' ⟨rfl, hw⟩
  subst w'
  go_wp2_with fail
  skip
  have hA4 : (s.extract 0 i).size + (s.extract i s.size).size ≤ 400 := by rw [ByteArray.size_extract, ByteArray.size_extract]; omega
  obtain ⟨X, hX⟩ : ∃ X, rwN o = X := ⟨_, rfl⟩
  obtain ⟨Y, hY⟩ : ∃ Y, rwD o = Y := ⟨_, rfl⟩
  obtain ⟨F, hF⟩ : ∃ F, o.isSome = F := ⟨_, rfl⟩
  have HXY := hide (And.intro hX (And.intro hY hF))
  clear hX hY hF
  go_region_with
    (first
      | (go_at_call 29; refine (decimalS (s.extract 0 i) (s.extract i s.size) _ HDW'.out hA4).mono ?_; rw [← HO'.out]; unfold RawAns; rw [HXY.out.1, HXY.out.2.1, HXY.out.2.2]; rintro e wA ⟨d1, f1, d2, f2, rfl, hu1, hu2, hap, hbAr⟩; have hbA : Below w1.heap.size w1 wA := (bl_refl w1).drew.trans hbAr; have yA := hbA.size; have kr0 := (hbA.cell (p := ⟨w.heap.size, 0, none⟩) (by dsimp only; omega)).trans kr0; have fr0 := (hbA.frozen (p := ⟨w.heap.size, 0, none⟩) (by dsimp only; omega)).trans fr0; have kr1 := (hbA.cell (p := ⟨w.heap.size, 1, none⟩) (by dsimp only; omega)).trans kr1; have fr1 := (hbA.frozen (p := ⟨w.heap.size, 1, none⟩) (by dsimp only; omega)).trans fr1; have kr2 := (hbA.cell (p := ⟨w.heap.size, 2, none⟩) (by dsimp only; omega)).trans kr2; have fr2 := (hbA.frozen (p := ⟨w.heap.size, 2, none⟩) (by dsimp only; omega)).trans fr2; have kr3 := (hbA.cell (p := ⟨w.heap.size, 3, none⟩) (by dsimp only; omega)).trans kr3; have fr3 := (hbA.frozen (p := ⟨w.heap.size, 3, none⟩) (by dsimp only; omega)).trans fr3; have HO1 := hide hu1; have HO2 := hide hu2; have HAP := hide hap; clear hu1 hu2 hap))
  all_goals go_wp2
  all_goals refine bodyPost_ret (v := .tuple #[Value.agg #[Value.bool (sgn X), Value.slice d1 (lms X).length f1, Value.bool (sgn Y), Value.slice d2 (lms Y).length f2], .bool F]) (by simp [results, Tryz.results16, go_sem, kr0, kr1, kr2, kr3]) rfl ?_
  all_goals have h1 := own_four' (lo := w.heap.size) HO1.out (show w.heap.size < _ by first | omega | (rw [World.size_drew]; omega)) (by first | omega | (rw [World.size_drew]; omega)) (Value.bool (sgn X)) (Value.slice d1 (lms X).length f1) (Value.bool (sgn Y)) (Value.slice d2 (lms Y).length f2)
  all_goals have h2 := own_four' (lo := w.heap.size) HO2.out (show w.heap.size < _ by first | omega | (rw [World.size_drew]; omega)) (by first | omega | (rw [World.size_drew]; omega)) (Value.bool (sgn X)) (Value.slice d1 (lms X).length f1) (Value.bool (sgn Y)) (Value.slice d2 (lms Y).length f2)
  all_goals show RawAns o w _ _
  all_goals unfold RawAns
  all_goals rw [HXY.out.1, HXY.out.2.1, HXY.out.2.2]
  all_goals exact ⟨d1, f1, d2, f2, rfl, h1, h2, HAP.out, set_four (Nat.le_refl _) (bl_trans HB.out hbA) _ _ _ _⟩

set_option maxHeartbeats 4000000 in
set_option maxRecDepth 20000 in
theorem rdD2 (s : ByteArray) (i j : Nat) (o : Option (Nat × Nat)) (w : World) (hs : s.size ≤ 400) (hI : runN s 0 = i) (hi : 0 < i) (hil : i = s.size) (hdw : digAll (s.extract 0 i).data.toList = true) (ho : o = decS' (s.extract 0 i).data.toList (s.extract i s.size).data.toList) :
    Calls Tryz.prog 16 #[.string s] w fun e w' => RawAns o w w' e := by
  have HI' := hide hI
  have HDW' := hide hdw
  have HO' := hide ho
  clear hI hdw ho
  have hi' : ¬ (i : Int) = 0 := by omega
  have hi2 : ((i : Int) == 0) = false := by rw [beq_eq_false_iff_ne]; exact hi'
  have hi3 : (0 : Int) ≤ (i : Int) := by omega
  have hil' : ¬ (i : Int) < (s.size : Int) := by omega
  have hil2 : (i : Int) ≤ (s.size : Int) := by omega
  clear hil
  have kr0 : (w.alloc (Obj.cells #[Value.bool false, Value.slice none 0 0, Value.bool false, Value.slice none 0 0] 29)).cell? ⟨w.heap.size, 0, none⟩ = some (Value.bool false) := by go_simp
  have fr0 : (w.alloc (Obj.cells #[Value.bool false, Value.slice none 0 0, Value.bool false, Value.slice none 0 0] 29)).frozen? ⟨w.heap.size, 0, none⟩ = false := by go_simp
  have kr1 : (w.alloc (Obj.cells #[Value.bool false, Value.slice none 0 0, Value.bool false, Value.slice none 0 0] 29)).cell? ⟨w.heap.size, 1, none⟩ = some (Value.slice none 0 0) := by go_simp
  have fr1 : (w.alloc (Obj.cells #[Value.bool false, Value.slice none 0 0, Value.bool false, Value.slice none 0 0] 29)).frozen? ⟨w.heap.size, 1, none⟩ = false := by go_simp
  have kr2 : (w.alloc (Obj.cells #[Value.bool false, Value.slice none 0 0, Value.bool false, Value.slice none 0 0] 29)).cell? ⟨w.heap.size, 2, none⟩ = some (Value.bool false) := by go_simp
  have fr2 : (w.alloc (Obj.cells #[Value.bool false, Value.slice none 0 0, Value.bool false, Value.slice none 0 0] 29)).frozen? ⟨w.heap.size, 2, none⟩ = false := by go_simp
  have kr3 : (w.alloc (Obj.cells #[Value.bool false, Value.slice none 0 0, Value.bool false, Value.slice none 0 0] 29)).cell? ⟨w.heap.size, 3, none⟩ = some (Value.slice none 0 0) := by go_simp
  have fr3 : (w.alloc (Obj.cells #[Value.bool false, Value.slice none 0 0, Value.bool false, Value.slice none 0 0] 29)).frozen? ⟨w.heap.size, 3, none⟩ = false := by go_simp
  have zr : w.heap.size < (w.alloc (Obj.cells #[Value.bool false, Value.slice none 0 0, Value.bool false, Value.slice none 0 0] 29)).heap.size := by simp only [World.size_alloc]; omega
  have HB := hide (bl_alloc (bl_refl w) (Obj.cells #[Value.bool false, Value.slice none 0 0, Value.bool false, Value.slice none 0 0] 29))
  go_enter Tryz.func16, Tryz.ntmps16
  go_wp2_with fail
  generalize (w.alloc (Obj.cells #[Value.bool false, Value.slice none 0 0, Value.bool false, Value.slice none 0 0] 29)) = w1 at *
  have z0 := zr
  refine (runS s 0 _ (Nat.zero_le _) hs).mono ?_
  rw [HI'.out]
  rintro e w' ⟨rfl, hw⟩
  subst w'
  go_wp2_with fail
  skip
  have hA4 : (s.extract 0 i).size + (s.extract i s.size).size ≤ 400 := by rw [ByteArray.size_extract, ByteArray.size_extract]; omega
  obtain ⟨X, hX⟩ : ∃ X, rwN o = X := ⟨_, rfl⟩
  obtain ⟨Y, hY⟩ : ∃ Y, rwD o = Y := ⟨_, rfl⟩
  obtain ⟨F, hF⟩ : ∃ F, o.isSome = F := ⟨_, rfl⟩
  have HXY := hide (And.intro hX (And.intro hY hF))
  clear hX hY hF
  go_region_with
    (first
      | (go_at_call 29; refine (decimalS (s.extract 0 i) (s.extract i s.size) _ HDW'.out hA4).mono ?_; rw [← HO'.out]; unfold RawAns; rw [HXY.out.1, HXY.out.2.1, HXY.out.2.2]; rintro e wA ⟨d1, f1, d2, f2, rfl, hu1, hu2, hap, hbAr⟩; have hbA : Below w1.heap.size w1 wA := (bl_refl w1).drew.trans hbAr; have yA := hbA.size; have kr0 := (hbA.cell (p := ⟨w.heap.size, 0, none⟩) (by dsimp only; omega)).trans kr0; have fr0 := (hbA.frozen (p := ⟨w.heap.size, 0, none⟩) (by dsimp only; omega)).trans fr0; have kr1 := (hbA.cell (p := ⟨w.heap.size, 1, none⟩) (by dsimp only; omega)).trans kr1; have fr1 := (hbA.frozen (p := ⟨w.heap.size, 1, none⟩) (by dsimp only; omega)).trans fr1; have kr2 := (hbA.cell (p := ⟨w.heap.size, 2, none⟩) (by dsimp only; omega)).trans kr2; have fr2 := (hbA.frozen (p := ⟨w.heap.size, 2, none⟩) (by dsimp only; omega)).trans fr2; have kr3 := (hbA.cell (p := ⟨w.heap.size, 3, none⟩) (by dsimp only; omega)).trans kr3; have fr3 := (hbA.frozen (p := ⟨w.heap.size, 3, none⟩) (by dsimp only; omega)).trans fr3; have HO1 := hide hu1; have HO2 := hide hu2; have HAP := hide hap; clear hu1 hu2 hap))
  all_goals go_wp2
  all_goals refine bodyPost_ret (v := .tuple #[Value.agg #[Value.bool (sgn X), Value.slice d1 (lms X).length f1, Value.bool (sgn Y), Value.slice d2 (lms Y).length f2], .bool F]) (by simp [results, Tryz.results16, go_sem, kr0, kr1, kr2, kr3]) rfl ?_
  all_goals have h1 := own_four' (lo := w.heap.size) HO1.out (show w.heap.size < _ by first | omega | (rw [World.size_drew]; omega)) (by first | omega | (rw [World.size_drew]; omega)) (Value.bool (sgn X)) (Value.slice d1 (lms X).length f1) (Value.bool (sgn Y)) (Value.slice d2 (lms Y).length f2)
  all_goals have h2 := own_four' (lo := w.heap.size) HO2.out (show w.heap.size < _ by first | omega | (rw [World.size_drew]; omega)) (by first | omega | (rw [World.size_drew]; omega)) (Value.bool (sgn X)) (Value.slice d1 (lms X).length f1) (Value.bool (sgn Y)) (Value.slice d2 (lms Y).length f2)
  all_goals show RawAns o w _ _
  all_goals unfold RawAns
  all_goals rw [HXY.out.1, HXY.out.2.1, HXY.out.2.2]
  all_goals exact ⟨d1, f1, d2, f2, rfl, h1, h2, HAP.out, set_four (Nat.le_refl _) (bl_trans HB.out hbA) _ _ _ _⟩
end Go.Proofs.YtbcokpnhhjjedaaGreatDoor

/- l03Read of the specification at any text. -/
namespace Go.Proofs.YtbcokpnhhjjedaaGreatDoor
open Go.RowKit
set_option linter.unusedVariables false

theorem run_zero (s : ByteArray) : runN s 0 = (s.data.toList.takeWhile dg).length := by
  unfold runN; rw [List.drop_zero, Nat.zero_add]
theorem readS0 (s : ByteArray) (w : World) (hs : s.size ≤ 400) :
    Calls Tryz.prog 16 #[.string s] w fun e w' => RawAns (rrS s.data.toList) w w' e := by
  obtain ⟨i, hI⟩ : ∃ i, runN s 0 = i := ⟨_, rfl⟩
  have hIl := run_zero s
  rw [hI] at hIl
  have hIs := (run_le (s := s) (k := 0) (Nat.zero_le _)).2
  rw [hI] at hIs
  have hW : (s.extract 0 i).data.toList = s.data.toList.takeWhile dg := by
    rw [ext_list, List.drop_zero, Nat.sub_zero, hIl, tw_take]
  have hD : (s.extract i s.size).data.toList = s.data.toList.dropWhile dg := by
    rw [ext_tail, hIl, tw_drop]
  have hWd : digAll (s.extract 0 i).data.toList = true := by rw [hW]; exact tw_dig _
  unfold rrS
  by_cases h0 : s.data.toList.takeWhile dg = []
  · rw [if_pos h0]
    exact rdF1 s i 0 _ w hs hI (by rw [hIl, h0]; rfl) rfl
  rw [if_neg h0]
  have hi0 : 0 < i := by rw [hIl]; exact List.length_pos_iff.2 h0
  have hDs : (s.extract i s.size).size = s.size - i := by rw [ByteArray.size_extract]; omega
  rw [← hW]
  cases hr : s.data.toList.dropWhile dg with
  | nil =>
    have hil : i = s.size := by
      have : (s.extract i s.size).size = 0 := by rw [← bsize, hD, hr]; rfl
      omega
    exact rdD2 s i 0 _ w hs hI hi0 hil hWd (by rw [hD, hr]; rfl)
  | cons c t =>
    rw [hr] at hD
    have hp := size_pos hD
    have hil : i < s.size := by omega
    have hat : s[i] = c ∧ s.data.toList.drop (i + 1) = t := by
      have h1 := drop_at s i hil
      have h2 := ext_tail s i
      rw [hD, h1] at h2
      exact ⟨(List.cons.inj h2).1.symm, (List.cons.inj h2).2.symm⟩
    by_cases h47 : c = 47
    · have h47i : (s[i].toNat : Int) = 47 := by rw [hat.1, h47]; rfl
      obtain ⟨j, hJ⟩ : ∃ j, runN s (i + 1) = j := ⟨_, rfl⟩
      have hJl : j = i + 1 + (t.takeWhile dg).length := by rw [← hJ]; unfold runN; rw [hat.2]
      have hJs := run_le (s := s) (k := i + 1) hil
      rw [hJ] at hJs
      have hT : (s.extract (i + 1) j).data.toList = t.takeWhile dg := by
        rw [ext_list, hat.2, show j - (i + 1) = (t.takeWhile dg).length by omega, tw_take]
      have hTd : digAll (s.extract (i + 1) j).data.toList = true := by rw [hT]; exact tw_dig _
      have htl : t.length = s.size - (i + 1) := by rw [← hat.2, List.length_drop, bsize]
      have hs2 : readS' (s.extract 0 i).data.toList (c :: t) = if (digAll t && decide (valN t ≠ 0)) = true then some (valN (s.extract 0 i).data.toList, valN t) else none := by simp only [readS']; rw [if_pos h47]
      rw [hs2]
      cases hdt : digAll t with
      | false =>
        rw [Bool.false_and, if_neg (by decide)]
        refine rdF2 s i j _ w hs hI hi0 hil h47i hJ hJs.1 hJs.2 hTd ?_ rfl
        have : (t.takeWhile dg).length < t.length := by
          have hle : (t.takeWhile dg).length ≤ t.length := (List.takeWhile_sublist dg).length_le
          rcases Nat.lt_or_ge (t.takeWhile dg).length t.length with h | h
          · exact h
          · have := tw_take dg t
            rw [List.take_of_length_le h] at this
            have h2 := tw_dig t
            rw [← this, hdt] at h2; cases h2
        omega
      | true =>
        have htt := (take_all hdt).1
        rw [htt] at hT hJl
        rw [Bool.true_and]
        by_cases hz : valN t = 0
        · rw [decide_eq_false (by simpa using hz), if_neg (by decide)]
          exact rdF3 s i j _ w hs hI hi0 hil h47i hJ hJs.1 hJs.2 hTd (by omega) (by rw [hT]; exact hz) rfl
        · rw [decide_eq_true hz, if_pos rfl]
          exact rdY1 s i j _ w hs hI hi0 hil h47i hJ hJs.1 hJs.2 hTd (by omega) (by rw [hT]; exact hz) hWd (by rw [hT])
    · have hs2 : readS' (s.extract 0 i).data.toList (c :: t) = decS' (s.extract 0 i).data.toList (c :: t) := by simp only [readS']; rw [if_neg h47]
      rw [hs2]
      exact rdD1 s i 0 _ w hs hI hi0 hil (by rw [hat.1]; exact b_no (d := 47) h47) hWd (by rw [hD])
/-- the lower number is not nought -/
theorem decV_no {ds : List UInt8} {k : Int} : (decV ds k).2 ≠ 0 := by
  unfold decV
  split
  · exact Nat.pos_iff_ne_zero.1 (Nat.pow_pos (by decide))
  · exact Nat.one_ne_zero
theorem endS_nz {ds : List UInt8} {k : Int} {p : Nat × Nat} : ∀ {r : List UInt8}, endS ds k r = some p → p.2 ≠ 0
  | [], h => by rw [← Option.some.inj h]; exact decV_no
  | c :: t, h => by
    simp only [endS] at h
    split at h
    · cases hx : expV t with
      | none => rw [hx] at h; cases h
      | some n => rw [hx] at h; rw [← Option.some.inj h]; exact decV_no
    · cases h
theorem decS_nz {ds : List UInt8} {p : Nat × Nat} : ∀ {r : List UInt8}, decS' ds r = some p → p.2 ≠ 0
  | [], h => by simp only [decS'] at h; exact endS_nz h
  | c :: t, h => by
    simp only [decS'] at h
    split at h
    · split at h
      · cases h
      · exact endS_nz h
    · exact endS_nz h
theorem rrS_nz {l : List UInt8} {p : Nat × Nat} (h : rrS l = some p) : p.2 ≠ 0 := by
  unfold rrS at h
  split at h
  · cases h
  · revert h
    generalize l.takeWhile dg = w
    generalize l.dropWhile dg = r
    intro h
    cases r with
    | nil => simp only [readS'] at h; exact decS_nz h
    | cons c t =>
      simp only [readS'] at h
      split at h
      · split at h
        · rename_i hc
          rw [Bool.and_eq_true, decide_eq_true_eq] at hc
          rw [← Option.some.inj h]; exact hc.2
        · cases h
      · exact decS_nz h
end Go.Proofs.YtbcokpnhhjjedaaGreatDoor

/- The walk of the specification's ReadRat. -/
namespace Go.Proofs.YtbcokpnhhjjedaaGreatDoor
open Go.RowKit
set_option linter.unusedVariables false

theorem fitS_t (p q : Int) (a : Option Addr) (c : Nat) (b : Option Addr) (d : Nat) (w : World) (s1 : Seg w a (lms p).length c (lms p)) (s2 : Seg w b (lms q).length d (lms q)) (h : ftT p q = true) :
    Calls Tryz.prog 17 #[.agg #[.bool (sgn p), .slice a (lms p).length c, .bool (sgn q), .slice b (lms q).length d]] w fun e w' => e = .returned (.tuple #[.agg #[.bool (sgn p), .slice a (lms p).length c, .bool (sgn q), .slice b (lms q).length d], .bool true]) ∧ Below w.heap.size w w' := by
  have := fitS p q a c b d w s1 s2
  rw [ftV_t h, h] at this
  exact this
theorem fitS_f (p q : Int) (a : Option Addr) (c : Nat) (b : Option Addr) (d : Nat) (w : World) (s1 : Seg w a (lms p).length c (lms p)) (s2 : Seg w b (lms q).length d (lms q)) (h : ftT p q = false) :
    Calls Tryz.prog 17 #[.agg #[.bool (sgn p), .slice a (lms p).length c, .bool (sgn q), .slice b (lms q).length d]] w fun e w' => e = .returned (.tuple #[.agg #[.bool false, .slice none 0 0, .bool false, .slice none 0 0], .bool false]) ∧ Below w.heap.size w w' := by
  have := fitS p q a c b d w s1 s2
  rw [ftV_f h, h] at this
  exact this

set_option maxHeartbeats 4000000 in
set_option maxRecDepth 20000 in
theorem rzL (s D : ByteArray) (o : Option (Nat × Nat)) (P Q : Int) (w : World) (hs : 400 < s.size) :
    Calls Tryz.prog 11 #[.string s] w fun e w' => e = .returned (.tuple #[.agg #[.bool false, .slice none 0 0, .bool false, .slice none 0 0], .bool false]) ∧ Below w.heap.size w w' := by
  have hs' : (400 : Int) < (s.size : Int) := by omega
  have kr0 : (w.alloc (Obj.cells #[Value.bool false, Value.slice none 0 0, Value.bool false, Value.slice none 0 0] 29)).cell? ⟨w.heap.size, 0, none⟩ = some (Value.bool false) := by go_simp
  have fr0 : (w.alloc (Obj.cells #[Value.bool false, Value.slice none 0 0, Value.bool false, Value.slice none 0 0] 29)).frozen? ⟨w.heap.size, 0, none⟩ = false := by go_simp
  have kr1 : (w.alloc (Obj.cells #[Value.bool false, Value.slice none 0 0, Value.bool false, Value.slice none 0 0] 29)).cell? ⟨w.heap.size, 1, none⟩ = some (Value.slice none 0 0) := by go_simp
  have fr1 : (w.alloc (Obj.cells #[Value.bool false, Value.slice none 0 0, Value.bool false, Value.slice none 0 0] 29)).frozen? ⟨w.heap.size, 1, none⟩ = false := by go_simp
  have kr2 : (w.alloc (Obj.cells #[Value.bool false, Value.slice none 0 0, Value.bool false, Value.slice none 0 0] 29)).cell? ⟨w.heap.size, 2, none⟩ = some (Value.bool false) := by go_simp
  have fr2 : (w.alloc (Obj.cells #[Value.bool false, Value.slice none 0 0, Value.bool false, Value.slice none 0 0] 29)).frozen? ⟨w.heap.size, 2, none⟩ = false := by go_simp
  have kr3 : (w.alloc (Obj.cells #[Value.bool false, Value.slice none 0 0, Value.bool false, Value.slice none 0 0] 29)).cell? ⟨w.heap.size, 3, none⟩ = some (Value.slice none 0 0) := by go_simp
  have fr3 : (w.alloc (Obj.cells #[Value.bool false, Value.slice none 0 0, Value.bool false, Value.slice none 0 0] 29)).frozen? ⟨w.heap.size, 3, none⟩ = false := by go_simp
  have zr : w.heap.size < (w.alloc (Obj.cells #[Value.bool false, Value.slice none 0 0, Value.bool false, Value.slice none 0 0] 29)).heap.size := by simp only [World.size_alloc]; omega
  have HB := hide (bl_alloc (bl_refl w) (Obj.cells #[Value.bool false, Value.slice none 0 0, Value.bool false, Value.slice none 0 0] 29))
  go_enter Tryz.func11, Tryz.ntmps11
  go_wp2
  refine bodyPost_ret (v := (.tuple #[.agg #[.bool false, .slice none 0 0, .bool false, .slice none 0 0], .bool false])) (by simp [results, Tryz.results11, go_sem, kr0, kr1, kr2, kr3]) rfl ?_
  exact ⟨rfl, HB.out⟩

set_option maxHeartbeats 4000000 in
set_option maxRecDepth 20000 in
theorem rzNN (s D : ByteArray) (o : Option (Nat × Nat)) (P Q : Int) (w : World) (hs : s.size ≤ 400) (ho : rrS D.data.toList = o) (hP : rwN o = P) (hQ : rwD o = Q) (hr : s.toList.isEmpty = false) (h1 : 0 < s.size) (h45 : (s[0].toNat : Int) = 45) (hx : s.extract 1 s.size = D) (hz : D.size + 1 = s.size) (hF : o.isSome = false) :
    Calls Tryz.prog 11 #[.string s] w fun e w' => e = .returned (.tuple #[.agg #[.bool false, .slice none 0 0, .bool false, .slice none 0 0], .bool false]) ∧ Below w.heap.size w w' := by
  have HO' := hide ho
  have HP' := hide hP
  have HQ' := hide hQ
  have HF' := hide hF
  clear ho hP hQ hF
  have hs' : ¬ (400 : Int) < (s.size : Int) := by omega
  have hD4 : D.size ≤ 400 := by omega
  clear hz
  have h1' : (1 : Int) ≤ (s.size : Int) := by omega
  have HX := hide hx
  clear hx
  have kr0 : (w.alloc (Obj.cells #[Value.bool false, Value.slice none 0 0, Value.bool false, Value.slice none 0 0] 29)).cell? ⟨w.heap.size, 0, none⟩ = some (Value.bool false) := by go_simp
  have fr0 : (w.alloc (Obj.cells #[Value.bool false, Value.slice none 0 0, Value.bool false, Value.slice none 0 0] 29)).frozen? ⟨w.heap.size, 0, none⟩ = false := by go_simp
  have kr1 : (w.alloc (Obj.cells #[Value.bool false, Value.slice none 0 0, Value.bool false, Value.slice none 0 0] 29)).cell? ⟨w.heap.size, 1, none⟩ = some (Value.slice none 0 0) := by go_simp
  have fr1 : (w.alloc (Obj.cells #[Value.bool false, Value.slice none 0 0, Value.bool false, Value.slice none 0 0] 29)).frozen? ⟨w.heap.size, 1, none⟩ = false := by go_simp
  have kr2 : (w.alloc (Obj.cells #[Value.bool false, Value.slice none 0 0, Value.bool false, Value.slice none 0 0] 29)).cell? ⟨w.heap.size, 2, none⟩ = some (Value.bool false) := by go_simp
  have fr2 : (w.alloc (Obj.cells #[Value.bool false, Value.slice none 0 0, Value.bool false, Value.slice none 0 0] 29)).frozen? ⟨w.heap.size, 2, none⟩ = false := by go_simp
  have kr3 : (w.alloc (Obj.cells #[Value.bool false, Value.slice none 0 0, Value.bool false, Value.slice none 0 0] 29)).cell? ⟨w.heap.size, 3, none⟩ = some (Value.slice none 0 0) := by go_simp
  have fr3 : (w.alloc (Obj.cells #[Value.bool false, Value.slice none 0 0, Value.bool false, Value.slice none 0 0] 29)).frozen? ⟨w.heap.size, 3, none⟩ = false := by go_simp
  have zr : w.heap.size < (w.alloc (Obj.cells #[Value.bool false, Value.slice none 0 0, Value.bool false, Value.slice none 0 0] 29)).heap.size := by simp only [World.size_alloc]; omega
  have HB := hide (bl_alloc (bl_refl w) (Obj.cells #[Value.bool false, Value.slice none 0 0, Value.bool false, Value.slice none 0 0] 29))
  go_enter Tryz.func11, Tryz.ntmps11
  go_wp2_with fail
  generalize (w.alloc (Obj.cells #[Value.bool false, Value.slice none 0 0, Value.bool false, Value.slice none 0 0] 29)) = w1 at *
  have z0 := zr
  rw [HX.out]
  refine (readS0 D _ hD4).mono ?_
  rw [HO'.out]
  unfold RawAns
  rw [HP'.out, HQ'.out, HF'.out]
  rintro e w2 ⟨a1, c1, a2, c2, rfl, ho1, ho2, hap, hb⟩
  have yw2 := hb.size
  replace kr0 := (hb.cell (p := ⟨w.heap.size, 0, none⟩) (by dsimp only; omega)).trans kr0
  replace fr0 := (hb.frozen (p := ⟨w.heap.size, 0, none⟩) (by dsimp only; omega)).trans fr0
  replace kr1 := (hb.cell (p := ⟨w.heap.size, 1, none⟩) (by dsimp only; omega)).trans kr1
  replace fr1 := (hb.frozen (p := ⟨w.heap.size, 1, none⟩) (by dsimp only; omega)).trans fr1
  replace kr2 := (hb.cell (p := ⟨w.heap.size, 2, none⟩) (by dsimp only; omega)).trans kr2
  replace fr2 := (hb.frozen (p := ⟨w.heap.size, 2, none⟩) (by dsimp only; omega)).trans fr2
  replace kr3 := (hb.cell (p := ⟨w.heap.size, 3, none⟩) (by dsimp only; omega)).trans kr3
  replace fr3 := (hb.frozen (p := ⟨w.heap.size, 3, none⟩) (by dsimp only; omega)).trans fr3
  replace zr := Nat.lt_of_lt_of_le zr hb.size
  replace HB := hide (bl_trans HB.out hb)
  clear hb
  have O1 := hide ho1
  have O2 := hide ho2
  have HAP := hide hap
  clear ho1 ho2 hap
  have yw3 : w2.heap.size + 1 ≤ (w2.alloc (Obj.cells #[Value.bool (sgn P), Value.slice a1 (lms P).length c1, Value.bool (sgn Q), Value.slice a2 (lms Q).length c2] 29)).heap.size := by simp only [World.size_alloc]; omega
  have hbn := (bl_alloc (bl_refl w2) (Obj.cells #[Value.bool (sgn P), Value.slice a1 (lms P).length c1, Value.bool (sgn Q), Value.slice a2 (lms Q).length c2] 29))
  replace kr0 := (hbn.cell (p := ⟨w.heap.size, 0, none⟩) (by dsimp only; omega)).trans kr0
  replace fr0 := (hbn.frozen (p := ⟨w.heap.size, 0, none⟩) (by dsimp only; omega)).trans fr0
  replace kr1 := (hbn.cell (p := ⟨w.heap.size, 1, none⟩) (by dsimp only; omega)).trans kr1
  replace fr1 := (hbn.frozen (p := ⟨w.heap.size, 1, none⟩) (by dsimp only; omega)).trans fr1
  replace kr2 := (hbn.cell (p := ⟨w.heap.size, 2, none⟩) (by dsimp only; omega)).trans kr2
  replace fr2 := (hbn.frozen (p := ⟨w.heap.size, 2, none⟩) (by dsimp only; omega)).trans fr2
  replace kr3 := (hbn.cell (p := ⟨w.heap.size, 3, none⟩) (by dsimp only; omega)).trans kr3
  replace fr3 := (hbn.frozen (p := ⟨w.heap.size, 3, none⟩) (by dsimp only; omega)).trans fr3
  replace O1 := hide (O1.out.below hbn)
  replace O2 := hide (O2.out.below hbn)
  replace zr := Nat.lt_of_lt_of_le zr hbn.size
  replace HB := hide (bl_trans HB.out hbn)
  clear hbn
  go_wp2
  refine bodyPost_ret (v := (.tuple #[.agg #[.bool false, .slice none 0 0, .bool false, .slice none 0 0], .bool false])) (by simp [results, Tryz.results11, go_sem, kr0, kr1, kr2, kr3]) rfl ?_
  exact ⟨rfl, set_four (Nat.le_refl _) HB.out _ _ _ _⟩

set_option maxHeartbeats 4000000 in
set_option maxRecDepth 20000 in
theorem rzNU (s D : ByteArray) (o : Option (Nat × Nat)) (P Q : Int) (w : World) (hs : s.size ≤ 400) (ho : rrS D.data.toList = o) (hP : rwN o = P) (hQ : rwD o = Q) (hr : s.toList.isEmpty = false) (h1 : 0 < s.size) (h45 : (s[0].toNat : Int) = 45) (hx : s.extract 1 s.size = D) (hz : D.size + 1 = s.size) (hF : o.isSome = true) (hf : ftT (-P) Q = false) (lP : (lms P).length ≤ 1000000) :
    Calls Tryz.prog 11 #[.string s] w fun e w' => e = .returned (.tuple #[.agg #[.bool false, .slice none 0 0, .bool false, .slice none 0 0], .bool false]) ∧ Below w.heap.size w w' := by
  have HO' := hide ho
  have HP' := hide hP
  have HQ' := hide hQ
  have HF' := hide hF
  have HFF := hide hf
  clear ho hP hQ hF hf
  have hs' : ¬ (400 : Int) < (s.size : Int) := by omega
  have hD4 : D.size ≤ 400 := by omega
  clear hz
  have h1' : (1 : Int) ≤ (s.size : Int) := by omega
  have HX := hide hx
  clear hx
  have kr0 : (w.alloc (Obj.cells #[Value.bool false, Value.slice none 0 0, Value.bool false, Value.slice none 0 0] 29)).cell? ⟨w.heap.size, 0, none⟩ = some (Value.bool false) := by go_simp
  have fr0 : (w.alloc (Obj.cells #[Value.bool false, Value.slice none 0 0, Value.bool false, Value.slice none 0 0] 29)).frozen? ⟨w.heap.size, 0, none⟩ = false := by go_simp
  have kr1 : (w.alloc (Obj.cells #[Value.bool false, Value.slice none 0 0, Value.bool false, Value.slice none 0 0] 29)).cell? ⟨w.heap.size, 1, none⟩ = some (Value.slice none 0 0) := by go_simp
  have fr1 : (w.alloc (Obj.cells #[Value.bool false, Value.slice none 0 0, Value.bool false, Value.slice none 0 0] 29)).frozen? ⟨w.heap.size, 1, none⟩ = false := by go_simp
  have kr2 : (w.alloc (Obj.cells #[Value.bool false, Value.slice none 0 0, Value.bool false, Value.slice none 0 0] 29)).cell? ⟨w.heap.size, 2, none⟩ = some (Value.bool false) := by go_simp
  have fr2 : (w.alloc (Obj.cells #[Value.bool false, Value.slice none 0 0, Value.bool false, Value.slice none 0 0] 29)).frozen? ⟨w.heap.size, 2, none⟩ = false := by go_simp
  have kr3 : (w.alloc (Obj.cells #[Value.bool false, Value.slice none 0 0, Value.bool false, Value.slice none 0 0] 29)).cell? ⟨w.heap.size, 3, none⟩ = some (Value.slice none 0 0) := by go_simp
  have fr3 : (w.alloc (Obj.cells #[Value.bool false, Value.slice none 0 0, Value.bool false, Value.slice none 0 0] 29)).frozen? ⟨w.heap.size, 3, none⟩ = false := by go_simp
  have zr : w.heap.size < (w.alloc (Obj.cells #[Value.bool false, Value.slice none 0 0, Value.bool false, Value.slice none 0 0] 29)).heap.size := by simp only [World.size_alloc]; omega
  have HB := hide (bl_alloc (bl_refl w) (Obj.cells #[Value.bool false, Value.slice none 0 0, Value.bool false, Value.slice none 0 0] 29))
  go_enter Tryz.func11, Tryz.ntmps11
  go_wp2_with fail
  generalize (w.alloc (Obj.cells #[Value.bool false, Value.slice none 0 0, Value.bool false, Value.slice none 0 0] 29)) = w1 at *
  have z0 := zr
  rw [HX.out]
  refine (readS0 D _ hD4).mono ?_
  rw [HO'.out]
  unfold RawAns
  rw [HP'.out, HQ'.out, HF'.out]
  rintro e w2 ⟨a1, c1, a2, c2, rfl, ho1, ho2, hap, hb⟩
  have yw2 := hb.size
  replace kr0 := (hb.cell (p := ⟨w.heap.size, 0, none⟩) (by dsimp only; omega)).trans kr0
  replace fr0 := (hb.frozen (p := ⟨w.heap.size, 0, none⟩) (by dsimp only; omega)).trans fr0
  replace kr1 := (hb.cell (p := ⟨w.heap.size, 1, none⟩) (by dsimp only; omega)).trans kr1
  replace fr1 := (hb.frozen (p := ⟨w.heap.size, 1, none⟩) (by dsimp only; omega)).trans fr1
  replace kr2 := (hb.cell (p := ⟨w.heap.size, 2, none⟩) (by dsimp only; omega)).trans kr2
  replace fr2 := (hb.frozen (p := ⟨w.heap.size, 2, none⟩) (by dsimp only; omega)).trans fr2
  replace kr3 := (hb.cell (p := ⟨w.heap.size, 3, none⟩) (by dsimp only; omega)).trans kr3
  replace fr3 := (hb.frozen (p := ⟨w.heap.size, 3, none⟩) (by dsimp only; omega)).trans fr3
  replace zr := Nat.lt_of_lt_of_le zr hb.size
  replace HB := hide (bl_trans HB.out hb)
  clear hb
  have O1 := hide ho1
  have O2 := hide ho2
  have HAP := hide hap
  clear ho1 ho2 hap
  have yw3 : w2.heap.size + 1 ≤ (w2.alloc (Obj.cells #[Value.bool (sgn P), Value.slice a1 (lms P).length c1, Value.bool (sgn Q), Value.slice a2 (lms Q).length c2] 29)).heap.size := by simp only [World.size_alloc]; omega
  have kd0 : (w2.alloc (Obj.cells #[Value.bool (sgn P), Value.slice a1 (lms P).length c1, Value.bool (sgn Q), Value.slice a2 (lms Q).length c2] 29)).cell? ⟨w2.heap.size, 0, none⟩ = some (Value.bool (sgn P)) := by go_simp
  have kd1 : (w2.alloc (Obj.cells #[Value.bool (sgn P), Value.slice a1 (lms P).length c1, Value.bool (sgn Q), Value.slice a2 (lms Q).length c2] 29)).cell? ⟨w2.heap.size, 1, none⟩ = some (Value.slice a1 (lms P).length c1) := by go_simp
  have kd2 : (w2.alloc (Obj.cells #[Value.bool (sgn P), Value.slice a1 (lms P).length c1, Value.bool (sgn Q), Value.slice a2 (lms Q).length c2] 29)).cell? ⟨w2.heap.size, 2, none⟩ = some (Value.bool (sgn Q)) := by go_simp
  have kd3 : (w2.alloc (Obj.cells #[Value.bool (sgn P), Value.slice a1 (lms P).length c1, Value.bool (sgn Q), Value.slice a2 (lms Q).length c2] 29)).cell? ⟨w2.heap.size, 3, none⟩ = some (Value.slice a2 (lms Q).length c2) := by go_simp
  have hbn := (bl_alloc (bl_refl w2) (Obj.cells #[Value.bool (sgn P), Value.slice a1 (lms P).length c1, Value.bool (sgn Q), Value.slice a2 (lms Q).length c2] 29))
  replace kr0 := (hbn.cell (p := ⟨w.heap.size, 0, none⟩) (by dsimp only; omega)).trans kr0
  replace fr0 := (hbn.frozen (p := ⟨w.heap.size, 0, none⟩) (by dsimp only; omega)).trans fr0
  replace kr1 := (hbn.cell (p := ⟨w.heap.size, 1, none⟩) (by dsimp only; omega)).trans kr1
  replace fr1 := (hbn.frozen (p := ⟨w.heap.size, 1, none⟩) (by dsimp only; omega)).trans fr1
  replace kr2 := (hbn.cell (p := ⟨w.heap.size, 2, none⟩) (by dsimp only; omega)).trans kr2
  replace fr2 := (hbn.frozen (p := ⟨w.heap.size, 2, none⟩) (by dsimp only; omega)).trans fr2
  replace kr3 := (hbn.cell (p := ⟨w.heap.size, 3, none⟩) (by dsimp only; omega)).trans kr3
  replace fr3 := (hbn.frozen (p := ⟨w.heap.size, 3, none⟩) (by dsimp only; omega)).trans fr3
  replace O1 := hide (O1.out.below hbn)
  replace O2 := hide (O2.out.below hbn)
  replace zr := Nat.lt_of_lt_of_le zr hbn.size
  replace HB := hide (bl_trans HB.out hbn)
  clear hbn
  go_wp2_with fail
  generalize (w2.alloc (Obj.cells #[Value.bool (sgn P), Value.slice a1 (lms P).length c1, Value.bool (sgn Q), Value.slice a2 (lms Q).length c2] 29)) = w3 at *
  refine (negRS P Q a1 c1 a2 c2 _ lP O1.out.seg O2.out.seg).mono ?_
  rintro e w4 ⟨u, v, rfl, hu, hb⟩
  have yw4 := hb.size
  have HAU := hide (Apart.symm (apart_own O2.out hu))
  replace kr0 := (hb.cell (p := ⟨w.heap.size, 0, none⟩) (by dsimp only; omega)).trans kr0
  replace fr0 := (hb.frozen (p := ⟨w.heap.size, 0, none⟩) (by dsimp only; omega)).trans fr0
  replace kr1 := (hb.cell (p := ⟨w.heap.size, 1, none⟩) (by dsimp only; omega)).trans kr1
  replace fr1 := (hb.frozen (p := ⟨w.heap.size, 1, none⟩) (by dsimp only; omega)).trans fr1
  replace kr2 := (hb.cell (p := ⟨w.heap.size, 2, none⟩) (by dsimp only; omega)).trans kr2
  replace fr2 := (hb.frozen (p := ⟨w.heap.size, 2, none⟩) (by dsimp only; omega)).trans fr2
  replace kr3 := (hb.cell (p := ⟨w.heap.size, 3, none⟩) (by dsimp only; omega)).trans kr3
  replace fr3 := (hb.frozen (p := ⟨w.heap.size, 3, none⟩) (by dsimp only; omega)).trans fr3
  replace kd0 := (hb.cell (p := ⟨w2.heap.size, 0, none⟩) (by dsimp only; omega)).trans kd0
  replace kd1 := (hb.cell (p := ⟨w2.heap.size, 1, none⟩) (by dsimp only; omega)).trans kd1
  replace kd2 := (hb.cell (p := ⟨w2.heap.size, 2, none⟩) (by dsimp only; omega)).trans kd2
  replace kd3 := (hb.cell (p := ⟨w2.heap.size, 3, none⟩) (by dsimp only; omega)).trans kd3
  replace O1 := hide (O1.out.below hb)
  replace O2 := hide (O2.out.below hb)
  replace zr := Nat.lt_of_lt_of_le zr hb.size
  replace HB := hide (bl_trans HB.out hb)
  clear hb
  have OU := hide hu
  clear hu
  go_wp2_with fail
  refine (fitS_f (-P) Q u v a2 c2 _ OU.out.seg O2.out.seg HFF.out).mono ?_
  rintro e w5 ⟨rfl, hb⟩
  have yw5 := hb.size
  replace kr0 := (hb.cell (p := ⟨w.heap.size, 0, none⟩) (by dsimp only; omega)).trans kr0
  replace fr0 := (hb.frozen (p := ⟨w.heap.size, 0, none⟩) (by dsimp only; omega)).trans fr0
  replace kr1 := (hb.cell (p := ⟨w.heap.size, 1, none⟩) (by dsimp only; omega)).trans kr1
  replace fr1 := (hb.frozen (p := ⟨w.heap.size, 1, none⟩) (by dsimp only; omega)).trans fr1
  replace kr2 := (hb.cell (p := ⟨w.heap.size, 2, none⟩) (by dsimp only; omega)).trans kr2
  replace fr2 := (hb.frozen (p := ⟨w.heap.size, 2, none⟩) (by dsimp only; omega)).trans fr2
  replace kr3 := (hb.cell (p := ⟨w.heap.size, 3, none⟩) (by dsimp only; omega)).trans kr3
  replace fr3 := (hb.frozen (p := ⟨w.heap.size, 3, none⟩) (by dsimp only; omega)).trans fr3
  replace kd0 := (hb.cell (p := ⟨w2.heap.size, 0, none⟩) (by dsimp only; omega)).trans kd0
  replace kd1 := (hb.cell (p := ⟨w2.heap.size, 1, none⟩) (by dsimp only; omega)).trans kd1
  replace kd2 := (hb.cell (p := ⟨w2.heap.size, 2, none⟩) (by dsimp only; omega)).trans kd2
  replace kd3 := (hb.cell (p := ⟨w2.heap.size, 3, none⟩) (by dsimp only; omega)).trans kd3
  replace O1 := hide (O1.out.below hb)
  replace O2 := hide (O2.out.below hb)
  replace OU := hide (OU.out.below hb)
  replace zr := Nat.lt_of_lt_of_le zr hb.size
  replace HB := hide (bl_trans HB.out hb)
  clear hb
  go_wp2
  refine bodyPost_ret (v := (.tuple #[.agg #[.bool false, .slice none 0 0, .bool false, .slice none 0 0], .bool false])) (by simp [results, Tryz.results11, go_sem, kr0, kr1, kr2, kr3]) rfl ?_
  exact ⟨rfl, set_four (Nat.le_refl _) HB.out _ _ _ _⟩

set_option maxHeartbeats 4000000 in
set_option maxRecDepth 20000 in
theorem rzNF (s D : ByteArray) (o : Option (Nat × Nat)) (P Q : Int) (w : World) (hs : s.size ≤ 400) (ho : rrS D.data.toList = o) (hP : rwN o = P) (hQ : rwD o = Q) (hr : s.toList.isEmpty = false) (h1 : 0 < s.size) (h45 : (s[0].toNat : Int) = 45) (hx : s.extract 1 s.size = D) (hz : D.size + 1 = s.size) (hF : o.isSome = true) (hf : ftT (-P) Q = true) (lP : (lms P).length ≤ 1000000) :
    Calls Tryz.prog 11 #[.string s] w fun e w' => ∃ b1 e1 b2 e2, e = .returned (.tuple #[.agg #[.bool (sgn (-P)), .slice b1 (lms (-P)).length e1, .bool (sgn Q), .slice b2 (lms Q).length e2], .bool true]) ∧ Own w' w.heap.size b1 (lms (-P)).length e1 (lms (-P)) ∧ Own w' w.heap.size b2 (lms Q).length e2 (lms Q) ∧ Apart b1 b2 ∧ Below w.heap.size w w' := by
  have HO' := hide ho
  have HP' := hide hP
  have HQ' := hide hQ
  have HF' := hide hF
  have HFF := hide hf
  clear ho hP hQ hF hf
  have hs' : ¬ (400 : Int) < (s.size : Int) := by omega
  have hD4 : D.size ≤ 400 := by omega
  clear hz
  have h1' : (1 : Int) ≤ (s.size : Int) := by omega
  have HX := hide hx
  clear hx
  have kr0 : (w.alloc (Obj.cells #[Value.bool false, Value.slice none 0 0, Value.bool false, Value.slice none 0 0] 29)).cell? ⟨w.heap.size, 0, none⟩ = some (Value.bool false) := by go_simp
  have fr0 : (w.alloc (Obj.cells #[Value.bool false, Value.slice none 0 0, Value.bool false, Value.slice none 0 0] 29)).frozen? ⟨w.heap.size, 0, none⟩ = false := by go_simp
  have kr1 : (w.alloc (Obj.cells #[Value.bool false, Value.slice none 0 0, Value.bool false, Value.slice none 0 0] 29)).cell? ⟨w.heap.size, 1, none⟩ = some (Value.slice none 0 0) := by go_simp
  have fr1 : (w.alloc (Obj.cells #[Value.bool false, Value.slice none 0 0, Value.bool false, Value.slice none 0 0] 29)).frozen? ⟨w.heap.size, 1, none⟩ = false := by go_simp
  have kr2 : (w.alloc (Obj.cells #[Value.bool false, Value.slice none 0 0, Value.bool false, Value.slice none 0 0] 29)).cell? ⟨w.heap.size, 2, none⟩ = some (Value.bool false) := by go_simp
  have fr2 : (w.alloc (Obj.cells #[Value.bool false, Value.slice none 0 0, Value.bool false, Value.slice none 0 0] 29)).frozen? ⟨w.heap.size, 2, none⟩ = false := by go_simp
  have kr3 : (w.alloc (Obj.cells #[Value.bool false, Value.slice none 0 0, Value.bool false, Value.slice none 0 0] 29)).cell? ⟨w.heap.size, 3, none⟩ = some (Value.slice none 0 0) := by go_simp
  have fr3 : (w.alloc (Obj.cells #[Value.bool false, Value.slice none 0 0, Value.bool false, Value.slice none 0 0] 29)).frozen? ⟨w.heap.size, 3, none⟩ = false := by go_simp
  have zr : w.heap.size < (w.alloc (Obj.cells #[Value.bool false, Value.slice none 0 0, Value.bool false, Value.slice none 0 0] 29)).heap.size := by simp only [World.size_alloc]; omega
  have HB := hide (bl_alloc (bl_refl w) (Obj.cells #[Value.bool false, Value.slice none 0 0, Value.bool false, Value.slice none 0 0] 29))
  go_enter Tryz.func11, Tryz.ntmps11
  go_wp2_with fail
  generalize (w.alloc (Obj.cells #[Value.bool false, Value.slice none 0 0, Value.bool false, Value.slice none 0 0] 29)) = w1 at *
  have z0 := zr
  rw [HX.out]
  refine (readS0 D _ hD4).mono ?_
  rw [HO'.out]
  unfold RawAns
  rw [HP'.out, HQ'.out, HF'.out]
  rintro e w2 ⟨a1, c1, a2, c2, rfl, ho1, ho2, hap, hb⟩
  have yw2 := hb.size
  replace kr0 := (hb.cell (p := ⟨w.heap.size, 0, none⟩) (by dsimp only; omega)).trans kr0
  replace fr0 := (hb.frozen (p := ⟨w.heap.size, 0, none⟩) (by dsimp only; omega)).trans fr0
  replace kr1 := (hb.cell (p := ⟨w.heap.size, 1, none⟩) (by dsimp only; omega)).trans kr1
  replace fr1 := (hb.frozen (p := ⟨w.heap.size, 1, none⟩) (by dsimp only; omega)).trans fr1
  replace kr2 := (hb.cell (p := ⟨w.heap.size, 2, none⟩) (by dsimp only; omega)).trans kr2
  replace fr2 := (hb.frozen (p := ⟨w.heap.size, 2, none⟩) (by dsimp only; omega)).trans fr2
  replace kr3 := (hb.cell (p := ⟨w.heap.size, 3, none⟩) (by dsimp only; omega)).trans kr3
  replace fr3 := (hb.frozen (p := ⟨w.heap.size, 3, none⟩) (by dsimp only; omega)).trans fr3
  replace zr := Nat.lt_of_lt_of_le zr hb.size
  replace HB := hide (bl_trans HB.out hb)
  clear hb
  have O1 := hide ho1
  have O2 := hide ho2
  have HAP := hide hap
  clear ho1 ho2 hap
  have yw3 : w2.heap.size + 1 ≤ (w2.alloc (Obj.cells #[Value.bool (sgn P), Value.slice a1 (lms P).length c1, Value.bool (sgn Q), Value.slice a2 (lms Q).length c2] 29)).heap.size := by simp only [World.size_alloc]; omega
  have kd0 : (w2.alloc (Obj.cells #[Value.bool (sgn P), Value.slice a1 (lms P).length c1, Value.bool (sgn Q), Value.slice a2 (lms Q).length c2] 29)).cell? ⟨w2.heap.size, 0, none⟩ = some (Value.bool (sgn P)) := by go_simp
  have kd1 : (w2.alloc (Obj.cells #[Value.bool (sgn P), Value.slice a1 (lms P).length c1, Value.bool (sgn Q), Value.slice a2 (lms Q).length c2] 29)).cell? ⟨w2.heap.size, 1, none⟩ = some (Value.slice a1 (lms P).length c1) := by go_simp
  have kd2 : (w2.alloc (Obj.cells #[Value.bool (sgn P), Value.slice a1 (lms P).length c1, Value.bool (sgn Q), Value.slice a2 (lms Q).length c2] 29)).cell? ⟨w2.heap.size, 2, none⟩ = some (Value.bool (sgn Q)) := by go_simp
  have kd3 : (w2.alloc (Obj.cells #[Value.bool (sgn P), Value.slice a1 (lms P).length c1, Value.bool (sgn Q), Value.slice a2 (lms Q).length c2] 29)).cell? ⟨w2.heap.size, 3, none⟩ = some (Value.slice a2 (lms Q).length c2) := by go_simp
  have hbn := (bl_alloc (bl_refl w2) (Obj.cells #[Value.bool (sgn P), Value.slice a1 (lms P).length c1, Value.bool (sgn Q), Value.slice a2 (lms Q).length c2] 29))
  replace kr0 := (hbn.cell (p := ⟨w.heap.size, 0, none⟩) (by dsimp only; omega)).trans kr0
  replace fr0 := (hbn.frozen (p := ⟨w.heap.size, 0, none⟩) (by dsimp only; omega)).trans fr0
  replace kr1 := (hbn.cell (p := ⟨w.heap.size, 1, none⟩) (by dsimp only; omega)).trans kr1
  replace fr1 := (hbn.frozen (p := ⟨w.heap.size, 1, none⟩) (by dsimp only; omega)).trans fr1
  replace kr2 := (hbn.cell (p := ⟨w.heap.size, 2, none⟩) (by dsimp only; omega)).trans kr2
  replace fr2 := (hbn.frozen (p := ⟨w.heap.size, 2, none⟩) (by dsimp only; omega)).trans fr2
  replace kr3 := (hbn.cell (p := ⟨w.heap.size, 3, none⟩) (by dsimp only; omega)).trans kr3
  replace fr3 := (hbn.frozen (p := ⟨w.heap.size, 3, none⟩) (by dsimp only; omega)).trans fr3
  replace O1 := hide (O1.out.below hbn)
  replace O2 := hide (O2.out.below hbn)
  replace zr := Nat.lt_of_lt_of_le zr hbn.size
  replace HB := hide (bl_trans HB.out hbn)
  clear hbn
  go_wp2_with fail
  generalize (w2.alloc (Obj.cells #[Value.bool (sgn P), Value.slice a1 (lms P).length c1, Value.bool (sgn Q), Value.slice a2 (lms Q).length c2] 29)) = w3 at *
  refine (negRS P Q a1 c1 a2 c2 _ lP O1.out.seg O2.out.seg).mono ?_
  rintro e w4 ⟨u, v, rfl, hu, hb⟩
  have yw4 := hb.size
  have HAU := hide (Apart.symm (apart_own O2.out hu))
  replace kr0 := (hb.cell (p := ⟨w.heap.size, 0, none⟩) (by dsimp only; omega)).trans kr0
  replace fr0 := (hb.frozen (p := ⟨w.heap.size, 0, none⟩) (by dsimp only; omega)).trans fr0
  replace kr1 := (hb.cell (p := ⟨w.heap.size, 1, none⟩) (by dsimp only; omega)).trans kr1
  replace fr1 := (hb.frozen (p := ⟨w.heap.size, 1, none⟩) (by dsimp only; omega)).trans fr1
  replace kr2 := (hb.cell (p := ⟨w.heap.size, 2, none⟩) (by dsimp only; omega)).trans kr2
  replace fr2 := (hb.frozen (p := ⟨w.heap.size, 2, none⟩) (by dsimp only; omega)).trans fr2
  replace kr3 := (hb.cell (p := ⟨w.heap.size, 3, none⟩) (by dsimp only; omega)).trans kr3
  replace fr3 := (hb.frozen (p := ⟨w.heap.size, 3, none⟩) (by dsimp only; omega)).trans fr3
  replace kd0 := (hb.cell (p := ⟨w2.heap.size, 0, none⟩) (by dsimp only; omega)).trans kd0
  replace kd1 := (hb.cell (p := ⟨w2.heap.size, 1, none⟩) (by dsimp only; omega)).trans kd1
  replace kd2 := (hb.cell (p := ⟨w2.heap.size, 2, none⟩) (by dsimp only; omega)).trans kd2
  replace kd3 := (hb.cell (p := ⟨w2.heap.size, 3, none⟩) (by dsimp only; omega)).trans kd3
  replace O1 := hide (O1.out.below hb)
  replace O2 := hide (O2.out.below hb)
  replace zr := Nat.lt_of_lt_of_le zr hb.size
  replace HB := hide (bl_trans HB.out hb)
  clear hb
  have OU := hide hu
  clear hu
  go_wp2_with fail
  refine (fitS_t (-P) Q u v a2 c2 _ OU.out.seg O2.out.seg HFF.out).mono ?_
  rintro e w5 ⟨rfl, hb⟩
  have yw5 := hb.size
  replace kr0 := (hb.cell (p := ⟨w.heap.size, 0, none⟩) (by dsimp only; omega)).trans kr0
  replace fr0 := (hb.frozen (p := ⟨w.heap.size, 0, none⟩) (by dsimp only; omega)).trans fr0
  replace kr1 := (hb.cell (p := ⟨w.heap.size, 1, none⟩) (by dsimp only; omega)).trans kr1
  replace fr1 := (hb.frozen (p := ⟨w.heap.size, 1, none⟩) (by dsimp only; omega)).trans fr1
  replace kr2 := (hb.cell (p := ⟨w.heap.size, 2, none⟩) (by dsimp only; omega)).trans kr2
  replace fr2 := (hb.frozen (p := ⟨w.heap.size, 2, none⟩) (by dsimp only; omega)).trans fr2
  replace kr3 := (hb.cell (p := ⟨w.heap.size, 3, none⟩) (by dsimp only; omega)).trans kr3
  replace fr3 := (hb.frozen (p := ⟨w.heap.size, 3, none⟩) (by dsimp only; omega)).trans fr3
  replace kd0 := (hb.cell (p := ⟨w2.heap.size, 0, none⟩) (by dsimp only; omega)).trans kd0
  replace kd1 := (hb.cell (p := ⟨w2.heap.size, 1, none⟩) (by dsimp only; omega)).trans kd1
  replace kd2 := (hb.cell (p := ⟨w2.heap.size, 2, none⟩) (by dsimp only; omega)).trans kd2
  replace kd3 := (hb.cell (p := ⟨w2.heap.size, 3, none⟩) (by dsimp only; omega)).trans kd3
  replace O1 := hide (O1.out.below hb)
  replace O2 := hide (O2.out.below hb)
  replace OU := hide (OU.out.below hb)
  replace zr := Nat.lt_of_lt_of_le zr hb.size
  replace HB := hide (bl_trans HB.out hb)
  clear hb
  go_wp2
  refine bodyPost_ret (v := (.tuple #[Value.agg #[Value.bool (sgn (-P)), Value.slice u (lms (-P)).length v, Value.bool (sgn Q), Value.slice a2 (lms Q).length c2], .bool true])) (by simp [results, Tryz.results11, go_sem, kr0, kr1, kr2, kr3]) rfl ?_
  have h1 := own_four' (lo := w.heap.size) OU.out (show w.heap.size < _ by omega) (by omega) (Value.bool (sgn (-P))) (Value.slice u (lms (-P)).length v) (Value.bool (sgn Q)) (Value.slice a2 (lms Q).length c2)
  have h2 := own_four' (lo := w.heap.size) O2.out (show w.heap.size < _ by omega) (by omega) (Value.bool (sgn (-P))) (Value.slice u (lms (-P)).length v) (Value.bool (sgn Q)) (Value.slice a2 (lms Q).length c2)
  exact ⟨_, _, _, _, rfl, h1, h2, HAU.out, set_four (Nat.le_refl _) HB.out _ _ _ _⟩

set_option maxHeartbeats 4000000 in
set_option maxRecDepth 20000 in
theorem rzPN (s D : ByteArray) (o : Option (Nat × Nat)) (P Q : Int) (w : World) (hs : s.size ≤ 400) (ho : rrS D.data.toList = o) (hP : rwN o = P) (hQ : rwD o = Q) (hr : s.toList.isEmpty = false) (h1 : 0 < s.size) (h45 : ((s[0].toNat : Int) == 45) = false) (hx : s = D) (hF : o.isSome = false) :
    Calls Tryz.prog 11 #[.string s] w fun e w' => e = .returned (.tuple #[.agg #[.bool false, .slice none 0 0, .bool false, .slice none 0 0], .bool false]) ∧ Below w.heap.size w w' := by
  have HO' := hide ho
  have HP' := hide hP
  have HQ' := hide hQ
  have HF' := hide hF
  clear ho hP hQ hF
  have hs' : ¬ (400 : Int) < (s.size : Int) := by omega
  subst hx
  have kr0 : (w.alloc (Obj.cells #[Value.bool false, Value.slice none 0 0, Value.bool false, Value.slice none 0 0] 29)).cell? ⟨w.heap.size, 0, none⟩ = some (Value.bool false) := by go_simp
  have fr0 : (w.alloc (Obj.cells #[Value.bool false, Value.slice none 0 0, Value.bool false, Value.slice none 0 0] 29)).frozen? ⟨w.heap.size, 0, none⟩ = false := by go_simp
  have kr1 : (w.alloc (Obj.cells #[Value.bool false, Value.slice none 0 0, Value.bool false, Value.slice none 0 0] 29)).cell? ⟨w.heap.size, 1, none⟩ = some (Value.slice none 0 0) := by go_simp
  have fr1 : (w.alloc (Obj.cells #[Value.bool false, Value.slice none 0 0, Value.bool false, Value.slice none 0 0] 29)).frozen? ⟨w.heap.size, 1, none⟩ = false := by go_simp
  have kr2 : (w.alloc (Obj.cells #[Value.bool false, Value.slice none 0 0, Value.bool false, Value.slice none 0 0] 29)).cell? ⟨w.heap.size, 2, none⟩ = some (Value.bool false) := by go_simp
  have fr2 : (w.alloc (Obj.cells #[Value.bool false, Value.slice none 0 0, Value.bool false, Value.slice none 0 0] 29)).frozen? ⟨w.heap.size, 2, none⟩ = false := by go_simp
  have kr3 : (w.alloc (Obj.cells #[Value.bool false, Value.slice none 0 0, Value.bool false, Value.slice none 0 0] 29)).cell? ⟨w.heap.size, 3, none⟩ = some (Value.slice none 0 0) := by go_simp
  have fr3 : (w.alloc (Obj.cells #[Value.bool false, Value.slice none 0 0, Value.bool false, Value.slice none 0 0] 29)).frozen? ⟨w.heap.size, 3, none⟩ = false := by go_simp
  have zr : w.heap.size < (w.alloc (Obj.cells #[Value.bool false, Value.slice none 0 0, Value.bool false, Value.slice none 0 0] 29)).heap.size := by simp only [World.size_alloc]; omega
  have HB := hide (bl_alloc (bl_refl w) (Obj.cells #[Value.bool false, Value.slice none 0 0, Value.bool false, Value.slice none 0 0] 29))
  go_enter Tryz.func11, Tryz.ntmps11
  go_wp2_with fail
  generalize (w.alloc (Obj.cells #[Value.bool false, Value.slice none 0 0, Value.bool false, Value.slice none 0 0] 29)) = w1 at *
  have z0 := zr
  refine (readS0 s _ hs).mono ?_
  rw [HO'.out]
  unfold RawAns
  rw [HP'.out, HQ'.out, HF'.out]
  rintro e w2 ⟨a1, c1, a2, c2, rfl, ho1, ho2, hap, hb⟩
  have yw2 := hb.size
  replace kr0 := (hb.cell (p := ⟨w.heap.size, 0, none⟩) (by dsimp only; omega)).trans kr0
  replace fr0 := (hb.frozen (p := ⟨w.heap.size, 0, none⟩) (by dsimp only; omega)).trans fr0
  replace kr1 := (hb.cell (p := ⟨w.heap.size, 1, none⟩) (by dsimp only; omega)).trans kr1
  replace fr1 := (hb.frozen (p := ⟨w.heap.size, 1, none⟩) (by dsimp only; omega)).trans fr1
  replace kr2 := (hb.cell (p := ⟨w.heap.size, 2, none⟩) (by dsimp only; omega)).trans kr2
  replace fr2 := (hb.frozen (p := ⟨w.heap.size, 2, none⟩) (by dsimp only; omega)).trans fr2
  replace kr3 := (hb.cell (p := ⟨w.heap.size, 3, none⟩) (by dsimp only; omega)).trans kr3
  replace fr3 := (hb.frozen (p := ⟨w.heap.size, 3, none⟩) (by dsimp only; omega)).trans fr3
  replace zr := Nat.lt_of_lt_of_le zr hb.size
  replace HB := hide (bl_trans HB.out hb)
  clear hb
  have O1 := hide ho1
  have O2 := hide ho2
  have HAP := hide hap
  clear ho1 ho2 hap
  have yw3 : w2.heap.size + 1 ≤ (w2.alloc (Obj.cells #[Value.bool (sgn P), Value.slice a1 (lms P).length c1, Value.bool (sgn Q), Value.slice a2 (lms Q).length c2] 29)).heap.size := by simp only [World.size_alloc]; omega
  have hbn := (bl_alloc (bl_refl w2) (Obj.cells #[Value.bool (sgn P), Value.slice a1 (lms P).length c1, Value.bool (sgn Q), Value.slice a2 (lms Q).length c2] 29))
  replace kr0 := (hbn.cell (p := ⟨w.heap.size, 0, none⟩) (by dsimp only; omega)).trans kr0
  replace fr0 := (hbn.frozen (p := ⟨w.heap.size, 0, none⟩) (by dsimp only; omega)).trans fr0
  replace kr1 := (hbn.cell (p := ⟨w.heap.size, 1, none⟩) (by dsimp only; omega)).trans kr1
  replace fr1 := (hbn.frozen (p := ⟨w.heap.size, 1, none⟩) (by dsimp only; omega)).trans fr1
  replace kr2 := (hbn.cell (p := ⟨w.heap.size, 2, none⟩) (by dsimp only; omega)).trans kr2
  replace fr2 := (hbn.frozen (p := ⟨w.heap.size, 2, none⟩) (by dsimp only; omega)).trans fr2
  replace kr3 := (hbn.cell (p := ⟨w.heap.size, 3, none⟩) (by dsimp only; omega)).trans kr3
  replace fr3 := (hbn.frozen (p := ⟨w.heap.size, 3, none⟩) (by dsimp only; omega)).trans fr3
  replace O1 := hide (O1.out.below hbn)
  replace O2 := hide (O2.out.below hbn)
  replace zr := Nat.lt_of_lt_of_le zr hbn.size
  replace HB := hide (bl_trans HB.out hbn)
  clear hbn
  go_wp2
  refine bodyPost_ret (v := (.tuple #[.agg #[.bool false, .slice none 0 0, .bool false, .slice none 0 0], .bool false])) (by simp [results, Tryz.results11, go_sem, kr0, kr1, kr2, kr3]) rfl ?_
  exact ⟨rfl, set_four (Nat.le_refl _) HB.out _ _ _ _⟩

set_option maxHeartbeats 4000000 in
set_option maxRecDepth 20000 in
theorem rzPU (s D : ByteArray) (o : Option (Nat × Nat)) (P Q : Int) (w : World) (hs : s.size ≤ 400) (ho : rrS D.data.toList = o) (hP : rwN o = P) (hQ : rwD o = Q) (hr : s.toList.isEmpty = false) (h1 : 0 < s.size) (h45 : ((s[0].toNat : Int) == 45) = false) (hx : s = D) (hF : o.isSome = true) (hf : ftT P Q = false) :
    Calls Tryz.prog 11 #[.string s] w fun e w' => e = .returned (.tuple #[.agg #[.bool false, .slice none 0 0, .bool false, .slice none 0 0], .bool false]) ∧ Below w.heap.size w w' := by
  have HO' := hide ho
  have HP' := hide hP
  have HQ' := hide hQ
  have HF' := hide hF
  have HFF := hide hf
  clear ho hP hQ hF hf
  have hs' : ¬ (400 : Int) < (s.size : Int) := by omega
  subst hx
  have kr0 : (w.alloc (Obj.cells #[Value.bool false, Value.slice none 0 0, Value.bool false, Value.slice none 0 0] 29)).cell? ⟨w.heap.size, 0, none⟩ = some (Value.bool false) := by go_simp
  have fr0 : (w.alloc (Obj.cells #[Value.bool false, Value.slice none 0 0, Value.bool false, Value.slice none 0 0] 29)).frozen? ⟨w.heap.size, 0, none⟩ = false := by go_simp
  have kr1 : (w.alloc (Obj.cells #[Value.bool false, Value.slice none 0 0, Value.bool false, Value.slice none 0 0] 29)).cell? ⟨w.heap.size, 1, none⟩ = some (Value.slice none 0 0) := by go_simp
  have fr1 : (w.alloc (Obj.cells #[Value.bool false, Value.slice none 0 0, Value.bool false, Value.slice none 0 0] 29)).frozen? ⟨w.heap.size, 1, none⟩ = false := by go_simp
  have kr2 : (w.alloc (Obj.cells #[Value.bool false, Value.slice none 0 0, Value.bool false, Value.slice none 0 0] 29)).cell? ⟨w.heap.size, 2, none⟩ = some (Value.bool false) := by go_simp
  have fr2 : (w.alloc (Obj.cells #[Value.bool false, Value.slice none 0 0, Value.bool false, Value.slice none 0 0] 29)).frozen? ⟨w.heap.size, 2, none⟩ = false := by go_simp
  have kr3 : (w.alloc (Obj.cells #[Value.bool false, Value.slice none 0 0, Value.bool false, Value.slice none 0 0] 29)).cell? ⟨w.heap.size, 3, none⟩ = some (Value.slice none 0 0) := by go_simp
  have fr3 : (w.alloc (Obj.cells #[Value.bool false, Value.slice none 0 0, Value.bool false, Value.slice none 0 0] 29)).frozen? ⟨w.heap.size, 3, none⟩ = false := by go_simp
  have zr : w.heap.size < (w.alloc (Obj.cells #[Value.bool false, Value.slice none 0 0, Value.bool false, Value.slice none 0 0] 29)).heap.size := by simp only [World.size_alloc]; omega
  have HB := hide (bl_alloc (bl_refl w) (Obj.cells #[Value.bool false, Value.slice none 0 0, Value.bool false, Value.slice none 0 0] 29))
  go_enter Tryz.func11, Tryz.ntmps11
  go_wp2_with fail
  generalize (w.alloc (Obj.cells #[Value.bool false, Value.slice none 0 0, Value.bool false, Value.slice none 0 0] 29)) = w1 at *
  have z0 := zr
  refine (readS0 s _ hs).mono ?_
  rw [HO'.out]
  unfold RawAns
  rw [HP'.out, HQ'.out, HF'.out]
  rintro e w2 ⟨a1, c1, a2, c2, rfl, ho1, ho2, hap, hb⟩
  have yw2 := hb.size
  replace kr0 := (hb.cell (p := ⟨w.heap.size, 0, none⟩) (by dsimp only; omega)).trans kr0
  replace fr0 := (hb.frozen (p := ⟨w.heap.size, 0, none⟩) (by dsimp only; omega)).trans fr0
  replace kr1 := (hb.cell (p := ⟨w.heap.size, 1, none⟩) (by dsimp only; omega)).trans kr1
  replace fr1 := (hb.frozen (p := ⟨w.heap.size, 1, none⟩) (by dsimp only; omega)).trans fr1
  replace kr2 := (hb.cell (p := ⟨w.heap.size, 2, none⟩) (by dsimp only; omega)).trans kr2
  replace fr2 := (hb.frozen (p := ⟨w.heap.size, 2, none⟩) (by dsimp only; omega)).trans fr2
  replace kr3 := (hb.cell (p := ⟨w.heap.size, 3, none⟩) (by dsimp only; omega)).trans kr3
  replace fr3 := (hb.frozen (p := ⟨w.heap.size, 3, none⟩) (by dsimp only; omega)).trans fr3
  replace zr := Nat.lt_of_lt_of_le zr hb.size
  replace HB := hide (bl_trans HB.out hb)
  clear hb
  have O1 := hide ho1
  have O2 := hide ho2
  have HAP := hide hap
  clear ho1 ho2 hap
  have yw3 : w2.heap.size + 1 ≤ (w2.alloc (Obj.cells #[Value.bool (sgn P), Value.slice a1 (lms P).length c1, Value.bool (sgn Q), Value.slice a2 (lms Q).length c2] 29)).heap.size := by simp only [World.size_alloc]; omega
  have kd0 : (w2.alloc (Obj.cells #[Value.bool (sgn P), Value.slice a1 (lms P).length c1, Value.bool (sgn Q), Value.slice a2 (lms Q).length c2] 29)).cell? ⟨w2.heap.size, 0, none⟩ = some (Value.bool (sgn P)) := by go_simp
  have kd1 : (w2.alloc (Obj.cells #[Value.bool (sgn P), Value.slice a1 (lms P).length c1, Value.bool (sgn Q), Value.slice a2 (lms Q).length c2] 29)).cell? ⟨w2.heap.size, 1, none⟩ = some (Value.slice a1 (lms P).length c1) := by go_simp
  have kd2 : (w2.alloc (Obj.cells #[Value.bool (sgn P), Value.slice a1 (lms P).length c1, Value.bool (sgn Q), Value.slice a2 (lms Q).length c2] 29)).cell? ⟨w2.heap.size, 2, none⟩ = some (Value.bool (sgn Q)) := by go_simp
  have kd3 : (w2.alloc (Obj.cells #[Value.bool (sgn P), Value.slice a1 (lms P).length c1, Value.bool (sgn Q), Value.slice a2 (lms Q).length c2] 29)).cell? ⟨w2.heap.size, 3, none⟩ = some (Value.slice a2 (lms Q).length c2) := by go_simp
  have hbn := (bl_alloc (bl_refl w2) (Obj.cells #[Value.bool (sgn P), Value.slice a1 (lms P).length c1, Value.bool (sgn Q), Value.slice a2 (lms Q).length c2] 29))
  replace kr0 := (hbn.cell (p := ⟨w.heap.size, 0, none⟩) (by dsimp only; omega)).trans kr0
  replace fr0 := (hbn.frozen (p := ⟨w.heap.size, 0, none⟩) (by dsimp only; omega)).trans fr0
  replace kr1 := (hbn.cell (p := ⟨w.heap.size, 1, none⟩) (by dsimp only; omega)).trans kr1
  replace fr1 := (hbn.frozen (p := ⟨w.heap.size, 1, none⟩) (by dsimp only; omega)).trans fr1
  replace kr2 := (hbn.cell (p := ⟨w.heap.size, 2, none⟩) (by dsimp only; omega)).trans kr2
  replace fr2 := (hbn.frozen (p := ⟨w.heap.size, 2, none⟩) (by dsimp only; omega)).trans fr2
  replace kr3 := (hbn.cell (p := ⟨w.heap.size, 3, none⟩) (by dsimp only; omega)).trans kr3
  replace fr3 := (hbn.frozen (p := ⟨w.heap.size, 3, none⟩) (by dsimp only; omega)).trans fr3
  replace O1 := hide (O1.out.below hbn)
  replace O2 := hide (O2.out.below hbn)
  replace zr := Nat.lt_of_lt_of_le zr hbn.size
  replace HB := hide (bl_trans HB.out hbn)
  clear hbn
  go_wp2_with fail
  generalize (w2.alloc (Obj.cells #[Value.bool (sgn P), Value.slice a1 (lms P).length c1, Value.bool (sgn Q), Value.slice a2 (lms Q).length c2] 29)) = w3 at *
  refine (fitS_f P Q a1 c1 a2 c2 _ O1.out.seg O2.out.seg HFF.out).mono ?_
  rintro e w4 ⟨rfl, hb⟩
  have yw4 := hb.size
  replace kr0 := (hb.cell (p := ⟨w.heap.size, 0, none⟩) (by dsimp only; omega)).trans kr0
  replace fr0 := (hb.frozen (p := ⟨w.heap.size, 0, none⟩) (by dsimp only; omega)).trans fr0
  replace kr1 := (hb.cell (p := ⟨w.heap.size, 1, none⟩) (by dsimp only; omega)).trans kr1
  replace fr1 := (hb.frozen (p := ⟨w.heap.size, 1, none⟩) (by dsimp only; omega)).trans fr1
  replace kr2 := (hb.cell (p := ⟨w.heap.size, 2, none⟩) (by dsimp only; omega)).trans kr2
  replace fr2 := (hb.frozen (p := ⟨w.heap.size, 2, none⟩) (by dsimp only; omega)).trans fr2
  replace kr3 := (hb.cell (p := ⟨w.heap.size, 3, none⟩) (by dsimp only; omega)).trans kr3
  replace fr3 := (hb.frozen (p := ⟨w.heap.size, 3, none⟩) (by dsimp only; omega)).trans fr3
  replace kd0 := (hb.cell (p := ⟨w2.heap.size, 0, none⟩) (by dsimp only; omega)).trans kd0
  replace kd1 := (hb.cell (p := ⟨w2.heap.size, 1, none⟩) (by dsimp only; omega)).trans kd1
  replace kd2 := (hb.cell (p := ⟨w2.heap.size, 2, none⟩) (by dsimp only; omega)).trans kd2
  replace kd3 := (hb.cell (p := ⟨w2.heap.size, 3, none⟩) (by dsimp only; omega)).trans kd3
  replace O1 := hide (O1.out.below hb)
  replace O2 := hide (O2.out.below hb)
  replace zr := Nat.lt_of_lt_of_le zr hb.size
  replace HB := hide (bl_trans HB.out hb)
  clear hb
  go_wp2
  refine bodyPost_ret (v := (.tuple #[.agg #[.bool false, .slice none 0 0, .bool false, .slice none 0 0], .bool false])) (by simp [results, Tryz.results11, go_sem, kr0, kr1, kr2, kr3]) rfl ?_
  exact ⟨rfl, set_four (Nat.le_refl _) HB.out _ _ _ _⟩

set_option maxHeartbeats 4000000 in
set_option maxRecDepth 20000 in
theorem rzPF (s D : ByteArray) (o : Option (Nat × Nat)) (P Q : Int) (w : World) (hs : s.size ≤ 400) (ho : rrS D.data.toList = o) (hP : rwN o = P) (hQ : rwD o = Q) (hr : s.toList.isEmpty = false) (h1 : 0 < s.size) (h45 : ((s[0].toNat : Int) == 45) = false) (hx : s = D) (hF : o.isSome = true) (hf : ftT P Q = true) :
    Calls Tryz.prog 11 #[.string s] w fun e w' => ∃ b1 e1 b2 e2, e = .returned (.tuple #[.agg #[.bool (sgn P), .slice b1 (lms P).length e1, .bool (sgn Q), .slice b2 (lms Q).length e2], .bool true]) ∧ Own w' w.heap.size b1 (lms P).length e1 (lms P) ∧ Own w' w.heap.size b2 (lms Q).length e2 (lms Q) ∧ Apart b1 b2 ∧ Below w.heap.size w w' := by
  have HO' := hide ho
  have HP' := hide hP
  have HQ' := hide hQ
  have HF' := hide hF
  have HFF := hide hf
  clear ho hP hQ hF hf
  have hs' : ¬ (400 : Int) < (s.size : Int) := by omega
  subst hx
  have kr0 : (w.alloc (Obj.cells #[Value.bool false, Value.slice none 0 0, Value.bool false, Value.slice none 0 0] 29)).cell? ⟨w.heap.size, 0, none⟩ = some (Value.bool false) := by go_simp
  have fr0 : (w.alloc (Obj.cells #[Value.bool false, Value.slice none 0 0, Value.bool false, Value.slice none 0 0] 29)).frozen? ⟨w.heap.size, 0, none⟩ = false := by go_simp
  have kr1 : (w.alloc (Obj.cells #[Value.bool false, Value.slice none 0 0, Value.bool false, Value.slice none 0 0] 29)).cell? ⟨w.heap.size, 1, none⟩ = some (Value.slice none 0 0) := by go_simp
  have fr1 : (w.alloc (Obj.cells #[Value.bool false, Value.slice none 0 0, Value.bool false, Value.slice none 0 0] 29)).frozen? ⟨w.heap.size, 1, none⟩ = false := by go_simp
  have kr2 : (w.alloc (Obj.cells #[Value.bool false, Value.slice none 0 0, Value.bool false, Value.slice none 0 0] 29)).cell? ⟨w.heap.size, 2, none⟩ = some (Value.bool false) := by go_simp
  have fr2 : (w.alloc (Obj.cells #[Value.bool false, Value.slice none 0 0, Value.bool false, Value.slice none 0 0] 29)).frozen? ⟨w.heap.size, 2, none⟩ = false := by go_simp
  have kr3 : (w.alloc (Obj.cells #[Value.bool false, Value.slice none 0 0, Value.bool false, Value.slice none 0 0] 29)).cell? ⟨w.heap.size, 3, none⟩ = some (Value.slice none 0 0) := by go_simp
  have fr3 : (w.alloc (Obj.cells #[Value.bool false, Value.slice none 0 0, Value.bool false, Value.slice none 0 0] 29)).frozen? ⟨w.heap.size, 3, none⟩ = false := by go_simp
  have zr : w.heap.size < (w.alloc (Obj.cells #[Value.bool false, Value.slice none 0 0, Value.bool false, Value.slice none 0 0] 29)).heap.size := by simp only [World.size_alloc]; omega
  have HB := hide (bl_alloc (bl_refl w) (Obj.cells #[Value.bool false, Value.slice none 0 0, Value.bool false, Value.slice none 0 0] 29))
  go_enter Tryz.func11, Tryz.ntmps11
  go_wp2_with fail
  generalize (w.alloc (Obj.cells #[Value.bool false, Value.slice none 0 0, Value.bool false, Value.slice none 0 0] 29)) = w1 at *
  have z0 := zr
  refine (readS0 s _ hs).mono ?_
  rw [HO'.out]
  unfold RawAns
  rw [HP'.out, HQ'.out, HF'.out]
  rintro e w2 ⟨a1, c1, a2, c2, rfl, ho1, ho2, hap, hb⟩
  have yw2 := hb.size
  replace kr0 := (hb.cell (p := ⟨w.heap.size, 0, none⟩) (by dsimp only; omega)).trans kr0
  replace fr0 := (hb.frozen (p := ⟨w.heap.size, 0, none⟩) (by dsimp only; omega)).trans fr0
  replace kr1 := (hb.cell (p := ⟨w.heap.size, 1, none⟩) (by dsimp only; omega)).trans kr1
  replace fr1 := (hb.frozen (p := ⟨w.heap.size, 1, none⟩) (by dsimp only; omega)).trans fr1
  replace kr2 := (hb.cell (p := ⟨w.heap.size, 2, none⟩) (by dsimp only; omega)).trans kr2
  replace fr2 := (hb.frozen (p := ⟨w.heap.size, 2, none⟩) (by dsimp only; omega)).trans fr2
  replace kr3 := (hb.cell (p := ⟨w.heap.size, 3, none⟩) (by dsimp only; omega)).trans kr3
  replace fr3 := (hb.frozen (p := ⟨w.heap.size, 3, none⟩) (by dsimp only; omega)).trans fr3
  replace zr := Nat.lt_of_lt_of_le zr hb.size
  replace HB := hide (bl_trans HB.out hb)
  clear hb
  have O1 := hide ho1
  have O2 := hide ho2
  have HAP := hide hap
  clear ho1 ho2 hap
  have yw3 : w2.heap.size + 1 ≤ (w2.alloc (Obj.cells #[Value.bool (sgn P), Value.slice a1 (lms P).length c1, Value.bool (sgn Q), Value.slice a2 (lms Q).length c2] 29)).heap.size := by simp only [World.size_alloc]; omega
  have kd0 : (w2.alloc (Obj.cells #[Value.bool (sgn P), Value.slice a1 (lms P).length c1, Value.bool (sgn Q), Value.slice a2 (lms Q).length c2] 29)).cell? ⟨w2.heap.size, 0, none⟩ = some (Value.bool (sgn P)) := by go_simp
  have kd1 : (w2.alloc (Obj.cells #[Value.bool (sgn P), Value.slice a1 (lms P).length c1, Value.bool (sgn Q), Value.slice a2 (lms Q).length c2] 29)).cell? ⟨w2.heap.size, 1, none⟩ = some (Value.slice a1 (lms P).length c1) := by go_simp
  have kd2 : (w2.alloc (Obj.cells #[Value.bool (sgn P), Value.slice a1 (lms P).length c1, Value.bool (sgn Q), Value.slice a2 (lms Q).length c2] 29)).cell? ⟨w2.heap.size, 2, none⟩ = some (Value.bool (sgn Q)) := by go_simp
  have kd3 : (w2.alloc (Obj.cells #[Value.bool (sgn P), Value.slice a1 (lms P).length c1, Value.bool (sgn Q), Value.slice a2 (lms Q).length c2] 29)).cell? ⟨w2.heap.size, 3, none⟩ = some (Value.slice a2 (lms Q).length c2) := by go_simp
  have hbn := (bl_alloc (bl_refl w2) (Obj.cells #[Value.bool (sgn P), Value.slice a1 (lms P).length c1, Value.bool (sgn Q), Value.slice a2 (lms Q).length c2] 29))
  replace kr0 := (hbn.cell (p := ⟨w.heap.size, 0, none⟩) (by dsimp only; omega)).trans kr0
  replace fr0 := (hbn.frozen (p := ⟨w.heap.size, 0, none⟩) (by dsimp only; omega)).trans fr0
  replace kr1 := (hbn.cell (p := ⟨w.heap.size, 1, none⟩) (by dsimp only; omega)).trans kr1
  replace fr1 := (hbn.frozen (p := ⟨w.heap.size, 1, none⟩) (by dsimp only; omega)).trans fr1
  replace kr2 := (hbn.cell (p := ⟨w.heap.size, 2, none⟩) (by dsimp only; omega)).trans kr2
  replace fr2 := (hbn.frozen (p := ⟨w.heap.size, 2, none⟩) (by dsimp only; omega)).trans fr2
  replace kr3 := (hbn.cell (p := ⟨w.heap.size, 3, none⟩) (by dsimp only; omega)).trans kr3
  replace fr3 := (hbn.frozen (p := ⟨w.heap.size, 3, none⟩) (by dsimp only; omega)).trans fr3
  replace O1 := hide (O1.out.below hbn)
  replace O2 := hide (O2.out.below hbn)
  replace zr := Nat.lt_of_lt_of_le zr hbn.size
  replace HB := hide (bl_trans HB.out hbn)
  clear hbn
  go_wp2_with fail
  generalize (w2.alloc (Obj.cells #[Value.bool (sgn P), Value.slice a1 (lms P).length c1, Value.bool (sgn Q), Value.slice a2 (lms Q).length c2] 29)) = w3 at *
  refine (fitS_t P Q a1 c1 a2 c2 _ O1.out.seg O2.out.seg HFF.out).mono ?_
  rintro e w4 ⟨rfl, hb⟩
  have yw4 := hb.size
  replace kr0 := (hb.cell (p := ⟨w.heap.size, 0, none⟩) (by dsimp only; omega)).trans kr0
  replace fr0 := (hb.frozen (p := ⟨w.heap.size, 0, none⟩) (by dsimp only; omega)).trans fr0
  replace kr1 := (hb.cell (p := ⟨w.heap.size, 1, none⟩) (by dsimp only; omega)).trans kr1
  replace fr1 := (hb.frozen (p := ⟨w.heap.size, 1, none⟩) (by dsimp only; omega)).trans fr1
  replace kr2 := (hb.cell (p := ⟨w.heap.size, 2, none⟩) (by dsimp only; omega)).trans kr2
  replace fr2 := (hb.frozen (p := ⟨w.heap.size, 2, none⟩) (by dsimp only; omega)).trans fr2
  replace kr3 := (hb.cell (p := ⟨w.heap.size, 3, none⟩) (by dsimp only; omega)).trans kr3
  replace fr3 := (hb.frozen (p := ⟨w.heap.size, 3, none⟩) (by dsimp only; omega)).trans fr3
  replace kd0 := (hb.cell (p := ⟨w2.heap.size, 0, none⟩) (by dsimp only; omega)).trans kd0
  replace kd1 := (hb.cell (p := ⟨w2.heap.size, 1, none⟩) (by dsimp only; omega)).trans kd1
  replace kd2 := (hb.cell (p := ⟨w2.heap.size, 2, none⟩) (by dsimp only; omega)).trans kd2
  replace kd3 := (hb.cell (p := ⟨w2.heap.size, 3, none⟩) (by dsimp only; omega)).trans kd3
  replace O1 := hide (O1.out.below hb)
  replace O2 := hide (O2.out.below hb)
  replace zr := Nat.lt_of_lt_of_le zr hb.size
  replace HB := hide (bl_trans HB.out hb)
  clear hb
  go_wp2
  refine bodyPost_ret (v := (.tuple #[Value.agg #[Value.bool (sgn P), Value.slice a1 (lms P).length c1, Value.bool (sgn Q), Value.slice a2 (lms Q).length c2], .bool true])) (by simp [results, Tryz.results11, go_sem, kr0, kr1, kr2, kr3]) rfl ?_
  have h1 := own_four' (lo := w.heap.size) O1.out (show w.heap.size < _ by omega) (by omega) (Value.bool (sgn P)) (Value.slice a1 (lms P).length c1) (Value.bool (sgn Q)) (Value.slice a2 (lms Q).length c2)
  have h2 := own_four' (lo := w.heap.size) O2.out (show w.heap.size < _ by omega) (by omega) (Value.bool (sgn P)) (Value.slice a1 (lms P).length c1) (Value.bool (sgn Q)) (Value.slice a2 (lms Q).length c2)
  exact ⟨_, _, _, _, rfl, h1, h2, HAP.out, set_four (Nat.le_refl _) HB.out _ _ _ _⟩

set_option maxHeartbeats 4000000 in
set_option maxRecDepth 20000 in
theorem rzZN (s D : ByteArray) (o : Option (Nat × Nat)) (P Q : Int) (w : World) (hs : s.size ≤ 400) (ho : rrS D.data.toList = o) (hP : rwN o = P) (hQ : rwD o = Q) (hr : s.toList.isEmpty = true) (hx : s = D) (hF : o.isSome = false) :
    Calls Tryz.prog 11 #[.string s] w fun e w' => e = .returned (.tuple #[.agg #[.bool false, .slice none 0 0, .bool false, .slice none 0 0], .bool false]) ∧ Below w.heap.size w w' := by
  have HO' := hide ho
  have HP' := hide hP
  have HQ' := hide hQ
  have HF' := hide hF
  clear ho hP hQ hF
  have hs' : ¬ (400 : Int) < (s.size : Int) := by omega
  subst hx
  have kr0 : (w.alloc (Obj.cells #[Value.bool false, Value.slice none 0 0, Value.bool false, Value.slice none 0 0] 29)).cell? ⟨w.heap.size, 0, none⟩ = some (Value.bool false) := by go_simp
  have fr0 : (w.alloc (Obj.cells #[Value.bool false, Value.slice none 0 0, Value.bool false, Value.slice none 0 0] 29)).frozen? ⟨w.heap.size, 0, none⟩ = false := by go_simp
  have kr1 : (w.alloc (Obj.cells #[Value.bool false, Value.slice none 0 0, Value.bool false, Value.slice none 0 0] 29)).cell? ⟨w.heap.size, 1, none⟩ = some (Value.slice none 0 0) := by go_simp
  have fr1 : (w.alloc (Obj.cells #[Value.bool false, Value.slice none 0 0, Value.bool false, Value.slice none 0 0] 29)).frozen? ⟨w.heap.size, 1, none⟩ = false := by go_simp
  have kr2 : (w.alloc (Obj.cells #[Value.bool false, Value.slice none 0 0, Value.bool false, Value.slice none 0 0] 29)).cell? ⟨w.heap.size, 2, none⟩ = some (Value.bool false) := by go_simp
  have fr2 : (w.alloc (Obj.cells #[Value.bool false, Value.slice none 0 0, Value.bool false, Value.slice none 0 0] 29)).frozen? ⟨w.heap.size, 2, none⟩ = false := by go_simp
  have kr3 : (w.alloc (Obj.cells #[Value.bool false, Value.slice none 0 0, Value.bool false, Value.slice none 0 0] 29)).cell? ⟨w.heap.size, 3, none⟩ = some (Value.slice none 0 0) := by go_simp
  have fr3 : (w.alloc (Obj.cells #[Value.bool false, Value.slice none 0 0, Value.bool false, Value.slice none 0 0] 29)).frozen? ⟨w.heap.size, 3, none⟩ = false := by go_simp
  have zr : w.heap.size < (w.alloc (Obj.cells #[Value.bool false, Value.slice none 0 0, Value.bool false, Value.slice none 0 0] 29)).heap.size := by simp only [World.size_alloc]; omega
  have HB := hide (bl_alloc (bl_refl w) (Obj.cells #[Value.bool false, Value.slice none 0 0, Value.bool false, Value.slice none 0 0] 29))
  go_enter Tryz.func11, Tryz.ntmps11
  go_wp2_with fail
  generalize (w.alloc (Obj.cells #[Value.bool false, Value.slice none 0 0, Value.bool false, Value.slice none 0 0] 29)) = w1 at *
  have z0 := zr
  refine (readS0 s _ hs).mono ?_
  rw [HO'.out]
  unfold RawAns
  rw [HP'.out, HQ'.out, HF'.out]
  rintro e w2 ⟨a1, c1, a2, c2, rfl, ho1, ho2, hap, hb⟩
  have yw2 := hb.size
  replace kr0 := (hb.cell (p := ⟨w.heap.size, 0, none⟩) (by dsimp only; omega)).trans kr0
  replace fr0 := (hb.frozen (p := ⟨w.heap.size, 0, none⟩) (by dsimp only; omega)).trans fr0
  replace kr1 := (hb.cell (p := ⟨w.heap.size, 1, none⟩) (by dsimp only; omega)).trans kr1
  replace fr1 := (hb.frozen (p := ⟨w.heap.size, 1, none⟩) (by dsimp only; omega)).trans fr1
  replace kr2 := (hb.cell (p := ⟨w.heap.size, 2, none⟩) (by dsimp only; omega)).trans kr2
  replace fr2 := (hb.frozen (p := ⟨w.heap.size, 2, none⟩) (by dsimp only; omega)).trans fr2
  replace kr3 := (hb.cell (p := ⟨w.heap.size, 3, none⟩) (by dsimp only; omega)).trans kr3
  replace fr3 := (hb.frozen (p := ⟨w.heap.size, 3, none⟩) (by dsimp only; omega)).trans fr3
  replace zr := Nat.lt_of_lt_of_le zr hb.size
  replace HB := hide (bl_trans HB.out hb)
  clear hb
  have O1 := hide ho1
  have O2 := hide ho2
  have HAP := hide hap
  clear ho1 ho2 hap
  have yw3 : w2.heap.size + 1 ≤ (w2.alloc (Obj.cells #[Value.bool (sgn P), Value.slice a1 (lms P).length c1, Value.bool (sgn Q), Value.slice a2 (lms Q).length c2] 29)).heap.size := by simp only [World.size_alloc]; omega
  have hbn := (bl_alloc (bl_refl w2) (Obj.cells #[Value.bool (sgn P), Value.slice a1 (lms P).length c1, Value.bool (sgn Q), Value.slice a2 (lms Q).length c2] 29))
  replace kr0 := (hbn.cell (p := ⟨w.heap.size, 0, none⟩) (by dsimp only; omega)).trans kr0
  replace fr0 := (hbn.frozen (p := ⟨w.heap.size, 0, none⟩) (by dsimp only; omega)).trans fr0
  replace kr1 := (hbn.cell (p := ⟨w.heap.size, 1, none⟩) (by dsimp only; omega)).trans kr1
  replace fr1 := (hbn.frozen (p := ⟨w.heap.size, 1, none⟩) (by dsimp only; omega)).trans fr1
  replace kr2 := (hbn.cell (p := ⟨w.heap.size, 2, none⟩) (by dsimp only; omega)).trans kr2
  replace fr2 := (hbn.frozen (p := ⟨w.heap.size, 2, none⟩) (by dsimp only; omega)).trans fr2
  replace kr3 := (hbn.cell (p := ⟨w.heap.size, 3, none⟩) (by dsimp only; omega)).trans kr3
  replace fr3 := (hbn.frozen (p := ⟨w.heap.size, 3, none⟩) (by dsimp only; omega)).trans fr3
  replace O1 := hide (O1.out.below hbn)
  replace O2 := hide (O2.out.below hbn)
  replace zr := Nat.lt_of_lt_of_le zr hbn.size
  replace HB := hide (bl_trans HB.out hbn)
  clear hbn
  go_wp2
  refine bodyPost_ret (v := (.tuple #[.agg #[.bool false, .slice none 0 0, .bool false, .slice none 0 0], .bool false])) (by simp [results, Tryz.results11, go_sem, kr0, kr1, kr2, kr3]) rfl ?_
  exact ⟨rfl, set_four (Nat.le_refl _) HB.out _ _ _ _⟩

set_option maxHeartbeats 4000000 in
set_option maxRecDepth 20000 in
theorem rzZU (s D : ByteArray) (o : Option (Nat × Nat)) (P Q : Int) (w : World) (hs : s.size ≤ 400) (ho : rrS D.data.toList = o) (hP : rwN o = P) (hQ : rwD o = Q) (hr : s.toList.isEmpty = true) (hx : s = D) (hF : o.isSome = true) (hf : ftT P Q = false) :
    Calls Tryz.prog 11 #[.string s] w fun e w' => e = .returned (.tuple #[.agg #[.bool false, .slice none 0 0, .bool false, .slice none 0 0], .bool false]) ∧ Below w.heap.size w w' := by
  have HO' := hide ho
  have HP' := hide hP
  have HQ' := hide hQ
  have HF' := hide hF
  have HFF := hide hf
  clear ho hP hQ hF hf
  have hs' : ¬ (400 : Int) < (s.size : Int) := by omega
  subst hx
  have kr0 : (w.alloc (Obj.cells #[Value.bool false, Value.slice none 0 0, Value.bool false, Value.slice none 0 0] 29)).cell? ⟨w.heap.size, 0, none⟩ = some (Value.bool false) := by go_simp
  have fr0 : (w.alloc (Obj.cells #[Value.bool false, Value.slice none 0 0, Value.bool false, Value.slice none 0 0] 29)).frozen? ⟨w.heap.size, 0, none⟩ = false := by go_simp
  have kr1 : (w.alloc (Obj.cells #[Value.bool false, Value.slice none 0 0, Value.bool false, Value.slice none 0 0] 29)).cell? ⟨w.heap.size, 1, none⟩ = some (Value.slice none 0 0) := by go_simp
  have fr1 : (w.alloc (Obj.cells #[Value.bool false, Value.slice none 0 0, Value.bool false, Value.slice none 0 0] 29)).frozen? ⟨w.heap.size, 1, none⟩ = false := by go_simp
  have kr2 : (w.alloc (Obj.cells #[Value.bool false, Value.slice none 0 0, Value.bool false, Value.slice none 0 0] 29)).cell? ⟨w.heap.size, 2, none⟩ = some (Value.bool false) := by go_simp
  have fr2 : (w.alloc (Obj.cells #[Value.bool false, Value.slice none 0 0, Value.bool false, Value.slice none 0 0] 29)).frozen? ⟨w.heap.size, 2, none⟩ = false := by go_simp
  have kr3 : (w.alloc (Obj.cells #[Value.bool false, Value.slice none 0 0, Value.bool false, Value.slice none 0 0] 29)).cell? ⟨w.heap.size, 3, none⟩ = some (Value.slice none 0 0) := by go_simp
  have fr3 : (w.alloc (Obj.cells #[Value.bool false, Value.slice none 0 0, Value.bool false, Value.slice none 0 0] 29)).frozen? ⟨w.heap.size, 3, none⟩ = false := by go_simp
  have zr : w.heap.size < (w.alloc (Obj.cells #[Value.bool false, Value.slice none 0 0, Value.bool false, Value.slice none 0 0] 29)).heap.size := by simp only [World.size_alloc]; omega
  have HB := hide (bl_alloc (bl_refl w) (Obj.cells #[Value.bool false, Value.slice none 0 0, Value.bool false, Value.slice none 0 0] 29))
  go_enter Tryz.func11, Tryz.ntmps11
  go_wp2_with fail
  generalize (w.alloc (Obj.cells #[Value.bool false, Value.slice none 0 0, Value.bool false, Value.slice none 0 0] 29)) = w1 at *
  have z0 := zr
  refine (readS0 s _ hs).mono ?_
  rw [HO'.out]
  unfold RawAns
  rw [HP'.out, HQ'.out, HF'.out]
  rintro e w2 ⟨a1, c1, a2, c2, rfl, ho1, ho2, hap, hb⟩
  have yw2 := hb.size
  replace kr0 := (hb.cell (p := ⟨w.heap.size, 0, none⟩) (by dsimp only; omega)).trans kr0
  replace fr0 := (hb.frozen (p := ⟨w.heap.size, 0, none⟩) (by dsimp only; omega)).trans fr0
  replace kr1 := (hb.cell (p := ⟨w.heap.size, 1, none⟩) (by dsimp only; omega)).trans kr1
  replace fr1 := (hb.frozen (p := ⟨w.heap.size, 1, none⟩) (by dsimp only; omega)).trans fr1
  replace kr2 := (hb.cell (p := ⟨w.heap.size, 2, none⟩) (by dsimp only; omega)).trans kr2
  replace fr2 := (hb.frozen (p := ⟨w.heap.size, 2, none⟩) (by dsimp only; omega)).trans fr2
  replace kr3 := (hb.cell (p := ⟨w.heap.size, 3, none⟩) (by dsimp only; omega)).trans kr3
  replace fr3 := (hb.frozen (p := ⟨w.heap.size, 3, none⟩) (by dsimp only; omega)).trans fr3
  replace zr := Nat.lt_of_lt_of_le zr hb.size
  replace HB := hide (bl_trans HB.out hb)
  clear hb
  have O1 := hide ho1
  have O2 := hide ho2
  have HAP := hide hap
  clear ho1 ho2 hap
  have yw3 : w2.heap.size + 1 ≤ (w2.alloc (Obj.cells #[Value.bool (sgn P), Value.slice a1 (lms P).length c1, Value.bool (sgn Q), Value.slice a2 (lms Q).length c2] 29)).heap.size := by simp only [World.size_alloc]; omega
  have kd0 : (w2.alloc (Obj.cells #[Value.bool (sgn P), Value.slice a1 (lms P).length c1, Value.bool (sgn Q), Value.slice a2 (lms Q).length c2] 29)).cell? ⟨w2.heap.size, 0, none⟩ = some (Value.bool (sgn P)) := by go_simp
  have kd1 : (w2.alloc (Obj.cells #[Value.bool (sgn P), Value.slice a1 (lms P).length c1, Value.bool (sgn Q), Value.slice a2 (lms Q).length c2] 29)).cell? ⟨w2.heap.size, 1, none⟩ = some (Value.slice a1 (lms P).length c1) := by go_simp
  have kd2 : (w2.alloc (Obj.cells #[Value.bool (sgn P), Value.slice a1 (lms P).length c1, Value.bool (sgn Q), Value.slice a2 (lms Q).length c2] 29)).cell? ⟨w2.heap.size, 2, none⟩ = some (Value.bool (sgn Q)) := by go_simp
  have kd3 : (w2.alloc (Obj.cells #[Value.bool (sgn P), Value.slice a1 (lms P).length c1, Value.bool (sgn Q), Value.slice a2 (lms Q).length c2] 29)).cell? ⟨w2.heap.size, 3, none⟩ = some (Value.slice a2 (lms Q).length c2) := by go_simp
  have hbn := (bl_alloc (bl_refl w2) (Obj.cells #[Value.bool (sgn P), Value.slice a1 (lms P).length c1, Value.bool (sgn Q), Value.slice a2 (lms Q).length c2] 29))
  replace kr0 := (hbn.cell (p := ⟨w.heap.size, 0, none⟩) (by dsimp only; omega)).trans kr0
  replace fr0 := (hbn.frozen (p := ⟨w.heap.size, 0, none⟩) (by dsimp only; omega)).trans fr0
  replace kr1 := (hbn.cell (p := ⟨w.heap.size, 1, none⟩) (by dsimp only; omega)).trans kr1
  replace fr1 := (hbn.frozen (p := ⟨w.heap.size, 1, none⟩) (by dsimp only; omega)).trans fr1
  replace kr2 := (hbn.cell (p := ⟨w.heap.size, 2, none⟩) (by dsimp only; omega)).trans kr2
  replace fr2 := (hbn.frozen (p := ⟨w.heap.size, 2, none⟩) (by dsimp only; omega)).trans fr2
  replace kr3 := (hbn.cell (p := ⟨w.heap.size, 3, none⟩) (by dsimp only; omega)).trans kr3
  replace fr3 := (hbn.frozen (p := ⟨w.heap.size, 3, none⟩) (by dsimp only; omega)).trans fr3
  replace O1 := hide (O1.out.below hbn)
  replace O2 := hide (O2.out.below hbn)
  replace zr := Nat.lt_of_lt_of_le zr hbn.size
  replace HB := hide (bl_trans HB.out hbn)
  clear hbn
  go_wp2_with fail
  generalize (w2.alloc (Obj.cells #[Value.bool (sgn P), Value.slice a1 (lms P).length c1, Value.bool (sgn Q), Value.slice a2 (lms Q).length c2] 29)) = w3 at *
  refine (fitS_f P Q a1 c1 a2 c2 _ O1.out.seg O2.out.seg HFF.out).mono ?_
  rintro e w4 ⟨rfl, hb⟩
  have yw4 := hb.size
  replace kr0 := (hb.cell (p := ⟨w.heap.size, 0, none⟩) (by dsimp only; omega)).trans kr0
  replace fr0 := (hb.frozen (p := ⟨w.heap.size, 0, none⟩) (by dsimp only; omega)).trans fr0
  replace kr1 := (hb.cell (p := ⟨w.heap.size, 1, none⟩) (by dsimp only; omega)).trans kr1
  replace fr1 := (hb.frozen (p := ⟨w.heap.size, 1, none⟩) (by dsimp only; omega)).trans fr1
  replace kr2 := (hb.cell (p := ⟨w.heap.size, 2, none⟩) (by dsimp only; omega)).trans kr2
  replace fr2 := (hb.frozen (p := ⟨w.heap.size, 2, none⟩) (by dsimp only; omega)).trans fr2
  replace kr3 := (hb.cell (p := ⟨w.heap.size, 3, none⟩) (by dsimp only; omega)).trans kr3
  replace fr3 := (hb.frozen (p := ⟨w.heap.size, 3, none⟩) (by dsimp only; omega)).trans fr3
  replace kd0 := (hb.cell (p := ⟨w2.heap.size, 0, none⟩) (by dsimp only; omega)).trans kd0
  replace kd1 := (hb.cell (p := ⟨w2.heap.size, 1, none⟩) (by dsimp only; omega)).trans kd1
  replace kd2 := (hb.cell (p := ⟨w2.heap.size, 2, none⟩) (by dsimp only; omega)).trans kd2
  replace kd3 := (hb.cell (p := ⟨w2.heap.size, 3, none⟩) (by dsimp only; omega)).trans kd3
  replace O1 := hide (O1.out.below hb)
  replace O2 := hide (O2.out.below hb)
  replace zr := Nat.lt_of_lt_of_le zr hb.size
  replace HB := hide (bl_trans HB.out hb)
  clear hb
  go_wp2
  refine bodyPost_ret (v := (.tuple #[.agg #[.bool false, .slice none 0 0, .bool false, .slice none 0 0], .bool false])) (by simp [results, Tryz.results11, go_sem, kr0, kr1, kr2, kr3]) rfl ?_
  exact ⟨rfl, set_four (Nat.le_refl _) HB.out _ _ _ _⟩

set_option maxHeartbeats 4000000 in
set_option maxRecDepth 20000 in
theorem rzZF (s D : ByteArray) (o : Option (Nat × Nat)) (P Q : Int) (w : World) (hs : s.size ≤ 400) (ho : rrS D.data.toList = o) (hP : rwN o = P) (hQ : rwD o = Q) (hr : s.toList.isEmpty = true) (hx : s = D) (hF : o.isSome = true) (hf : ftT P Q = true) :
    Calls Tryz.prog 11 #[.string s] w fun e w' => ∃ b1 e1 b2 e2, e = .returned (.tuple #[.agg #[.bool (sgn P), .slice b1 (lms P).length e1, .bool (sgn Q), .slice b2 (lms Q).length e2], .bool true]) ∧ Own w' w.heap.size b1 (lms P).length e1 (lms P) ∧ Own w' w.heap.size b2 (lms Q).length e2 (lms Q) ∧ Apart b1 b2 ∧ Below w.heap.size w w' := by
  have HO' := hide ho
  have HP' := hide hP
  have HQ' := hide hQ
  have HF' := hide hF
  have HFF := hide hf
  clear ho hP hQ hF hf
  have hs' : ¬ (400 : Int) < (s.size : Int) := by omega
  subst hx
  have kr0 : (w.alloc (Obj.cells #[Value.bool false, Value.slice none 0 0, Value.bool false, Value.slice none 0 0] 29)).cell? ⟨w.heap.size, 0, none⟩ = some (Value.bool false) := by go_simp
  have fr0 : (w.alloc (Obj.cells #[Value.bool false, Value.slice none 0 0, Value.bool false, Value.slice none 0 0] 29)).frozen? ⟨w.heap.size, 0, none⟩ = false := by go_simp
  have kr1 : (w.alloc (Obj.cells #[Value.bool false, Value.slice none 0 0, Value.bool false, Value.slice none 0 0] 29)).cell? ⟨w.heap.size, 1, none⟩ = some (Value.slice none 0 0) := by go_simp
  have fr1 : (w.alloc (Obj.cells #[Value.bool false, Value.slice none 0 0, Value.bool false, Value.slice none 0 0] 29)).frozen? ⟨w.heap.size, 1, none⟩ = false := by go_simp
  have kr2 : (w.alloc (Obj.cells #[Value.bool false, Value.slice none 0 0, Value.bool false, Value.slice none 0 0] 29)).cell? ⟨w.heap.size, 2, none⟩ = some (Value.bool false) := by go_simp
  have fr2 : (w.alloc (Obj.cells #[Value.bool false, Value.slice none 0 0, Value.bool false, Value.slice none 0 0] 29)).frozen? ⟨w.heap.size, 2, none⟩ = false := by go_simp
  have kr3 : (w.alloc (Obj.cells #[Value.bool false, Value.slice none 0 0, Value.bool false, Value.slice none 0 0] 29)).cell? ⟨w.heap.size, 3, none⟩ = some (Value.slice none 0 0) := by go_simp
  have fr3 : (w.alloc (Obj.cells #[Value.bool false, Value.slice none 0 0, Value.bool false, Value.slice none 0 0] 29)).frozen? ⟨w.heap.size, 3, none⟩ = false := by go_simp
  have zr : w.heap.size < (w.alloc (Obj.cells #[Value.bool false, Value.slice none 0 0, Value.bool false, Value.slice none 0 0] 29)).heap.size := by simp only [World.size_alloc]; omega
  have HB := hide (bl_alloc (bl_refl w) (Obj.cells #[Value.bool false, Value.slice none 0 0, Value.bool false, Value.slice none 0 0] 29))
  go_enter Tryz.func11, Tryz.ntmps11
  go_wp2_with fail
  generalize (w.alloc (Obj.cells #[Value.bool false, Value.slice none 0 0, Value.bool false, Value.slice none 0 0] 29)) = w1 at *
  have z0 := zr
  refine (readS0 s _ hs).mono ?_
  rw [HO'.out]
  unfold RawAns
  rw [HP'.out, HQ'.out, HF'.out]
  rintro e w2 ⟨a1, c1, a2, c2, rfl, ho1, ho2, hap, hb⟩
  have yw2 := hb.size
  replace kr0 := (hb.cell (p := ⟨w.heap.size, 0, none⟩) (by dsimp only; omega)).trans kr0
  replace fr0 := (hb.frozen (p := ⟨w.heap.size, 0, none⟩) (by dsimp only; omega)).trans fr0
  replace kr1 := (hb.cell (p := ⟨w.heap.size, 1, none⟩) (by dsimp only; omega)).trans kr1
  replace fr1 := (hb.frozen (p := ⟨w.heap.size, 1, none⟩) (by dsimp only; omega)).trans fr1
  replace kr2 := (hb.cell (p := ⟨w.heap.size, 2, none⟩) (by dsimp only; omega)).trans kr2
  replace fr2 := (hb.frozen (p := ⟨w.heap.size, 2, none⟩) (by dsimp only; omega)).trans fr2
  replace kr3 := (hb.cell (p := ⟨w.heap.size, 3, none⟩) (by dsimp only; omega)).trans kr3
  replace fr3 := (hb.frozen (p := ⟨w.heap.size, 3, none⟩) (by dsimp only; omega)).trans fr3
  replace zr := Nat.lt_of_lt_of_le zr hb.size
  replace HB := hide (bl_trans HB.out hb)
  clear hb
  have O1 := hide ho1
  have O2 := hide ho2
  have HAP := hide hap
  clear ho1 ho2 hap
  have yw3 : w2.heap.size + 1 ≤ (w2.alloc (Obj.cells #[Value.bool (sgn P), Value.slice a1 (lms P).length c1, Value.bool (sgn Q), Value.slice a2 (lms Q).length c2] 29)).heap.size := by simp only [World.size_alloc]; omega
  have kd0 : (w2.alloc (Obj.cells #[Value.bool (sgn P), Value.slice a1 (lms P).length c1, Value.bool (sgn Q), Value.slice a2 (lms Q).length c2] 29)).cell? ⟨w2.heap.size, 0, none⟩ = some (Value.bool (sgn P)) := by go_simp
  have kd1 : (w2.alloc (Obj.cells #[Value.bool (sgn P), Value.slice a1 (lms P).length c1, Value.bool (sgn Q), Value.slice a2 (lms Q).length c2] 29)).cell? ⟨w2.heap.size, 1, none⟩ = some (Value.slice a1 (lms P).length c1) := by go_simp
  have kd2 : (w2.alloc (Obj.cells #[Value.bool (sgn P), Value.slice a1 (lms P).length c1, Value.bool (sgn Q), Value.slice a2 (lms Q).length c2] 29)).cell? ⟨w2.heap.size, 2, none⟩ = some (Value.bool (sgn Q)) := by go_simp
  have kd3 : (w2.alloc (Obj.cells #[Value.bool (sgn P), Value.slice a1 (lms P).length c1, Value.bool (sgn Q), Value.slice a2 (lms Q).length c2] 29)).cell? ⟨w2.heap.size, 3, none⟩ = some (Value.slice a2 (lms Q).length c2) := by go_simp
  have hbn := (bl_alloc (bl_refl w2) (Obj.cells #[Value.bool (sgn P), Value.slice a1 (lms P).length c1, Value.bool (sgn Q), Value.slice a2 (lms Q).length c2] 29))
  replace kr0 := (hbn.cell (p := ⟨w.heap.size, 0, none⟩) (by dsimp only; omega)).trans kr0
  replace fr0 := (hbn.frozen (p := ⟨w.heap.size, 0, none⟩) (by dsimp only; omega)).trans fr0
  replace kr1 := (hbn.cell (p := ⟨w.heap.size, 1, none⟩) (by dsimp only; omega)).trans kr1
  replace fr1 := (hbn.frozen (p := ⟨w.heap.size, 1, none⟩) (by dsimp only; omega)).trans fr1
  replace kr2 := (hbn.cell (p := ⟨w.heap.size, 2, none⟩) (by dsimp only; omega)).trans kr2
  replace fr2 := (hbn.frozen (p := ⟨w.heap.size, 2, none⟩) (by dsimp only; omega)).trans fr2
  replace kr3 := (hbn.cell (p := ⟨w.heap.size, 3, none⟩) (by dsimp only; omega)).trans kr3
  replace fr3 := (hbn.frozen (p := ⟨w.heap.size, 3, none⟩) (by dsimp only; omega)).trans fr3
  replace O1 := hide (O1.out.below hbn)
  replace O2 := hide (O2.out.below hbn)
  replace zr := Nat.lt_of_lt_of_le zr hbn.size
  replace HB := hide (bl_trans HB.out hbn)
  clear hbn
  go_wp2_with fail
  generalize (w2.alloc (Obj.cells #[Value.bool (sgn P), Value.slice a1 (lms P).length c1, Value.bool (sgn Q), Value.slice a2 (lms Q).length c2] 29)) = w3 at *
  refine (fitS_t P Q a1 c1 a2 c2 _ O1.out.seg O2.out.seg HFF.out).mono ?_
  rintro e w4 ⟨rfl, hb⟩
  have yw4 := hb.size
  replace kr0 := (hb.cell (p := ⟨w.heap.size, 0, none⟩) (by dsimp only; omega)).trans kr0
  replace fr0 := (hb.frozen (p := ⟨w.heap.size, 0, none⟩) (by dsimp only; omega)).trans fr0
  replace kr1 := (hb.cell (p := ⟨w.heap.size, 1, none⟩) (by dsimp only; omega)).trans kr1
  replace fr1 := (hb.frozen (p := ⟨w.heap.size, 1, none⟩) (by dsimp only; omega)).trans fr1
  replace kr2 := (hb.cell (p := ⟨w.heap.size, 2, none⟩) (by dsimp only; omega)).trans kr2
  replace fr2 := (hb.frozen (p := ⟨w.heap.size, 2, none⟩) (by dsimp only; omega)).trans fr2
  replace kr3 := (hb.cell (p := ⟨w.heap.size, 3, none⟩) (by dsimp only; omega)).trans kr3
  replace fr3 := (hb.frozen (p := ⟨w.heap.size, 3, none⟩) (by dsimp only; omega)).trans fr3
  replace kd0 := (hb.cell (p := ⟨w2.heap.size, 0, none⟩) (by dsimp only; omega)).trans kd0
  replace kd1 := (hb.cell (p := ⟨w2.heap.size, 1, none⟩) (by dsimp only; omega)).trans kd1
  replace kd2 := (hb.cell (p := ⟨w2.heap.size, 2, none⟩) (by dsimp only; omega)).trans kd2
  replace kd3 := (hb.cell (p := ⟨w2.heap.size, 3, none⟩) (by dsimp only; omega)).trans kd3
  replace O1 := hide (O1.out.below hb)
  replace O2 := hide (O2.out.below hb)
  replace zr := Nat.lt_of_lt_of_le zr hb.size
  replace HB := hide (bl_trans HB.out hb)
  clear hb
  go_wp2
  refine bodyPost_ret (v := (.tuple #[Value.agg #[Value.bool (sgn P), Value.slice a1 (lms P).length c1, Value.bool (sgn Q), Value.slice a2 (lms Q).length c2], .bool true])) (by simp [results, Tryz.results11, go_sem, kr0, kr1, kr2, kr3]) rfl ?_
  have h1 := own_four' (lo := w.heap.size) O1.out (show w.heap.size < _ by omega) (by omega) (Value.bool (sgn P)) (Value.slice a1 (lms P).length c1) (Value.bool (sgn Q)) (Value.slice a2 (lms Q).length c2)
  have h2 := own_four' (lo := w.heap.size) O2.out (show w.heap.size < _ by omega) (by omega) (Value.bool (sgn P)) (Value.slice a1 (lms P).length c1) (Value.bool (sgn Q)) (Value.slice a2 (lms Q).length c2)
  exact ⟨_, _, _, _, rfl, h1, h2, HAP.out, set_four (Nat.le_refl _) HB.out _ _ _ _⟩
end Go.Proofs.YtbcokpnhhjjedaaGreatDoor

/- ReadRat of the specification at any text: it answers as the program. -/
namespace Go.Proofs.YtbcokpnhhjjedaaGreatDoor
open Go.RowKit
set_option linter.unusedVariables false

theorem decV_sm {ds : List UInt8} {k : Int} (hd : digAll ds = true) (hl : ds.length ≤ 800) (hk : k < 1000) : ∃ m, m ≤ 2000 ∧ (decV ds k).1 < 10 ^ m := by
  have hv := valN_lt ds hd
  unfold decV
  split
  · exact ⟨ds.length, by omega, hv⟩
  · refine ⟨ds.length + k.toNat, by omega, ?_⟩
    show valN ds * 10 ^ k.toNat < _
    rw [Nat.pow_add]
    exact Nat.mul_lt_mul_of_pos_right hv (Nat.pow_pos (by decide))
theorem endS_sm {ds : List UInt8} {k : Int} {p : Nat × Nat} (hd : digAll ds = true) (hl : ds.length ≤ 800) (hk : k ≤ 0) : ∀ {r : List UInt8}, endS ds k r = some p → ∃ m, m ≤ 2000 ∧ p.1 < 10 ^ m
  | [], h => by rw [← Option.some.inj h]; exact decV_sm hd hl (by omega)
  | c :: t, h => by
    simp only [endS] at h
    split at h
    · cases hx : expV t with
      | none => rw [hx] at h; cases h
      | some n =>
        have := exp_small hx
        rw [hx] at h; rw [← Option.some.inj h]; exact decV_sm hd hl (by omega)
    · cases h
theorem decS_sm {ds : List UInt8} {p : Nat × Nat} (hd : digAll ds = true) : ∀ {r : List UInt8}, ds.length + r.length ≤ 400 → decS' ds r = some p → ∃ m, m ≤ 2000 ∧ p.1 < 10 ^ m
  | [], hl, h => by simp only [decS'] at h; exact endS_sm hd (by simp at hl; omega) (Int.le_refl _) h
  | c :: t, hl, h => by
    simp only [decS'] at h
    have hlt : (t.takeWhile dg).length ≤ t.length := (List.takeWhile_sublist dg).length_le
    rw [List.length_cons] at hl
    split at h
    · split at h
      · cases h
      · exact endS_sm (digAll_app hd (tw_dig t)) (by rw [List.length_append]; omega) (by omega) h
    · exact endS_sm hd (by omega) (Int.le_refl _) h
theorem rrS_sm {l : List UInt8} {p : Nat × Nat} (hl : l.length ≤ 400) (h : rrS l = some p) : ∃ m, m ≤ 2000 ∧ p.1 < 10 ^ m := by
  unfold rrS at h
  split at h
  · cases h
  · have hd := tw_dig l
    have he := congrArg List.length (List.takeWhile_append_dropWhile (p := dg) (l := l))
    rw [List.length_append] at he
    revert h hd he
    generalize l.takeWhile dg = w
    generalize l.dropWhile dg = r
    intro h hd he
    cases r with
    | nil => simp only [readS'] at h; exact decS_sm hd (by simp at he; simp; omega) h
    | cons c t =>
      simp only [readS'] at h
      split at h
      · split at h
        · rw [← Option.some.inj h]
          have := valN_lt w hd
          exact ⟨w.length, by omega, this⟩
        · cases h
      · exact decS_sm hd (by omega) h
theorem len_sm {a : Nat} {g : Int} (h : ∃ m, m ≤ 2000 ∧ a < 10 ^ m) : (lms ((a : Int) / g)).length ≤ 1000000 := by
  obtain ⟨m, hm, ha⟩ := h
  refine Nat.le_trans (?_ : _ ≤ m) (by omega)
  refine Num.limbs_len.2 ?_
  have h1 : ((a : Int) / g).natAbs ≤ a := by have := Int.natAbs_ediv_le_natAbs (a : Int) g; rwa [Int.natAbs_natCast] at this
  exact Nat.lt_of_le_of_lt h1 (Nat.lt_of_lt_of_le ha (Nat.pow_le_pow_left (by decide) m))
theorem sgG_dvd1 (x y : Int) : sgG x y ∣ x := by
  unfold sgG; split
  · exact Int.neg_dvd.2 (Int.gcd_dvd_left ..)
  · exact Int.gcd_dvd_left ..
theorem sgG_negl (x y : Int) : sgG (-x) y = sgG x y := by unfold sgG; rw [Int.neg_gcd]
theorem div_negl (x y : Int) : -x / sgG (-x) y = -(x / sgG x y) := by
  rw [sgG_negl, Int.neg_ediv_of_dvd (sgG_dvd1 x y)]
theorem fin_yes {X Y P Q : Int} (hP : X / sgG X Y = P) (hQ : Y / sgG X Y = Q) (hy : Y ≠ 0) (hf : ftT P Q = true) {w w' : World} {e : Ending}
    (h : ∃ b1 e1 b2 e2, e = .returned (.tuple #[.agg #[.bool (sgn P), .slice b1 (lms P).length e1, .bool (sgn Q), .slice b2 (lms Q).length e2], .bool true]) ∧ Own w' w.heap.size b1 (lms P).length e1 (lms P) ∧ Own w' w.heap.size b2 (lms Q).length e2 (lms Q) ∧ Apart b1 b2 ∧ Below w.heap.size w w') : RatAns true X Y w w' e := by
  subst hP hQ
  obtain ⟨b1, e1, b2, e2, rfl, h1, h2, h3, h4⟩ := h
  exact ans_yes ((ans_ft rfl hy).trans hf) h1 h2 h3 h4
theorem fin_no {X Y P Q : Int} (hP : X / sgG X Y = P) (hQ : Y / sgG X Y = Q) (hy : Y ≠ 0) (hf : ftT P Q = false) {w w' : World} {e : Ending}
    (h : e = .returned (.tuple #[.agg #[.bool false, .slice none 0 0, .bool false, .slice none 0 0], .bool false]) ∧ Below w.heap.size w w') : RatAns true X Y w w' e := by
  subst hP hQ
  obtain ⟨rfl, h4⟩ := h
  exact ans_no ((ans_ft rfl hy).trans hf) h4
theorem fin_none (X Y : Int) {w w' : World} {e : Ending}
    (h : e = .returned (.tuple #[.agg #[.bool false, .slice none 0 0, .bool false, .slice none 0 0], .bool false]) ∧ Below w.heap.size w w') : RatAns false X Y w w' e := by
  obtain ⟨rfl, h4⟩ := h
  exact ans_no (rt_off _ _) h4

theorem readRatS (s : ByteArray) (w : World) :
    Calls Tryz.prog 11 #[.string s] w fun e w' => RatAns (rrO s).isSome (gotN (rdNeg s) (rrO s)) (gotD (rrO s)) w w' e := by
  by_cases hs : 400 < s.size
  · have e0 : rrO s = none := if_pos hs
    rw [e0]
    exact (rzL s s none 0 0 w hs).mono fun e w' h => fin_none _ _ h
  have hs4 : s.size ≤ 400 := by omega
  have e0 : rrO s = rrS (rdD s).data.toList := by unfold rrO; rw [if_neg hs, rr_eq]
  have hds : (rdD s).data.toList.length ≤ 400 := by
    have := trim_len s.data.toList
    rw [bsize] at this
    show (Lib.trimPrefix s.data.toList [45]).length ≤ 400
    omega
  rw [e0]
  cases ho : rrS (rdD s).data.toList with
  | none =>
    rcases sh_three s with ⟨hg, h0, ⟨h1, h45⟩, hx, hz⟩ | ⟨hg, h0, ⟨h1, h45⟩, hx⟩ | ⟨hg, h0, hx, hz⟩
    · exact (rzNN s _ none 0 0 w hs4 ho rfl rfl (emp_no h1) h1 h45 hx hz rfl).mono fun e w' h => fin_none _ _ h
    · exact (rzPN s _ none 0 0 w hs4 ho rfl rfl (emp_no h1) h1 h45 hx.symm rfl).mono fun e w' h => fin_none _ _ h
    · exact (rzZN s _ none 0 0 w hs4 ho rfl rfl (emp_of hz) hx.symm rfl).mono fun e w' h => fin_none _ _ h
  | some p =>
    obtain ⟨a, b⟩ := p
    have hb : b ≠ 0 := rrS_nz ho
    have hy : (b : Int) ≠ 0 := by omega
    have hsm := rrS_sm hds ho
    show Calls _ _ _ _ fun e w' => RatAns true (mk (rdNeg s) a) (b : Int) w w' e
    rcases sh_three s with ⟨hg, h0, ⟨h1, h45⟩, hx, hz⟩ | ⟨hg, h0, ⟨h1, h45⟩, hx⟩ | ⟨hg, h0, hx, hz⟩
    · have hm : mk (rdNeg s) a = -(a : Int) := by rw [hg]; rfl
      rw [hm]
      have hQ : (b : Int) / sgG (-(a : Int)) b = (b : Int) / sgG a b := by rw [sgG_negl]
      cases hf : ftT (-((a : Int) / sgG a b)) ((b : Int) / sgG a b) with
      | false => exact (rzNU s _ (some (a, b)) _ _ w hs4 ho rfl rfl (emp_no h1) h1 h45 hx hz rfl hf (len_sm hsm)).mono fun e w' h => fin_no (div_negl _ _) hQ hy hf h
      | true => exact (rzNF s _ (some (a, b)) _ _ w hs4 ho rfl rfl (emp_no h1) h1 h45 hx hz rfl hf (len_sm hsm)).mono fun e w' h => fin_yes (div_negl _ _) hQ hy hf h
    · have hm : mk (rdNeg s) a = (a : Int) := by rw [hg]; rfl
      rw [hm]
      cases hf : ftT ((a : Int) / sgG a b) ((b : Int) / sgG a b) with
      | false => exact (rzPU s _ (some (a, b)) _ _ w hs4 ho rfl rfl (emp_no h1) h1 h45 hx.symm rfl hf).mono fun e w' h => fin_no rfl rfl hy hf h
      | true => exact (rzPF s _ (some (a, b)) _ _ w hs4 ho rfl rfl (emp_no h1) h1 h45 hx.symm rfl hf).mono fun e w' h => fin_yes rfl rfl hy hf h
    · have hm : mk (rdNeg s) a = (a : Int) := by rw [hg]; rfl
      rw [hm]
      cases hf : ftT ((a : Int) / sgG a b) ((b : Int) / sgG a b) with
      | false => exact (rzZU s _ (some (a, b)) _ _ w hs4 ho rfl rfl (emp_of hz) hx.symm rfl hf).mono fun e w' h => fin_no rfl rfl hy hf h
      | true => exact (rzZF s _ (some (a, b)) _ _ w hs4 ho rfl rfl (emp_of hz) hx.symm rfl hf).mono fun e w' h => fin_yes rfl rfl hy hf h
end Go.Proofs.YtbcokpnhhjjedaaGreatDoor

/- The walks of both NumOf. -/
namespace Go.Proofs.YtbcokpnhhjjedaaGreatDoor
open Go.RowKit
set_option linter.unusedVariables false

def RX (s : ByteArray) : Int := rtN (rrO s).isSome (gotN (rdNeg s) (rrO s)) (gotD (rrO s))
def RY (s : ByteArray) : Int := rtD (rrO s).isSome (gotN (rdNeg s) (rrO s)) (gotD (rrO s))
def RF (s : ByteArray) : Bool := rtT (rrO s).isSome (gotN (rdNeg s) (rrO s)) (gotD (rrO s))
theorem readRatW (s : ByteArray) (w : World) (hs : s.size ≤ 4611686018427387904) :
    Calls Tryz.prog 11 #[.string s] w fun e w' => ∃ a1 c1 a2 c2, e = .returned (.tuple #[.agg #[.bool (sgn (RX s)), .slice a1 (lms (RX s)).length c1, .bool (sgn (RY s)), .slice a2 (lms (RY s)).length c2], .bool (RF s)]) ∧ Own w' w.heap.size a1 (lms (RX s)).length c1 (lms (RX s)) ∧ Own w' w.heap.size a2 (lms (RY s)).length c2 (lms (RY s)) ∧ Apart a1 a2 ∧ Below w.heap.size w w' := readRatS s w
theorem readRatP (s : ByteArray) (w : World) (hm : Mx w) (hs : s.size ≤ 4611686018427387904) :
    Calls Tryz.prog 12 #[.string s] w fun e w' => ∃ a1 c1 a2 c2, e = .returned (.tuple #[.agg #[.bool (sgn (RX s)), .slice a1 (lms (RX s)).length c1, .bool (sgn (RY s)), .slice a2 (lms (RY s)).length c2], .bool (RF s)]) ∧ Own w' w.heap.size a1 (lms (RX s)).length c1 (lms (RX s)) ∧ Own w' w.heap.size a2 (lms (RY s)).length c2 (lms (RY s)) ∧ Apart a1 a2 ∧ Below w.heap.size w w' := readRatG s w hm hs
def NX (k : Int) (s : ByteArray) : Int := if k = 1 then RX s else 0
def NY (k : Int) (s : ByteArray) : Int := if k = 1 then RY s else 0
def NF (k : Int) (s : ByteArray) : Bool := if k = 1 then RF s else false
theorem NX_len (k : Int) (s : ByteArray) : (lms (NX k s)).length ≤ 40 := by
  unfold NX; split
  · exact rtN_len _ _ _
  · rw [zero_lms]; exact Nat.zero_le _
theorem NY_len (k : Int) (s : ByteArray) : (lms (NY k s)).length ≤ 40 := by
  unfold NY; split
  · exact rtD_len _ _ _
  · rw [zero_lms]; exact Nat.zero_le _

set_option maxHeartbeats 4000000 in
set_option maxRecDepth 20000 in
theorem numOfS (k : Int) (s : ByteArray) (t : Int) (w : World) (hs : s.size ≤ 4611686018427387904) :
    Calls Tryz.prog 5 #[Value.agg #[Value.int .i64 k, Value.string s, Value.int .i64 t]] w fun e w' => ∃ a1 c1 a2 c2, e = .returned (.tuple #[.agg #[.bool (sgn (NX k s)), .slice a1 (lms (NX k s)).length c1, .bool (sgn (NY k s)), .slice a2 (lms (NY k s)).length c2], .bool (NF k s)]) ∧ Own w' w.heap.size a1 (lms (NX k s)).length c1 (lms (NX k s)) ∧ Own w' w.heap.size a2 (lms (NY k s)).length c2 (lms (NY k s)) ∧ Apart a1 a2 ∧ Below w.heap.size w w' := by
  by_cases hk : k = 1
  · skip
    have e1 : NX k s = RX s := if_pos hk
    have e2 : NY k s = RY s := if_pos hk
    have e3 : NF k s = RF s := if_pos hk
    rw [e1, e2, e3]
    clear e1 e2 e3
    subst hk
    obtain ⟨X, hX⟩ : ∃ X, RX s = X := ⟨_, rfl⟩
    obtain ⟨Y, hY⟩ : ∃ Y, RY s = Y := ⟨_, rfl⟩
    obtain ⟨F, hF⟩ : ∃ F, RF s = F := ⟨_, rfl⟩
    rw [hX, hY, hF]
    have HX := hide (And.intro hX (And.intro hY hF))
    clear hX hY hF
    have ka0 : ((w.alloc (Obj.cells #[Value.int .i64 1, Value.string s, Value.int .i64 t] 32)).alloc (Obj.cells #[Value.bool false, Value.slice none 0 0, Value.bool false, Value.slice none 0 0] 29)).cell? ⟨w.heap.size, 0, none⟩ = some (Value.int .i64 1) := by go_simp
    have ka1 : ((w.alloc (Obj.cells #[Value.int .i64 1, Value.string s, Value.int .i64 t] 32)).alloc (Obj.cells #[Value.bool false, Value.slice none 0 0, Value.bool false, Value.slice none 0 0] 29)).cell? ⟨w.heap.size, 1, none⟩ = some (Value.string s) := by go_simp
    have ka2 : ((w.alloc (Obj.cells #[Value.int .i64 1, Value.string s, Value.int .i64 t] 32)).alloc (Obj.cells #[Value.bool false, Value.slice none 0 0, Value.bool false, Value.slice none 0 0] 29)).cell? ⟨w.heap.size, 2, none⟩ = some (Value.int .i64 t) := by go_simp
    have kr0 : ((w.alloc (Obj.cells #[Value.int .i64 1, Value.string s, Value.int .i64 t] 32)).alloc (Obj.cells #[Value.bool false, Value.slice none 0 0, Value.bool false, Value.slice none 0 0] 29)).cell? ⟨w.heap.size + 1, 0, none⟩ = some (Value.bool false) := by go_simp
    have fr0 : ((w.alloc (Obj.cells #[Value.int .i64 1, Value.string s, Value.int .i64 t] 32)).alloc (Obj.cells #[Value.bool false, Value.slice none 0 0, Value.bool false, Value.slice none 0 0] 29)).frozen? ⟨w.heap.size + 1, 0, none⟩ = false := by go_simp
    have kr1 : ((w.alloc (Obj.cells #[Value.int .i64 1, Value.string s, Value.int .i64 t] 32)).alloc (Obj.cells #[Value.bool false, Value.slice none 0 0, Value.bool false, Value.slice none 0 0] 29)).cell? ⟨w.heap.size + 1, 1, none⟩ = some (Value.slice none 0 0) := by go_simp
    have fr1 : ((w.alloc (Obj.cells #[Value.int .i64 1, Value.string s, Value.int .i64 t] 32)).alloc (Obj.cells #[Value.bool false, Value.slice none 0 0, Value.bool false, Value.slice none 0 0] 29)).frozen? ⟨w.heap.size + 1, 1, none⟩ = false := by go_simp
    have kr2 : ((w.alloc (Obj.cells #[Value.int .i64 1, Value.string s, Value.int .i64 t] 32)).alloc (Obj.cells #[Value.bool false, Value.slice none 0 0, Value.bool false, Value.slice none 0 0] 29)).cell? ⟨w.heap.size + 1, 2, none⟩ = some (Value.bool false) := by go_simp
    have fr2 : ((w.alloc (Obj.cells #[Value.int .i64 1, Value.string s, Value.int .i64 t] 32)).alloc (Obj.cells #[Value.bool false, Value.slice none 0 0, Value.bool false, Value.slice none 0 0] 29)).frozen? ⟨w.heap.size + 1, 2, none⟩ = false := by go_simp
    have kr3 : ((w.alloc (Obj.cells #[Value.int .i64 1, Value.string s, Value.int .i64 t] 32)).alloc (Obj.cells #[Value.bool false, Value.slice none 0 0, Value.bool false, Value.slice none 0 0] 29)).cell? ⟨w.heap.size + 1, 3, none⟩ = some (Value.slice none 0 0) := by go_simp
    have fr3 : ((w.alloc (Obj.cells #[Value.int .i64 1, Value.string s, Value.int .i64 t] 32)).alloc (Obj.cells #[Value.bool false, Value.slice none 0 0, Value.bool false, Value.slice none 0 0] 29)).frozen? ⟨w.heap.size + 1, 3, none⟩ = false := by go_simp
    have zr : w.heap.size + 1 < ((w.alloc (Obj.cells #[Value.int .i64 1, Value.string s, Value.int .i64 t] 32)).alloc (Obj.cells #[Value.bool false, Value.slice none 0 0, Value.bool false, Value.slice none 0 0] 29)).heap.size := by simp only [World.size_alloc]; omega
    have HB := hide (bl_alloc (bl_alloc (bl_refl w) (Obj.cells #[Value.int .i64 1, Value.string s, Value.int .i64 t] 32)) (Obj.cells #[Value.bool false, Value.slice none 0 0, Value.bool false, Value.slice none 0 0] 29))
    go_enter Tryz.func5, Tryz.ntmps5
    go_wp2_with fail
    generalize ((w.alloc (Obj.cells #[Value.int .i64 1, Value.string s, Value.int .i64 t] 32)).alloc (Obj.cells #[Value.bool false, Value.slice none 0 0, Value.bool false, Value.slice none 0 0] 29)) = w1 at *
    have z0 := zr
    refine (readRatW s _ hs).mono ?_
    rw [HX.out.1, HX.out.2.1, HX.out.2.2]
    rintro e w2 ⟨a1, c1, a2, c2, rfl, ho1, ho2, hap, hb⟩
    have yw2 := hb.size
    replace ka0 := (hb.cell (p := ⟨w.heap.size, 0, none⟩) (by dsimp only; omega)).trans ka0
    replace ka1 := (hb.cell (p := ⟨w.heap.size, 1, none⟩) (by dsimp only; omega)).trans ka1
    replace ka2 := (hb.cell (p := ⟨w.heap.size, 2, none⟩) (by dsimp only; omega)).trans ka2
    replace kr0 := (hb.cell (p := ⟨w.heap.size + 1, 0, none⟩) (by dsimp only; omega)).trans kr0
    replace fr0 := (hb.frozen (p := ⟨w.heap.size + 1, 0, none⟩) (by dsimp only; omega)).trans fr0
    replace kr1 := (hb.cell (p := ⟨w.heap.size + 1, 1, none⟩) (by dsimp only; omega)).trans kr1
    replace fr1 := (hb.frozen (p := ⟨w.heap.size + 1, 1, none⟩) (by dsimp only; omega)).trans fr1
    replace kr2 := (hb.cell (p := ⟨w.heap.size + 1, 2, none⟩) (by dsimp only; omega)).trans kr2
    replace fr2 := (hb.frozen (p := ⟨w.heap.size + 1, 2, none⟩) (by dsimp only; omega)).trans fr2
    replace kr3 := (hb.cell (p := ⟨w.heap.size + 1, 3, none⟩) (by dsimp only; omega)).trans kr3
    replace fr3 := (hb.frozen (p := ⟨w.heap.size + 1, 3, none⟩) (by dsimp only; omega)).trans fr3
    replace zr := Nat.lt_of_lt_of_le zr hb.size
    replace HB := hide (bl_trans HB.out hb)
    clear hb
    have O1 := hide ho1
    have O2 := hide ho2
    have HAP := hide hap
    clear ho1 ho2 hap
    go_wp2
    refine bodyPost_ret (v := (.tuple #[Value.agg #[Value.bool (sgn X), Value.slice a1 (lms X).length c1, Value.bool (sgn Y), Value.slice a2 (lms Y).length c2], .bool F])) (by simp [results, Tryz.results5, go_sem, kr0, kr1, kr2, kr3]) rfl ?_
    obtain ⟨h1, h2, h3⟩ := fin_four (N := w.heap.size + 1) O1.out O2.out (by omega) (by omega) (by omega) HB.out (Value.bool (sgn X)) (Value.slice a1 (lms X).length c1) (Value.bool (sgn Y)) (Value.slice a2 (lms Y).length c2)
    exact ⟨a1, c1, a2, c2, rfl, h1, h2, HAP.out, h3⟩
  · skip
    have e1 : NX k s = 0 := if_neg hk
    have e2 : NY k s = 0 := if_neg hk
    have e3 : NF k s = false := if_neg hk
    rw [e1, e2, e3, zero_lms, zero_sgn]
    clear e1 e2 e3
    have hk2 : (k == 1) = false := by rw [beq_eq_false_iff_ne]; exact hk
    have ka0 : ((w.alloc (Obj.cells #[Value.int .i64 k, Value.string s, Value.int .i64 t] 32)).alloc (Obj.cells #[Value.bool false, Value.slice none 0 0, Value.bool false, Value.slice none 0 0] 29)).cell? ⟨w.heap.size, 0, none⟩ = some (Value.int .i64 k) := by go_simp
    have ka1 : ((w.alloc (Obj.cells #[Value.int .i64 k, Value.string s, Value.int .i64 t] 32)).alloc (Obj.cells #[Value.bool false, Value.slice none 0 0, Value.bool false, Value.slice none 0 0] 29)).cell? ⟨w.heap.size, 1, none⟩ = some (Value.string s) := by go_simp
    have ka2 : ((w.alloc (Obj.cells #[Value.int .i64 k, Value.string s, Value.int .i64 t] 32)).alloc (Obj.cells #[Value.bool false, Value.slice none 0 0, Value.bool false, Value.slice none 0 0] 29)).cell? ⟨w.heap.size, 2, none⟩ = some (Value.int .i64 t) := by go_simp
    have kr0 : ((w.alloc (Obj.cells #[Value.int .i64 k, Value.string s, Value.int .i64 t] 32)).alloc (Obj.cells #[Value.bool false, Value.slice none 0 0, Value.bool false, Value.slice none 0 0] 29)).cell? ⟨w.heap.size + 1, 0, none⟩ = some (Value.bool false) := by go_simp
    have fr0 : ((w.alloc (Obj.cells #[Value.int .i64 k, Value.string s, Value.int .i64 t] 32)).alloc (Obj.cells #[Value.bool false, Value.slice none 0 0, Value.bool false, Value.slice none 0 0] 29)).frozen? ⟨w.heap.size + 1, 0, none⟩ = false := by go_simp
    have kr1 : ((w.alloc (Obj.cells #[Value.int .i64 k, Value.string s, Value.int .i64 t] 32)).alloc (Obj.cells #[Value.bool false, Value.slice none 0 0, Value.bool false, Value.slice none 0 0] 29)).cell? ⟨w.heap.size + 1, 1, none⟩ = some (Value.slice none 0 0) := by go_simp
    have fr1 : ((w.alloc (Obj.cells #[Value.int .i64 k, Value.string s, Value.int .i64 t] 32)).alloc (Obj.cells #[Value.bool false, Value.slice none 0 0, Value.bool false, Value.slice none 0 0] 29)).frozen? ⟨w.heap.size + 1, 1, none⟩ = false := by go_simp
    have kr2 : ((w.alloc (Obj.cells #[Value.int .i64 k, Value.string s, Value.int .i64 t] 32)).alloc (Obj.cells #[Value.bool false, Value.slice none 0 0, Value.bool false, Value.slice none 0 0] 29)).cell? ⟨w.heap.size + 1, 2, none⟩ = some (Value.bool false) := by go_simp
    have fr2 : ((w.alloc (Obj.cells #[Value.int .i64 k, Value.string s, Value.int .i64 t] 32)).alloc (Obj.cells #[Value.bool false, Value.slice none 0 0, Value.bool false, Value.slice none 0 0] 29)).frozen? ⟨w.heap.size + 1, 2, none⟩ = false := by go_simp
    have kr3 : ((w.alloc (Obj.cells #[Value.int .i64 k, Value.string s, Value.int .i64 t] 32)).alloc (Obj.cells #[Value.bool false, Value.slice none 0 0, Value.bool false, Value.slice none 0 0] 29)).cell? ⟨w.heap.size + 1, 3, none⟩ = some (Value.slice none 0 0) := by go_simp
    have fr3 : ((w.alloc (Obj.cells #[Value.int .i64 k, Value.string s, Value.int .i64 t] 32)).alloc (Obj.cells #[Value.bool false, Value.slice none 0 0, Value.bool false, Value.slice none 0 0] 29)).frozen? ⟨w.heap.size + 1, 3, none⟩ = false := by go_simp
    have zr : w.heap.size + 1 < ((w.alloc (Obj.cells #[Value.int .i64 k, Value.string s, Value.int .i64 t] 32)).alloc (Obj.cells #[Value.bool false, Value.slice none 0 0, Value.bool false, Value.slice none 0 0] 29)).heap.size := by simp only [World.size_alloc]; omega
    have HB := hide (bl_alloc (bl_alloc (bl_refl w) (Obj.cells #[Value.int .i64 k, Value.string s, Value.int .i64 t] 32)) (Obj.cells #[Value.bool false, Value.slice none 0 0, Value.bool false, Value.slice none 0 0] 29))
    go_enter Tryz.func5, Tryz.ntmps5
    go_wp2
    refine bodyPost_ret (v := (.tuple #[.agg #[.bool false, .slice none 0 0, .bool false, .slice none 0 0], .bool false])) (by simp [results, Tryz.results5, go_sem, kr0, kr1, kr2, kr3]) rfl ?_
    exact ⟨none, 0, none, 0, rfl, Own.nil _ _, Own.nil _ _, Apart.none _, by first | exact HB.out | exact set_four (by omega) HB.out _ _ _ _⟩

set_option maxHeartbeats 4000000 in
set_option maxRecDepth 20000 in
theorem numOfI (k : Int) (s : ByteArray) (t : Int) (w : World) (hs : s.size ≤ 4611686018427387904) (hm : Mx w) :
    Calls Tryz.prog 7 #[Value.agg #[Value.int .i64 k, Value.string s, Value.int .i64 t]] w fun e w' => ∃ a1 c1 a2 c2, e = .returned (.tuple #[.agg #[.bool (sgn (NX k s)), .slice a1 (lms (NX k s)).length c1, .bool (sgn (NY k s)), .slice a2 (lms (NY k s)).length c2], .bool (NF k s)]) ∧ Own w' w.heap.size a1 (lms (NX k s)).length c1 (lms (NX k s)) ∧ Own w' w.heap.size a2 (lms (NY k s)).length c2 (lms (NY k s)) ∧ Apart a1 a2 ∧ Below w.heap.size w w' := by
  have HM0 := hide hm
  clear hm
  by_cases hk : k = 1
  · skip
    have e1 : NX k s = RX s := if_pos hk
    have e2 : NY k s = RY s := if_pos hk
    have e3 : NF k s = RF s := if_pos hk
    rw [e1, e2, e3]
    clear e1 e2 e3
    subst hk
    obtain ⟨X, hX⟩ : ∃ X, RX s = X := ⟨_, rfl⟩
    obtain ⟨Y, hY⟩ : ∃ Y, RY s = Y := ⟨_, rfl⟩
    obtain ⟨F, hF⟩ : ∃ F, RF s = F := ⟨_, rfl⟩
    rw [hX, hY, hF]
    have HX := hide (And.intro hX (And.intro hY hF))
    clear hX hY hF
    have ka0 : ((w.alloc (Obj.cells #[Value.int .i64 1, Value.string s, Value.int .i64 t] 32)).alloc (Obj.cells #[Value.bool false, Value.slice none 0 0, Value.bool false, Value.slice none 0 0] 29)).cell? ⟨w.heap.size, 0, none⟩ = some (Value.int .i64 1) := by go_simp
    have ka1 : ((w.alloc (Obj.cells #[Value.int .i64 1, Value.string s, Value.int .i64 t] 32)).alloc (Obj.cells #[Value.bool false, Value.slice none 0 0, Value.bool false, Value.slice none 0 0] 29)).cell? ⟨w.heap.size, 1, none⟩ = some (Value.string s) := by go_simp
    have ka2 : ((w.alloc (Obj.cells #[Value.int .i64 1, Value.string s, Value.int .i64 t] 32)).alloc (Obj.cells #[Value.bool false, Value.slice none 0 0, Value.bool false, Value.slice none 0 0] 29)).cell? ⟨w.heap.size, 2, none⟩ = some (Value.int .i64 t) := by go_simp
    have kr0 : ((w.alloc (Obj.cells #[Value.int .i64 1, Value.string s, Value.int .i64 t] 32)).alloc (Obj.cells #[Value.bool false, Value.slice none 0 0, Value.bool false, Value.slice none 0 0] 29)).cell? ⟨w.heap.size + 1, 0, none⟩ = some (Value.bool false) := by go_simp
    have fr0 : ((w.alloc (Obj.cells #[Value.int .i64 1, Value.string s, Value.int .i64 t] 32)).alloc (Obj.cells #[Value.bool false, Value.slice none 0 0, Value.bool false, Value.slice none 0 0] 29)).frozen? ⟨w.heap.size + 1, 0, none⟩ = false := by go_simp
    have kr1 : ((w.alloc (Obj.cells #[Value.int .i64 1, Value.string s, Value.int .i64 t] 32)).alloc (Obj.cells #[Value.bool false, Value.slice none 0 0, Value.bool false, Value.slice none 0 0] 29)).cell? ⟨w.heap.size + 1, 1, none⟩ = some (Value.slice none 0 0) := by go_simp
    have fr1 : ((w.alloc (Obj.cells #[Value.int .i64 1, Value.string s, Value.int .i64 t] 32)).alloc (Obj.cells #[Value.bool false, Value.slice none 0 0, Value.bool false, Value.slice none 0 0] 29)).frozen? ⟨w.heap.size + 1, 1, none⟩ = false := by go_simp
    have kr2 : ((w.alloc (Obj.cells #[Value.int .i64 1, Value.string s, Value.int .i64 t] 32)).alloc (Obj.cells #[Value.bool false, Value.slice none 0 0, Value.bool false, Value.slice none 0 0] 29)).cell? ⟨w.heap.size + 1, 2, none⟩ = some (Value.bool false) := by go_simp
    have fr2 : ((w.alloc (Obj.cells #[Value.int .i64 1, Value.string s, Value.int .i64 t] 32)).alloc (Obj.cells #[Value.bool false, Value.slice none 0 0, Value.bool false, Value.slice none 0 0] 29)).frozen? ⟨w.heap.size + 1, 2, none⟩ = false := by go_simp
    have kr3 : ((w.alloc (Obj.cells #[Value.int .i64 1, Value.string s, Value.int .i64 t] 32)).alloc (Obj.cells #[Value.bool false, Value.slice none 0 0, Value.bool false, Value.slice none 0 0] 29)).cell? ⟨w.heap.size + 1, 3, none⟩ = some (Value.slice none 0 0) := by go_simp
    have fr3 : ((w.alloc (Obj.cells #[Value.int .i64 1, Value.string s, Value.int .i64 t] 32)).alloc (Obj.cells #[Value.bool false, Value.slice none 0 0, Value.bool false, Value.slice none 0 0] 29)).frozen? ⟨w.heap.size + 1, 3, none⟩ = false := by go_simp
    have zr : w.heap.size + 1 < ((w.alloc (Obj.cells #[Value.int .i64 1, Value.string s, Value.int .i64 t] 32)).alloc (Obj.cells #[Value.bool false, Value.slice none 0 0, Value.bool false, Value.slice none 0 0] 29)).heap.size := by simp only [World.size_alloc]; omega
    have HB := hide (bl_alloc (bl_alloc (bl_refl w) (Obj.cells #[Value.int .i64 1, Value.string s, Value.int .i64 t] 32)) (Obj.cells #[Value.bool false, Value.slice none 0 0, Value.bool false, Value.slice none 0 0] 29))
    go_enter Tryz.func7, Tryz.ntmps7
    go_wp2_with fail
    generalize ((w.alloc (Obj.cells #[Value.int .i64 1, Value.string s, Value.int .i64 t] 32)).alloc (Obj.cells #[Value.bool false, Value.slice none 0 0, Value.bool false, Value.slice none 0 0] 29)) = w1 at *
    have z0 := zr
    refine (readRatP s _ (HM0.out.below HB.out) hs).mono ?_
    rw [HX.out.1, HX.out.2.1, HX.out.2.2]
    rintro e w2 ⟨a1, c1, a2, c2, rfl, ho1, ho2, hap, hb⟩
    have yw2 := hb.size
    replace ka0 := (hb.cell (p := ⟨w.heap.size, 0, none⟩) (by dsimp only; omega)).trans ka0
    replace ka1 := (hb.cell (p := ⟨w.heap.size, 1, none⟩) (by dsimp only; omega)).trans ka1
    replace ka2 := (hb.cell (p := ⟨w.heap.size, 2, none⟩) (by dsimp only; omega)).trans ka2
    replace kr0 := (hb.cell (p := ⟨w.heap.size + 1, 0, none⟩) (by dsimp only; omega)).trans kr0
    replace fr0 := (hb.frozen (p := ⟨w.heap.size + 1, 0, none⟩) (by dsimp only; omega)).trans fr0
    replace kr1 := (hb.cell (p := ⟨w.heap.size + 1, 1, none⟩) (by dsimp only; omega)).trans kr1
    replace fr1 := (hb.frozen (p := ⟨w.heap.size + 1, 1, none⟩) (by dsimp only; omega)).trans fr1
    replace kr2 := (hb.cell (p := ⟨w.heap.size + 1, 2, none⟩) (by dsimp only; omega)).trans kr2
    replace fr2 := (hb.frozen (p := ⟨w.heap.size + 1, 2, none⟩) (by dsimp only; omega)).trans fr2
    replace kr3 := (hb.cell (p := ⟨w.heap.size + 1, 3, none⟩) (by dsimp only; omega)).trans kr3
    replace fr3 := (hb.frozen (p := ⟨w.heap.size + 1, 3, none⟩) (by dsimp only; omega)).trans fr3
    replace zr := Nat.lt_of_lt_of_le zr hb.size
    replace HB := hide (bl_trans HB.out hb)
    clear hb
    have O1 := hide ho1
    have O2 := hide ho2
    have HAP := hide hap
    clear ho1 ho2 hap
    go_wp2
    refine bodyPost_ret (v := (.tuple #[Value.agg #[Value.bool (sgn X), Value.slice a1 (lms X).length c1, Value.bool (sgn Y), Value.slice a2 (lms Y).length c2], .bool F])) (by simp [results, Tryz.results7, go_sem, kr0, kr1, kr2, kr3]) rfl ?_
    obtain ⟨h1, h2, h3⟩ := fin_four (N := w.heap.size + 1) O1.out O2.out (by omega) (by omega) (by omega) HB.out (Value.bool (sgn X)) (Value.slice a1 (lms X).length c1) (Value.bool (sgn Y)) (Value.slice a2 (lms Y).length c2)
    exact ⟨a1, c1, a2, c2, rfl, h1, h2, HAP.out, h3⟩
  · skip
    have e1 : NX k s = 0 := if_neg hk
    have e2 : NY k s = 0 := if_neg hk
    have e3 : NF k s = false := if_neg hk
    rw [e1, e2, e3, zero_lms, zero_sgn]
    clear e1 e2 e3
    have hk2 : (k == 1) = false := by rw [beq_eq_false_iff_ne]; exact hk
    have ka0 : ((w.alloc (Obj.cells #[Value.int .i64 k, Value.string s, Value.int .i64 t] 32)).alloc (Obj.cells #[Value.bool false, Value.slice none 0 0, Value.bool false, Value.slice none 0 0] 29)).cell? ⟨w.heap.size, 0, none⟩ = some (Value.int .i64 k) := by go_simp
    have ka1 : ((w.alloc (Obj.cells #[Value.int .i64 k, Value.string s, Value.int .i64 t] 32)).alloc (Obj.cells #[Value.bool false, Value.slice none 0 0, Value.bool false, Value.slice none 0 0] 29)).cell? ⟨w.heap.size, 1, none⟩ = some (Value.string s) := by go_simp
    have ka2 : ((w.alloc (Obj.cells #[Value.int .i64 k, Value.string s, Value.int .i64 t] 32)).alloc (Obj.cells #[Value.bool false, Value.slice none 0 0, Value.bool false, Value.slice none 0 0] 29)).cell? ⟨w.heap.size, 2, none⟩ = some (Value.int .i64 t) := by go_simp
    have kr0 : ((w.alloc (Obj.cells #[Value.int .i64 k, Value.string s, Value.int .i64 t] 32)).alloc (Obj.cells #[Value.bool false, Value.slice none 0 0, Value.bool false, Value.slice none 0 0] 29)).cell? ⟨w.heap.size + 1, 0, none⟩ = some (Value.bool false) := by go_simp
    have fr0 : ((w.alloc (Obj.cells #[Value.int .i64 k, Value.string s, Value.int .i64 t] 32)).alloc (Obj.cells #[Value.bool false, Value.slice none 0 0, Value.bool false, Value.slice none 0 0] 29)).frozen? ⟨w.heap.size + 1, 0, none⟩ = false := by go_simp
    have kr1 : ((w.alloc (Obj.cells #[Value.int .i64 k, Value.string s, Value.int .i64 t] 32)).alloc (Obj.cells #[Value.bool false, Value.slice none 0 0, Value.bool false, Value.slice none 0 0] 29)).cell? ⟨w.heap.size + 1, 1, none⟩ = some (Value.slice none 0 0) := by go_simp
    have fr1 : ((w.alloc (Obj.cells #[Value.int .i64 k, Value.string s, Value.int .i64 t] 32)).alloc (Obj.cells #[Value.bool false, Value.slice none 0 0, Value.bool false, Value.slice none 0 0] 29)).frozen? ⟨w.heap.size + 1, 1, none⟩ = false := by go_simp
    have kr2 : ((w.alloc (Obj.cells #[Value.int .i64 k, Value.string s, Value.int .i64 t] 32)).alloc (Obj.cells #[Value.bool false, Value.slice none 0 0, Value.bool false, Value.slice none 0 0] 29)).cell? ⟨w.heap.size + 1, 2, none⟩ = some (Value.bool false) := by go_simp
    have fr2 : ((w.alloc (Obj.cells #[Value.int .i64 k, Value.string s, Value.int .i64 t] 32)).alloc (Obj.cells #[Value.bool false, Value.slice none 0 0, Value.bool false, Value.slice none 0 0] 29)).frozen? ⟨w.heap.size + 1, 2, none⟩ = false := by go_simp
    have kr3 : ((w.alloc (Obj.cells #[Value.int .i64 k, Value.string s, Value.int .i64 t] 32)).alloc (Obj.cells #[Value.bool false, Value.slice none 0 0, Value.bool false, Value.slice none 0 0] 29)).cell? ⟨w.heap.size + 1, 3, none⟩ = some (Value.slice none 0 0) := by go_simp
    have fr3 : ((w.alloc (Obj.cells #[Value.int .i64 k, Value.string s, Value.int .i64 t] 32)).alloc (Obj.cells #[Value.bool false, Value.slice none 0 0, Value.bool false, Value.slice none 0 0] 29)).frozen? ⟨w.heap.size + 1, 3, none⟩ = false := by go_simp
    have zr : w.heap.size + 1 < ((w.alloc (Obj.cells #[Value.int .i64 k, Value.string s, Value.int .i64 t] 32)).alloc (Obj.cells #[Value.bool false, Value.slice none 0 0, Value.bool false, Value.slice none 0 0] 29)).heap.size := by simp only [World.size_alloc]; omega
    have HB := hide (bl_alloc (bl_alloc (bl_refl w) (Obj.cells #[Value.int .i64 k, Value.string s, Value.int .i64 t] 32)) (Obj.cells #[Value.bool false, Value.slice none 0 0, Value.bool false, Value.slice none 0 0] 29))
    go_enter Tryz.func7, Tryz.ntmps7
    go_wp2
    refine bodyPost_ret (v := (.tuple #[.agg #[.bool false, .slice none 0 0, .bool false, .slice none 0 0], .bool false])) (by simp [results, Tryz.results7, go_sem, kr0, kr1, kr2, kr3]) rfl ?_
    exact ⟨none, 0, none, 0, rfl, Own.nil _ _, Own.nil _ _, Apart.none _, by first | exact HB.out | exact set_four (by omega) HB.out _ _ _ _⟩

theorem szT (k : Int) (s : ByteArray) (t : Int) (left : Int) (w : World) (hs : s.size ≤ 9223372036854775807) (h0 : 0 ≤ left) (h1 : left ≤ 1048576) :
    Calls Tryz.prog 4 #[Value.agg #[Value.int .i64 k, Value.string s, Value.int .i64 t], .int .i64 left] w fun e w' => e = .returned (.int .i64 (if left < (s.size : Int) then -1 else left - (s.size : Int))) ∧ Below w.heap.size w w' := by
  by_cases hl : left < (s.size : Int)
  · rw [if_pos hl]
    have HB := hide (bl_alloc (bl_refl w) (Obj.cells #[Value.int .i64 k, Value.string s, Value.int .i64 t] 23))
    go_enter Tryz.func4, Tryz.ntmps4
    go_wp2
    go_ret
    exact ⟨rfl, HB.out⟩
  · rw [if_neg hl]
    have HB := hide (bl_alloc (bl_refl w) (Obj.cells #[Value.int .i64 k, Value.string s, Value.int .i64 t] 23))
    go_enter Tryz.func4, Tryz.ntmps4
    go_wp2
    go_ret
    exact ⟨rfl, HB.out⟩

set_option maxHeartbeats 1000000 in
theorem toT (k : Int) (s : ByteArray) (t : Int) (w : World) :
    Calls Tryz.prog 6 #[Value.agg #[Value.int .i64 k, Value.string s, Value.int .i64 t]] w fun e w' => e = .returned (Value.agg #[Value.int .i64 k, Value.string s, Value.int .i64 t]) ∧ Below w.heap.size w w' := by
  go_enter Tryz.func6, Tryz.ntmps6
  go_wp2
  refine bodyPost_ret (v := Value.agg #[Value.int .i64 k, Value.string s, Value.int .i64 t]) (by simp [results, Tryz.results6, go_sem]) rfl ?_
  exact ⟨rfl, bl_alloc (bl_alloc (bl_alloc (bl_refl w) _) _) _⟩

end Go.Proofs.YtbcokpnhhjjedaaGreatDoor

/- The walk of the exact law of NumOf. -/
namespace Go.Proofs.YtbcokpnhhjjedaaGreatDoor
open Go.RowKit
set_option linter.unusedVariables false

set_option maxHeartbeats 40000000 in
set_option maxRecDepth 20000 in
theorem walkNo (kd : Int) (s : ByteArray) (t : Int) (w : World) (hs : s.size ≤ 9223372036854775807) (hm : Mx w) :
    Calls Tryz.prog 3 #[Value.agg #[Value.int .i64 kd, Value.string s, Value.int .i64 t]] w fun e w' => e = .returned (.bool true) ∧ Below w.heap.size w w' := by
  have HMX := hide hm
  clear hm
  have hzx := NX_len kd s
  have hzy := NY_len kd s
  have k1_0 : (w.alloc (Obj.cells #[Value.int .i64 kd, Value.string s, Value.int .i64 t] 23)).cell? ⟨w.heap.size, 0, none⟩ = some (Value.int .i64 kd) := by go_simp
  have k1_1 : (w.alloc (Obj.cells #[Value.int .i64 kd, Value.string s, Value.int .i64 t] 23)).cell? ⟨w.heap.size, 1, none⟩ = some (Value.string s) := by go_simp
  have k1_2 : (w.alloc (Obj.cells #[Value.int .i64 kd, Value.string s, Value.int .i64 t] 23)).cell? ⟨w.heap.size, 2, none⟩ = some (Value.int .i64 t) := by go_simp
  have z1 : w.heap.size < (w.alloc (Obj.cells #[Value.int .i64 kd, Value.string s, Value.int .i64 t] 23)).heap.size := by simp only [World.size_alloc]; omega
  have HB := hide (bl_alloc (bl_refl w) (Obj.cells #[Value.int .i64 kd, Value.string s, Value.int .i64 t] 23))
  go_enter Tryz.func3, Tryz.ntmps3
  go_wp2_with fail
  generalize w.alloc (Obj.cells #[Value.int .i64 kd, Value.string s, Value.int .i64 t] 23) = w1 at *
  have y0 := z1
  refine (szT kd s t 1048576 _ hs (by omega) (by omega)).mono ?_
  rintro e w2 ⟨rfl, hbw2⟩
  have yw2 := hbw2.size
  replace k1_0 := (hbw2.cell (p := ⟨w.heap.size, 0, none⟩) z1).trans k1_0
  replace k1_1 := (hbw2.cell (p := ⟨w.heap.size, 1, none⟩) z1).trans k1_1
  replace k1_2 := (hbw2.cell (p := ⟨w.heap.size, 2, none⟩) z1).trans k1_2
  replace z1 := Nat.lt_of_lt_of_le z1 hbw2.size
  replace HB := hide (bl_trans HB.out hbw2)
  clear hbw2
  by_cases hbig : (1048576 : Int) < (s.size : Int)
  · rw [if_pos hbig]
    go_wp2
    go_ret
    exact ⟨rfl, HB.out⟩
  rw [if_neg hbig]
  go_wp2_with fail
  refine (toT kd s t _).mono ?_
  rintro e w3 ⟨rfl, hbw3⟩
  have yw3 := hbw3.size
  replace k1_0 := (hbw3.cell (p := ⟨w.heap.size, 0, none⟩) z1).trans k1_0
  replace k1_1 := (hbw3.cell (p := ⟨w.heap.size, 1, none⟩) z1).trans k1_1
  replace k1_2 := (hbw3.cell (p := ⟨w.heap.size, 2, none⟩) z1).trans k1_2
  replace z1 := Nat.lt_of_lt_of_le z1 hbw3.size
  replace HB := hide (bl_trans HB.out hbw3)
  clear hbw3
  go_wp2_with fail
  refine (numOfS kd s t _ (by omega)).mono ?_
  rintro e w4 ⟨aW0n, cW0n, aW0d, cW0d, rfl, hoW0n, hoW0d, hapW01, hbw4⟩
  have yw4 := hbw4.size
  replace k1_0 := (hbw4.cell (p := ⟨w.heap.size, 0, none⟩) z1).trans k1_0
  replace k1_1 := (hbw4.cell (p := ⟨w.heap.size, 1, none⟩) z1).trans k1_1
  replace k1_2 := (hbw4.cell (p := ⟨w.heap.size, 2, none⟩) z1).trans k1_2
  replace z1 := Nat.lt_of_lt_of_le z1 hbw4.size
  replace HB := hide (bl_trans HB.out hbw4)
  clear hbw4
  have SW0n := hide hoW0n.seg
  have AW0n := SW0n
  clear hoW0n
  have SW0d := hide hoW0d.seg
  have AW0d := SW0d
  clear hoW0d
  clear hapW01
  go_wp2_with fail
  have kW0_0 : (w4.alloc (Obj.cells #[Value.bool (sgn (NX kd s)), Value.slice aW0n (lms (NX kd s)).length cW0n, Value.bool (sgn (NY kd s)), Value.slice aW0d (lms (NY kd s)).length cW0d] 29)).cell? ⟨w4.heap.size, 0, none⟩ = some (Value.bool (sgn (NX kd s))) := by go_simp
  have kW0_1 : (w4.alloc (Obj.cells #[Value.bool (sgn (NX kd s)), Value.slice aW0n (lms (NX kd s)).length cW0n, Value.bool (sgn (NY kd s)), Value.slice aW0d (lms (NY kd s)).length cW0d] 29)).cell? ⟨w4.heap.size, 1, none⟩ = some (Value.slice aW0n (lms (NX kd s)).length cW0n) := by go_simp
  have kW0_2 : (w4.alloc (Obj.cells #[Value.bool (sgn (NX kd s)), Value.slice aW0n (lms (NX kd s)).length cW0n, Value.bool (sgn (NY kd s)), Value.slice aW0d (lms (NY kd s)).length cW0d] 29)).cell? ⟨w4.heap.size, 2, none⟩ = some (Value.bool (sgn (NY kd s))) := by go_simp
  have kW0_3 : (w4.alloc (Obj.cells #[Value.bool (sgn (NX kd s)), Value.slice aW0n (lms (NX kd s)).length cW0n, Value.bool (sgn (NY kd s)), Value.slice aW0d (lms (NY kd s)).length cW0d] 29)).cell? ⟨w4.heap.size, 3, none⟩ = some (Value.slice aW0d (lms (NY kd s)).length cW0d) := by go_simp
  have zW0 : w4.heap.size < (w4.alloc (Obj.cells #[Value.bool (sgn (NX kd s)), Value.slice aW0n (lms (NX kd s)).length cW0n, Value.bool (sgn (NY kd s)), Value.slice aW0d (lms (NY kd s)).length cW0d] 29)).heap.size := by simp only [World.size_alloc]; omega
  have yw5 : w4.heap.size + 1 ≤ (w4.alloc (Obj.cells #[Value.bool (sgn (NX kd s)), Value.slice aW0n (lms (NX kd s)).length cW0n, Value.bool (sgn (NY kd s)), Value.slice aW0d (lms (NY kd s)).length cW0d] 29)).heap.size := by simp only [World.size_alloc]; omega
  have hbw5 := (bl_alloc (bl_refl w4) (Obj.cells #[Value.bool (sgn (NX kd s)), Value.slice aW0n (lms (NX kd s)).length cW0n, Value.bool (sgn (NY kd s)), Value.slice aW0d (lms (NY kd s)).length cW0d] 29))
  generalize (w4.alloc (Obj.cells #[Value.bool (sgn (NX kd s)), Value.slice aW0n (lms (NX kd s)).length cW0n, Value.bool (sgn (NY kd s)), Value.slice aW0d (lms (NY kd s)).length cW0d] 29)) = w5 at *
  replace k1_0 := (hbw5.cell (p := ⟨w.heap.size, 0, none⟩) z1).trans k1_0
  replace k1_1 := (hbw5.cell (p := ⟨w.heap.size, 1, none⟩) z1).trans k1_1
  replace k1_2 := (hbw5.cell (p := ⟨w.heap.size, 2, none⟩) z1).trans k1_2
  replace z1 := Nat.lt_of_lt_of_le z1 hbw5.size
  replace SW0n := hide (SW0n.out.below hbw5)
  replace SW0d := hide (SW0d.out.below hbw5)
  replace HB := hide (bl_trans HB.out hbw5)
  clear hbw5
  refine (toT kd s t _).mono ?_
  rintro e w6 ⟨rfl, hbw6⟩
  have yw6 := hbw6.size
  replace k1_0 := (hbw6.cell (p := ⟨w.heap.size, 0, none⟩) z1).trans k1_0
  replace k1_1 := (hbw6.cell (p := ⟨w.heap.size, 1, none⟩) z1).trans k1_1
  replace k1_2 := (hbw6.cell (p := ⟨w.heap.size, 2, none⟩) z1).trans k1_2
  replace z1 := Nat.lt_of_lt_of_le z1 hbw6.size
  replace kW0_0 := (hbw6.cell (p := ⟨w4.heap.size, 0, none⟩) zW0).trans kW0_0
  replace kW0_1 := (hbw6.cell (p := ⟨w4.heap.size, 1, none⟩) zW0).trans kW0_1
  replace kW0_2 := (hbw6.cell (p := ⟨w4.heap.size, 2, none⟩) zW0).trans kW0_2
  replace kW0_3 := (hbw6.cell (p := ⟨w4.heap.size, 3, none⟩) zW0).trans kW0_3
  replace zW0 := Nat.lt_of_lt_of_le zW0 hbw6.size
  replace SW0n := hide (SW0n.out.below hbw6)
  replace SW0d := hide (SW0d.out.below hbw6)
  replace HB := hide (bl_trans HB.out hbw6)
  clear hbw6
  go_wp2_with fail
  refine (numOfI kd s t _ (by omega) (HMX.out.below HB.out)).mono ?_
  rintro e w7 ⟨aG0n, cG0n, aG0d, cG0d, rfl, hoG0n, hoG0d, hapG01, hbw7⟩
  have yw7 := hbw7.size
  replace k1_0 := (hbw7.cell (p := ⟨w.heap.size, 0, none⟩) z1).trans k1_0
  replace k1_1 := (hbw7.cell (p := ⟨w.heap.size, 1, none⟩) z1).trans k1_1
  replace k1_2 := (hbw7.cell (p := ⟨w.heap.size, 2, none⟩) z1).trans k1_2
  replace z1 := Nat.lt_of_lt_of_le z1 hbw7.size
  replace kW0_0 := (hbw7.cell (p := ⟨w4.heap.size, 0, none⟩) zW0).trans kW0_0
  replace kW0_1 := (hbw7.cell (p := ⟨w4.heap.size, 1, none⟩) zW0).trans kW0_1
  replace kW0_2 := (hbw7.cell (p := ⟨w4.heap.size, 2, none⟩) zW0).trans kW0_2
  replace kW0_3 := (hbw7.cell (p := ⟨w4.heap.size, 3, none⟩) zW0).trans kW0_3
  replace zW0 := Nat.lt_of_lt_of_le zW0 hbw7.size
  replace SW0n := hide (SW0n.out.below hbw7)
  replace SW0d := hide (SW0d.out.below hbw7)
  replace HB := hide (bl_trans HB.out hbw7)
  clear hbw7
  have oG0n : ∀ k, (Value.slice aG0n (lms (NX kd s)).length cG0n).ownBlock = some k → w6.heap.size ≤ k ∧ k < w7.heap.size := fun k e => hoG0n.1.lt k e
  have HG0n := hide hoG0n
  clear hoG0n
  have oG0d : ∀ k, (Value.slice aG0d (lms (NY kd s)).length cG0d).ownBlock = some k → w6.heap.size ≤ k ∧ k < w7.heap.size := fun k e => hoG0d.1.lt k e
  have HG0d := hide hoG0d
  clear hoG0d
  have HAPG01 := hide hapG01
  clear hapG01
  go_wp2_with fail
  have kG0_0 : (w7.alloc (Obj.cells #[Value.bool (sgn (NX kd s)), Value.slice aG0n (lms (NX kd s)).length cG0n, Value.bool (sgn (NY kd s)), Value.slice aG0d (lms (NY kd s)).length cG0d] 29)).cell? ⟨w7.heap.size, 0, none⟩ = some (Value.bool (sgn (NX kd s))) := by go_simp
  have kG0_1 : (w7.alloc (Obj.cells #[Value.bool (sgn (NX kd s)), Value.slice aG0n (lms (NX kd s)).length cG0n, Value.bool (sgn (NY kd s)), Value.slice aG0d (lms (NY kd s)).length cG0d] 29)).cell? ⟨w7.heap.size, 1, none⟩ = some (Value.slice aG0n (lms (NX kd s)).length cG0n) := by go_simp
  have kG0_2 : (w7.alloc (Obj.cells #[Value.bool (sgn (NX kd s)), Value.slice aG0n (lms (NX kd s)).length cG0n, Value.bool (sgn (NY kd s)), Value.slice aG0d (lms (NY kd s)).length cG0d] 29)).cell? ⟨w7.heap.size, 2, none⟩ = some (Value.bool (sgn (NY kd s))) := by go_simp
  have kG0_3 : (w7.alloc (Obj.cells #[Value.bool (sgn (NX kd s)), Value.slice aG0n (lms (NX kd s)).length cG0n, Value.bool (sgn (NY kd s)), Value.slice aG0d (lms (NY kd s)).length cG0d] 29)).cell? ⟨w7.heap.size, 3, none⟩ = some (Value.slice aG0d (lms (NY kd s)).length cG0d) := by go_simp
  have zG0 : w7.heap.size < (w7.alloc (Obj.cells #[Value.bool (sgn (NX kd s)), Value.slice aG0n (lms (NX kd s)).length cG0n, Value.bool (sgn (NY kd s)), Value.slice aG0d (lms (NY kd s)).length cG0d] 29)).heap.size := by simp only [World.size_alloc]; omega
  have yw8 : w7.heap.size + 1 ≤ (w7.alloc (Obj.cells #[Value.bool (sgn (NX kd s)), Value.slice aG0n (lms (NX kd s)).length cG0n, Value.bool (sgn (NY kd s)), Value.slice aG0d (lms (NY kd s)).length cG0d] 29)).heap.size := by simp only [World.size_alloc]; omega
  have hbw8 := (bl_alloc (bl_refl w7) (Obj.cells #[Value.bool (sgn (NX kd s)), Value.slice aG0n (lms (NX kd s)).length cG0n, Value.bool (sgn (NY kd s)), Value.slice aG0d (lms (NY kd s)).length cG0d] 29))
  generalize (w7.alloc (Obj.cells #[Value.bool (sgn (NX kd s)), Value.slice aG0n (lms (NX kd s)).length cG0n, Value.bool (sgn (NY kd s)), Value.slice aG0d (lms (NY kd s)).length cG0d] 29)) = w8 at *
  replace k1_0 := (hbw8.cell (p := ⟨w.heap.size, 0, none⟩) z1).trans k1_0
  replace k1_1 := (hbw8.cell (p := ⟨w.heap.size, 1, none⟩) z1).trans k1_1
  replace k1_2 := (hbw8.cell (p := ⟨w.heap.size, 2, none⟩) z1).trans k1_2
  replace z1 := Nat.lt_of_lt_of_le z1 hbw8.size
  replace kW0_0 := (hbw8.cell (p := ⟨w4.heap.size, 0, none⟩) zW0).trans kW0_0
  replace kW0_1 := (hbw8.cell (p := ⟨w4.heap.size, 1, none⟩) zW0).trans kW0_1
  replace kW0_2 := (hbw8.cell (p := ⟨w4.heap.size, 2, none⟩) zW0).trans kW0_2
  replace kW0_3 := (hbw8.cell (p := ⟨w4.heap.size, 3, none⟩) zW0).trans kW0_3
  replace zW0 := Nat.lt_of_lt_of_le zW0 hbw8.size
  replace SW0n := hide (SW0n.out.below hbw8)
  replace SW0d := hide (SW0d.out.below hbw8)
  replace HG0n := hide (HG0n.out.below hbw8)
  replace HG0d := hide (HG0d.out.below hbw8)
  replace HB := hide (bl_trans HB.out hbw8)
  clear hbw8
  refine (eqR (sgn (NX kd s)) (lms (NX kd s)) (sgn (NY kd s)) (lms (NY kd s)) aG0n cG0n aG0d cG0d aW0n cW0n aW0d cW0d _ (HG0n.out.seg) (HG0d.out.seg) (SW0n.out) (SW0d.out)).mono ?_
  rintro e w9 ⟨rfl, hbw9⟩
  have yw9 := hbw9.size
  replace k1_0 := (hbw9.cell (p := ⟨w.heap.size, 0, none⟩) z1).trans k1_0
  replace k1_1 := (hbw9.cell (p := ⟨w.heap.size, 1, none⟩) z1).trans k1_1
  replace k1_2 := (hbw9.cell (p := ⟨w.heap.size, 2, none⟩) z1).trans k1_2
  replace z1 := Nat.lt_of_lt_of_le z1 hbw9.size
  replace kW0_0 := (hbw9.cell (p := ⟨w4.heap.size, 0, none⟩) zW0).trans kW0_0
  replace kW0_1 := (hbw9.cell (p := ⟨w4.heap.size, 1, none⟩) zW0).trans kW0_1
  replace kW0_2 := (hbw9.cell (p := ⟨w4.heap.size, 2, none⟩) zW0).trans kW0_2
  replace kW0_3 := (hbw9.cell (p := ⟨w4.heap.size, 3, none⟩) zW0).trans kW0_3
  replace zW0 := Nat.lt_of_lt_of_le zW0 hbw9.size
  replace kG0_0 := (hbw9.cell (p := ⟨w7.heap.size, 0, none⟩) zG0).trans kG0_0
  replace kG0_1 := (hbw9.cell (p := ⟨w7.heap.size, 1, none⟩) zG0).trans kG0_1
  replace kG0_2 := (hbw9.cell (p := ⟨w7.heap.size, 2, none⟩) zG0).trans kG0_2
  replace kG0_3 := (hbw9.cell (p := ⟨w7.heap.size, 3, none⟩) zG0).trans kG0_3
  replace zG0 := Nat.lt_of_lt_of_le zG0 hbw9.size
  replace SW0n := hide (SW0n.out.below hbw9)
  replace SW0d := hide (SW0d.out.below hbw9)
  replace HG0n := hide (HG0n.out.below hbw9)
  replace HG0d := hide (HG0d.out.below hbw9)
  replace HB := hide (bl_trans HB.out hbw9)
  clear hbw9
  go_wp2_with fail
  refine (markR (sgn (NX kd s)) aG0n (lms (NX kd s)).length cG0n _ _ (sgn (NY kd s)) aG0d (lms (NY kd s)).length cG0d _ _ (0) (1) _ (by omega) (by omega) HG0n.out HG0d.out HAPG01.out).mono ?_
  rintro e w11 ⟨rfl, hm, hm2, w10, hg, hg2⟩
  have yw10 := hg.size
  replace k1_0 := hg.cell k1_0 (fun e => by have := oG0n _ e.symm; dsimp only at this; omega)
  replace k1_1 := hg.cell k1_1 (fun e => by have := oG0n _ e.symm; dsimp only at this; omega)
  replace k1_2 := hg.cell k1_2 (fun e => by have := oG0n _ e.symm; dsimp only at this; omega)
  replace z1 := Nat.lt_of_lt_of_le z1 yw10
  replace kW0_0 := hg.cell kW0_0 (fun e => by have := oG0n _ e.symm; dsimp only at this; omega)
  replace kW0_1 := hg.cell kW0_1 (fun e => by have := oG0n _ e.symm; dsimp only at this; omega)
  replace kW0_2 := hg.cell kW0_2 (fun e => by have := oG0n _ e.symm; dsimp only at this; omega)
  replace kW0_3 := hg.cell kW0_3 (fun e => by have := oG0n _ e.symm; dsimp only at this; omega)
  replace zW0 := Nat.lt_of_lt_of_le zW0 yw10
  replace kG0_0 := hg.cell kG0_0 (fun e => by have := oG0n _ e.symm; dsimp only at this; omega)
  replace kG0_1 := hg.cell kG0_1 (fun e => by have := oG0n _ e.symm; dsimp only at this; omega)
  replace kG0_2 := hg.cell kG0_2 (fun e => by have := oG0n _ e.symm; dsimp only at this; omega)
  replace kG0_3 := hg.cell kG0_3 (fun e => by have := oG0n _ e.symm; dsimp only at this; omega)
  replace zG0 := Nat.lt_of_lt_of_le zG0 yw10
  replace SW0n := hide (SW0n.out.grownLow AW0n.out hg (fun k e => by have := oG0n k e; omega))
  replace SW0d := hide (SW0d.out.grownLow AW0d.out hg (fun k e => by have := oG0n k e; omega))
  replace HB := hide (HB.out.grown hg HB.out.size (fun k e => by have := oG0n k e; omega))
  have yw11 := hg2.size
  replace k1_0 := hg2.cell k1_0 (fun e => by have := oG0d _ e.symm; dsimp only at this; omega)
  replace k1_1 := hg2.cell k1_1 (fun e => by have := oG0d _ e.symm; dsimp only at this; omega)
  replace k1_2 := hg2.cell k1_2 (fun e => by have := oG0d _ e.symm; dsimp only at this; omega)
  replace z1 := Nat.lt_of_lt_of_le z1 yw11
  replace kW0_0 := hg2.cell kW0_0 (fun e => by have := oG0d _ e.symm; dsimp only at this; omega)
  replace kW0_1 := hg2.cell kW0_1 (fun e => by have := oG0d _ e.symm; dsimp only at this; omega)
  replace kW0_2 := hg2.cell kW0_2 (fun e => by have := oG0d _ e.symm; dsimp only at this; omega)
  replace kW0_3 := hg2.cell kW0_3 (fun e => by have := oG0d _ e.symm; dsimp only at this; omega)
  replace zW0 := Nat.lt_of_lt_of_le zW0 yw11
  replace kG0_0 := hg2.cell kG0_0 (fun e => by have := oG0d _ e.symm; dsimp only at this; omega)
  replace kG0_1 := hg2.cell kG0_1 (fun e => by have := oG0d _ e.symm; dsimp only at this; omega)
  replace kG0_2 := hg2.cell kG0_2 (fun e => by have := oG0d _ e.symm; dsimp only at this; omega)
  replace kG0_3 := hg2.cell kG0_3 (fun e => by have := oG0d _ e.symm; dsimp only at this; omega)
  replace zG0 := Nat.lt_of_lt_of_le zG0 yw11
  replace SW0n := hide (SW0n.out.grownLow AW0n.out hg2 (fun k e => by have := oG0d k e; omega))
  replace SW0d := hide (SW0d.out.grownLow AW0d.out hg2 (fun k e => by have := oG0d k e; omega))
  replace HB := hide (HB.out.grown hg2 HB.out.size (fun k e => by have := oG0d k e; omega))
  replace HG0n := hide hm
  replace HG0d := hide hm2
  clear hg hg2 hm hm2
  go_wp2_with fail
  refine (heldR (sgn (NX kd s)) aG0n (lms (NX kd s)).length cG0n (sgn (NY kd s)) aG0d (lms (NY kd s)).length cG0d (0) (1) _ (by omega) (by omega) HG0n.out.seg HG0d.out.seg).mono ?_
  rintro e w12 ⟨rfl, hbw12⟩
  have yw12 := hbw12.size
  replace k1_0 := (hbw12.cell (p := ⟨w.heap.size, 0, none⟩) z1).trans k1_0
  replace k1_1 := (hbw12.cell (p := ⟨w.heap.size, 1, none⟩) z1).trans k1_1
  replace k1_2 := (hbw12.cell (p := ⟨w.heap.size, 2, none⟩) z1).trans k1_2
  replace z1 := Nat.lt_of_lt_of_le z1 hbw12.size
  replace kW0_0 := (hbw12.cell (p := ⟨w4.heap.size, 0, none⟩) zW0).trans kW0_0
  replace kW0_1 := (hbw12.cell (p := ⟨w4.heap.size, 1, none⟩) zW0).trans kW0_1
  replace kW0_2 := (hbw12.cell (p := ⟨w4.heap.size, 2, none⟩) zW0).trans kW0_2
  replace kW0_3 := (hbw12.cell (p := ⟨w4.heap.size, 3, none⟩) zW0).trans kW0_3
  replace zW0 := Nat.lt_of_lt_of_le zW0 hbw12.size
  replace kG0_0 := (hbw12.cell (p := ⟨w7.heap.size, 0, none⟩) zG0).trans kG0_0
  replace kG0_1 := (hbw12.cell (p := ⟨w7.heap.size, 1, none⟩) zG0).trans kG0_1
  replace kG0_2 := (hbw12.cell (p := ⟨w7.heap.size, 2, none⟩) zG0).trans kG0_2
  replace kG0_3 := (hbw12.cell (p := ⟨w7.heap.size, 3, none⟩) zG0).trans kG0_3
  replace zG0 := Nat.lt_of_lt_of_le zG0 hbw12.size
  replace SW0n := hide (SW0n.out.below hbw12)
  replace SW0d := hide (SW0d.out.below hbw12)
  replace HG0n := hide (HG0n.out.below hbw12)
  replace HG0d := hide (HG0d.out.below hbw12)
  replace HB := hide (bl_trans HB.out hbw12)
  clear hbw12
  go_wp2_with fail
  refine (toT kd s t _).mono ?_
  rintro e w13 ⟨rfl, hbw13⟩
  have yw13 := hbw13.size
  replace k1_0 := (hbw13.cell (p := ⟨w.heap.size, 0, none⟩) z1).trans k1_0
  replace k1_1 := (hbw13.cell (p := ⟨w.heap.size, 1, none⟩) z1).trans k1_1
  replace k1_2 := (hbw13.cell (p := ⟨w.heap.size, 2, none⟩) z1).trans k1_2
  replace z1 := Nat.lt_of_lt_of_le z1 hbw13.size
  replace kW0_0 := (hbw13.cell (p := ⟨w4.heap.size, 0, none⟩) zW0).trans kW0_0
  replace kW0_1 := (hbw13.cell (p := ⟨w4.heap.size, 1, none⟩) zW0).trans kW0_1
  replace kW0_2 := (hbw13.cell (p := ⟨w4.heap.size, 2, none⟩) zW0).trans kW0_2
  replace kW0_3 := (hbw13.cell (p := ⟨w4.heap.size, 3, none⟩) zW0).trans kW0_3
  replace zW0 := Nat.lt_of_lt_of_le zW0 hbw13.size
  replace kG0_0 := (hbw13.cell (p := ⟨w7.heap.size, 0, none⟩) zG0).trans kG0_0
  replace kG0_1 := (hbw13.cell (p := ⟨w7.heap.size, 1, none⟩) zG0).trans kG0_1
  replace kG0_2 := (hbw13.cell (p := ⟨w7.heap.size, 2, none⟩) zG0).trans kG0_2
  replace kG0_3 := (hbw13.cell (p := ⟨w7.heap.size, 3, none⟩) zG0).trans kG0_3
  replace zG0 := Nat.lt_of_lt_of_le zG0 hbw13.size
  replace SW0n := hide (SW0n.out.below hbw13)
  replace SW0d := hide (SW0d.out.below hbw13)
  replace HG0n := hide (HG0n.out.below hbw13)
  replace HG0d := hide (HG0d.out.below hbw13)
  replace HB := hide (bl_trans HB.out hbw13)
  clear hbw13
  go_wp2_with fail
  refine (numOfI kd s t _ (by omega) (HMX.out.below HB.out)).mono ?_
  rintro e w14 ⟨aV0n, cV0n, aV0d, cV0d, rfl, hoV0n, hoV0d, hapV01, hbw14⟩
  have yw14 := hbw14.size
  replace k1_0 := (hbw14.cell (p := ⟨w.heap.size, 0, none⟩) z1).trans k1_0
  replace k1_1 := (hbw14.cell (p := ⟨w.heap.size, 1, none⟩) z1).trans k1_1
  replace k1_2 := (hbw14.cell (p := ⟨w.heap.size, 2, none⟩) z1).trans k1_2
  replace z1 := Nat.lt_of_lt_of_le z1 hbw14.size
  replace kW0_0 := (hbw14.cell (p := ⟨w4.heap.size, 0, none⟩) zW0).trans kW0_0
  replace kW0_1 := (hbw14.cell (p := ⟨w4.heap.size, 1, none⟩) zW0).trans kW0_1
  replace kW0_2 := (hbw14.cell (p := ⟨w4.heap.size, 2, none⟩) zW0).trans kW0_2
  replace kW0_3 := (hbw14.cell (p := ⟨w4.heap.size, 3, none⟩) zW0).trans kW0_3
  replace zW0 := Nat.lt_of_lt_of_le zW0 hbw14.size
  replace kG0_0 := (hbw14.cell (p := ⟨w7.heap.size, 0, none⟩) zG0).trans kG0_0
  replace kG0_1 := (hbw14.cell (p := ⟨w7.heap.size, 1, none⟩) zG0).trans kG0_1
  replace kG0_2 := (hbw14.cell (p := ⟨w7.heap.size, 2, none⟩) zG0).trans kG0_2
  replace kG0_3 := (hbw14.cell (p := ⟨w7.heap.size, 3, none⟩) zG0).trans kG0_3
  replace zG0 := Nat.lt_of_lt_of_le zG0 hbw14.size
  replace SW0n := hide (SW0n.out.below hbw14)
  replace SW0d := hide (SW0d.out.below hbw14)
  replace HG0n := hide (HG0n.out.below hbw14)
  replace HG0d := hide (HG0d.out.below hbw14)
  replace HB := hide (bl_trans HB.out hbw14)
  clear hbw14
  have SV0n := hide hoV0n.seg
  have AV0n := SV0n
  clear hoV0n
  have SV0d := hide hoV0d.seg
  have AV0d := SV0d
  clear hoV0d
  clear hapV01
  go_wp2_with fail
  have kV0_0 : (w14.alloc (Obj.cells #[Value.bool (sgn (NX kd s)), Value.slice aV0n (lms (NX kd s)).length cV0n, Value.bool (sgn (NY kd s)), Value.slice aV0d (lms (NY kd s)).length cV0d] 29)).cell? ⟨w14.heap.size, 0, none⟩ = some (Value.bool (sgn (NX kd s))) := by go_simp
  have kV0_1 : (w14.alloc (Obj.cells #[Value.bool (sgn (NX kd s)), Value.slice aV0n (lms (NX kd s)).length cV0n, Value.bool (sgn (NY kd s)), Value.slice aV0d (lms (NY kd s)).length cV0d] 29)).cell? ⟨w14.heap.size, 1, none⟩ = some (Value.slice aV0n (lms (NX kd s)).length cV0n) := by go_simp
  have kV0_2 : (w14.alloc (Obj.cells #[Value.bool (sgn (NX kd s)), Value.slice aV0n (lms (NX kd s)).length cV0n, Value.bool (sgn (NY kd s)), Value.slice aV0d (lms (NY kd s)).length cV0d] 29)).cell? ⟨w14.heap.size, 2, none⟩ = some (Value.bool (sgn (NY kd s))) := by go_simp
  have kV0_3 : (w14.alloc (Obj.cells #[Value.bool (sgn (NX kd s)), Value.slice aV0n (lms (NX kd s)).length cV0n, Value.bool (sgn (NY kd s)), Value.slice aV0d (lms (NY kd s)).length cV0d] 29)).cell? ⟨w14.heap.size, 3, none⟩ = some (Value.slice aV0d (lms (NY kd s)).length cV0d) := by go_simp
  have zV0 : w14.heap.size < (w14.alloc (Obj.cells #[Value.bool (sgn (NX kd s)), Value.slice aV0n (lms (NX kd s)).length cV0n, Value.bool (sgn (NY kd s)), Value.slice aV0d (lms (NY kd s)).length cV0d] 29)).heap.size := by simp only [World.size_alloc]; omega
  have yw15 : w14.heap.size + 1 ≤ (w14.alloc (Obj.cells #[Value.bool (sgn (NX kd s)), Value.slice aV0n (lms (NX kd s)).length cV0n, Value.bool (sgn (NY kd s)), Value.slice aV0d (lms (NY kd s)).length cV0d] 29)).heap.size := by simp only [World.size_alloc]; omega
  have hbw15 := (bl_alloc (bl_refl w14) (Obj.cells #[Value.bool (sgn (NX kd s)), Value.slice aV0n (lms (NX kd s)).length cV0n, Value.bool (sgn (NY kd s)), Value.slice aV0d (lms (NY kd s)).length cV0d] 29))
  generalize (w14.alloc (Obj.cells #[Value.bool (sgn (NX kd s)), Value.slice aV0n (lms (NX kd s)).length cV0n, Value.bool (sgn (NY kd s)), Value.slice aV0d (lms (NY kd s)).length cV0d] 29)) = w15 at *
  replace k1_0 := (hbw15.cell (p := ⟨w.heap.size, 0, none⟩) z1).trans k1_0
  replace k1_1 := (hbw15.cell (p := ⟨w.heap.size, 1, none⟩) z1).trans k1_1
  replace k1_2 := (hbw15.cell (p := ⟨w.heap.size, 2, none⟩) z1).trans k1_2
  replace z1 := Nat.lt_of_lt_of_le z1 hbw15.size
  replace kW0_0 := (hbw15.cell (p := ⟨w4.heap.size, 0, none⟩) zW0).trans kW0_0
  replace kW0_1 := (hbw15.cell (p := ⟨w4.heap.size, 1, none⟩) zW0).trans kW0_1
  replace kW0_2 := (hbw15.cell (p := ⟨w4.heap.size, 2, none⟩) zW0).trans kW0_2
  replace kW0_3 := (hbw15.cell (p := ⟨w4.heap.size, 3, none⟩) zW0).trans kW0_3
  replace zW0 := Nat.lt_of_lt_of_le zW0 hbw15.size
  replace kG0_0 := (hbw15.cell (p := ⟨w7.heap.size, 0, none⟩) zG0).trans kG0_0
  replace kG0_1 := (hbw15.cell (p := ⟨w7.heap.size, 1, none⟩) zG0).trans kG0_1
  replace kG0_2 := (hbw15.cell (p := ⟨w7.heap.size, 2, none⟩) zG0).trans kG0_2
  replace kG0_3 := (hbw15.cell (p := ⟨w7.heap.size, 3, none⟩) zG0).trans kG0_3
  replace zG0 := Nat.lt_of_lt_of_le zG0 hbw15.size
  replace SW0n := hide (SW0n.out.below hbw15)
  replace SW0d := hide (SW0d.out.below hbw15)
  replace HG0n := hide (HG0n.out.below hbw15)
  replace HG0d := hide (HG0d.out.below hbw15)
  replace SV0n := hide (SV0n.out.below hbw15)
  replace SV0d := hide (SV0d.out.below hbw15)
  replace HB := hide (bl_trans HB.out hbw15)
  clear hbw15
  refine (eqR (sgn (NX kd s)) (lms (NX kd s)) (sgn (NY kd s)) (lms (NY kd s)) aV0n cV0n aV0d cV0d aW0n cW0n aW0d cW0d _ (SV0n.out) (SV0d.out) (SW0n.out) (SW0d.out)).mono ?_
  rintro e w16 ⟨rfl, hbw16⟩
  have yw16 := hbw16.size
  replace k1_0 := (hbw16.cell (p := ⟨w.heap.size, 0, none⟩) z1).trans k1_0
  replace k1_1 := (hbw16.cell (p := ⟨w.heap.size, 1, none⟩) z1).trans k1_1
  replace k1_2 := (hbw16.cell (p := ⟨w.heap.size, 2, none⟩) z1).trans k1_2
  replace z1 := Nat.lt_of_lt_of_le z1 hbw16.size
  replace kW0_0 := (hbw16.cell (p := ⟨w4.heap.size, 0, none⟩) zW0).trans kW0_0
  replace kW0_1 := (hbw16.cell (p := ⟨w4.heap.size, 1, none⟩) zW0).trans kW0_1
  replace kW0_2 := (hbw16.cell (p := ⟨w4.heap.size, 2, none⟩) zW0).trans kW0_2
  replace kW0_3 := (hbw16.cell (p := ⟨w4.heap.size, 3, none⟩) zW0).trans kW0_3
  replace zW0 := Nat.lt_of_lt_of_le zW0 hbw16.size
  replace kG0_0 := (hbw16.cell (p := ⟨w7.heap.size, 0, none⟩) zG0).trans kG0_0
  replace kG0_1 := (hbw16.cell (p := ⟨w7.heap.size, 1, none⟩) zG0).trans kG0_1
  replace kG0_2 := (hbw16.cell (p := ⟨w7.heap.size, 2, none⟩) zG0).trans kG0_2
  replace kG0_3 := (hbw16.cell (p := ⟨w7.heap.size, 3, none⟩) zG0).trans kG0_3
  replace zG0 := Nat.lt_of_lt_of_le zG0 hbw16.size
  replace kV0_0 := (hbw16.cell (p := ⟨w14.heap.size, 0, none⟩) zV0).trans kV0_0
  replace kV0_1 := (hbw16.cell (p := ⟨w14.heap.size, 1, none⟩) zV0).trans kV0_1
  replace kV0_2 := (hbw16.cell (p := ⟨w14.heap.size, 2, none⟩) zV0).trans kV0_2
  replace kV0_3 := (hbw16.cell (p := ⟨w14.heap.size, 3, none⟩) zV0).trans kV0_3
  replace zV0 := Nat.lt_of_lt_of_le zV0 hbw16.size
  replace SW0n := hide (SW0n.out.below hbw16)
  replace SW0d := hide (SW0d.out.below hbw16)
  replace HG0n := hide (HG0n.out.below hbw16)
  replace HG0d := hide (HG0d.out.below hbw16)
  replace SV0n := hide (SV0n.out.below hbw16)
  replace SV0d := hide (SV0d.out.below hbw16)
  replace HB := hide (bl_trans HB.out hbw16)
  clear hbw16
  go_wp2_with fail
  refine (heldR (sgn (NX kd s)) aG0n (lms (NX kd s)).length cG0n (sgn (NY kd s)) aG0d (lms (NY kd s)).length cG0d (0) (1) _ (by omega) (by omega) HG0n.out.seg HG0d.out.seg).mono ?_
  rintro e w17 ⟨rfl, hbw17⟩
  have yw17 := hbw17.size
  replace k1_0 := (hbw17.cell (p := ⟨w.heap.size, 0, none⟩) z1).trans k1_0
  replace k1_1 := (hbw17.cell (p := ⟨w.heap.size, 1, none⟩) z1).trans k1_1
  replace k1_2 := (hbw17.cell (p := ⟨w.heap.size, 2, none⟩) z1).trans k1_2
  replace z1 := Nat.lt_of_lt_of_le z1 hbw17.size
  replace kW0_0 := (hbw17.cell (p := ⟨w4.heap.size, 0, none⟩) zW0).trans kW0_0
  replace kW0_1 := (hbw17.cell (p := ⟨w4.heap.size, 1, none⟩) zW0).trans kW0_1
  replace kW0_2 := (hbw17.cell (p := ⟨w4.heap.size, 2, none⟩) zW0).trans kW0_2
  replace kW0_3 := (hbw17.cell (p := ⟨w4.heap.size, 3, none⟩) zW0).trans kW0_3
  replace zW0 := Nat.lt_of_lt_of_le zW0 hbw17.size
  replace kG0_0 := (hbw17.cell (p := ⟨w7.heap.size, 0, none⟩) zG0).trans kG0_0
  replace kG0_1 := (hbw17.cell (p := ⟨w7.heap.size, 1, none⟩) zG0).trans kG0_1
  replace kG0_2 := (hbw17.cell (p := ⟨w7.heap.size, 2, none⟩) zG0).trans kG0_2
  replace kG0_3 := (hbw17.cell (p := ⟨w7.heap.size, 3, none⟩) zG0).trans kG0_3
  replace zG0 := Nat.lt_of_lt_of_le zG0 hbw17.size
  replace kV0_0 := (hbw17.cell (p := ⟨w14.heap.size, 0, none⟩) zV0).trans kV0_0
  replace kV0_1 := (hbw17.cell (p := ⟨w14.heap.size, 1, none⟩) zV0).trans kV0_1
  replace kV0_2 := (hbw17.cell (p := ⟨w14.heap.size, 2, none⟩) zV0).trans kV0_2
  replace kV0_3 := (hbw17.cell (p := ⟨w14.heap.size, 3, none⟩) zV0).trans kV0_3
  replace zV0 := Nat.lt_of_lt_of_le zV0 hbw17.size
  replace SW0n := hide (SW0n.out.below hbw17)
  replace SW0d := hide (SW0d.out.below hbw17)
  replace HG0n := hide (HG0n.out.below hbw17)
  replace HG0d := hide (HG0d.out.below hbw17)
  replace SV0n := hide (SV0n.out.below hbw17)
  replace SV0d := hide (SV0d.out.below hbw17)
  replace HB := hide (bl_trans HB.out hbw17)
  clear hbw17
  go_wp2
  go_ret
  exact ⟨rfl, HB.out⟩
end Go.Proofs.YtbcokpnhhjjedaaGreatDoor
