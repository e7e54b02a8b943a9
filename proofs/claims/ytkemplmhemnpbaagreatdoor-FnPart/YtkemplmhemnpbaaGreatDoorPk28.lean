/- My texts RpI, RpG, FpP, in this order. -/
import Derived.Test.YtkemplmhemnpbaaGreatDoorPtX
import Derived.Test.YtkemplmhemnpbaaGreatDoorPk25
import Derived.Test.YtkemplmhemnpbaaGreatDoorTeS
import Derived.Test.YtkemplmhemnpbaaGreatDoorPk14
import Derived.Test.YtkemplmhemnpbaaGreatDoorPk03
import Derived.Deep.RegionHeld3
import Derived.Test.YtkemplmhemnpbaaGreatDoorPk01
/- The walks of powerParts and both ReadPart. -/
namespace Go.Proofs.YtkemplmhemnpbaaGreatDoor
open Go.RowKit
set_option linter.unusedVariables false

def RX (s : ByteArray) : Int := rtN (rrO s).isSome (gotN (rdNeg s) (rrO s)) (gotD (rrO s))
def RY (s : ByteArray) : Int := rtD (rrO s).isSome (gotN (rdNeg s) (rrO s)) (gotD (rrO s))
def RF (s : ByteArray) : Bool := rtT (rrO s).isSome (gotN (rdNeg s) (rrO s)) (gotD (rrO s))
theorem readRatP (s : ByteArray) (w : World) (hm : Mx w) (hs : s.size ≤ 4611686018427387904) :
    Calls Tryz.prog 25 #[.string s] w fun e w' => ∃ a1 c1 a2 c2, e = .returned (.tuple #[.agg #[.bool (sgn (RX s)), .slice a1 (lms (RX s)).length c1, .bool (sgn (RY s)), .slice a2 (lms (RY s)).length c2], .bool (RF s)]) ∧ Own w' w.heap.size a1 (lms (RX s)).length c1 (lms (RX s)) ∧ Own w' w.heap.size a2 (lms (RY s)).length c2 (lms (RY s)) ∧ Apart a1 a2 ∧ Below w.heap.size w w' := readRatG s w hm hs
theorem cutL (s : ByteArray) (c : UInt8) (w : World) (hs : s.size ≤ 4294967280) (hm : Mx w) :
    Calls Tryz.prog 24 #[.string s, .string ⟨#[c]⟩] w fun e w' => e = .returned (.tuple #[.string ⟨(Lib.cut s.data.toList [c]).1.toArray⟩, .string ⟨(Lib.cut s.data.toList [c]).2.1.toArray⟩, .bool (Lib.cut s.data.toList [c]).2.2]) ∧ Below w.heap.size w w' := by
  obtain ⟨m, hm⟩ := hm
  refine (Tryz.strings_Cut s ⟨#[c]⟩ m w (by omega) hm).mono ?_
  rintro e w' ⟨he, n, hn⟩
  exact ⟨he, by rw [hn]; exact below_drewN (bl_refl w) n⟩
set_option maxHeartbeats 4000000 in
set_option maxRecDepth 20000 in
theorem ppartsI (X Y : Int) (a : Option Addr) (c : Nat) (b : Option Addr) (d : Nat) (w : World) (s1 : Seg w a (lms X).length c (lms X)) (s2 : Seg w b (lms Y).length d (lms Y)) :
    Calls Tryz.prog 26 #[Value.agg #[Value.bool (sgn X), Value.slice a (lms X).length c, Value.bool (sgn Y), Value.slice b (lms Y).length d]] w fun e w' => ∃ ok, e = .returned (.tuple #[.int .i64 (toIntR (sgn X) (lms X)), .int .i64 (toIntR (sgn Y) (lms Y)), .bool ok]) ∧ Below w.heap.size w w' := by
  have ka0 : (w.alloc (Obj.cells #[Value.bool (sgn X), Value.slice a (lms X).length c, Value.bool (sgn Y), Value.slice b (lms Y).length d] 42)).cell? ⟨w.heap.size, 0, none⟩ = some (Value.bool (sgn X)) := by go_simp
  have ka1 : (w.alloc (Obj.cells #[Value.bool (sgn X), Value.slice a (lms X).length c, Value.bool (sgn Y), Value.slice b (lms Y).length d] 42)).cell? ⟨w.heap.size, 1, none⟩ = some (Value.slice a (lms X).length c) := by go_simp
  have ka2 : (w.alloc (Obj.cells #[Value.bool (sgn X), Value.slice a (lms X).length c, Value.bool (sgn Y), Value.slice b (lms Y).length d] 42)).cell? ⟨w.heap.size, 2, none⟩ = some (Value.bool (sgn Y)) := by go_simp
  have ka3 : (w.alloc (Obj.cells #[Value.bool (sgn X), Value.slice a (lms X).length c, Value.bool (sgn Y), Value.slice b (lms Y).length d] 42)).cell? ⟨w.heap.size, 3, none⟩ = some (Value.slice b (lms Y).length d) := by go_simp
  have zr : w.heap.size < (w.alloc (Obj.cells #[Value.bool (sgn X), Value.slice a (lms X).length c, Value.bool (sgn Y), Value.slice b (lms Y).length d] 42)).heap.size := by simp only [World.size_alloc]; omega
  have HB := hide (bl_alloc (bl_refl w) (Obj.cells #[Value.bool (sgn X), Value.slice a (lms X).length c, Value.bool (sgn Y), Value.slice b (lms Y).length d] 42))
  have S1 := hide (s1.below HB.out)
  have S2 := hide (s2.below HB.out)
  clear s1
  clear s2
  go_enter Tryz.func26, Tryz.ntmps26
  go_wp2_with fail
  generalize (w.alloc (Obj.cells #[Value.bool (sgn X), Value.slice a (lms X).length c, Value.bool (sgn Y), Value.slice b (lms Y).length d] 42)) = w1 at *
  have z0 := zr
  refine (toIntI _ (sgn X) (lms X) _ ⟨a, c, rfl, S1.out⟩).mono ?_
  rintro e w2 ⟨rfl, hb⟩
  have yw2 := hb.size
  replace ka0 := (hb.cell (p := ⟨w.heap.size, 0, none⟩) (by dsimp only; omega)).trans ka0
  replace ka1 := (hb.cell (p := ⟨w.heap.size, 1, none⟩) (by dsimp only; omega)).trans ka1
  replace ka2 := (hb.cell (p := ⟨w.heap.size, 2, none⟩) (by dsimp only; omega)).trans ka2
  replace ka3 := (hb.cell (p := ⟨w.heap.size, 3, none⟩) (by dsimp only; omega)).trans ka3
  replace S1 := hide (S1.out.below hb)
  replace S2 := hide (S2.out.below hb)
  replace zr := Nat.lt_of_lt_of_le zr hb.size
  replace HB := hide (bl_trans HB.out hb)
  clear hb
  go_wp2_with fail
  refine (toIntI _ (sgn Y) (lms Y) _ ⟨b, d, rfl, S2.out⟩).mono ?_
  rintro e w3 ⟨rfl, hb⟩
  have yw3 := hb.size
  replace ka0 := (hb.cell (p := ⟨w.heap.size, 0, none⟩) (by dsimp only; omega)).trans ka0
  replace ka1 := (hb.cell (p := ⟨w.heap.size, 1, none⟩) (by dsimp only; omega)).trans ka1
  replace ka2 := (hb.cell (p := ⟨w.heap.size, 2, none⟩) (by dsimp only; omega)).trans ka2
  replace ka3 := (hb.cell (p := ⟨w.heap.size, 3, none⟩) (by dsimp only; omega)).trans ka3
  replace S1 := hide (S1.out.below hb)
  replace S2 := hide (S2.out.below hb)
  replace zr := Nat.lt_of_lt_of_le zr hb.size
  replace HB := hide (bl_trans HB.out hb)
  clear hb
  generalize fitsI (sgn X) (lms X) = f1
  generalize fitsI (sgn Y) (lms Y) = f2
  cases f1 with
  | false =>
    go_wp2
    go_ret3
    exact ⟨false, rfl, HB.out⟩
  | true =>
    cases f2 with
    | false =>
      go_wp2
      go_ret3
      exact ⟨false, rfl, HB.out⟩
    | true =>
      go_wp2_with fail
      refine (pwrI (toIntR (sgn X) (lms X)) (toIntR (sgn Y) (lms Y)) _).mono ?_
      rintro e w4 ⟨rfl, n, rfl⟩
      have hb := below_drewN (bl_refl w3) n
      go_wp2
      go_ret3
      exact ⟨pwB (toIntR (sgn X) (lms X)) (toIntR (sgn Y) (lms Y)), rfl, bl_trans HB.out hb⟩

set_option maxHeartbeats 4000000 in
set_option maxRecDepth 20000 in
theorem rpiW (s N B : ByteArray) (P Q : Int) (w : World) (hs : s.size ≤ 1048576) (hN : N.size ≤ 140737488355328) (hB : B.size ≤ 4611686018427387904) (htab : Tabs w) (hm : Mx w) (hc : Lib.cut s.data.toList [94] = (N.data.toList, B.data.toList, true)) (X Y : Int) (hX : RX B = X) (hY : RY B = Y) (hP : toIntR (sgn X) (lms X) = P) (hQ : toIntR (sgn Y) (lms Y) = Q)  :
    Calls Tryz.prog 11 #[.string s] w fun e w' => (partB N P Q = true ∧ (ptxt N P Q).data.toList = s.data.toList ∧ e = .returned (.tuple #[Value.agg #[Value.string N, Value.int .i64 P, Value.int .i64 Q], .bool true]) ∧ Below w.heap.size w w') ∨ ((partB N P Q = false ∨ (ptxt N P Q).data.toList ≠ s.data.toList) ∧ e = .returned (.tuple #[Value.agg #[Value.string ⟨#[]⟩, Value.int .i64 0, Value.int .i64 0], .bool false]) ∧ Below w.heap.size w w') := by
  obtain ⟨tx, htx⟩ : ∃ tx, ptxt N P Q = tx := ⟨_, rfl⟩
  have HTX := hide htx
  clear htx
  have HC := hide hc
  have HT0 := hide htab
  have HM0 := hide hm
  clear hc htab hm
  have HX := hide (And.intro hX (And.intro hY (And.intro hP hQ)))
  clear hX hY hP hQ
  have kr0 : (w.alloc (Obj.cells #[Value.string ⟨#[]⟩, Value.int .i64 0, Value.int .i64 0] 26)).cell? ⟨w.heap.size, 0, none⟩ = some (Value.string ⟨#[]⟩) := by go_simp
  have fr0 : (w.alloc (Obj.cells #[Value.string ⟨#[]⟩, Value.int .i64 0, Value.int .i64 0] 26)).frozen? ⟨w.heap.size, 0, none⟩ = false := by go_simp
  have kr1 : (w.alloc (Obj.cells #[Value.string ⟨#[]⟩, Value.int .i64 0, Value.int .i64 0] 26)).cell? ⟨w.heap.size, 1, none⟩ = some (Value.int .i64 0) := by go_simp
  have fr1 : (w.alloc (Obj.cells #[Value.string ⟨#[]⟩, Value.int .i64 0, Value.int .i64 0] 26)).frozen? ⟨w.heap.size, 1, none⟩ = false := by go_simp
  have kr2 : (w.alloc (Obj.cells #[Value.string ⟨#[]⟩, Value.int .i64 0, Value.int .i64 0] 26)).cell? ⟨w.heap.size, 2, none⟩ = some (Value.int .i64 0) := by go_simp
  have fr2 : (w.alloc (Obj.cells #[Value.string ⟨#[]⟩, Value.int .i64 0, Value.int .i64 0] 26)).frozen? ⟨w.heap.size, 2, none⟩ = false := by go_simp
  have zr : w.heap.size < (w.alloc (Obj.cells #[Value.string ⟨#[]⟩, Value.int .i64 0, Value.int .i64 0] 26)).heap.size := by simp only [World.size_alloc]; omega
  have HB := hide (bl_alloc (bl_refl w) (Obj.cells #[Value.string ⟨#[]⟩, Value.int .i64 0, Value.int .i64 0] 26))
  go_enter Tryz.func11, Tryz.ntmps11
  go_wp2_with fail
  generalize (w.alloc (Obj.cells #[Value.string ⟨#[]⟩, Value.int .i64 0, Value.int .i64 0] 26)) = w1 at *
  have z0 := zr
  refine (cutL s 94 _ (by omega) (HM0.out.below HB.out)).mono ?_
  rw [HC.out]
  rw [show (⟨N.data.toList.toArray⟩ : ByteArray) = N from by rw [Array.toArray_toList], show (⟨B.data.toList.toArray⟩ : ByteArray) = B from by rw [Array.toArray_toList]]
  rintro e w2 ⟨rfl, hb⟩
  have yw2 := hb.size
  replace kr0 := (hb.cell (p := ⟨w.heap.size, 0, none⟩) (by dsimp only; omega)).trans kr0
  replace fr0 := (hb.frozen (p := ⟨w.heap.size, 0, none⟩) (by dsimp only; omega)).trans fr0
  replace kr1 := (hb.cell (p := ⟨w.heap.size, 1, none⟩) (by dsimp only; omega)).trans kr1
  replace fr1 := (hb.frozen (p := ⟨w.heap.size, 1, none⟩) (by dsimp only; omega)).trans fr1
  replace kr2 := (hb.cell (p := ⟨w.heap.size, 2, none⟩) (by dsimp only; omega)).trans kr2
  replace fr2 := (hb.frozen (p := ⟨w.heap.size, 2, none⟩) (by dsimp only; omega)).trans fr2
  replace zr := Nat.lt_of_lt_of_le zr hb.size
  replace HB := hide (bl_trans HB.out hb)
  clear hb
  go_wp2_with fail
  refine (clonT N _ (by omega)).mono ?_
  rintro e w3 ⟨rfl, hb⟩
  have yw3 := hb.size
  replace kr0 := (hb.cell (p := ⟨w.heap.size, 0, none⟩) (by dsimp only; omega)).trans kr0
  replace fr0 := (hb.frozen (p := ⟨w.heap.size, 0, none⟩) (by dsimp only; omega)).trans fr0
  replace kr1 := (hb.cell (p := ⟨w.heap.size, 1, none⟩) (by dsimp only; omega)).trans kr1
  replace fr1 := (hb.frozen (p := ⟨w.heap.size, 1, none⟩) (by dsimp only; omega)).trans fr1
  replace kr2 := (hb.cell (p := ⟨w.heap.size, 2, none⟩) (by dsimp only; omega)).trans kr2
  replace fr2 := (hb.frozen (p := ⟨w.heap.size, 2, none⟩) (by dsimp only; omega)).trans fr2
  replace zr := Nat.lt_of_lt_of_le zr hb.size
  replace HB := hide (bl_trans HB.out hb)
  clear hb
  have yw4 : w3.heap.size + 1 ≤ (w3.alloc (Obj.cells #[Value.string N, Value.int .i64 1, Value.int .i64 1] 26)).heap.size := by simp only [World.size_alloc]; omega
  have kp0 : (w3.alloc (Obj.cells #[Value.string N, Value.int .i64 1, Value.int .i64 1] 26)).cell? ⟨w3.heap.size, 0, none⟩ = some (Value.string N) := by go_simp
  have fp0 : (w3.alloc (Obj.cells #[Value.string N, Value.int .i64 1, Value.int .i64 1] 26)).frozen? ⟨w3.heap.size, 0, none⟩ = false := by go_simp
  have kp1 : (w3.alloc (Obj.cells #[Value.string N, Value.int .i64 1, Value.int .i64 1] 26)).cell? ⟨w3.heap.size, 1, none⟩ = some (Value.int .i64 1) := by go_simp
  have fp1 : (w3.alloc (Obj.cells #[Value.string N, Value.int .i64 1, Value.int .i64 1] 26)).frozen? ⟨w3.heap.size, 1, none⟩ = false := by go_simp
  have kp2 : (w3.alloc (Obj.cells #[Value.string N, Value.int .i64 1, Value.int .i64 1] 26)).cell? ⟨w3.heap.size, 2, none⟩ = some (Value.int .i64 1) := by go_simp
  have fp2 : (w3.alloc (Obj.cells #[Value.string N, Value.int .i64 1, Value.int .i64 1] 26)).frozen? ⟨w3.heap.size, 2, none⟩ = false := by go_simp
  have hbn := (bl_alloc (bl_refl w3) (Obj.cells #[Value.string N, Value.int .i64 1, Value.int .i64 1] 26))
  replace kr0 := (hbn.cell (p := ⟨w.heap.size, 0, none⟩) (by dsimp only; omega)).trans kr0
  replace fr0 := (hbn.frozen (p := ⟨w.heap.size, 0, none⟩) (by dsimp only; omega)).trans fr0
  replace kr1 := (hbn.cell (p := ⟨w.heap.size, 1, none⟩) (by dsimp only; omega)).trans kr1
  replace fr1 := (hbn.frozen (p := ⟨w.heap.size, 1, none⟩) (by dsimp only; omega)).trans fr1
  replace kr2 := (hbn.cell (p := ⟨w.heap.size, 2, none⟩) (by dsimp only; omega)).trans kr2
  replace fr2 := (hbn.frozen (p := ⟨w.heap.size, 2, none⟩) (by dsimp only; omega)).trans fr2
  replace zr := Nat.lt_of_lt_of_le zr hbn.size
  replace HB := hide (bl_trans HB.out hbn)
  clear hbn
  go_wp2_with fail
  generalize (w3.alloc (Obj.cells #[Value.string N, Value.int .i64 1, Value.int .i64 1] 26)) = w4 at *
  refine (readRatP B _ (HM0.out.below HB.out) hB).mono ?_
  rw [HX.out.1, HX.out.2.1]
  generalize RF B = rf
  rintro e w5 ⟨a1, c1, a2, c2, rfl, ho1, ho2, hap, hb⟩
  clear hap
  have yw5 := hb.size
  replace kr0 := (hb.cell (p := ⟨w.heap.size, 0, none⟩) (by dsimp only; omega)).trans kr0
  replace fr0 := (hb.frozen (p := ⟨w.heap.size, 0, none⟩) (by dsimp only; omega)).trans fr0
  replace kr1 := (hb.cell (p := ⟨w.heap.size, 1, none⟩) (by dsimp only; omega)).trans kr1
  replace fr1 := (hb.frozen (p := ⟨w.heap.size, 1, none⟩) (by dsimp only; omega)).trans fr1
  replace kr2 := (hb.cell (p := ⟨w.heap.size, 2, none⟩) (by dsimp only; omega)).trans kr2
  replace fr2 := (hb.frozen (p := ⟨w.heap.size, 2, none⟩) (by dsimp only; omega)).trans fr2
  replace kp0 := (hb.cell (p := ⟨w3.heap.size, 0, none⟩) (by dsimp only; omega)).trans kp0
  replace fp0 := (hb.frozen (p := ⟨w3.heap.size, 0, none⟩) (by dsimp only; omega)).trans fp0
  replace kp1 := (hb.cell (p := ⟨w3.heap.size, 1, none⟩) (by dsimp only; omega)).trans kp1
  replace fp1 := (hb.frozen (p := ⟨w3.heap.size, 1, none⟩) (by dsimp only; omega)).trans fp1
  replace kp2 := (hb.cell (p := ⟨w3.heap.size, 2, none⟩) (by dsimp only; omega)).trans kp2
  replace fp2 := (hb.frozen (p := ⟨w3.heap.size, 2, none⟩) (by dsimp only; omega)).trans fp2
  replace zr := Nat.lt_of_lt_of_le zr hb.size
  replace HB := hide (bl_trans HB.out hb)
  clear hb
  have O1 := hide ho1.seg
  have O2 := hide ho2.seg
  clear ho1 ho2
  have yw6 : w5.heap.size + 1 ≤ (w5.alloc (Obj.cells #[Value.bool (sgn X), Value.slice a1 (lms X).length c1, Value.bool (sgn Y), Value.slice a2 (lms Y).length c2] 42)).heap.size := by simp only [World.size_alloc]; omega
  have kd0 : (w5.alloc (Obj.cells #[Value.bool (sgn X), Value.slice a1 (lms X).length c1, Value.bool (sgn Y), Value.slice a2 (lms Y).length c2] 42)).cell? ⟨w5.heap.size, 0, none⟩ = some (Value.bool (sgn X)) := by go_simp
  have kd1 : (w5.alloc (Obj.cells #[Value.bool (sgn X), Value.slice a1 (lms X).length c1, Value.bool (sgn Y), Value.slice a2 (lms Y).length c2] 42)).cell? ⟨w5.heap.size, 1, none⟩ = some (Value.slice a1 (lms X).length c1) := by go_simp
  have kd2 : (w5.alloc (Obj.cells #[Value.bool (sgn X), Value.slice a1 (lms X).length c1, Value.bool (sgn Y), Value.slice a2 (lms Y).length c2] 42)).cell? ⟨w5.heap.size, 2, none⟩ = some (Value.bool (sgn Y)) := by go_simp
  have kd3 : (w5.alloc (Obj.cells #[Value.bool (sgn X), Value.slice a1 (lms X).length c1, Value.bool (sgn Y), Value.slice a2 (lms Y).length c2] 42)).cell? ⟨w5.heap.size, 3, none⟩ = some (Value.slice a2 (lms Y).length c2) := by go_simp
  have hbn := (bl_alloc (bl_refl w5) (Obj.cells #[Value.bool (sgn X), Value.slice a1 (lms X).length c1, Value.bool (sgn Y), Value.slice a2 (lms Y).length c2] 42))
  replace kr0 := (hbn.cell (p := ⟨w.heap.size, 0, none⟩) (by dsimp only; omega)).trans kr0
  replace fr0 := (hbn.frozen (p := ⟨w.heap.size, 0, none⟩) (by dsimp only; omega)).trans fr0
  replace kr1 := (hbn.cell (p := ⟨w.heap.size, 1, none⟩) (by dsimp only; omega)).trans kr1
  replace fr1 := (hbn.frozen (p := ⟨w.heap.size, 1, none⟩) (by dsimp only; omega)).trans fr1
  replace kr2 := (hbn.cell (p := ⟨w.heap.size, 2, none⟩) (by dsimp only; omega)).trans kr2
  replace fr2 := (hbn.frozen (p := ⟨w.heap.size, 2, none⟩) (by dsimp only; omega)).trans fr2
  replace kp0 := (hbn.cell (p := ⟨w3.heap.size, 0, none⟩) (by dsimp only; omega)).trans kp0
  replace fp0 := (hbn.frozen (p := ⟨w3.heap.size, 0, none⟩) (by dsimp only; omega)).trans fp0
  replace kp1 := (hbn.cell (p := ⟨w3.heap.size, 1, none⟩) (by dsimp only; omega)).trans kp1
  replace fp1 := (hbn.frozen (p := ⟨w3.heap.size, 1, none⟩) (by dsimp only; omega)).trans fp1
  replace kp2 := (hbn.cell (p := ⟨w3.heap.size, 2, none⟩) (by dsimp only; omega)).trans kp2
  replace fp2 := (hbn.frozen (p := ⟨w3.heap.size, 2, none⟩) (by dsimp only; omega)).trans fp2
  replace O1 := hide (O1.out.below hbn)
  replace O2 := hide (O2.out.below hbn)
  replace zr := Nat.lt_of_lt_of_le zr hbn.size
  replace HB := hide (bl_trans HB.out hbn)
  clear hbn
  go_wp2_with fail
  generalize (w5.alloc (Obj.cells #[Value.bool (sgn X), Value.slice a1 (lms X).length c1, Value.bool (sgn Y), Value.slice a2 (lms Y).length c2] 42)) = w6 at *
  refine (ppartsI X Y a1 c1 a2 c2 _ O1.out O2.out).mono ?_
  rintro e w7 ⟨ok, rfl, hb⟩
  have yw7 := hb.size
  replace kr0 := (hb.cell (p := ⟨w.heap.size, 0, none⟩) (by dsimp only; omega)).trans kr0
  replace fr0 := (hb.frozen (p := ⟨w.heap.size, 0, none⟩) (by dsimp only; omega)).trans fr0
  replace kr1 := (hb.cell (p := ⟨w.heap.size, 1, none⟩) (by dsimp only; omega)).trans kr1
  replace fr1 := (hb.frozen (p := ⟨w.heap.size, 1, none⟩) (by dsimp only; omega)).trans fr1
  replace kr2 := (hb.cell (p := ⟨w.heap.size, 2, none⟩) (by dsimp only; omega)).trans kr2
  replace fr2 := (hb.frozen (p := ⟨w.heap.size, 2, none⟩) (by dsimp only; omega)).trans fr2
  replace kp0 := (hb.cell (p := ⟨w3.heap.size, 0, none⟩) (by dsimp only; omega)).trans kp0
  replace fp0 := (hb.frozen (p := ⟨w3.heap.size, 0, none⟩) (by dsimp only; omega)).trans fp0
  replace kp1 := (hb.cell (p := ⟨w3.heap.size, 1, none⟩) (by dsimp only; omega)).trans kp1
  replace fp1 := (hb.frozen (p := ⟨w3.heap.size, 1, none⟩) (by dsimp only; omega)).trans fp1
  replace kp2 := (hb.cell (p := ⟨w3.heap.size, 2, none⟩) (by dsimp only; omega)).trans kp2
  replace fp2 := (hb.frozen (p := ⟨w3.heap.size, 2, none⟩) (by dsimp only; omega)).trans fp2
  replace kd0 := (hb.cell (p := ⟨w5.heap.size, 0, none⟩) (by dsimp only; omega)).trans kd0
  replace kd1 := (hb.cell (p := ⟨w5.heap.size, 1, none⟩) (by dsimp only; omega)).trans kd1
  replace kd2 := (hb.cell (p := ⟨w5.heap.size, 2, none⟩) (by dsimp only; omega)).trans kd2
  replace kd3 := (hb.cell (p := ⟨w5.heap.size, 3, none⟩) (by dsimp only; omega)).trans kd3
  replace O1 := hide (O1.out.below hb)
  replace O2 := hide (O2.out.below hb)
  replace zr := Nat.lt_of_lt_of_le zr hb.size
  replace HB := hide (bl_trans HB.out hb)
  clear hb
  rw [HX.out.2.2.1, HX.out.2.2.2]
  clear O1 O2
  go_wp2_with fail
  have hbk : w.heap.size < w3.heap.size := by omega
  have mr0 : ((w7.setCell ⟨w3.heap.size, 1, none⟩ (Value.int .i64 P)).setCell ⟨w3.heap.size, 2, none⟩ (Value.int .i64 Q)).cell? ⟨w.heap.size, 0, none⟩ = w7.cell? ⟨w.heap.size, 0, none⟩ := World.cell?_of_block ((Below.heap_setCell _ ⟨w3.heap.size, 2, none⟩ _ w.heap.size (by dsimp only; omega)).trans (Below.heap_setCell _ ⟨w3.heap.size, 1, none⟩ _ w.heap.size (by dsimp only; omega)))
  replace kr0 := mr0.trans kr0
  clear mr0
  have mr0 : ((w7.setCell ⟨w3.heap.size, 1, none⟩ (Value.int .i64 P)).setCell ⟨w3.heap.size, 2, none⟩ (Value.int .i64 Q)).frozen? ⟨w.heap.size, 0, none⟩ = w7.frozen? ⟨w.heap.size, 0, none⟩ := World.frozen?_of_block ((Below.heap_setCell _ ⟨w3.heap.size, 2, none⟩ _ w.heap.size (by dsimp only; omega)).trans (Below.heap_setCell _ ⟨w3.heap.size, 1, none⟩ _ w.heap.size (by dsimp only; omega)))
  replace fr0 := mr0.trans fr0
  clear mr0
  have mr1 : ((w7.setCell ⟨w3.heap.size, 1, none⟩ (Value.int .i64 P)).setCell ⟨w3.heap.size, 2, none⟩ (Value.int .i64 Q)).cell? ⟨w.heap.size, 1, none⟩ = w7.cell? ⟨w.heap.size, 1, none⟩ := World.cell?_of_block ((Below.heap_setCell _ ⟨w3.heap.size, 2, none⟩ _ w.heap.size (by dsimp only; omega)).trans (Below.heap_setCell _ ⟨w3.heap.size, 1, none⟩ _ w.heap.size (by dsimp only; omega)))
  replace kr1 := mr1.trans kr1
  clear mr1
  have mr1 : ((w7.setCell ⟨w3.heap.size, 1, none⟩ (Value.int .i64 P)).setCell ⟨w3.heap.size, 2, none⟩ (Value.int .i64 Q)).frozen? ⟨w.heap.size, 1, none⟩ = w7.frozen? ⟨w.heap.size, 1, none⟩ := World.frozen?_of_block ((Below.heap_setCell _ ⟨w3.heap.size, 2, none⟩ _ w.heap.size (by dsimp only; omega)).trans (Below.heap_setCell _ ⟨w3.heap.size, 1, none⟩ _ w.heap.size (by dsimp only; omega)))
  replace fr1 := mr1.trans fr1
  clear mr1
  have mr2 : ((w7.setCell ⟨w3.heap.size, 1, none⟩ (Value.int .i64 P)).setCell ⟨w3.heap.size, 2, none⟩ (Value.int .i64 Q)).cell? ⟨w.heap.size, 2, none⟩ = w7.cell? ⟨w.heap.size, 2, none⟩ := World.cell?_of_block ((Below.heap_setCell _ ⟨w3.heap.size, 2, none⟩ _ w.heap.size (by dsimp only; omega)).trans (Below.heap_setCell _ ⟨w3.heap.size, 1, none⟩ _ w.heap.size (by dsimp only; omega)))
  replace kr2 := mr2.trans kr2
  clear mr2
  have mr2 : ((w7.setCell ⟨w3.heap.size, 1, none⟩ (Value.int .i64 P)).setCell ⟨w3.heap.size, 2, none⟩ (Value.int .i64 Q)).frozen? ⟨w.heap.size, 2, none⟩ = w7.frozen? ⟨w.heap.size, 2, none⟩ := World.frozen?_of_block ((Below.heap_setCell _ ⟨w3.heap.size, 2, none⟩ _ w.heap.size (by dsimp only; omega)).trans (Below.heap_setCell _ ⟨w3.heap.size, 1, none⟩ _ w.heap.size (by dsimp only; omega)))
  replace fr2 := mr2.trans fr2
  clear mr2
  have md0 : ((w7.setCell ⟨w3.heap.size, 1, none⟩ (Value.int .i64 P)).setCell ⟨w3.heap.size, 2, none⟩ (Value.int .i64 Q)).cell? ⟨w5.heap.size, 0, none⟩ = w7.cell? ⟨w5.heap.size, 0, none⟩ := World.cell?_of_block ((Below.heap_setCell _ ⟨w3.heap.size, 2, none⟩ _ w5.heap.size (by dsimp only; omega)).trans (Below.heap_setCell _ ⟨w3.heap.size, 1, none⟩ _ w5.heap.size (by dsimp only; omega)))
  replace kd0 := md0.trans kd0
  clear md0
  have md1 : ((w7.setCell ⟨w3.heap.size, 1, none⟩ (Value.int .i64 P)).setCell ⟨w3.heap.size, 2, none⟩ (Value.int .i64 Q)).cell? ⟨w5.heap.size, 1, none⟩ = w7.cell? ⟨w5.heap.size, 1, none⟩ := World.cell?_of_block ((Below.heap_setCell _ ⟨w3.heap.size, 2, none⟩ _ w5.heap.size (by dsimp only; omega)).trans (Below.heap_setCell _ ⟨w3.heap.size, 1, none⟩ _ w5.heap.size (by dsimp only; omega)))
  replace kd1 := md1.trans kd1
  clear md1
  have md2 : ((w7.setCell ⟨w3.heap.size, 1, none⟩ (Value.int .i64 P)).setCell ⟨w3.heap.size, 2, none⟩ (Value.int .i64 Q)).cell? ⟨w5.heap.size, 2, none⟩ = w7.cell? ⟨w5.heap.size, 2, none⟩ := World.cell?_of_block ((Below.heap_setCell _ ⟨w3.heap.size, 2, none⟩ _ w5.heap.size (by dsimp only; omega)).trans (Below.heap_setCell _ ⟨w3.heap.size, 1, none⟩ _ w5.heap.size (by dsimp only; omega)))
  replace kd2 := md2.trans kd2
  clear md2
  have md3 : ((w7.setCell ⟨w3.heap.size, 1, none⟩ (Value.int .i64 P)).setCell ⟨w3.heap.size, 2, none⟩ (Value.int .i64 Q)).cell? ⟨w5.heap.size, 3, none⟩ = w7.cell? ⟨w5.heap.size, 3, none⟩ := World.cell?_of_block ((Below.heap_setCell _ ⟨w3.heap.size, 2, none⟩ _ w5.heap.size (by dsimp only; omega)).trans (Below.heap_setCell _ ⟨w3.heap.size, 1, none⟩ _ w5.heap.size (by dsimp only; omega)))
  replace kd3 := md3.trans kd3
  clear md3
  have qp0 : ((w7.setCell ⟨w3.heap.size, 1, none⟩ (Value.int .i64 P)).setCell ⟨w3.heap.size, 2, none⟩ (Value.int .i64 Q)).cell? ⟨w3.heap.size, 0, none⟩ = some (Value.string N) := by go_simp
  have qp1 : ((w7.setCell ⟨w3.heap.size, 1, none⟩ (Value.int .i64 P)).setCell ⟨w3.heap.size, 2, none⟩ (Value.int .i64 Q)).cell? ⟨w3.heap.size, 1, none⟩ = some (Value.int .i64 P) := by go_simp
  have qp2 : ((w7.setCell ⟨w3.heap.size, 1, none⟩ (Value.int .i64 P)).setCell ⟨w3.heap.size, 2, none⟩ (Value.int .i64 Q)).cell? ⟨w3.heap.size, 2, none⟩ = some (Value.int .i64 Q) := by go_simp
  have ysz : ((w7.setCell ⟨w3.heap.size, 1, none⟩ (Value.int .i64 P)).setCell ⟨w3.heap.size, 2, none⟩ (Value.int .i64 Q)).heap.size = w7.heap.size := by simp
  replace HB := hide ((HB.out.setCell (p := ⟨w3.heap.size, 1, none⟩) (by dsimp only; omega) (Value.int .i64 P)).setCell (p := ⟨w3.heap.size, 2, none⟩) (by dsimp only; omega) (Value.int .i64 Q))
  clear kp0 kp1 kp2 fp0 fp1 fp2
  have kp0 := qp0
  clear qp0
  have kp1 := qp1
  clear qp1
  have kp2 := qp2
  clear qp2
  generalize ((w7.setCell ⟨w3.heap.size, 1, none⟩ (Value.int .i64 P)).setCell ⟨w3.heap.size, 2, none⟩ (Value.int .i64 Q)) = w8 at *
  replace zr : w.heap.size < w8.heap.size := by omega
  refine (partI N P Q _ hN).mono ?_
  rintro e w9 ⟨rfl, hb⟩
  have yw9 := hb.size
  replace kr0 := (hb.cell (p := ⟨w.heap.size, 0, none⟩) (by dsimp only; omega)).trans kr0
  replace fr0 := (hb.frozen (p := ⟨w.heap.size, 0, none⟩) (by dsimp only; omega)).trans fr0
  replace kr1 := (hb.cell (p := ⟨w.heap.size, 1, none⟩) (by dsimp only; omega)).trans kr1
  replace fr1 := (hb.frozen (p := ⟨w.heap.size, 1, none⟩) (by dsimp only; omega)).trans fr1
  replace kr2 := (hb.cell (p := ⟨w.heap.size, 2, none⟩) (by dsimp only; omega)).trans kr2
  replace fr2 := (hb.frozen (p := ⟨w.heap.size, 2, none⟩) (by dsimp only; omega)).trans fr2
  replace kp0 := (hb.cell (p := ⟨w3.heap.size, 0, none⟩) (by dsimp only; omega)).trans kp0
  replace kp1 := (hb.cell (p := ⟨w3.heap.size, 1, none⟩) (by dsimp only; omega)).trans kp1
  replace kp2 := (hb.cell (p := ⟨w3.heap.size, 2, none⟩) (by dsimp only; omega)).trans kp2
  replace kd0 := (hb.cell (p := ⟨w5.heap.size, 0, none⟩) (by dsimp only; omega)).trans kd0
  replace kd1 := (hb.cell (p := ⟨w5.heap.size, 1, none⟩) (by dsimp only; omega)).trans kd1
  replace kd2 := (hb.cell (p := ⟨w5.heap.size, 2, none⟩) (by dsimp only; omega)).trans kd2
  replace kd3 := (hb.cell (p := ⟨w5.heap.size, 3, none⟩) (by dsimp only; omega)).trans kd3
  replace zr := Nat.lt_of_lt_of_le zr hb.size
  replace HB := hide (bl_trans HB.out hb)
  clear hb
  cases hk : partB N P Q with
  | false =>
    have HK := hide hk
    clear hk
    go_wp2
    refine bodyPost_ret (v := (.tuple #[Value.agg #[Value.string ⟨#[]⟩, Value.int .i64 0, Value.int .i64 0], .bool false])) (by simp [results, Tryz.results11, go_sem, kr0, kr1, kr2]) rfl ?_
    exact .inr ⟨.inl HK.out, rfl, ((HB.out.setCell (p := ⟨w.heap.size, 0, none⟩) (Nat.le_refl _) _).setCell (p := ⟨w.heap.size, 1, none⟩) (Nat.le_refl _) _).setCell (p := ⟨w.heap.size, 2, none⟩) (Nat.le_refl _) _⟩
  | true =>
    have HK := hide hk
    clear hk
    go_wp2_with fail
    have HCT := hide (partTextI N P Q w9 hN (HT0.out.below HB.out))
    rw [HTX.out] at HCT
    refine HCT.out.mono ?_
    rintro e w10 ⟨rfl, hb⟩
    clear HCT
    have yw10 := hb.size
    replace kr0 := (hb.cell (p := ⟨w.heap.size, 0, none⟩) (by dsimp only; omega)).trans kr0
    replace fr0 := (hb.frozen (p := ⟨w.heap.size, 0, none⟩) (by dsimp only; omega)).trans fr0
    replace kr1 := (hb.cell (p := ⟨w.heap.size, 1, none⟩) (by dsimp only; omega)).trans kr1
    replace fr1 := (hb.frozen (p := ⟨w.heap.size, 1, none⟩) (by dsimp only; omega)).trans fr1
    replace kr2 := (hb.cell (p := ⟨w.heap.size, 2, none⟩) (by dsimp only; omega)).trans kr2
    replace fr2 := (hb.frozen (p := ⟨w.heap.size, 2, none⟩) (by dsimp only; omega)).trans fr2
    replace kp0 := (hb.cell (p := ⟨w3.heap.size, 0, none⟩) (by dsimp only; omega)).trans kp0
    replace kp1 := (hb.cell (p := ⟨w3.heap.size, 1, none⟩) (by dsimp only; omega)).trans kp1
    replace kp2 := (hb.cell (p := ⟨w3.heap.size, 2, none⟩) (by dsimp only; omega)).trans kp2
    replace kd0 := (hb.cell (p := ⟨w5.heap.size, 0, none⟩) (by dsimp only; omega)).trans kd0
    replace kd1 := (hb.cell (p := ⟨w5.heap.size, 1, none⟩) (by dsimp only; omega)).trans kd1
    replace kd2 := (hb.cell (p := ⟨w5.heap.size, 2, none⟩) (by dsimp only; omega)).trans kd2
    replace kd3 := (hb.cell (p := ⟨w5.heap.size, 3, none⟩) (by dsimp only; omega)).trans kd3
    replace zr := Nat.lt_of_lt_of_le zr hb.size
    replace HB := hide (bl_trans HB.out hb)
    clear hb
    by_cases ht : tx.data.toList = s.data.toList
    · skip
      have hcmp : (tx.toList == s.toList) = true := by rw [ByteArray.toList_eq, ByteArray.toList_eq, beq_iff_eq]; exact ht
      have HT := hide ht
      clear ht
      go_wp2
      refine bodyPost_ret (v := (.tuple #[Value.agg #[Value.string N, Value.int .i64 P, Value.int .i64 Q], .bool true])) (by simp [results, Tryz.results11, go_sem, kr0, kr1, kr2]) rfl ?_
      exact .inl ⟨HK.out, by rw [HTX.out]; exact HT.out, rfl, ((HB.out.setCell (p := ⟨w.heap.size, 0, none⟩) (Nat.le_refl _) _).setCell (p := ⟨w.heap.size, 1, none⟩) (Nat.le_refl _) _).setCell (p := ⟨w.heap.size, 2, none⟩) (Nat.le_refl _) _⟩
    · skip
      have hcmp : (tx.toList == s.toList) = false := by rw [ByteArray.toList_eq, ByteArray.toList_eq, beq_eq_false_iff_ne]; exact ht
      have HT := hide ht
      clear ht
      go_wp2
      refine bodyPost_ret (v := (.tuple #[Value.agg #[Value.string ⟨#[]⟩, Value.int .i64 0, Value.int .i64 0], .bool false])) (by simp [results, Tryz.results11, go_sem, kr0, kr1, kr2]) rfl ?_
      exact .inr ⟨.inr (by rw [HTX.out]; exact HT.out), rfl, ((HB.out.setCell (p := ⟨w.heap.size, 0, none⟩) (Nat.le_refl _) _).setCell (p := ⟨w.heap.size, 1, none⟩) (Nat.le_refl _) _).setCell (p := ⟨w.heap.size, 2, none⟩) (Nat.le_refl _) _⟩

set_option maxHeartbeats 4000000 in
set_option maxRecDepth 20000 in
theorem rpiO (s N B : ByteArray) (P Q : Int) (w : World) (hs : s.size ≤ 1048576) (hN : N.size ≤ 140737488355328) (hB : B.size ≤ 4611686018427387904) (htab : Tabs w) (hm : Mx w) (hc : Lib.cut s.data.toList [94] = (N.data.toList, B.data.toList, false)) (hP : P = 1) (hQ : Q = 1)  :
    Calls Tryz.prog 11 #[.string s] w fun e w' => (partB N P Q = true ∧ (ptxt N P Q).data.toList = s.data.toList ∧ e = .returned (.tuple #[Value.agg #[Value.string N, Value.int .i64 P, Value.int .i64 Q], .bool true]) ∧ Below w.heap.size w w') ∨ ((partB N P Q = false ∨ (ptxt N P Q).data.toList ≠ s.data.toList) ∧ e = .returned (.tuple #[Value.agg #[Value.string ⟨#[]⟩, Value.int .i64 0, Value.int .i64 0], .bool false]) ∧ Below w.heap.size w w') := by
  obtain ⟨tx, htx⟩ : ∃ tx, ptxt N P Q = tx := ⟨_, rfl⟩
  have HTX := hide htx
  clear htx
  subst hP
  subst hQ
  have HC := hide hc
  have HT0 := hide htab
  have HM0 := hide hm
  clear hc htab hm
  have kr0 : (w.alloc (Obj.cells #[Value.string ⟨#[]⟩, Value.int .i64 0, Value.int .i64 0] 26)).cell? ⟨w.heap.size, 0, none⟩ = some (Value.string ⟨#[]⟩) := by go_simp
  have fr0 : (w.alloc (Obj.cells #[Value.string ⟨#[]⟩, Value.int .i64 0, Value.int .i64 0] 26)).frozen? ⟨w.heap.size, 0, none⟩ = false := by go_simp
  have kr1 : (w.alloc (Obj.cells #[Value.string ⟨#[]⟩, Value.int .i64 0, Value.int .i64 0] 26)).cell? ⟨w.heap.size, 1, none⟩ = some (Value.int .i64 0) := by go_simp
  have fr1 : (w.alloc (Obj.cells #[Value.string ⟨#[]⟩, Value.int .i64 0, Value.int .i64 0] 26)).frozen? ⟨w.heap.size, 1, none⟩ = false := by go_simp
  have kr2 : (w.alloc (Obj.cells #[Value.string ⟨#[]⟩, Value.int .i64 0, Value.int .i64 0] 26)).cell? ⟨w.heap.size, 2, none⟩ = some (Value.int .i64 0) := by go_simp
  have fr2 : (w.alloc (Obj.cells #[Value.string ⟨#[]⟩, Value.int .i64 0, Value.int .i64 0] 26)).frozen? ⟨w.heap.size, 2, none⟩ = false := by go_simp
  have zr : w.heap.size < (w.alloc (Obj.cells #[Value.string ⟨#[]⟩, Value.int .i64 0, Value.int .i64 0] 26)).heap.size := by simp only [World.size_alloc]; omega
  have HB := hide (bl_alloc (bl_refl w) (Obj.cells #[Value.string ⟨#[]⟩, Value.int .i64 0, Value.int .i64 0] 26))
  go_enter Tryz.func11, Tryz.ntmps11
  go_wp2_with fail
  generalize (w.alloc (Obj.cells #[Value.string ⟨#[]⟩, Value.int .i64 0, Value.int .i64 0] 26)) = w1 at *
  have z0 := zr
  refine (cutL s 94 _ (by omega) (HM0.out.below HB.out)).mono ?_
  rw [HC.out]
  rw [show (⟨N.data.toList.toArray⟩ : ByteArray) = N from by rw [Array.toArray_toList], show (⟨B.data.toList.toArray⟩ : ByteArray) = B from by rw [Array.toArray_toList]]
  rintro e w2 ⟨rfl, hb⟩
  have yw2 := hb.size
  replace kr0 := (hb.cell (p := ⟨w.heap.size, 0, none⟩) (by dsimp only; omega)).trans kr0
  replace fr0 := (hb.frozen (p := ⟨w.heap.size, 0, none⟩) (by dsimp only; omega)).trans fr0
  replace kr1 := (hb.cell (p := ⟨w.heap.size, 1, none⟩) (by dsimp only; omega)).trans kr1
  replace fr1 := (hb.frozen (p := ⟨w.heap.size, 1, none⟩) (by dsimp only; omega)).trans fr1
  replace kr2 := (hb.cell (p := ⟨w.heap.size, 2, none⟩) (by dsimp only; omega)).trans kr2
  replace fr2 := (hb.frozen (p := ⟨w.heap.size, 2, none⟩) (by dsimp only; omega)).trans fr2
  replace zr := Nat.lt_of_lt_of_le zr hb.size
  replace HB := hide (bl_trans HB.out hb)
  clear hb
  go_wp2_with fail
  refine (clonT N _ (by omega)).mono ?_
  rintro e w3 ⟨rfl, hb⟩
  have yw3 := hb.size
  replace kr0 := (hb.cell (p := ⟨w.heap.size, 0, none⟩) (by dsimp only; omega)).trans kr0
  replace fr0 := (hb.frozen (p := ⟨w.heap.size, 0, none⟩) (by dsimp only; omega)).trans fr0
  replace kr1 := (hb.cell (p := ⟨w.heap.size, 1, none⟩) (by dsimp only; omega)).trans kr1
  replace fr1 := (hb.frozen (p := ⟨w.heap.size, 1, none⟩) (by dsimp only; omega)).trans fr1
  replace kr2 := (hb.cell (p := ⟨w.heap.size, 2, none⟩) (by dsimp only; omega)).trans kr2
  replace fr2 := (hb.frozen (p := ⟨w.heap.size, 2, none⟩) (by dsimp only; omega)).trans fr2
  replace zr := Nat.lt_of_lt_of_le zr hb.size
  replace HB := hide (bl_trans HB.out hb)
  clear hb
  have yw4 : w3.heap.size + 1 ≤ (w3.alloc (Obj.cells #[Value.string N, Value.int .i64 1, Value.int .i64 1] 26)).heap.size := by simp only [World.size_alloc]; omega
  have kp0 : (w3.alloc (Obj.cells #[Value.string N, Value.int .i64 1, Value.int .i64 1] 26)).cell? ⟨w3.heap.size, 0, none⟩ = some (Value.string N) := by go_simp
  have fp0 : (w3.alloc (Obj.cells #[Value.string N, Value.int .i64 1, Value.int .i64 1] 26)).frozen? ⟨w3.heap.size, 0, none⟩ = false := by go_simp
  have kp1 : (w3.alloc (Obj.cells #[Value.string N, Value.int .i64 1, Value.int .i64 1] 26)).cell? ⟨w3.heap.size, 1, none⟩ = some (Value.int .i64 1) := by go_simp
  have fp1 : (w3.alloc (Obj.cells #[Value.string N, Value.int .i64 1, Value.int .i64 1] 26)).frozen? ⟨w3.heap.size, 1, none⟩ = false := by go_simp
  have kp2 : (w3.alloc (Obj.cells #[Value.string N, Value.int .i64 1, Value.int .i64 1] 26)).cell? ⟨w3.heap.size, 2, none⟩ = some (Value.int .i64 1) := by go_simp
  have fp2 : (w3.alloc (Obj.cells #[Value.string N, Value.int .i64 1, Value.int .i64 1] 26)).frozen? ⟨w3.heap.size, 2, none⟩ = false := by go_simp
  have hbn := (bl_alloc (bl_refl w3) (Obj.cells #[Value.string N, Value.int .i64 1, Value.int .i64 1] 26))
  replace kr0 := (hbn.cell (p := ⟨w.heap.size, 0, none⟩) (by dsimp only; omega)).trans kr0
  replace fr0 := (hbn.frozen (p := ⟨w.heap.size, 0, none⟩) (by dsimp only; omega)).trans fr0
  replace kr1 := (hbn.cell (p := ⟨w.heap.size, 1, none⟩) (by dsimp only; omega)).trans kr1
  replace fr1 := (hbn.frozen (p := ⟨w.heap.size, 1, none⟩) (by dsimp only; omega)).trans fr1
  replace kr2 := (hbn.cell (p := ⟨w.heap.size, 2, none⟩) (by dsimp only; omega)).trans kr2
  replace fr2 := (hbn.frozen (p := ⟨w.heap.size, 2, none⟩) (by dsimp only; omega)).trans fr2
  replace zr := Nat.lt_of_lt_of_le zr hbn.size
  replace HB := hide (bl_trans HB.out hbn)
  clear hbn
  go_wp2_with fail
  generalize (w3.alloc (Obj.cells #[Value.string N, Value.int .i64 1, Value.int .i64 1] 26)) = w4 at *
  refine (partI N 1 1 _ hN).mono ?_
  rintro e w5 ⟨rfl, hb⟩
  have yw5 := hb.size
  replace kr0 := (hb.cell (p := ⟨w.heap.size, 0, none⟩) (by dsimp only; omega)).trans kr0
  replace fr0 := (hb.frozen (p := ⟨w.heap.size, 0, none⟩) (by dsimp only; omega)).trans fr0
  replace kr1 := (hb.cell (p := ⟨w.heap.size, 1, none⟩) (by dsimp only; omega)).trans kr1
  replace fr1 := (hb.frozen (p := ⟨w.heap.size, 1, none⟩) (by dsimp only; omega)).trans fr1
  replace kr2 := (hb.cell (p := ⟨w.heap.size, 2, none⟩) (by dsimp only; omega)).trans kr2
  replace fr2 := (hb.frozen (p := ⟨w.heap.size, 2, none⟩) (by dsimp only; omega)).trans fr2
  replace kp0 := (hb.cell (p := ⟨w3.heap.size, 0, none⟩) (by dsimp only; omega)).trans kp0
  replace fp0 := (hb.frozen (p := ⟨w3.heap.size, 0, none⟩) (by dsimp only; omega)).trans fp0
  replace kp1 := (hb.cell (p := ⟨w3.heap.size, 1, none⟩) (by dsimp only; omega)).trans kp1
  replace fp1 := (hb.frozen (p := ⟨w3.heap.size, 1, none⟩) (by dsimp only; omega)).trans fp1
  replace kp2 := (hb.cell (p := ⟨w3.heap.size, 2, none⟩) (by dsimp only; omega)).trans kp2
  replace fp2 := (hb.frozen (p := ⟨w3.heap.size, 2, none⟩) (by dsimp only; omega)).trans fp2
  replace zr := Nat.lt_of_lt_of_le zr hb.size
  replace HB := hide (bl_trans HB.out hb)
  clear hb
  cases hk : partB N 1 1 with
  | false =>
    have HK := hide hk
    clear hk
    go_wp2
    refine bodyPost_ret (v := (.tuple #[Value.agg #[Value.string ⟨#[]⟩, Value.int .i64 0, Value.int .i64 0], .bool false])) (by simp [results, Tryz.results11, go_sem, kr0, kr1, kr2]) rfl ?_
    exact .inr ⟨.inl HK.out, rfl, ((HB.out.setCell (p := ⟨w.heap.size, 0, none⟩) (Nat.le_refl _) _).setCell (p := ⟨w.heap.size, 1, none⟩) (Nat.le_refl _) _).setCell (p := ⟨w.heap.size, 2, none⟩) (Nat.le_refl _) _⟩
  | true =>
    have HK := hide hk
    clear hk
    go_wp2_with fail
    have HCT := hide (partTextI N 1 1 w5 hN (HT0.out.below HB.out))
    rw [HTX.out] at HCT
    refine HCT.out.mono ?_
    rintro e w6 ⟨rfl, hb⟩
    clear HCT
    have yw6 := hb.size
    replace kr0 := (hb.cell (p := ⟨w.heap.size, 0, none⟩) (by dsimp only; omega)).trans kr0
    replace fr0 := (hb.frozen (p := ⟨w.heap.size, 0, none⟩) (by dsimp only; omega)).trans fr0
    replace kr1 := (hb.cell (p := ⟨w.heap.size, 1, none⟩) (by dsimp only; omega)).trans kr1
    replace fr1 := (hb.frozen (p := ⟨w.heap.size, 1, none⟩) (by dsimp only; omega)).trans fr1
    replace kr2 := (hb.cell (p := ⟨w.heap.size, 2, none⟩) (by dsimp only; omega)).trans kr2
    replace fr2 := (hb.frozen (p := ⟨w.heap.size, 2, none⟩) (by dsimp only; omega)).trans fr2
    replace kp0 := (hb.cell (p := ⟨w3.heap.size, 0, none⟩) (by dsimp only; omega)).trans kp0
    replace fp0 := (hb.frozen (p := ⟨w3.heap.size, 0, none⟩) (by dsimp only; omega)).trans fp0
    replace kp1 := (hb.cell (p := ⟨w3.heap.size, 1, none⟩) (by dsimp only; omega)).trans kp1
    replace fp1 := (hb.frozen (p := ⟨w3.heap.size, 1, none⟩) (by dsimp only; omega)).trans fp1
    replace kp2 := (hb.cell (p := ⟨w3.heap.size, 2, none⟩) (by dsimp only; omega)).trans kp2
    replace fp2 := (hb.frozen (p := ⟨w3.heap.size, 2, none⟩) (by dsimp only; omega)).trans fp2
    replace zr := Nat.lt_of_lt_of_le zr hb.size
    replace HB := hide (bl_trans HB.out hb)
    clear hb
    by_cases ht : tx.data.toList = s.data.toList
    · skip
      have hcmp : (tx.toList == s.toList) = true := by rw [ByteArray.toList_eq, ByteArray.toList_eq, beq_iff_eq]; exact ht
      have HT := hide ht
      clear ht
      go_wp2
      refine bodyPost_ret (v := (.tuple #[Value.agg #[Value.string N, Value.int .i64 1, Value.int .i64 1], .bool true])) (by simp [results, Tryz.results11, go_sem, kr0, kr1, kr2]) rfl ?_
      exact .inl ⟨HK.out, by rw [HTX.out]; exact HT.out, rfl, ((HB.out.setCell (p := ⟨w.heap.size, 0, none⟩) (Nat.le_refl _) _).setCell (p := ⟨w.heap.size, 1, none⟩) (Nat.le_refl _) _).setCell (p := ⟨w.heap.size, 2, none⟩) (Nat.le_refl _) _⟩
    · skip
      have hcmp : (tx.toList == s.toList) = false := by rw [ByteArray.toList_eq, ByteArray.toList_eq, beq_eq_false_iff_ne]; exact ht
      have HT := hide ht
      clear ht
      go_wp2
      refine bodyPost_ret (v := (.tuple #[Value.agg #[Value.string ⟨#[]⟩, Value.int .i64 0, Value.int .i64 0], .bool false])) (by simp [results, Tryz.results11, go_sem, kr0, kr1, kr2]) rfl ?_
      exact .inr ⟨.inr (by rw [HTX.out]; exact HT.out), rfl, ((HB.out.setCell (p := ⟨w.heap.size, 0, none⟩) (Nat.le_refl _) _).setCell (p := ⟨w.heap.size, 1, none⟩) (Nat.le_refl _) _).setCell (p := ⟨w.heap.size, 2, none⟩) (Nat.le_refl _) _⟩

end Go.Proofs.YtkemplmhemnpbaaGreatDoor

/- ReadPart of the program at any text. -/
namespace Go.Proofs.YtkemplmhemnpbaaGreatDoor
open Go.RowKit
set_option linter.unusedVariables false

def rpN (s : ByteArray) : ByteArray := ⟨(Lib.cut s.data.toList [94]).1.toArray⟩
def rpR (s : ByteArray) : ByteArray := ⟨(Lib.cut s.data.toList [94]).2.1.toArray⟩
def rpW (s : ByteArray) : Bool := (Lib.cut s.data.toList [94]).2.2
def rpP (s : ByteArray) : Int := if rpW s = true then toIntR (sgn (RX (rpR s))) (lms (RX (rpR s))) else 1
def rpQ (s : ByteArray) : Int := if rpW s = true then toIntR (sgn (RY (rpR s))) (lms (RY (rpR s))) else 1
def rpG (s : ByteArray) : Bool := partB (rpN s) (rpP s) (rpQ s) && decide ((ptxt (rpN s) (rpP s) (rpQ s)).data.toList = s.data.toList)
/-- the part that is read, or nothing -/
def PartAns (s : ByteArray) (w w' : World) (e : Ending) : Prop :=
  e = .returned (.tuple #[.agg #[.string (if rpG s = true then rpN s else ⟨#[]⟩), .int .i64 (if rpG s = true then rpP s else 0), .int .i64 (if rpG s = true then rpQ s else 0)], .bool (rpG s)]) ∧ Below w.heap.size w w'
theorem pa_no {s : ByteArray} {w w' : World} {e : Ending} (h : rpG s = false) (ha : e = .returned (.tuple #[.agg #[.string ⟨#[]⟩, .int .i64 0, .int .i64 0], .bool false]) ∧ Below w.heap.size w w') : PartAns s w w' e := by
  unfold PartAns; rw [h]; exact ha
theorem pa_yes {s : ByteArray} {w w' : World} {e : Ending} (h : rpG s = true) (ha : e = .returned (.tuple #[.agg #[.string (rpN s), .int .i64 (rpP s), .int .i64 (rpQ s)], .bool true]) ∧ Below w.heap.size w w') : PartAns s w w' e := by
  unfold PartAns; rw [h]; exact ha
theorem g_bp {s : ByteArray} (h : partB (rpN s) (rpP s) (rpQ s) = false) : rpG s = false := by unfold rpG; rw [h, Bool.false_and]
theorem g_bt {s : ByteArray} (h : (ptxt (rpN s) (rpP s) (rpQ s)).data.toList ≠ s.data.toList) : rpG s = false := by unfold rpG; rw [decide_eq_false h, Bool.and_false]
theorem g_gd {s : ByteArray} (h : partB (rpN s) (rpP s) (rpQ s) = true) (h2 : (ptxt (rpN s) (rpP s) (rpQ s)).data.toList = s.data.toList) : rpG s = true := by unfold rpG; rw [h, decide_eq_true h2]; rfl
theorem pa_or {s : ByteArray} {w w' : World} {e : Ending} (h : (partB (rpN s) (rpP s) (rpQ s) = true ∧ (ptxt (rpN s) (rpP s) (rpQ s)).data.toList = s.data.toList ∧ e = .returned (.tuple #[Value.agg #[Value.string (rpN s), Value.int .i64 (rpP s), Value.int .i64 (rpQ s)], .bool true]) ∧ Below w.heap.size w w') ∨ ((partB (rpN s) (rpP s) (rpQ s) = false ∨ (ptxt (rpN s) (rpP s) (rpQ s)).data.toList ≠ s.data.toList) ∧ e = .returned (.tuple #[Value.agg #[Value.string ⟨#[]⟩, Value.int .i64 0, Value.int .i64 0], .bool false]) ∧ Below w.heap.size w w')) : PartAns s w w' e := by
  rcases h with ⟨h1, h2, he, hb⟩ | ⟨h1, he, hb⟩
  · exact pa_yes (g_gd h1 h2) ⟨he, hb⟩
  · refine pa_no ?_ ⟨he, hb⟩
    rcases h1 with h1 | h1
    · exact g_bp h1
    · exact g_bt h1
theorem cut_is (s : ByteArray) : Lib.cut s.data.toList [94] = ((rpN s).data.toList, (rpR s).data.toList, rpW s) := rfl
theorem cut_len3 (l : List UInt8) (c : UInt8) : (Lib.cut l [c]).1.length ≤ l.length ∧ (Lib.cut l [c]).2.1.length ≤ l.length := by
  by_cases h : c ∈ l
  · obtain ⟨a, b, rfl, ha⟩ := first h
    rw [cut_mid ha]; simp; omega
  · rw [cut_none h]; simp
theorem rp_size (s : ByteArray) : (rpN s).size ≤ s.size ∧ (rpR s).size ≤ s.size := by
  have := cut_len3 s.data.toList 94
  rw [← bsize (rpN s), ← bsize (rpR s), ← bsize s]
  exact this

theorem al2 (a b : ByteArray) : (a ++ b).data.toList = a.data.toList ++ b.data.toList := by
  rw [ByteArray.data_append, Array.toList_append]

theorem readPartI (s : ByteArray) (w : World) (hs : s.size ≤ 1048576) (htab : Tabs w) (hm : Mx w) :
    Calls Tryz.prog 11 #[.string s] w fun e w' => PartAns s w w' e := by
  obtain ⟨h1, h2⟩ := rp_size s
  have hc := cut_is s
  cases hw : rpW s with
  | true =>
    rw [hw] at hc
    have hP : toIntR (sgn (RX (rpR s))) (lms (RX (rpR s))) = rpP s := by unfold rpP; rw [if_pos hw]
    have hQ : toIntR (sgn (RY (rpR s))) (lms (RY (rpR s))) = rpQ s := by unfold rpQ; rw [if_pos hw]
    exact (rpiW s _ _ _ _ w hs (by omega) (by omega) htab hm hc _ _ rfl rfl hP hQ).mono fun e w' h => pa_or h
  | false =>
    rw [hw] at hc
    have hP : rpP s = 1 := by unfold rpP; rw [if_neg (by rw [hw]; decide)]
    have hQ : rpQ s = 1 := by unfold rpQ; rw [if_neg (by rw [hw]; decide)]
    exact (rpiO s _ _ _ _ w hs (by omega) (by omega) htab hm hc hP hQ).mono fun e w' h => pa_or h

end Go.Proofs.YtkemplmhemnpbaaGreatDoor

/- Plain facts: a part's text is read as that part. -/
namespace Go.Proofs.YtkemplmhemnpbaaGreatDoor
open Go.RowKit
set_option linter.unusedVariables false

theorem rx_all : ∀ i : Fin 25, ∀ j : Fin 12, Int.gcd ((i.val : Int) - 12) ((j.val : Int) + 1) = 1 →
    RX (ratT (sgn ((i.val : Int) - 12)) (lms ((i.val : Int) - 12)) (sgn ((j.val : Int) + 1)) (lms ((j.val : Int) + 1))) = (i.val : Int) - 12 ∧ RY (ratT (sgn ((i.val : Int) - 12)) (lms ((i.val : Int) - 12)) (sgn ((j.val : Int) + 1)) (lms ((j.val : Int) + 1))) = (j.val : Int) + 1 := by decide +kernel
theorem rx_back {p q : Int} (h : pwB p q = true) : RX (ratT (sgn p) (lms p) (sgn q) (lms q)) = p ∧ RY (ratT (sgn p) (lms p) (sgn q) (lms q)) = q := by
  obtain ⟨h1, h2, h3⟩ := pw_of h
  have e1 : (((⟨(p + 12).toNat, by omega⟩ : Fin 25)).val : Int) - 12 = p := by show ((p + 12).toNat : Int) - 12 = p; omega
  have e2 : (((⟨(q - 1).toNat, by omega⟩ : Fin 12)).val : Int) + 1 = q := by show ((q - 1).toNat : Int) + 1 = q; omega
  have := rx_all ⟨(p + 12).toNat, by omega⟩ ⟨(q - 1).toNat, by omega⟩
  rw [e1, e2] at this
  exact this h3
theorem ti_small {z : Int} (h : -12 ≤ z ∧ z ≤ 12) : toIntR (sgn z) (lms z) = z := by
  have : fitsI (sgn z) (lms z) = true := by
    unfold fitsI
    rw [ok_fits, sm_fits h, mk_lm, decide_eq_true (by omega)]; rfl
  unfold toIntR; rw [if_pos this, mk_lm]
theorem name_no {s : ByteArray} (h : nameOkB s = true) : (94 : UInt8) ∉ s.data.toList := by
  unfold nameOkB at h
  simp only [Bool.and_eq_true, decide_eq_true_eq] at h
  have ha := h.2
  unfold allFrom at ha
  rw [List.drop_zero, List.all_eq_true] at ha
  intro hm
  have := ha 94 hm
  revert this
  decide
theorem back_yes {s : ByteArray} {p q : Int} (h : partB s p q = true) : rpN (ptxt s p q) = s ∧ rpP (ptxt s p q) = p ∧ rpQ (ptxt s p q) = q := by
  have hn := name_no (pb_of h).1
  obtain ⟨g1, g2, g3⟩ := pw_of (pb_of h).2
  by_cases he : p = q
  · obtain ⟨rfl, rfl⟩ := pw_one (pb_of h).2 he
    rw [pt_one h rfl]
    have hw : rpW s = false := by unfold rpW; rw [cut_none hn]
    refine ⟨?_, ?_, ?_⟩
    · unfold rpN; rw [cut_none hn]
    · unfold rpP; rw [if_neg (by rw [hw]; decide)]
    · unfold rpQ; rw [if_neg (by rw [hw]; decide)]
  · rw [pt_two h he]
    obtain ⟨R, hR⟩ : ∃ R, ratT (sgn p) (lms p) (sgn q) (lms q) = R := ⟨_, rfl⟩
    have hb := rx_back (pb_of h).2
    rw [hR] at hb ⊢
    have hl : (s ++ ⟨#[94]⟩ ++ R).data.toList = s.data.toList ++ 94 :: R.data.toList := by rw [al2, al2]; simp
    have hc : Lib.cut (s ++ ⟨#[94]⟩ ++ R).data.toList [94] = (s.data.toList, R.data.toList, true) := by rw [hl, cut_mid hn]
    have hw : rpW (s ++ ⟨#[94]⟩ ++ R) = true := by unfold rpW; rw [hc]
    have hr : rpR (s ++ ⟨#[94]⟩ ++ R) = R := by unfold rpR; rw [hc]
    refine ⟨?_, ?_, ?_⟩
    · unfold rpN; rw [hc]
    · unfold rpP; rw [if_pos hw, hr, hb.1]; exact ti_small g1
    · unfold rpQ; rw [if_pos hw, hr, hb.2]; exact ti_small (by omega)
theorem g_back {s : ByteArray} {p q : Int} (h : partB s p q = true) : rpG (ptxt s p q) = true := by
  obtain ⟨h1, h2, h3⟩ := back_yes h
  refine g_gd ?_ ?_
  · rw [h1, h2, h3]; exact h
  · rw [h1, h2, h3]
theorem g_empty : rpG ⟨#[]⟩ = false := by
  refine g_bp ?_
  have : nameOkB (rpN ⟨#[]⟩) = false := by decide +kernel
  unfold partB; rw [this, Bool.false_and]
end Go.Proofs.YtkemplmhemnpbaaGreatDoor
