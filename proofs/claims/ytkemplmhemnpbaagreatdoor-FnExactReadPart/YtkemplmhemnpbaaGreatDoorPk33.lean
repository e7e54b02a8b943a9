/- My texts RpI, RpS, RpM, RpL, in this order. -/
import Derived.Test.YtkemplmhemnpbaaGreatDoorPtX
import Derived.Test.YtkemplmhemnpbaaGreatDoorPk29
import Derived.Test.YtkemplmhemnpbaaGreatDoorPk32
import Derived.Test.YtkemplmhemnpbaaGreatDoorPk01
/- The walks of powerParts and both ReadPart. -/
namespace Go.Proofs.YtkemplmhemnpbaaGreatDoor
open Go.RowKit
set_option linter.unusedVariables false

def RX (s : ByteArray) : Int := rtN (rrO s).isSome (gotN (rdNeg s) (rrO s)) (gotD (rrO s))
def RY (s : ByteArray) : Int := rtD (rrO s).isSome (gotN (rdNeg s) (rrO s)) (gotD (rrO s))
def RF (s : ByteArray) : Bool := rtT (rrO s).isSome (gotN (rdNeg s) (rrO s)) (gotD (rrO s))
theorem readRatW (s : ByteArray) (w : World) (hs : s.size ≤ 4611686018427387904) :
    Calls Tryz.prog 22 #[.string s] w fun e w' => ∃ a1 c1 a2 c2, e = .returned (.tuple #[.agg #[.bool (sgn (RX s)), .slice a1 (lms (RX s)).length c1, .bool (sgn (RY s)), .slice a2 (lms (RY s)).length c2], .bool (RF s)]) ∧ Own w' w.heap.size a1 (lms (RX s)).length c1 (lms (RX s)) ∧ Own w' w.heap.size a2 (lms (RY s)).length c2 (lms (RY s)) ∧ Apart a1 a2 ∧ Below w.heap.size w w' := readRatS s w
theorem readRatP (s : ByteArray) (w : World) (hm : Mx w) (hs : s.size ≤ 4611686018427387904) :
    Calls Tryz.prog 25 #[.string s] w fun e w' => ∃ a1 c1 a2 c2, e = .returned (.tuple #[.agg #[.bool (sgn (RX s)), .slice a1 (lms (RX s)).length c1, .bool (sgn (RY s)), .slice a2 (lms (RY s)).length c2], .bool (RF s)]) ∧ Own w' w.heap.size a1 (lms (RX s)).length c1 (lms (RX s)) ∧ Own w' w.heap.size a2 (lms (RY s)).length c2 (lms (RY s)) ∧ Apart a1 a2 ∧ Below w.heap.size w w' := readRatG s w hm hs
theorem cutL (s : ByteArray) (c : UInt8) (w : World) (hs : s.size ≤ 4294967280) (hm : Mx w) :
    Calls Tryz.prog 24 #[.string s, .string ⟨#[c]⟩] w fun e w' => e = .returned (.tuple #[.string ⟨(Lib.cut s.data.toList [c]).1.toArray⟩, .string ⟨(Lib.cut s.data.toList [c]).2.1.toArray⟩, .bool (Lib.cut s.data.toList [c]).2.2]) ∧ Below w.heap.size w w' := by
  obtain ⟨m, hm⟩ := hm
  refine (Tryz.strings_Cut s ⟨#[c]⟩ m w (by omega) hm).mono ?_
  rintro e w' ⟨he, n, hn⟩
  exact ⟨he, by rw [hn]; exact below_drewN (bl_refl w) n⟩
set_option maxHeartbeats 4000000 in
set_option maxRecDepth 20000 in
theorem ppartsI (X Y : Int) (a : Option Addr) (c : Nat) (b : Option Addr) (d : Nat) (w : World) (s1 : Seg w a (lms X).length c (lms X)) (s2 : Seg w b (lms Y).length d (lms Y)) :
    Calls Tryz.prog 26 #[Value.agg #[Value.bool (sgn X), Value.slice a (lms X).length c, Value.bool (sgn Y), Value.slice b (lms Y).length d]] w fun e w' => ∃ ok, e = .returned (.tuple #[.int .i64 (toIntR (sgn X) (lms X)), .int .i64 (toIntR (sgn Y) (lms Y)), .bool ok]) ∧ Below w.heap.size w w' := by
  have ka0 : (w.alloc (Obj.cells #[Value.bool (sgn X), Value.slice a (lms X).length c, Value.bool (sgn Y), Value.slice b (lms Y).length d] 42)).cell? ⟨w.heap.size, 0, none⟩ = some (Value.bool (sgn X)) := by go_simp
  have ka1 : (w.alloc (Obj.cells #[Value.bool (sgn X), Value.slice a (lms X).length c, Value.bool (sgn Y), Value.slice b (lms Y).length d] 42)).cell? ⟨w.heap.size, 1, none⟩ = some (Value.slice a (lms X).length c) := by go_simp
  have ka2 : (w.alloc (Obj.cells #[Value.bool (sgn X), Value.slice a (lms X).length c, Value.bool (sgn Y), Value.slice b (lms Y).length d] 42)).cell? ⟨w.heap.size, 2, none⟩ = some (Value.bool (sgn Y)) := by go_simp
  have ka3 : (w.alloc (Obj.cells #[Value.bool (sgn X), Value.slice a (lms X).length c, Value.bool (sgn Y), Value.slice b (lms Y).length d] 42)).cell? ⟨w.heap.size, 3, none⟩ = some (Value.slice b (lms Y).length d) := by go_simp
  have zr : w.heap.size < (w.alloc (Obj.cells #[Value.bool (sgn X), Value.slice a (lms X).length c, Value.bool (sgn Y), Value.slice b (lms Y).length d] 42)).heap.size := by simp only [World.size_alloc]; omega
  have HB := hide (bl_alloc (bl_refl w) (Obj.cells #[Value.bool (sgn X), Value.slice a (lms X).length c, Value.bool (sgn Y), Value.slice b (lms Y).length d] 42))
  have S1 := hide (s1.below HB.out)
  have S2 := hide (s2.below HB.out)
  clear s1
  clear s2
  go_enter Tryz.func26, Tryz.ntmps26
  go_wp2_with fail
  generalize (w.alloc (Obj.cells #[Value.bool (sgn X), Value.slice a (lms X).length c, Value.bool (sgn Y), Value.slice b (lms Y).length d] 42)) = w1 at *
  have z0 := zr
  refine (toIntI _ (sgn X) (lms X) _ ⟨a, c, rfl, S1.out⟩).mono ?_
  rintro e w2 ⟨rfl, hb⟩
  have yw2 := hb.size
  replace ka0 := (hb.cell (p := ⟨w.heap.size, 0, none⟩) (by dsimp only; omega)).trans ka0
  replace ka1 := (hb.cell (p := ⟨w.heap.size, 1, none⟩) (by dsimp only; omega)).trans ka1
  replace ka2 := (hb.cell (p := ⟨w.heap.size, 2, none⟩) (by dsimp only; omega)).trans ka2
  replace ka3 := (hb.cell (p := ⟨w.heap.size, 3, none⟩) (by dsimp only; omega)).trans ka3
  replace S1 := hide (S1.out.below hb)
  replace S2 := hide (S2.out.below hb)
  replace zr := Nat.lt_of_lt_of_le zr hb.size
  replace HB := hide (bl_trans HB.out hb)
  clear hb
  go_wp2_with fail
  refine (toIntI _ (sgn Y) (lms Y) _ ⟨b, d, rfl, S2.out⟩).mono ?_
  rintro e w3 ⟨rfl, hb⟩
  have yw3 := hb.size
  replace ka0 := (hb.cell (p := ⟨w.heap.size, 0, none⟩) (by dsimp only; omega)).trans ka0
  replace ka1 := (hb.cell (p := ⟨w.heap.size, 1, none⟩) (by dsimp only; omega)).trans ka1
  replace ka2 := (hb.cell (p := ⟨w.heap.size, 2, none⟩) (by dsimp only; omega)).trans ka2
  replace ka3 := (hb.cell (p := ⟨w.heap.size, 3, none⟩) (by dsimp only; omega)).trans ka3
  replace S1 := hide (S1.out.below hb)
  replace S2 := hide (S2.out.below hb)
  replace zr := Nat.lt_of_lt_of_le zr hb.size
  replace HB := hide (bl_trans HB.out hb)
  clear hb
  generalize fitsI (sgn X) (lms X) = f1
  generalize fitsI (sgn Y) (lms Y) = f2
  cases f1 with
  | false =>
    go_wp2
    go_ret3
    exact ⟨false, rfl, HB.out⟩
  | true =>
    cases f2 with
    | false =>
      go_wp2
      go_ret3
      exact ⟨false, rfl, HB.out⟩
    | true =>
      go_wp2_with fail
      refine (pwrI (toIntR (sgn X) (lms X)) (toIntR (sgn Y) (lms Y)) _).mono ?_
      rintro e w4 ⟨rfl, n, rfl⟩
      have hb := below_drewN (bl_refl w3) n
      go_wp2
      go_ret3
      exact ⟨pwB (toIntR (sgn X) (lms X)) (toIntR (sgn Y) (lms Y)), rfl, bl_trans HB.out hb⟩

set_option maxHeartbeats 4000000 in
set_option maxRecDepth 20000 in
theorem rpiW (s N B : ByteArray) (P Q : Int) (w : World) (hs : s.size ≤ 1048576) (hN : N.size ≤ 140737488355328) (hB : B.size ≤ 4611686018427387904) (htab : Tabs w) (hm : Mx w) (hc : Lib.cut s.data.toList [94] = (N.data.toList, B.data.toList, true)) (X Y : Int) (hX : RX B = X) (hY : RY B = Y) (hP : toIntR (sgn X) (lms X) = P) (hQ : toIntR (sgn Y) (lms Y) = Q)  :
    Calls Tryz.prog 11 #[.string s] w fun e w' => (partB N P Q = true ∧ (ptxt N P Q).data.toList = s.data.toList ∧ e = .returned (.tuple #[Value.agg #[Value.string N, Value.int .i64 P, Value.int .i64 Q], .bool true]) ∧ Below w.heap.size w w') ∨ ((partB N P Q = false ∨ (ptxt N P Q).data.toList ≠ s.data.toList) ∧ e = .returned (.tuple #[Value.agg #[Value.string ⟨#[]⟩, Value.int .i64 0, Value.int .i64 0], .bool false]) ∧ Below w.heap.size w w') := by
  obtain ⟨tx, htx⟩ : ∃ tx, ptxt N P Q = tx := ⟨_, rfl⟩
  have HTX := hide htx
  clear htx
  have HC := hide hc
  have HT0 := hide htab
  have HM0 := hide hm
  clear hc htab hm
  have HX := hide (And.intro hX (And.intro hY (And.intro hP hQ)))
  clear hX hY hP hQ
  have kr0 : (w.alloc (Obj.cells #[Value.string ⟨#[]⟩, Value.int .i64 0, Value.int .i64 0] 26)).cell? ⟨w.heap.size, 0, none⟩ = some (Value.string ⟨#[]⟩) := by go_simp
  have fr0 : (w.alloc (Obj.cells #[Value.string ⟨#[]⟩, Value.int .i64 0, Value.int .i64 0] 26)).frozen? ⟨w.heap.size, 0, none⟩ = false := by go_simp
  have kr1 : (w.alloc (Obj.cells #[Value.string ⟨#[]⟩, Value.int .i64 0, Value.int .i64 0] 26)).cell? ⟨w.heap.size, 1, none⟩ = some (Value.int .i64 0) := by go_simp
  have fr1 : (w.alloc (Obj.cells #[Value.string ⟨#[]⟩, Value.int .i64 0, Value.int .i64 0] 26)).frozen? ⟨w.heap.size, 1, none⟩ = false := by go_simp
  have kr2 : (w.alloc (Obj.cells #[Value.string ⟨#[]⟩, Value.int .i64 0, Value.int .i64 0] 26)).cell? ⟨w.heap.size, 2, none⟩ = some (Value.int .i64 0) := by go_simp
  have fr2 : (w.alloc (Obj.cells #[Value.string ⟨#[]⟩, Value.int .i64 0, Value.int .i64 0] 26)).frozen? ⟨w.heap.size, 2, none⟩ = false := by go_simp
  have zr : w.heap.size < (w.alloc (Obj.cells #[Value.string ⟨#[]⟩, Value.int .i64 0, Value.int .i64 0] 26)).heap.size := by simp only [World.size_alloc]; omega
  have HB := hide (bl_alloc (bl_refl w) (Obj.cells #[Value.string ⟨#[]⟩, Value.int .i64 0, Value.int .i64 0] 26))
  go_enter Tryz.func11, Tryz.ntmps11
  go_wp2_with fail
  generalize (w.alloc (Obj.cells #[Value.string ⟨#[]⟩, Value.int .i64 0, Value.int .i64 0] 26)) = w1 at *
  have z0 := zr
  refine (cutL s 94 _ (by omega) (HM0.out.below HB.out)).mono ?_
  rw [HC.out]
  rw [show (⟨N.data.toList.toArray⟩ : ByteArray) = N from by rw [Array.toArray_toList], show (⟨B.data.toList.toArray⟩ : ByteArray) = B from by rw [Array.toArray_toList]]
  rintro e w2 ⟨rfl, hb⟩
  have yw2 := hb.size
  replace kr0 := (hb.cell (p := ⟨w.heap.size, 0, none⟩) (by dsimp only; omega)).trans kr0
  replace fr0 := (hb.frozen (p := ⟨w.heap.size, 0, none⟩) (by dsimp only; omega)).trans fr0
  replace kr1 := (hb.cell (p := ⟨w.heap.size, 1, none⟩) (by dsimp only; omega)).trans kr1
  replace fr1 := (hb.frozen (p := ⟨w.heap.size, 1, none⟩) (by dsimp only; omega)).trans fr1
  replace kr2 := (hb.cell (p := ⟨w.heap.size, 2, none⟩) (by dsimp only; omega)).trans kr2
  replace fr2 := (hb.frozen (p := ⟨w.heap.size, 2, none⟩) (by dsimp only; omega)).trans fr2
  replace zr := Nat.lt_of_lt_of_le zr hb.size
  replace HB := hide (bl_trans HB.out hb)
  clear hb
  go_wp2_with fail
  refine (clonT N _ (by omega)).mono ?_
  rintro e w3 ⟨rfl, hb⟩
  have yw3 := hb.size
  replace kr0 := (hb.cell (p := ⟨w.heap.size, 0, none⟩) (by dsimp only; omega)).trans kr0
  replace fr0 := (hb.frozen (p := ⟨w.heap.size, 0, none⟩) (by dsimp only; omega)).trans fr0
  replace kr1 := (hb.cell (p := ⟨w.heap.size, 1, none⟩) (by dsimp only; omega)).trans kr1
  replace fr1 := (hb.frozen (p := ⟨w.heap.size, 1, none⟩) (by dsimp only; omega)).trans fr1
  replace kr2 := (hb.cell (p := ⟨w.heap.size, 2, none⟩) (by dsimp only; omega)).trans kr2
  replace fr2 := (hb.frozen (p := ⟨w.heap.size, 2, none⟩) (by dsimp only; omega)).trans fr2
  replace zr := Nat.lt_of_lt_of_le zr hb.size
  replace HB := hide (bl_trans HB.out hb)
  clear hb
  have yw4 : w3.heap.size + 1 ≤ (w3.alloc (Obj.cells #[Value.string N, Value.int .i64 1, Value.int .i64 1] 26)).heap.size := by simp only [World.size_alloc]; omega
  have kp0 : (w3.alloc (Obj.cells #[Value.string N, Value.int .i64 1, Value.int .i64 1] 26)).cell? ⟨w3.heap.size, 0, none⟩ = some (Value.string N) := by go_simp
  have fp0 : (w3.alloc (Obj.cells #[Value.string N, Value.int .i64 1, Value.int .i64 1] 26)).frozen? ⟨w3.heap.size, 0, none⟩ = false := by go_simp
  have kp1 : (w3.alloc (Obj.cells #[Value.string N, Value.int .i64 1, Value.int .i64 1] 26)).cell? ⟨w3.heap.size, 1, none⟩ = some (Value.int .i64 1) := by go_simp
  have fp1 : (w3.alloc (Obj.cells #[Value.string N, Value.int .i64 1, Value.int .i64 1] 26)).frozen? ⟨w3.heap.size, 1, none⟩ = false := by go_simp
  have kp2 : (w3.alloc (Obj.cells #[Value.string N, Value.int .i64 1, Value.int .i64 1] 26)).cell? ⟨w3.heap.size, 2, none⟩ = some (Value.int .i64 1) := by go_simp
  have fp2 : (w3.alloc (Obj.cells #[Value.string N, Value.int .i64 1, Value.int .i64 1] 26)).frozen? ⟨w3.heap.size, 2, none⟩ = false := by go_simp
  have hbn := (bl_alloc (bl_refl w3) (Obj.cells #[Value.string N, Value.int .i64 1, Value.int .i64 1] 26))
  replace kr0 := (hbn.cell (p := ⟨w.heap.size, 0, none⟩) (by dsimp only; omega)).trans kr0
  replace fr0 := (hbn.frozen (p := ⟨w.heap.size, 0, none⟩) (by dsimp only; omega)).trans fr0
  replace kr1 := (hbn.cell (p := ⟨w.heap.size, 1, none⟩) (by dsimp only; omega)).trans kr1
  replace fr1 := (hbn.frozen (p := ⟨w.heap.size, 1, none⟩) (by dsimp only; omega)).trans fr1
  replace kr2 := (hbn.cell (p := ⟨w.heap.size, 2, none⟩) (by dsimp only; omega)).trans kr2
  replace fr2 := (hbn.frozen (p := ⟨w.heap.size, 2, none⟩) (by dsimp only; omega)).trans fr2
  replace zr := Nat.lt_of_lt_of_le zr hbn.size
  replace HB := hide (bl_trans HB.out hbn)
  clear hbn
  go_wp2_with fail
  generalize (w3.alloc (Obj.cells #[Value.string N, Value.int .i64 1, Value.int .i64 1] 26)) = w4 at *
  refine (readRatP B _ (HM0.out.below HB.out) hB).mono ?_
  rw [HX.out.1, HX.out.2.1]
  generalize RF B = rf
  rintro e w5 ⟨a1, c1, a2, c2, rfl, ho1, ho2, hap, hb⟩
  clear hap
  have yw5 := hb.size
  replace kr0 := (hb.cell (p := ⟨w.heap.size, 0, none⟩) (by dsimp only; omega)).trans kr0
  replace fr0 := (hb.frozen (p := ⟨w.heap.size, 0, none⟩) (by dsimp only; omega)).trans fr0
  replace kr1 := (hb.cell (p := ⟨w.heap.size, 1, none⟩) (by dsimp only; omega)).trans kr1
  replace fr1 := (hb.frozen (p := ⟨w.heap.size, 1, none⟩) (by dsimp only; omega)).trans fr1
  replace kr2 := (hb.cell (p := ⟨w.heap.size, 2, none⟩) (by dsimp only; omega)).trans kr2
  replace fr2 := (hb.frozen (p := ⟨w.heap.size, 2, none⟩) (by dsimp only; omega)).trans fr2
  replace kp0 := (hb.cell (p := ⟨w3.heap.size, 0, none⟩) (by dsimp only; omega)).trans kp0
  replace fp0 := (hb.frozen (p := ⟨w3.heap.size, 0, none⟩) (by dsimp only; omega)).trans fp0
  replace kp1 := (hb.cell (p := ⟨w3.heap.size, 1, none⟩) (by dsimp only; omega)).trans kp1
  replace fp1 := (hb.frozen (p := ⟨w3.heap.size, 1, none⟩) (by dsimp only; omega)).trans fp1
  replace kp2 := (hb.cell (p := ⟨w3.heap.size, 2, none⟩) (by dsimp only; omega)).trans kp2
  replace fp2 := (hb.frozen (p := ⟨w3.heap.size, 2, none⟩) (by dsimp only; omega)).trans fp2
  replace zr := Nat.lt_of_lt_of_le zr hb.size
  replace HB := hide (bl_trans HB.out hb)
  clear hb
  have O1 := hide ho1.seg
  have O2 := hide ho2.seg
  clear ho1 ho2
  have yw6 : w5.heap.size + 1 ≤ (w5.alloc (Obj.cells #[Value.bool (sgn X), Value.slice a1 (lms X).length c1, Value.bool (sgn Y), Value.slice a2 (lms Y).length c2] 42)).heap.size := by simp only [World.size_alloc]; omega
  have kd0 : (w5.alloc (Obj.cells #[Value.bool (sgn X), Value.slice a1 (lms X).length c1, Value.bool (sgn Y), Value.slice a2 (lms Y).length c2] 42)).cell? ⟨w5.heap.size, 0, none⟩ = some (Value.bool (sgn X)) := by go_simp
  have kd1 : (w5.alloc (Obj.cells #[Value.bool (sgn X), Value.slice a1 (lms X).length c1, Value.bool (sgn Y), Value.slice a2 (lms Y).length c2] 42)).cell? ⟨w5.heap.size, 1, none⟩ = some (Value.slice a1 (lms X).length c1) := by go_simp
  have kd2 : (w5.alloc (Obj.cells #[Value.bool (sgn X), Value.slice a1 (lms X).length c1, Value.bool (sgn Y), Value.slice a2 (lms Y).length c2] 42)).cell? ⟨w5.heap.size, 2, none⟩ = some (Value.bool (sgn Y)) := by go_simp
  have kd3 : (w5.alloc (Obj.cells #[Value.bool (sgn X), Value.slice a1 (lms X).length c1, Value.bool (sgn Y), Value.slice a2 (lms Y).length c2] 42)).cell? ⟨w5.heap.size, 3, none⟩ = some (Value.slice a2 (lms Y).length c2) := by go_simp
  have hbn := (bl_alloc (bl_refl w5) (Obj.cells #[Value.bool (sgn X), Value.slice a1 (lms X).length c1, Value.bool (sgn Y), Value.slice a2 (lms Y).length c2] 42))
  replace kr0 := (hbn.cell (p := ⟨w.heap.size, 0, none⟩) (by dsimp only; omega)).trans kr0
  replace fr0 := (hbn.frozen (p := ⟨w.heap.size, 0, none⟩) (by dsimp only; omega)).trans fr0
  replace kr1 := (hbn.cell (p := ⟨w.heap.size, 1, none⟩) (by dsimp only; omega)).trans kr1
  replace fr1 := (hbn.frozen (p := ⟨w.heap.size, 1, none⟩) (by dsimp only; omega)).trans fr1
  replace kr2 := (hbn.cell (p := ⟨w.heap.size, 2, none⟩) (by dsimp only; omega)).trans kr2
  replace fr2 := (hbn.frozen (p := ⟨w.heap.size, 2, none⟩) (by dsimp only; omega)).trans fr2
  replace kp0 := (hbn.cell (p := ⟨w3.heap.size, 0, none⟩) (by dsimp only; omega)).trans kp0
  replace fp0 := (hbn.frozen (p := ⟨w3.heap.size, 0, none⟩) (by dsimp only; omega)).trans fp0
  replace kp1 := (hbn.cell (p := ⟨w3.heap.size, 1, none⟩) (by dsimp only; omega)).trans kp1
  replace fp1 := (hbn.frozen (p := ⟨w3.heap.size, 1, none⟩) (by dsimp only; omega)).trans fp1
  replace kp2 := (hbn.cell (p := ⟨w3.heap.size, 2, none⟩) (by dsimp only; omega)).trans kp2
  replace fp2 := (hbn.frozen (p := ⟨w3.heap.size, 2, none⟩) (by dsimp only; omega)).trans fp2
  replace O1 := hide (O1.out.below hbn)
  replace O2 := hide (O2.out.below hbn)
  replace zr := Nat.lt_of_lt_of_le zr hbn.size
  replace HB := hide (bl_trans HB.out hbn)
  clear hbn
  go_wp2_with fail
  generalize (w5.alloc (Obj.cells #[Value.bool (sgn X), Value.slice a1 (lms X).length c1, Value.bool (sgn Y), Value.slice a2 (lms Y).length c2] 42)) = w6 at *
  refine (ppartsI X Y a1 c1 a2 c2 _ O1.out O2.out).mono ?_
  rintro e w7 ⟨ok, rfl, hb⟩
  have yw7 := hb.size
  replace kr0 := (hb.cell (p := ⟨w.heap.size, 0, none⟩) (by dsimp only; omega)).trans kr0
  replace fr0 := (hb.frozen (p := ⟨w.heap.size, 0, none⟩) (by dsimp only; omega)).trans fr0
  replace kr1 := (hb.cell (p := ⟨w.heap.size, 1, none⟩) (by dsimp only; omega)).trans kr1
  replace fr1 := (hb.frozen (p := ⟨w.heap.size, 1, none⟩) (by dsimp only; omega)).trans fr1
  replace kr2 := (hb.cell (p := ⟨w.heap.size, 2, none⟩) (by dsimp only; omega)).trans kr2
  replace fr2 := (hb.frozen (p := ⟨w.heap.size, 2, none⟩) (by dsimp only; omega)).trans fr2
  replace kp0 := (hb.cell (p := ⟨w3.heap.size, 0, none⟩) (by dsimp only; omega)).trans kp0
  replace fp0 := (hb.frozen (p := ⟨w3.heap.size, 0, none⟩) (by dsimp only; omega)).trans fp0
  replace kp1 := (hb.cell (p := ⟨w3.heap.size, 1, none⟩) (by dsimp only; omega)).trans kp1
  replace fp1 := (hb.frozen (p := ⟨w3.heap.size, 1, none⟩) (by dsimp only; omega)).trans fp1
  replace kp2 := (hb.cell (p := ⟨w3.heap.size, 2, none⟩) (by dsimp only; omega)).trans kp2
  replace fp2 := (hb.frozen (p := ⟨w3.heap.size, 2, none⟩) (by dsimp only; omega)).trans fp2
  replace kd0 := (hb.cell (p := ⟨w5.heap.size, 0, none⟩) (by dsimp only; omega)).trans kd0
  replace kd1 := (hb.cell (p := ⟨w5.heap.size, 1, none⟩) (by dsimp only; omega)).trans kd1
  replace kd2 := (hb.cell (p := ⟨w5.heap.size, 2, none⟩) (by dsimp only; omega)).trans kd2
  replace kd3 := (hb.cell (p := ⟨w5.heap.size, 3, none⟩) (by dsimp only; omega)).trans kd3
  replace O1 := hide (O1.out.below hb)
  replace O2 := hide (O2.out.below hb)
  replace zr := Nat.lt_of_lt_of_le zr hb.size
  replace HB := hide (bl_trans HB.out hb)
  clear hb
  rw [HX.out.2.2.1, HX.out.2.2.2]
  clear O1 O2
  go_wp2_with fail
  have hbk : w.heap.size < w3.heap.size := by omega
  have mr0 : ((w7.setCell ⟨w3.heap.size, 1, none⟩ (Value.int .i64 P)).setCell ⟨w3.heap.size, 2, none⟩ (Value.int .i64 Q)).cell? ⟨w.heap.size, 0, none⟩ = w7.cell? ⟨w.heap.size, 0, none⟩ := World.cell?_of_block ((Below.heap_setCell _ ⟨w3.heap.size, 2, none⟩ _ w.heap.size (by dsimp only; omega)).trans (Below.heap_setCell _ ⟨w3.heap.size, 1, none⟩ _ w.heap.size (by dsimp only; omega)))
  replace kr0 := mr0.trans kr0
  clear mr0
  have mr0 : ((w7.setCell ⟨w3.heap.size, 1, none⟩ (Value.int .i64 P)).setCell ⟨w3.heap.size, 2, none⟩ (Value.int .i64 Q)).frozen? ⟨w.heap.size, 0, none⟩ = w7.frozen? ⟨w.heap.size, 0, none⟩ := World.frozen?_of_block ((Below.heap_setCell _ ⟨w3.heap.size, 2, none⟩ _ w.heap.size (by dsimp only; omega)).trans (Below.heap_setCell _ ⟨w3.heap.size, 1, none⟩ _ w.heap.size (by dsimp only; omega)))
  replace fr0 := mr0.trans fr0
  clear mr0
  have mr1 : ((w7.setCell ⟨w3.heap.size, 1, none⟩ (Value.int .i64 P)).setCell ⟨w3.heap.size, 2, none⟩ (Value.int .i64 Q)).cell? ⟨w.heap.size, 1, none⟩ = w7.cell? ⟨w.heap.size, 1, none⟩ := World.cell?_of_block ((Below.heap_setCell _ ⟨w3.heap.size, 2, none⟩ _ w.heap.size (by dsimp only; omega)).trans (Below.heap_setCell _ ⟨w3.heap.size, 1, none⟩ _ w.heap.size (by dsimp only; omega)))
  replace kr1 := mr1.trans kr1
  clear mr1
  have mr1 : ((w7.setCell ⟨w3.heap.size, 1, none⟩ (Value.int .i64 P)).setCell ⟨w3.heap.size, 2, none⟩ (Value.int .i64 Q)).frozen? ⟨w.heap.size, 1, none⟩ = w7.frozen? ⟨w.heap.size, 1, none⟩ := World.frozen?_of_block ((Below.heap_setCell _ ⟨w3.heap.size, 2, none⟩ _ w.heap.size (by dsimp only; omega)).trans (Below.heap_setCell _ ⟨w3.heap.size, 1, none⟩ _ w.heap.size (by dsimp only; omega)))
  replace fr1 := mr1.trans fr1
  clear mr1
  have mr2 : ((w7.setCell ⟨w3.heap.size, 1, none⟩ (Value.int .i64 P)).setCell ⟨w3.heap.size, 2, none⟩ (Value.int .i64 Q)).cell? ⟨w.heap.size, 2, none⟩ = w7.cell? ⟨w.heap.size, 2, none⟩ := World.cell?_of_block ((Below.heap_setCell _ ⟨w3.heap.size, 2, none⟩ _ w.heap.size (by dsimp only; omega)).trans (Below.heap_setCell _ ⟨w3.heap.size, 1, none⟩ _ w.heap.size (by dsimp only; omega)))
  replace kr2 := mr2.trans kr2
  clear mr2
  have mr2 : ((w7.setCell ⟨w3.heap.size, 1, none⟩ (Value.int .i64 P)).setCell ⟨w3.heap.size, 2, none⟩ (Value.int .i64 Q)).frozen? ⟨w.heap.size, 2, none⟩ = w7.frozen? ⟨w.heap.size, 2, none⟩ := World.frozen?_of_block ((Below.heap_setCell _ ⟨w3.heap.size, 2, none⟩ _ w.heap.size (by dsimp only; omega)).trans (Below.heap_setCell _ ⟨w3.heap.size, 1, none⟩ _ w.heap.size (by dsimp only; omega)))
  replace fr2 := mr2.trans fr2
  clear mr2
  have md0 : ((w7.setCell ⟨w3.heap.size, 1, none⟩ (Value.int .i64 P)).setCell ⟨w3.heap.size, 2, none⟩ (Value.int .i64 Q)).cell? ⟨w5.heap.size, 0, none⟩ = w7.cell? ⟨w5.heap.size, 0, none⟩ := World.cell?_of_block ((Below.heap_setCell _ ⟨w3.heap.size, 2, none⟩ _ w5.heap.size (by dsimp only; omega)).trans (Below.heap_setCell _ ⟨w3.heap.size, 1, none⟩ _ w5.heap.size (by dsimp only; omega)))
  replace kd0 := md0.trans kd0
  clear md0
  have md1 : ((w7.setCell ⟨w3.heap.size, 1, none⟩ (Value.int .i64 P)).setCell ⟨w3.heap.size, 2, none⟩ (Value.int .i64 Q)).cell? ⟨w5.heap.size, 1, none⟩ = w7.cell? ⟨w5.heap.size, 1, none⟩ := World.cell?_of_block ((Below.heap_setCell _ ⟨w3.heap.size, 2, none⟩ _ w5.heap.size (by dsimp only; omega)).trans (Below.heap_setCell _ ⟨w3.heap.size, 1, none⟩ _ w5.heap.size (by dsimp only; omega)))
  replace kd1 := md1.trans kd1
  clear md1
  have md2 : ((w7.setCell ⟨w3.heap.size, 1, none⟩ (Value.int .i64 P)).setCell ⟨w3.heap.size, 2, none⟩ (Value.int .i64 Q)).cell? ⟨w5.heap.size, 2, none⟩ = w7.cell? ⟨w5.heap.size, 2, none⟩ := World.cell?_of_block ((Below.heap_setCell _ ⟨w3.heap.size, 2, none⟩ _ w5.heap.size (by dsimp only; omega)).trans (Below.heap_setCell _ ⟨w3.heap.size, 1, none⟩ _ w5.heap.size (by dsimp only; omega)))
  replace kd2 := md2.trans kd2
  clear md2
  have md3 : ((w7.setCell ⟨w3.heap.size, 1, none⟩ (Value.int .i64 P)).setCell ⟨w3.heap.size, 2, none⟩ (Value.int .i64 Q)).cell? ⟨w5.heap.size, 3, none⟩ = w7.cell? ⟨w5.heap.size, 3, none⟩ := World.cell?_of_block ((Below.heap_setCell _ ⟨w3.heap.size, 2, none⟩ _ w5.heap.size (by dsimp only; omega)).trans (Below.heap_setCell _ ⟨w3.heap.size, 1, none⟩ _ w5.heap.size (by dsimp only; omega)))
  replace kd3 := md3.trans kd3
  clear md3
  have qp0 : ((w7.setCell ⟨w3.heap.size, 1, none⟩ (Value.int .i64 P)).setCell ⟨w3.heap.size, 2, none⟩ (Value.int .i64 Q)).cell? ⟨w3.heap.size, 0, none⟩ = some (Value.string N) := by go_simp
  have qp1 : ((w7.setCell ⟨w3.heap.size, 1, none⟩ (Value.int .i64 P)).setCell ⟨w3.heap.size, 2, none⟩ (Value.int .i64 Q)).cell? ⟨w3.heap.size, 1, none⟩ = some (Value.int .i64 P) := by go_simp
  have qp2 : ((w7.setCell ⟨w3.heap.size, 1, none⟩ (Value.int .i64 P)).setCell ⟨w3.heap.size, 2, none⟩ (Value.int .i64 Q)).cell? ⟨w3.heap.size, 2, none⟩ = some (Value.int .i64 Q) := by go_simp
  have ysz : ((w7.setCell ⟨w3.heap.size, 1, none⟩ (Value.int .i64 P)).setCell ⟨w3.heap.size, 2, none⟩ (Value.int .i64 Q)).heap.size = w7.heap.size := by simp
  replace HB := hide ((HB.out.setCell (p := ⟨w3.heap.size, 1, none⟩) (by dsimp only; omega) (Value.int .i64 P)).setCell (p := ⟨w3.heap.size, 2, none⟩) (by dsimp only; omega) (Value.int .i64 Q))
  clear kp0 kp1 kp2 fp0 fp1 fp2
  have kp0 := qp0
  clear qp0
  have kp1 := qp1
  clear qp1
  have kp2 := qp2
  clear qp2
  generalize ((w7.setCell ⟨w3.heap.size, 1, none⟩ (Value.int .i64 P)).setCell ⟨w3.heap.size, 2, none⟩ (Value.int .i64 Q)) = w8 at *
  replace zr : w.heap.size < w8.heap.size := by omega
  refine (partI N P Q _ hN).mono ?_
  rintro e w9 ⟨rfl, hb⟩
  have yw9 := hb.size
  replace kr0 := (hb.cell (p := ⟨w.heap.size, 0, none⟩) (by dsimp only; omega)).trans kr0
  replace fr0 := (hb.frozen (p := ⟨w.heap.size, 0, none⟩) (by dsimp only; omega)).trans fr0
  replace kr1 := (hb.cell (p := ⟨w.heap.size, 1, none⟩) (by dsimp only; omega)).trans kr1
  replace fr1 := (hb.frozen (p := ⟨w.heap.size, 1, none⟩) (by dsimp only; omega)).trans fr1
  replace kr2 := (hb.cell (p := ⟨w.heap.size, 2, none⟩) (by dsimp only; omega)).trans kr2
  replace fr2 := (hb.frozen (p := ⟨w.heap.size, 2, none⟩) (by dsimp only; omega)).trans fr2
  replace kp0 := (hb.cell (p := ⟨w3.heap.size, 0, none⟩) (by dsimp only; omega)).trans kp0
  replace kp1 := (hb.cell (p := ⟨w3.heap.size, 1, none⟩) (by dsimp only; omega)).trans kp1
  replace kp2 := (hb.cell (p := ⟨w3.heap.size, 2, none⟩) (by dsimp only; omega)).trans kp2
  replace kd0 := (hb.cell (p := ⟨w5.heap.size, 0, none⟩) (by dsimp only; omega)).trans kd0
  replace kd1 := (hb.cell (p := ⟨w5.heap.size, 1, none⟩) (by dsimp only; omega)).trans kd1
  replace kd2 := (hb.cell (p := ⟨w5.heap.size, 2, none⟩) (by dsimp only; omega)).trans kd2
  replace kd3 := (hb.cell (p := ⟨w5.heap.size, 3, none⟩) (by dsimp only; omega)).trans kd3
  replace zr := Nat.lt_of_lt_of_le zr hb.size
  replace HB := hide (bl_trans HB.out hb)
  clear hb
  cases hk : partB N P Q with
  | false =>
    have HK := hide hk
    clear hk
    go_wp2
    refine bodyPost_ret (v := (.tuple #[Value.agg #[Value.string ⟨#[]⟩, Value.int .i64 0, Value.int .i64 0], .bool false])) (by simp [results, Tryz.results11, go_sem, kr0, kr1, kr2]) rfl ?_
    exact .inr ⟨.inl HK.out, rfl, ((HB.out.setCell (p := ⟨w.heap.size, 0, none⟩) (Nat.le_refl _) _).setCell (p := ⟨w.heap.size, 1, none⟩) (Nat.le_refl _) _).setCell (p := ⟨w.heap.size, 2, none⟩) (Nat.le_refl _) _⟩
  | true =>
    have HK := hide hk
    clear hk
    go_wp2_with fail
    have HCT := hide (partTextI N P Q w9 hN (HT0.out.below HB.out))
    rw [HTX.out] at HCT
    refine HCT.out.mono ?_
    rintro e w10 ⟨rfl, hb⟩
    clear HCT
    have yw10 := hb.size
    replace kr0 := (hb.cell (p := ⟨w.heap.size, 0, none⟩) (by dsimp only; omega)).trans kr0
    replace fr0 := (hb.frozen (p := ⟨w.heap.size, 0, none⟩) (by dsimp only; omega)).trans fr0
    replace kr1 := (hb.cell (p := ⟨w.heap.size, 1, none⟩) (by dsimp only; omega)).trans kr1
    replace fr1 := (hb.frozen (p := ⟨w.heap.size, 1, none⟩) (by dsimp only; omega)).trans fr1
    replace kr2 := (hb.cell (p := ⟨w.heap.size, 2, none⟩) (by dsimp only; omega)).trans kr2
    replace fr2 := (hb.frozen (p := ⟨w.heap.size, 2, none⟩) (by dsimp only; omega)).trans fr2
    replace kp0 := (hb.cell (p := ⟨w3.heap.size, 0, none⟩) (by dsimp only; omega)).trans kp0
    replace kp1 := (hb.cell (p := ⟨w3.heap.size, 1, none⟩) (by dsimp only; omega)).trans kp1
    replace kp2 := (hb.cell (p := ⟨w3.heap.size, 2, none⟩) (by dsimp only; omega)).trans kp2
    replace kd0 := (hb.cell (p := ⟨w5.heap.size, 0, none⟩) (by dsimp only; omega)).trans kd0
    replace kd1 := (hb.cell (p := ⟨w5.heap.size, 1, none⟩) (by dsimp only; omega)).trans kd1
    replace kd2 := (hb.cell (p := ⟨w5.heap.size, 2, none⟩) (by dsimp only; omega)).trans kd2
    replace kd3 := (hb.cell (p := ⟨w5.heap.size, 3, none⟩) (by dsimp only; omega)).trans kd3
    replace zr := Nat.lt_of_lt_of_le zr hb.size
    replace HB := hide (bl_trans HB.out hb)
    clear hb
    by_cases ht : tx.data.toList = s.data.toList
    · skip
      have hcmp : (tx.toList == s.toList) = true := by rw [ByteArray.toList_eq, ByteArray.toList_eq, beq_iff_eq]; exact ht
      have HT := hide ht
      clear ht
      go_wp2
      refine bodyPost_ret (v := (.tuple #[Value.agg #[Value.string N, Value.int .i64 P, Value.int .i64 Q], .bool true])) (by simp [results, Tryz.results11, go_sem, kr0, kr1, kr2]) rfl ?_
      exact .inl ⟨HK.out, by rw [HTX.out]; exact HT.out, rfl, ((HB.out.setCell (p := ⟨w.heap.size, 0, none⟩) (Nat.le_refl _) _).setCell (p := ⟨w.heap.size, 1, none⟩) (Nat.le_refl _) _).setCell (p := ⟨w.heap.size, 2, none⟩) (Nat.le_refl _) _⟩
    · skip
      have hcmp : (tx.toList == s.toList) = false := by rw [ByteArray.toList_eq, ByteArray.toList_eq, beq_eq_false_iff_ne]; exact ht
      have HT := hide ht
      clear ht
      go_wp2
      refine bodyPost_ret (v := (.tuple #[Value.agg #[Value.string ⟨#[]⟩, Value.int .i64 0, Value.int .i64 0], .bool false])) (by simp [results, Tryz.results11, go_sem, kr0, kr1, kr2]) rfl ?_
      exact .inr ⟨.inr (by rw [HTX.out]; exact HT.out), rfl, ((HB.out.setCell (p := ⟨w.heap.size, 0, none⟩) (Nat.le_refl _) _).setCell (p := ⟨w.heap.size, 1, none⟩) (Nat.le_refl _) _).setCell (p := ⟨w.heap.size, 2, none⟩) (Nat.le_refl _) _⟩

set_option maxHeartbeats 4000000 in
set_option maxRecDepth 20000 in
theorem rpiO (s N B : ByteArray) (P Q : Int) (w : World) (hs : s.size ≤ 1048576) (hN : N.size ≤ 140737488355328) (hB : B.size ≤ 4611686018427387904) (htab : Tabs w) (hm : Mx w) (hc : Lib.cut s.data.toList [94] = (N.data.toList, B.data.toList, false)) (hP : P = 1) (hQ : Q = 1)  :
    Calls Tryz.prog 11 #[.string s] w fun e w' => (partB N P Q = true ∧ (ptxt N P Q).data.toList = s.data.toList ∧ e = .returned (.tuple #[Value.agg #[Value.string N, Value.int .i64 P, Value.int .i64 Q], .bool true]) ∧ Below w.heap.size w w') ∨ ((partB N P Q = false ∨ (ptxt N P Q).data.toList ≠ s.data.toList) ∧ e = .returned (.tuple #[Value.agg #[Value.string ⟨#[]⟩, Value.int .i64 0, Value.int .i64 0], .bool false]) ∧ Below w.heap.size w w') := by
  obtain ⟨tx, htx⟩ : ∃ tx, ptxt N P Q = tx := ⟨_, rfl⟩
  have HTX := hide htx
  clear htx
  subst hP
  subst hQ
  have HC := hide hc
  have HT0 := hide htab
  have HM0 := hide hm
  clear hc htab hm
  have kr0 : (w.alloc (Obj.cells #[Value.string ⟨#[]⟩, Value.int .i64 0, Value.int .i64 0] 26)).cell? ⟨w.heap.size, 0, none⟩ = some (Value.string ⟨#[]⟩) := by go_simp
  have fr0 : (w.alloc (Obj.cells #[Value.string ⟨#[]⟩, Value.int .i64 0, Value.int .i64 0] 26)).frozen? ⟨w.heap.size, 0, none⟩ = false := by go_simp
  have kr1 : (w.alloc (Obj.cells #[Value.string ⟨#[]⟩, Value.int .i64 0, Value.int .i64 0] 26)).cell? ⟨w.heap.size, 1, none⟩ = some (Value.int .i64 0) := by go_simp
  have fr1 : (w.alloc (Obj.cells #[Value.string ⟨#[]⟩, Value.int .i64 0, Value.int .i64 0] 26)).frozen? ⟨w.heap.size, 1, none⟩ = false := by go_simp
  have kr2 : (w.alloc (Obj.cells #[Value.string ⟨#[]⟩, Value.int .i64 0, Value.int .i64 0] 26)).cell? ⟨w.heap.size, 2, none⟩ = some (Value.int .i64 0) := by go_simp
  have fr2 : (w.alloc (Obj.cells #[Value.string ⟨#[]⟩, Value.int .i64 0, Value.int .i64 0] 26)).frozen? ⟨w.heap.size, 2, none⟩ = false := by go_simp
  have zr : w.heap.size < (w.alloc (Obj.cells #[Value.string ⟨#[]⟩, Value.int .i64 0, Value.int .i64 0] 26)).heap.size := by simp only [World.size_alloc]; omega
  have HB := hide (bl_alloc (bl_refl w) (Obj.cells #[Value.string ⟨#[]⟩, Value.int .i64 0, Value.int .i64 0] 26))
  go_enter Tryz.func11, Tryz.ntmps11
  go_wp2_with fail
  generalize (w.alloc (Obj.cells #[Value.string ⟨#[]⟩, Value.int .i64 0, Value.int .i64 0] 26)) = w1 at *
  have z0 := zr
  refine (cutL s 94 _ (by omega) (HM0.out.below HB.out)).mono ?_
  rw [HC.out]
  rw [show (⟨N.data.toList.toArray⟩ : ByteArray) = N from by rw [Array.toArray_toList], show (⟨B.data.toList.toArray⟩ : ByteArray) = B from by rw [Array.toArray_toList]]
  rintro e w2 ⟨rfl, hb⟩
  have yw2 := hb.size
  replace kr0 := (hb.cell (p := ⟨w.heap.size, 0, none⟩) (by dsimp only; omega)).trans kr0
  replace fr0 := (hb.frozen (p := ⟨w.heap.size, 0, none⟩) (by dsimp only; omega)).trans fr0
  replace kr1 := (hb.cell (p := ⟨w.heap.size, 1, none⟩) (by dsimp only; omega)).trans kr1
  replace fr1 := (hb.frozen (p := ⟨w.heap.size, 1, none⟩) (by dsimp only; omega)).trans fr1
  replace kr2 := (hb.cell (p := ⟨w.heap.size, 2, none⟩) (by dsimp only; omega)).trans kr2
  replace fr2 := (hb.frozen (p := ⟨w.heap.size, 2, none⟩) (by dsimp only; omega)).trans fr2
  replace zr := Nat.lt_of_lt_of_le zr hb.size
  replace HB := hide (bl_trans HB.out hb)
  clear hb
  go_wp2_with fail
  refine (clonT N _ (by omega)).mono ?_
  rintro e w3 ⟨rfl, hb⟩
  have yw3 := hb.size
  replace kr0 := (hb.cell (p := ⟨w.heap.size, 0, none⟩) (by dsimp only; omega)).trans kr0
  replace fr0 := (hb.frozen (p := ⟨w.heap.size, 0, none⟩) (by dsimp only; omega)).trans fr0
  replace kr1 := (hb.cell (p := ⟨w.heap.size, 1, none⟩) (by dsimp only; omega)).trans kr1
  replace fr1 := (hb.frozen (p := ⟨w.heap.size, 1, none⟩) (by dsimp only; omega)).trans fr1
  replace kr2 := (hb.cell (p := ⟨w.heap.size, 2, none⟩) (by dsimp only; omega)).trans kr2
  replace fr2 := (hb.frozen (p := ⟨w.heap.size, 2, none⟩) (by dsimp only; omega)).trans fr2
  replace zr := Nat.lt_of_lt_of_le zr hb.size
  replace HB := hide (bl_trans HB.out hb)
  clear hb
  have yw4 : w3.heap.size + 1 ≤ (w3.alloc (Obj.cells #[Value.string N, Value.int .i64 1, Value.int .i64 1] 26)).heap.size := by simp only [World.size_alloc]; omega
  have kp0 : (w3.alloc (Obj.cells #[Value.string N, Value.int .i64 1, Value.int .i64 1] 26)).cell? ⟨w3.heap.size, 0, none⟩ = some (Value.string N) := by go_simp
  have fp0 : (w3.alloc (Obj.cells #[Value.string N, Value.int .i64 1, Value.int .i64 1] 26)).frozen? ⟨w3.heap.size, 0, none⟩ = false := by go_simp
  have kp1 : (w3.alloc (Obj.cells #[Value.string N, Value.int .i64 1, Value.int .i64 1] 26)).cell? ⟨w3.heap.size, 1, none⟩ = some (Value.int .i64 1) := by go_simp
  have fp1 : (w3.alloc (Obj.cells #[Value.string N, Value.int .i64 1, Value.int .i64 1] 26)).frozen? ⟨w3.heap.size, 1, none⟩ = false := by go_simp
  have kp2 : (w3.alloc (Obj.cells #[Value.string N, Value.int .i64 1, Value.int .i64 1] 26)).cell? ⟨w3.heap.size, 2, none⟩ = some (Value.int .i64 1) := by go_simp
  have fp2 : (w3.alloc (Obj.cells #[Value.string N, Value.int .i64 1, Value.int .i64 1] 26)).frozen? ⟨w3.heap.size, 2, none⟩ = false := by go_simp
  have hbn := (bl_alloc (bl_refl w3) (Obj.cells #[Value.string N, Value.int .i64 1, Value.int .i64 1] 26))
  replace kr0 := (hbn.cell (p := ⟨w.heap.size, 0, none⟩) (by dsimp only; omega)).trans kr0
  replace fr0 := (hbn.frozen (p := ⟨w.heap.size, 0, none⟩) (by dsimp only; omega)).trans fr0
  replace kr1 := (hbn.cell (p := ⟨w.heap.size, 1, none⟩) (by dsimp only; omega)).trans kr1
  replace fr1 := (hbn.frozen (p := ⟨w.heap.size, 1, none⟩) (by dsimp only; omega)).trans fr1
  replace kr2 := (hbn.cell (p := ⟨w.heap.size, 2, none⟩) (by dsimp only; omega)).trans kr2
  replace fr2 := (hbn.frozen (p := ⟨w.heap.size, 2, none⟩) (by dsimp only; omega)).trans fr2
  replace zr := Nat.lt_of_lt_of_le zr hbn.size
  replace HB := hide (bl_trans HB.out hbn)
  clear hbn
  go_wp2_with fail
  generalize (w3.alloc (Obj.cells #[Value.string N, Value.int .i64 1, Value.int .i64 1] 26)) = w4 at *
  refine (partI N 1 1 _ hN).mono ?_
  rintro e w5 ⟨rfl, hb⟩
  have yw5 := hb.size
  replace kr0 := (hb.cell (p := ⟨w.heap.size, 0, none⟩) (by dsimp only; omega)).trans kr0
  replace fr0 := (hb.frozen (p := ⟨w.heap.size, 0, none⟩) (by dsimp only; omega)).trans fr0
  replace kr1 := (hb.cell (p := ⟨w.heap.size, 1, none⟩) (by dsimp only; omega)).trans kr1
  replace fr1 := (hb.frozen (p := ⟨w.heap.size, 1, none⟩) (by dsimp only; omega)).trans fr1
  replace kr2 := (hb.cell (p := ⟨w.heap.size, 2, none⟩) (by dsimp only; omega)).trans kr2
  replace fr2 := (hb.frozen (p := ⟨w.heap.size, 2, none⟩) (by dsimp only; omega)).trans fr2
  replace kp0 := (hb.cell (p := ⟨w3.heap.size, 0, none⟩) (by dsimp only; omega)).trans kp0
  replace fp0 := (hb.frozen (p := ⟨w3.heap.size, 0, none⟩) (by dsimp only; omega)).trans fp0
  replace kp1 := (hb.cell (p := ⟨w3.heap.size, 1, none⟩) (by dsimp only; omega)).trans kp1
  replace fp1 := (hb.frozen (p := ⟨w3.heap.size, 1, none⟩) (by dsimp only; omega)).trans fp1
  replace kp2 := (hb.cell (p := ⟨w3.heap.size, 2, none⟩) (by dsimp only; omega)).trans kp2
  replace fp2 := (hb.frozen (p := ⟨w3.heap.size, 2, none⟩) (by dsimp only; omega)).trans fp2
  replace zr := Nat.lt_of_lt_of_le zr hb.size
  replace HB := hide (bl_trans HB.out hb)
  clear hb
  cases hk : partB N 1 1 with
  | false =>
    have HK := hide hk
    clear hk
    go_wp2
    refine bodyPost_ret (v := (.tuple #[Value.agg #[Value.string ⟨#[]⟩, Value.int .i64 0, Value.int .i64 0], .bool false])) (by simp [results, Tryz.results11, go_sem, kr0, kr1, kr2]) rfl ?_
    exact .inr ⟨.inl HK.out, rfl, ((HB.out.setCell (p := ⟨w.heap.size, 0, none⟩) (Nat.le_refl _) _).setCell (p := ⟨w.heap.size, 1, none⟩) (Nat.le_refl _) _).setCell (p := ⟨w.heap.size, 2, none⟩) (Nat.le_refl _) _⟩
  | true =>
    have HK := hide hk
    clear hk
    go_wp2_with fail
    have HCT := hide (partTextI N 1 1 w5 hN (HT0.out.below HB.out))
    rw [HTX.out] at HCT
    refine HCT.out.mono ?_
    rintro e w6 ⟨rfl, hb⟩
    clear HCT
    have yw6 := hb.size
    replace kr0 := (hb.cell (p := ⟨w.heap.size, 0, none⟩) (by dsimp only; omega)).trans kr0
    replace fr0 := (hb.frozen (p := ⟨w.heap.size, 0, none⟩) (by dsimp only; omega)).trans fr0
    replace kr1 := (hb.cell (p := ⟨w.heap.size, 1, none⟩) (by dsimp only; omega)).trans kr1
    replace fr1 := (hb.frozen (p := ⟨w.heap.size, 1, none⟩) (by dsimp only; omega)).trans fr1
    replace kr2 := (hb.cell (p := ⟨w.heap.size, 2, none⟩) (by dsimp only; omega)).trans kr2
    replace fr2 := (hb.frozen (p := ⟨w.heap.size, 2, none⟩) (by dsimp only; omega)).trans fr2
    replace kp0 := (hb.cell (p := ⟨w3.heap.size, 0, none⟩) (by dsimp only; omega)).trans kp0
    replace fp0 := (hb.frozen (p := ⟨w3.heap.size, 0, none⟩) (by dsimp only; omega)).trans fp0
    replace kp1 := (hb.cell (p := ⟨w3.heap.size, 1, none⟩) (by dsimp only; omega)).trans kp1
    replace fp1 := (hb.frozen (p := ⟨w3.heap.size, 1, none⟩) (by dsimp only; omega)).trans fp1
    replace kp2 := (hb.cell (p := ⟨w3.heap.size, 2, none⟩) (by dsimp only; omega)).trans kp2
    replace fp2 := (hb.frozen (p := ⟨w3.heap.size, 2, none⟩) (by dsimp only; omega)).trans fp2
    replace zr := Nat.lt_of_lt_of_le zr hb.size
    replace HB := hide (bl_trans HB.out hb)
    clear hb
    by_cases ht : tx.data.toList = s.data.toList
    · skip
      have hcmp : (tx.toList == s.toList) = true := by rw [ByteArray.toList_eq, ByteArray.toList_eq, beq_iff_eq]; exact ht
      have HT := hide ht
      clear ht
      go_wp2
      refine bodyPost_ret (v := (.tuple #[Value.agg #[Value.string N, Value.int .i64 1, Value.int .i64 1], .bool true])) (by simp [results, Tryz.results11, go_sem, kr0, kr1, kr2]) rfl ?_
      exact .inl ⟨HK.out, by rw [HTX.out]; exact HT.out, rfl, ((HB.out.setCell (p := ⟨w.heap.size, 0, none⟩) (Nat.le_refl _) _).setCell (p := ⟨w.heap.size, 1, none⟩) (Nat.le_refl _) _).setCell (p := ⟨w.heap.size, 2, none⟩) (Nat.le_refl _) _⟩
    · skip
      have hcmp : (tx.toList == s.toList) = false := by rw [ByteArray.toList_eq, ByteArray.toList_eq, beq_eq_false_iff_ne]; exact ht
      have HT := hide ht
      clear ht
      go_wp2
      refine bodyPost_ret (v := (.tuple #[Value.agg #[Value.string ⟨#[]⟩, Value.int .i64 0, Value.int .i64 0], .bool false])) (by simp [results, Tryz.results11, go_sem, kr0, kr1, kr2]) rfl ?_
      exact .inr ⟨.inr (by rw [HTX.out]; exact HT.out), rfl, ((HB.out.setCell (p := ⟨w.heap.size, 0, none⟩) (Nat.le_refl _) _).setCell (p := ⟨w.heap.size, 1, none⟩) (Nat.le_refl _) _).setCell (p := ⟨w.heap.size, 2, none⟩) (Nat.le_refl _) _⟩

end Go.Proofs.YtkemplmhemnpbaaGreatDoor

/- The walk of the specification's ReadPart. -/
namespace Go.Proofs.YtkemplmhemnpbaaGreatDoor
open Go.RowKit
set_option linter.unusedVariables false

set_option maxHeartbeats 4000000 in
set_option maxRecDepth 20000 in
theorem rpsWl1 (s N B : ByteArray) (P Q : Int) (at' : Nat) (w : World) (hs : s.size ≤ 1048576) (hN : N.size ≤ 140737488355328) (hB : B.size ≤ 4611686018427387904) (ha : at' ≤ s.size) (hne : ∀ k (h : k < s.size), k < at' → ((s[k].toNat : Int) != 94) = true) (hN' : s.extract 0 at' = N) (hal : at' < s.size) (h94 : ((s[at'].toNat : Int) != 94) = false) (hB' : s.extract (at' + 1) s.size = B) (hl : 12 < at') :
    Calls Tryz.prog 10 #[.string s] w fun e w' => e = .returned (.tuple #[Value.agg #[Value.string ⟨#[]⟩, Value.int .i64 0, Value.int .i64 0], .bool false]) ∧ Below w.heap.size w w' := by
  have HNE := hide hne
  clear hne
  subst hN'
  subst hB'
  have hali : (at' : Int) < (s.size : Int) := by omega
  have hli : (12 : Int) < (at' : Int) := by omega
  have kr0 : (w.alloc (Obj.cells #[Value.string ⟨#[]⟩, Value.int .i64 0, Value.int .i64 0] 26)).cell? ⟨w.heap.size, 0, none⟩ = some (Value.string ⟨#[]⟩) := by go_simp
  have fr0 : (w.alloc (Obj.cells #[Value.string ⟨#[]⟩, Value.int .i64 0, Value.int .i64 0] 26)).frozen? ⟨w.heap.size, 0, none⟩ = false := by go_simp
  have kr1 : (w.alloc (Obj.cells #[Value.string ⟨#[]⟩, Value.int .i64 0, Value.int .i64 0] 26)).cell? ⟨w.heap.size, 1, none⟩ = some (Value.int .i64 0) := by go_simp
  have fr1 : (w.alloc (Obj.cells #[Value.string ⟨#[]⟩, Value.int .i64 0, Value.int .i64 0] 26)).frozen? ⟨w.heap.size, 1, none⟩ = false := by go_simp
  have kr2 : (w.alloc (Obj.cells #[Value.string ⟨#[]⟩, Value.int .i64 0, Value.int .i64 0] 26)).cell? ⟨w.heap.size, 2, none⟩ = some (Value.int .i64 0) := by go_simp
  have fr2 : (w.alloc (Obj.cells #[Value.string ⟨#[]⟩, Value.int .i64 0, Value.int .i64 0] 26)).frozen? ⟨w.heap.size, 2, none⟩ = false := by go_simp
  have zr : w.heap.size < (w.alloc (Obj.cells #[Value.string ⟨#[]⟩, Value.int .i64 0, Value.int .i64 0] 26)).heap.size := by simp only [World.size_alloc]; omega
  have HB := hide (bl_alloc (bl_refl w) (Obj.cells #[Value.string ⟨#[]⟩, Value.int .i64 0, Value.int .i64 0] 26))
  go_enter Tryz.func10, Tryz.ntmps10
  go_wp2
  generalize (w.alloc (Obj.cells #[Value.string ⟨#[]⟩, Value.int .i64 0, Value.int .i64 0] 26)) = w1 at *
  have z0 := zr
  go_loopw [4] (fun i wr => ∃ k : Nat, k ≤ at' ∧ i = .int .i64 k ∧ wr = w1) (fun i _ => at' - (intOf i).toNat)
  case atStart => exact ⟨0, Nat.zero_le _, rfl, rfl⟩
  case round =>
    obtain ⟨k, hk, rfl, hw⟩ := hrel
    have hw2 := hw.symm
    clear hw
    subst hw2
    by_cases hlt : k < at'
    · skip
      have hls : k < s.size := by omega
      have hlt' : (k : Int) < (s.size : Int) := by omega
      have hn := HNE.out k hls hlt
      have hk0 : (0 : Int) ≤ (k : Int) := by omega
      go_wp2
      exact ⟨⟨k + 1, by omega, by go_num, by first | rfl | trivial⟩, by simp [intOf]; omega⟩
    · skip
      obtain rfl : k = at' := by omega
      clear hlt
      have hk0 : (0 : Int) ≤ (k : Int) := by omega
      have hks : (k : Int) ≤ (s.size : Int) := by omega
      go_wp2
      refine bodyPost_ret (v := (.tuple #[Value.agg #[Value.string ⟨#[]⟩, Value.int .i64 0, Value.int .i64 0], .bool false])) (by simp [results, Tryz.results10, go_sem, kr0, kr1, kr2]) rfl ?_
      exact ⟨rfl, ((HB.out.setCell (p := ⟨w.heap.size, 0, none⟩) (Nat.le_refl _) _).setCell (p := ⟨w.heap.size, 1, none⟩) (Nat.le_refl _) _).setCell (p := ⟨w.heap.size, 2, none⟩) (Nat.le_refl _) _⟩

set_option maxHeartbeats 4000000 in
set_option maxRecDepth 20000 in
theorem rpsWl2 (s N B : ByteArray) (P Q : Int) (at' : Nat) (w : World) (hs : s.size ≤ 1048576) (hN : N.size ≤ 140737488355328) (hB : B.size ≤ 4611686018427387904) (ha : at' ≤ s.size) (hne : ∀ k (h : k < s.size), k < at' → ((s[k].toNat : Int) != 94) = true) (hN' : s.extract 0 at' = N) (hal : at' < s.size) (h94 : ((s[at'].toNat : Int) != 94) = false) (hB' : s.extract (at' + 1) s.size = B) (hl : at' ≤ 12) (hl2 : 30 < s.size) :
    Calls Tryz.prog 10 #[.string s] w fun e w' => e = .returned (.tuple #[Value.agg #[Value.string ⟨#[]⟩, Value.int .i64 0, Value.int .i64 0], .bool false]) ∧ Below w.heap.size w w' := by
  have HNE := hide hne
  clear hne
  subst hN'
  subst hB'
  have hali : (at' : Int) < (s.size : Int) := by omega
  have hli : ¬ (12 : Int) < (at' : Int) := by omega
  have hli2 : (30 : Int) < (s.size : Int) := by omega
  have kr0 : (w.alloc (Obj.cells #[Value.string ⟨#[]⟩, Value.int .i64 0, Value.int .i64 0] 26)).cell? ⟨w.heap.size, 0, none⟩ = some (Value.string ⟨#[]⟩) := by go_simp
  have fr0 : (w.alloc (Obj.cells #[Value.string ⟨#[]⟩, Value.int .i64 0, Value.int .i64 0] 26)).frozen? ⟨w.heap.size, 0, none⟩ = false := by go_simp
  have kr1 : (w.alloc (Obj.cells #[Value.string ⟨#[]⟩, Value.int .i64 0, Value.int .i64 0] 26)).cell? ⟨w.heap.size, 1, none⟩ = some (Value.int .i64 0) := by go_simp
  have fr1 : (w.alloc (Obj.cells #[Value.string ⟨#[]⟩, Value.int .i64 0, Value.int .i64 0] 26)).frozen? ⟨w.heap.size, 1, none⟩ = false := by go_simp
  have kr2 : (w.alloc (Obj.cells #[Value.string ⟨#[]⟩, Value.int .i64 0, Value.int .i64 0] 26)).cell? ⟨w.heap.size, 2, none⟩ = some (Value.int .i64 0) := by go_simp
  have fr2 : (w.alloc (Obj.cells #[Value.string ⟨#[]⟩, Value.int .i64 0, Value.int .i64 0] 26)).frozen? ⟨w.heap.size, 2, none⟩ = false := by go_simp
  have zr : w.heap.size < (w.alloc (Obj.cells #[Value.string ⟨#[]⟩, Value.int .i64 0, Value.int .i64 0] 26)).heap.size := by simp only [World.size_alloc]; omega
  have HB := hide (bl_alloc (bl_refl w) (Obj.cells #[Value.string ⟨#[]⟩, Value.int .i64 0, Value.int .i64 0] 26))
  go_enter Tryz.func10, Tryz.ntmps10
  go_wp2
  generalize (w.alloc (Obj.cells #[Value.string ⟨#[]⟩, Value.int .i64 0, Value.int .i64 0] 26)) = w1 at *
  have z0 := zr
  go_loopw [4] (fun i wr => ∃ k : Nat, k ≤ at' ∧ i = .int .i64 k ∧ wr = w1) (fun i _ => at' - (intOf i).toNat)
  case atStart => exact ⟨0, Nat.zero_le _, rfl, rfl⟩
  case round =>
    obtain ⟨k, hk, rfl, hw⟩ := hrel
    have hw2 := hw.symm
    clear hw
    subst hw2
    by_cases hlt : k < at'
    · skip
      have hls : k < s.size := by omega
      have hlt' : (k : Int) < (s.size : Int) := by omega
      have hn := HNE.out k hls hlt
      have hk0 : (0 : Int) ≤ (k : Int) := by omega
      go_wp2
      exact ⟨⟨k + 1, by omega, by go_num, by first | rfl | trivial⟩, by simp [intOf]; omega⟩
    · skip
      obtain rfl : k = at' := by omega
      clear hlt
      have hk0 : (0 : Int) ≤ (k : Int) := by omega
      have hks : (k : Int) ≤ (s.size : Int) := by omega
      go_wp2
      refine bodyPost_ret (v := (.tuple #[Value.agg #[Value.string ⟨#[]⟩, Value.int .i64 0, Value.int .i64 0], .bool false])) (by simp [results, Tryz.results10, go_sem, kr0, kr1, kr2]) rfl ?_
      exact ⟨rfl, ((HB.out.setCell (p := ⟨w.heap.size, 0, none⟩) (Nat.le_refl _) _).setCell (p := ⟨w.heap.size, 1, none⟩) (Nat.le_refl _) _).setCell (p := ⟨w.heap.size, 2, none⟩) (Nat.le_refl _) _⟩

set_option maxHeartbeats 4000000 in
set_option maxRecDepth 20000 in
theorem rpsWu1 (s N B : ByteArray) (P Q : Int) (at' : Nat) (w : World) (hs : s.size ≤ 1048576) (hN : N.size ≤ 140737488355328) (hB : B.size ≤ 4611686018427387904) (ha : at' ≤ s.size) (hne : ∀ k (h : k < s.size), k < at' → ((s[k].toNat : Int) != 94) = true) (hN' : s.extract 0 at' = N) (hal : at' < s.size) (h94 : ((s[at'].toNat : Int) != 94) = false) (hB' : s.extract (at' + 1) s.size = B) (hl : at' ≤ 12) (hl2 : s.size ≤ 30) (X Y : Int) (hX : RX B = X) (hY : RY B = Y) (hf1 : fitsI (sgn X) (lms X) = false) :
    Calls Tryz.prog 10 #[.string s] w fun e w' => e = .returned (.tuple #[Value.agg #[Value.string ⟨#[]⟩, Value.int .i64 0, Value.int .i64 0], .bool false]) ∧ Below w.heap.size w w' := by
  have HNE := hide hne
  clear hne
  subst hN'
  subst hB'
  have hali : (at' : Int) < (s.size : Int) := by omega
  have hli : ¬ (12 : Int) < (at' : Int) := by omega
  have hli2 : ¬ (30 : Int) < (s.size : Int) := by omega
  have HX0 := hide hX
  have HY0 := hide hY
  have HF10 := hide hf1
  clear hX hY hf1
  have kr0 : (w.alloc (Obj.cells #[Value.string ⟨#[]⟩, Value.int .i64 0, Value.int .i64 0] 26)).cell? ⟨w.heap.size, 0, none⟩ = some (Value.string ⟨#[]⟩) := by go_simp
  have fr0 : (w.alloc (Obj.cells #[Value.string ⟨#[]⟩, Value.int .i64 0, Value.int .i64 0] 26)).frozen? ⟨w.heap.size, 0, none⟩ = false := by go_simp
  have kr1 : (w.alloc (Obj.cells #[Value.string ⟨#[]⟩, Value.int .i64 0, Value.int .i64 0] 26)).cell? ⟨w.heap.size, 1, none⟩ = some (Value.int .i64 0) := by go_simp
  have fr1 : (w.alloc (Obj.cells #[Value.string ⟨#[]⟩, Value.int .i64 0, Value.int .i64 0] 26)).frozen? ⟨w.heap.size, 1, none⟩ = false := by go_simp
  have kr2 : (w.alloc (Obj.cells #[Value.string ⟨#[]⟩, Value.int .i64 0, Value.int .i64 0] 26)).cell? ⟨w.heap.size, 2, none⟩ = some (Value.int .i64 0) := by go_simp
  have fr2 : (w.alloc (Obj.cells #[Value.string ⟨#[]⟩, Value.int .i64 0, Value.int .i64 0] 26)).frozen? ⟨w.heap.size, 2, none⟩ = false := by go_simp
  have zr : w.heap.size < (w.alloc (Obj.cells #[Value.string ⟨#[]⟩, Value.int .i64 0, Value.int .i64 0] 26)).heap.size := by simp only [World.size_alloc]; omega
  have HB := hide (bl_alloc (bl_refl w) (Obj.cells #[Value.string ⟨#[]⟩, Value.int .i64 0, Value.int .i64 0] 26))
  go_enter Tryz.func10, Tryz.ntmps10
  go_wp2
  generalize (w.alloc (Obj.cells #[Value.string ⟨#[]⟩, Value.int .i64 0, Value.int .i64 0] 26)) = w1 at *
  have z0 := zr
  go_loopw [4] (fun i wr => ∃ k : Nat, k ≤ at' ∧ i = .int .i64 k ∧ wr = w1) (fun i _ => at' - (intOf i).toNat)
  case atStart => exact ⟨0, Nat.zero_le _, rfl, rfl⟩
  case round =>
    obtain ⟨k, hk, rfl, hw⟩ := hrel
    have hw2 := hw.symm
    clear hw
    subst hw2
    by_cases hlt : k < at'
    · skip
      have hls : k < s.size := by omega
      have hlt' : (k : Int) < (s.size : Int) := by omega
      have hn := HNE.out k hls hlt
      have hk0 : (0 : Int) ≤ (k : Int) := by omega
      go_wp2
      exact ⟨⟨k + 1, by omega, by go_num, by first | rfl | trivial⟩, by simp [intOf]; omega⟩
    · skip
      obtain rfl : k = at' := by omega
      clear hlt
      have hk0 : (0 : Int) ≤ (k : Int) := by omega
      have hks : (k : Int) ≤ (s.size : Int) := by omega
      go_wp2_with fail
      have yw2 : w1.heap.size + 1 ≤ (w1.alloc (Obj.cells #[Value.string (s.extract 0 k), Value.int .i64 1, Value.int .i64 1] 26)).heap.size := by simp only [World.size_alloc]; omega
      have kp0 : (w1.alloc (Obj.cells #[Value.string (s.extract 0 k), Value.int .i64 1, Value.int .i64 1] 26)).cell? ⟨w1.heap.size, 0, none⟩ = some (Value.string (s.extract 0 k)) := by go_simp
      have fp0 : (w1.alloc (Obj.cells #[Value.string (s.extract 0 k), Value.int .i64 1, Value.int .i64 1] 26)).frozen? ⟨w1.heap.size, 0, none⟩ = false := by go_simp
      have kp1 : (w1.alloc (Obj.cells #[Value.string (s.extract 0 k), Value.int .i64 1, Value.int .i64 1] 26)).cell? ⟨w1.heap.size, 1, none⟩ = some (Value.int .i64 1) := by go_simp
      have fp1 : (w1.alloc (Obj.cells #[Value.string (s.extract 0 k), Value.int .i64 1, Value.int .i64 1] 26)).frozen? ⟨w1.heap.size, 1, none⟩ = false := by go_simp
      have kp2 : (w1.alloc (Obj.cells #[Value.string (s.extract 0 k), Value.int .i64 1, Value.int .i64 1] 26)).cell? ⟨w1.heap.size, 2, none⟩ = some (Value.int .i64 1) := by go_simp
      have fp2 : (w1.alloc (Obj.cells #[Value.string (s.extract 0 k), Value.int .i64 1, Value.int .i64 1] 26)).frozen? ⟨w1.heap.size, 2, none⟩ = false := by go_simp
      have hbn := (bl_alloc (bl_refl w1) (Obj.cells #[Value.string (s.extract 0 k), Value.int .i64 1, Value.int .i64 1] 26))
      replace kr0 := (hbn.cell (p := ⟨w.heap.size, 0, none⟩) (by dsimp only; omega)).trans kr0
      replace fr0 := (hbn.frozen (p := ⟨w.heap.size, 0, none⟩) (by dsimp only; omega)).trans fr0
      replace kr1 := (hbn.cell (p := ⟨w.heap.size, 1, none⟩) (by dsimp only; omega)).trans kr1
      replace fr1 := (hbn.frozen (p := ⟨w.heap.size, 1, none⟩) (by dsimp only; omega)).trans fr1
      replace kr2 := (hbn.cell (p := ⟨w.heap.size, 2, none⟩) (by dsimp only; omega)).trans kr2
      replace fr2 := (hbn.frozen (p := ⟨w.heap.size, 2, none⟩) (by dsimp only; omega)).trans fr2
      replace zr := Nat.lt_of_lt_of_le zr hbn.size
      replace HB := hide (bl_trans HB.out hbn)
      clear hbn
      generalize (w1.alloc (Obj.cells #[Value.string (s.extract 0 k), Value.int .i64 1, Value.int .i64 1] 26)) = w2 at *
      refine (readRatW (s.extract (k + 1) s.size) _ hB).mono ?_
      rw [HX0.out, HY0.out]
      generalize RF (s.extract (k + 1) s.size) = rf
      rintro e w5 ⟨a1, c1, a2, c2, rfl, ho1, ho2, hap, hb⟩
      clear hap
      have yw5 := hb.size
      replace kr0 := (hb.cell (p := ⟨w.heap.size, 0, none⟩) (by dsimp only; omega)).trans kr0
      replace fr0 := (hb.frozen (p := ⟨w.heap.size, 0, none⟩) (by dsimp only; omega)).trans fr0
      replace kr1 := (hb.cell (p := ⟨w.heap.size, 1, none⟩) (by dsimp only; omega)).trans kr1
      replace fr1 := (hb.frozen (p := ⟨w.heap.size, 1, none⟩) (by dsimp only; omega)).trans fr1
      replace kr2 := (hb.cell (p := ⟨w.heap.size, 2, none⟩) (by dsimp only; omega)).trans kr2
      replace fr2 := (hb.frozen (p := ⟨w.heap.size, 2, none⟩) (by dsimp only; omega)).trans fr2
      replace kp0 := (hb.cell (p := ⟨w1.heap.size, 0, none⟩) (by dsimp only; omega)).trans kp0
      replace fp0 := (hb.frozen (p := ⟨w1.heap.size, 0, none⟩) (by dsimp only; omega)).trans fp0
      replace kp1 := (hb.cell (p := ⟨w1.heap.size, 1, none⟩) (by dsimp only; omega)).trans kp1
      replace fp1 := (hb.frozen (p := ⟨w1.heap.size, 1, none⟩) (by dsimp only; omega)).trans fp1
      replace kp2 := (hb.cell (p := ⟨w1.heap.size, 2, none⟩) (by dsimp only; omega)).trans kp2
      replace fp2 := (hb.frozen (p := ⟨w1.heap.size, 2, none⟩) (by dsimp only; omega)).trans fp2
      replace zr := Nat.lt_of_lt_of_le zr hb.size
      replace HB := hide (bl_trans HB.out hb)
      clear hb
      have O1 := hide ho1.seg
      have O2 := hide ho2.seg
      clear ho1 ho2
      have yw6 : w5.heap.size + 1 ≤ (w5.alloc (Obj.cells #[Value.bool (sgn X), Value.slice a1 (lms X).length c1, Value.bool (sgn Y), Value.slice a2 (lms Y).length c2] 42)).heap.size := by simp only [World.size_alloc]; omega
      have kd0 : (w5.alloc (Obj.cells #[Value.bool (sgn X), Value.slice a1 (lms X).length c1, Value.bool (sgn Y), Value.slice a2 (lms Y).length c2] 42)).cell? ⟨w5.heap.size, 0, none⟩ = some (Value.bool (sgn X)) := by go_simp
      have kd1 : (w5.alloc (Obj.cells #[Value.bool (sgn X), Value.slice a1 (lms X).length c1, Value.bool (sgn Y), Value.slice a2 (lms Y).length c2] 42)).cell? ⟨w5.heap.size, 1, none⟩ = some (Value.slice a1 (lms X).length c1) := by go_simp
      have kd2 : (w5.alloc (Obj.cells #[Value.bool (sgn X), Value.slice a1 (lms X).length c1, Value.bool (sgn Y), Value.slice a2 (lms Y).length c2] 42)).cell? ⟨w5.heap.size, 2, none⟩ = some (Value.bool (sgn Y)) := by go_simp
      have kd3 : (w5.alloc (Obj.cells #[Value.bool (sgn X), Value.slice a1 (lms X).length c1, Value.bool (sgn Y), Value.slice a2 (lms Y).length c2] 42)).cell? ⟨w5.heap.size, 3, none⟩ = some (Value.slice a2 (lms Y).length c2) := by go_simp
      have hbn := (bl_alloc (bl_refl w5) (Obj.cells #[Value.bool (sgn X), Value.slice a1 (lms X).length c1, Value.bool (sgn Y), Value.slice a2 (lms Y).length c2] 42))
      replace kr0 := (hbn.cell (p := ⟨w.heap.size, 0, none⟩) (by dsimp only; omega)).trans kr0
      replace fr0 := (hbn.frozen (p := ⟨w.heap.size, 0, none⟩) (by dsimp only; omega)).trans fr0
      replace kr1 := (hbn.cell (p := ⟨w.heap.size, 1, none⟩) (by dsimp only; omega)).trans kr1
      replace fr1 := (hbn.frozen (p := ⟨w.heap.size, 1, none⟩) (by dsimp only; omega)).trans fr1
      replace kr2 := (hbn.cell (p := ⟨w.heap.size, 2, none⟩) (by dsimp only; omega)).trans kr2
      replace fr2 := (hbn.frozen (p := ⟨w.heap.size, 2, none⟩) (by dsimp only; omega)).trans fr2
      replace kp0 := (hbn.cell (p := ⟨w1.heap.size, 0, none⟩) (by dsimp only; omega)).trans kp0
      replace fp0 := (hbn.frozen (p := ⟨w1.heap.size, 0, none⟩) (by dsimp only; omega)).trans fp0
      replace kp1 := (hbn.cell (p := ⟨w1.heap.size, 1, none⟩) (by dsimp only; omega)).trans kp1
      replace fp1 := (hbn.frozen (p := ⟨w1.heap.size, 1, none⟩) (by dsimp only; omega)).trans fp1
      replace kp2 := (hbn.cell (p := ⟨w1.heap.size, 2, none⟩) (by dsimp only; omega)).trans kp2
      replace fp2 := (hbn.frozen (p := ⟨w1.heap.size, 2, none⟩) (by dsimp only; omega)).trans fp2
      replace O1 := hide (O1.out.below hbn)
      replace O2 := hide (O2.out.below hbn)
      replace zr := Nat.lt_of_lt_of_le zr hbn.size
      replace HB := hide (bl_trans HB.out hbn)
      clear hbn
      go_wp2_with fail
      generalize (w5.alloc (Obj.cells #[Value.bool (sgn X), Value.slice a1 (lms X).length c1, Value.bool (sgn Y), Value.slice a2 (lms Y).length c2] 42)) = w6 at *
      refine (toIntS _ (sgn X) (lms X) _ ⟨a1, c1, rfl, O1.out⟩).mono ?_
      rw [HF10.out]
      rintro e w7 ⟨rfl, hb⟩
      have yw7 := hb.size
      replace kr0 := (hb.cell (p := ⟨w.heap.size, 0, none⟩) (by dsimp only; omega)).trans kr0
      replace fr0 := (hb.frozen (p := ⟨w.heap.size, 0, none⟩) (by dsimp only; omega)).trans fr0
      replace kr1 := (hb.cell (p := ⟨w.heap.size, 1, none⟩) (by dsimp only; omega)).trans kr1
      replace fr1 := (hb.frozen (p := ⟨w.heap.size, 1, none⟩) (by dsimp only; omega)).trans fr1
      replace kr2 := (hb.cell (p := ⟨w.heap.size, 2, none⟩) (by dsimp only; omega)).trans kr2
      replace fr2 := (hb.frozen (p := ⟨w.heap.size, 2, none⟩) (by dsimp only; omega)).trans fr2
      replace kp0 := (hb.cell (p := ⟨w1.heap.size, 0, none⟩) (by dsimp only; omega)).trans kp0
      replace fp0 := (hb.frozen (p := ⟨w1.heap.size, 0, none⟩) (by dsimp only; omega)).trans fp0
      replace kp1 := (hb.cell (p := ⟨w1.heap.size, 1, none⟩) (by dsimp only; omega)).trans kp1
      replace fp1 := (hb.frozen (p := ⟨w1.heap.size, 1, none⟩) (by dsimp only; omega)).trans fp1
      replace kp2 := (hb.cell (p := ⟨w1.heap.size, 2, none⟩) (by dsimp only; omega)).trans kp2
      replace fp2 := (hb.frozen (p := ⟨w1.heap.size, 2, none⟩) (by dsimp only; omega)).trans fp2
      replace kd0 := (hb.cell (p := ⟨w5.heap.size, 0, none⟩) (by dsimp only; omega)).trans kd0
      replace kd1 := (hb.cell (p := ⟨w5.heap.size, 1, none⟩) (by dsimp only; omega)).trans kd1
      replace kd2 := (hb.cell (p := ⟨w5.heap.size, 2, none⟩) (by dsimp only; omega)).trans kd2
      replace kd3 := (hb.cell (p := ⟨w5.heap.size, 3, none⟩) (by dsimp only; omega)).trans kd3
      replace O1 := hide (O1.out.below hb)
      replace O2 := hide (O2.out.below hb)
      replace zr := Nat.lt_of_lt_of_le zr hb.size
      replace HB := hide (bl_trans HB.out hb)
      clear hb
      go_wp2_with fail
      refine (toIntS _ (sgn Y) (lms Y) _ ⟨a2, c2, rfl, O2.out⟩).mono ?_
      generalize fitsI (sgn Y) (lms Y) = f2 at *
      rintro e w8 ⟨rfl, hb⟩
      have yw8 := hb.size
      replace kr0 := (hb.cell (p := ⟨w.heap.size, 0, none⟩) (by dsimp only; omega)).trans kr0
      replace fr0 := (hb.frozen (p := ⟨w.heap.size, 0, none⟩) (by dsimp only; omega)).trans fr0
      replace kr1 := (hb.cell (p := ⟨w.heap.size, 1, none⟩) (by dsimp only; omega)).trans kr1
      replace fr1 := (hb.frozen (p := ⟨w.heap.size, 1, none⟩) (by dsimp only; omega)).trans fr1
      replace kr2 := (hb.cell (p := ⟨w.heap.size, 2, none⟩) (by dsimp only; omega)).trans kr2
      replace fr2 := (hb.frozen (p := ⟨w.heap.size, 2, none⟩) (by dsimp only; omega)).trans fr2
      replace kp0 := (hb.cell (p := ⟨w1.heap.size, 0, none⟩) (by dsimp only; omega)).trans kp0
      replace fp0 := (hb.frozen (p := ⟨w1.heap.size, 0, none⟩) (by dsimp only; omega)).trans fp0
      replace kp1 := (hb.cell (p := ⟨w1.heap.size, 1, none⟩) (by dsimp only; omega)).trans kp1
      replace fp1 := (hb.frozen (p := ⟨w1.heap.size, 1, none⟩) (by dsimp only; omega)).trans fp1
      replace kp2 := (hb.cell (p := ⟨w1.heap.size, 2, none⟩) (by dsimp only; omega)).trans kp2
      replace fp2 := (hb.frozen (p := ⟨w1.heap.size, 2, none⟩) (by dsimp only; omega)).trans fp2
      replace kd0 := (hb.cell (p := ⟨w5.heap.size, 0, none⟩) (by dsimp only; omega)).trans kd0
      replace kd1 := (hb.cell (p := ⟨w5.heap.size, 1, none⟩) (by dsimp only; omega)).trans kd1
      replace kd2 := (hb.cell (p := ⟨w5.heap.size, 2, none⟩) (by dsimp only; omega)).trans kd2
      replace kd3 := (hb.cell (p := ⟨w5.heap.size, 3, none⟩) (by dsimp only; omega)).trans kd3
      replace O1 := hide (O1.out.below hb)
      replace O2 := hide (O2.out.below hb)
      replace zr := Nat.lt_of_lt_of_le zr hb.size
      replace HB := hide (bl_trans HB.out hb)
      clear hb
      clear O1 O2
      go_wp2
      refine bodyPost_ret (v := (.tuple #[Value.agg #[Value.string ⟨#[]⟩, Value.int .i64 0, Value.int .i64 0], .bool false])) (by simp [results, Tryz.results10, go_sem, kr0, kr1, kr2]) rfl ?_
      exact ⟨rfl, ((HB.out.setCell (p := ⟨w.heap.size, 0, none⟩) (Nat.le_refl _) _).setCell (p := ⟨w.heap.size, 1, none⟩) (Nat.le_refl _) _).setCell (p := ⟨w.heap.size, 2, none⟩) (Nat.le_refl _) _⟩

set_option maxHeartbeats 4000000 in
set_option maxRecDepth 20000 in
theorem rpsWu2 (s N B : ByteArray) (P Q : Int) (at' : Nat) (w : World) (hs : s.size ≤ 1048576) (hN : N.size ≤ 140737488355328) (hB : B.size ≤ 4611686018427387904) (ha : at' ≤ s.size) (hne : ∀ k (h : k < s.size), k < at' → ((s[k].toNat : Int) != 94) = true) (hN' : s.extract 0 at' = N) (hal : at' < s.size) (h94 : ((s[at'].toNat : Int) != 94) = false) (hB' : s.extract (at' + 1) s.size = B) (hl : at' ≤ 12) (hl2 : s.size ≤ 30) (X Y : Int) (hX : RX B = X) (hY : RY B = Y) (hf1 : fitsI (sgn X) (lms X) = true) (hf2 : fitsI (sgn Y) (lms Y) = false) :
    Calls Tryz.prog 10 #[.string s] w fun e w' => e = .returned (.tuple #[Value.agg #[Value.string ⟨#[]⟩, Value.int .i64 0, Value.int .i64 0], .bool false]) ∧ Below w.heap.size w w' := by
  have HNE := hide hne
  clear hne
  subst hN'
  subst hB'
  have hali : (at' : Int) < (s.size : Int) := by omega
  have hli : ¬ (12 : Int) < (at' : Int) := by omega
  have hli2 : ¬ (30 : Int) < (s.size : Int) := by omega
  have HX0 := hide hX
  have HY0 := hide hY
  have HF10 := hide hf1
  have HF20 := hide hf2
  clear hX hY hf1 hf2
  have kr0 : (w.alloc (Obj.cells #[Value.string ⟨#[]⟩, Value.int .i64 0, Value.int .i64 0] 26)).cell? ⟨w.heap.size, 0, none⟩ = some (Value.string ⟨#[]⟩) := by go_simp
  have fr0 : (w.alloc (Obj.cells #[Value.string ⟨#[]⟩, Value.int .i64 0, Value.int .i64 0] 26)).frozen? ⟨w.heap.size, 0, none⟩ = false := by go_simp
  have kr1 : (w.alloc (Obj.cells #[Value.string ⟨#[]⟩, Value.int .i64 0, Value.int .i64 0] 26)).cell? ⟨w.heap.size, 1, none⟩ = some (Value.int .i64 0) := by go_simp
  have fr1 : (w.alloc (Obj.cells #[Value.string ⟨#[]⟩, Value.int .i64 0, Value.int .i64 0] 26)).frozen? ⟨w.heap.size, 1, none⟩ = false := by go_simp
  have kr2 : (w.alloc (Obj.cells #[Value.string ⟨#[]⟩, Value.int .i64 0, Value.int .i64 0] 26)).cell? ⟨w.heap.size, 2, none⟩ = some (Value.int .i64 0) := by go_simp
  have fr2 : (w.alloc (Obj.cells #[Value.string ⟨#[]⟩, Value.int .i64 0, Value.int .i64 0] 26)).frozen? ⟨w.heap.size, 2, none⟩ = false := by go_simp
  have zr : w.heap.size < (w.alloc (Obj.cells #[Value.string ⟨#[]⟩, Value.int .i64 0, Value.int .i64 0] 26)).heap.size := by simp only [World.size_alloc]; omega
  have HB := hide (bl_alloc (bl_refl w) (Obj.cells #[Value.string ⟨#[]⟩, Value.int .i64 0, Value.int .i64 0] 26))
  go_enter Tryz.func10, Tryz.ntmps10
  go_wp2
  generalize (w.alloc (Obj.cells #[Value.string ⟨#[]⟩, Value.int .i64 0, Value.int .i64 0] 26)) = w1 at *
  have z0 := zr
  go_loopw [4] (fun i wr => ∃ k : Nat, k ≤ at' ∧ i = .int .i64 k ∧ wr = w1) (fun i _ => at' - (intOf i).toNat)
  case atStart => exact ⟨0, Nat.zero_le _, rfl, rfl⟩
  case round =>
    obtain ⟨k, hk, rfl, hw⟩ := hrel
    have hw2 := hw.symm
    clear hw
    subst hw2
    by_cases hlt : k < at'
    · skip
      have hls : k < s.size := by omega
      have hlt' : (k : Int) < (s.size : Int) := by omega
      have hn := HNE.out k hls hlt
      have hk0 : (0 : Int) ≤ (k : Int) := by omega
      go_wp2
      exact ⟨⟨k + 1, by omega, by go_num, by first | rfl | trivial⟩, by simp [intOf]; omega⟩
    · skip
      obtain rfl : k = at' := by omega
      clear hlt
      have hk0 : (0 : Int) ≤ (k : Int) := by omega
      have hks : (k : Int) ≤ (s.size : Int) := by omega
      go_wp2_with fail
      have yw2 : w1.heap.size + 1 ≤ (w1.alloc (Obj.cells #[Value.string (s.extract 0 k), Value.int .i64 1, Value.int .i64 1] 26)).heap.size := by simp only [World.size_alloc]; omega
      have kp0 : (w1.alloc (Obj.cells #[Value.string (s.extract 0 k), Value.int .i64 1, Value.int .i64 1] 26)).cell? ⟨w1.heap.size, 0, none⟩ = some (Value.string (s.extract 0 k)) := by go_simp
      have fp0 : (w1.alloc (Obj.cells #[Value.string (s.extract 0 k), Value.int .i64 1, Value.int .i64 1] 26)).frozen? ⟨w1.heap.size, 0, none⟩ = false := by go_simp
      have kp1 : (w1.alloc (Obj.cells #[Value.string (s.extract 0 k), Value.int .i64 1, Value.int .i64 1] 26)).cell? ⟨w1.heap.size, 1, none⟩ = some (Value.int .i64 1) := by go_simp
      have fp1 : (w1.alloc (Obj.cells #[Value.string (s.extract 0 k), Value.int .i64 1, Value.int .i64 1] 26)).frozen? ⟨w1.heap.size, 1, none⟩ = false := by go_simp
      have kp2 : (w1.alloc (Obj.cells #[Value.string (s.extract 0 k), Value.int .i64 1, Value.int .i64 1] 26)).cell? ⟨w1.heap.size, 2, none⟩ = some (Value.int .i64 1) := by go_simp
      have fp2 : (w1.alloc (Obj.cells #[Value.string (s.extract 0 k), Value.int .i64 1, Value.int .i64 1] 26)).frozen? ⟨w1.heap.size, 2, none⟩ = false := by go_simp
      have hbn := (bl_alloc (bl_refl w1) (Obj.cells #[Value.string (s.extract 0 k), Value.int .i64 1, Value.int .i64 1] 26))
      replace kr0 := (hbn.cell (p := ⟨w.heap.size, 0, none⟩) (by dsimp only; omega)).trans kr0
      replace fr0 := (hbn.frozen (p := ⟨w.heap.size, 0, none⟩) (by dsimp only; omega)).trans fr0
      replace kr1 := (hbn.cell (p := ⟨w.heap.size, 1, none⟩) (by dsimp only; omega)).trans kr1
      replace fr1 := (hbn.frozen (p := ⟨w.heap.size, 1, none⟩) (by dsimp only; omega)).trans fr1
      replace kr2 := (hbn.cell (p := ⟨w.heap.size, 2, none⟩) (by dsimp only; omega)).trans kr2
      replace fr2 := (hbn.frozen (p := ⟨w.heap.size, 2, none⟩) (by dsimp only; omega)).trans fr2
      replace zr := Nat.lt_of_lt_of_le zr hbn.size
      replace HB := hide (bl_trans HB.out hbn)
      clear hbn
      generalize (w1.alloc (Obj.cells #[Value.string (s.extract 0 k), Value.int .i64 1, Value.int .i64 1] 26)) = w2 at *
      refine (readRatW (s.extract (k + 1) s.size) _ hB).mono ?_
      rw [HX0.out, HY0.out]
      generalize RF (s.extract (k + 1) s.size) = rf
      rintro e w5 ⟨a1, c1, a2, c2, rfl, ho1, ho2, hap, hb⟩
      clear hap
      have yw5 := hb.size
      replace kr0 := (hb.cell (p := ⟨w.heap.size, 0, none⟩) (by dsimp only; omega)).trans kr0
      replace fr0 := (hb.frozen (p := ⟨w.heap.size, 0, none⟩) (by dsimp only; omega)).trans fr0
      replace kr1 := (hb.cell (p := ⟨w.heap.size, 1, none⟩) (by dsimp only; omega)).trans kr1
      replace fr1 := (hb.frozen (p := ⟨w.heap.size, 1, none⟩) (by dsimp only; omega)).trans fr1
      replace kr2 := (hb.cell (p := ⟨w.heap.size, 2, none⟩) (by dsimp only; omega)).trans kr2
      replace fr2 := (hb.frozen (p := ⟨w.heap.size, 2, none⟩) (by dsimp only; omega)).trans fr2
      replace kp0 := (hb.cell (p := ⟨w1.heap.size, 0, none⟩) (by dsimp only; omega)).trans kp0
      replace fp0 := (hb.frozen (p := ⟨w1.heap.size, 0, none⟩) (by dsimp only; omega)).trans fp0
      replace kp1 := (hb.cell (p := ⟨w1.heap.size, 1, none⟩) (by dsimp only; omega)).trans kp1
      replace fp1 := (hb.frozen (p := ⟨w1.heap.size, 1, none⟩) (by dsimp only; omega)).trans fp1
      replace kp2 := (hb.cell (p := ⟨w1.heap.size, 2, none⟩) (by dsimp only; omega)).trans kp2
      replace fp2 := (hb.frozen (p := ⟨w1.heap.size, 2, none⟩) (by dsimp only; omega)).trans fp2
      replace zr := Nat.lt_of_lt_of_le zr hb.size
      replace HB := hide (bl_trans HB.out hb)
      clear hb
      have O1 := hide ho1.seg
      have O2 := hide ho2.seg
      clear ho1 ho2
      have yw6 : w5.heap.size + 1 ≤ (w5.alloc (Obj.cells #[Value.bool (sgn X), Value.slice a1 (lms X).length c1, Value.bool (sgn Y), Value.slice a2 (lms Y).length c2] 42)).heap.size := by simp only [World.size_alloc]; omega
      have kd0 : (w5.alloc (Obj.cells #[Value.bool (sgn X), Value.slice a1 (lms X).length c1, Value.bool (sgn Y), Value.slice a2 (lms Y).length c2] 42)).cell? ⟨w5.heap.size, 0, none⟩ = some (Value.bool (sgn X)) := by go_simp
      have kd1 : (w5.alloc (Obj.cells #[Value.bool (sgn X), Value.slice a1 (lms X).length c1, Value.bool (sgn Y), Value.slice a2 (lms Y).length c2] 42)).cell? ⟨w5.heap.size, 1, none⟩ = some (Value.slice a1 (lms X).length c1) := by go_simp
      have kd2 : (w5.alloc (Obj.cells #[Value.bool (sgn X), Value.slice a1 (lms X).length c1, Value.bool (sgn Y), Value.slice a2 (lms Y).length c2] 42)).cell? ⟨w5.heap.size, 2, none⟩ = some (Value.bool (sgn Y)) := by go_simp
      have kd3 : (w5.alloc (Obj.cells #[Value.bool (sgn X), Value.slice a1 (lms X).length c1, Value.bool (sgn Y), Value.slice a2 (lms Y).length c2] 42)).cell? ⟨w5.heap.size, 3, none⟩ = some (Value.slice a2 (lms Y).length c2) := by go_simp
      have hbn := (bl_alloc (bl_refl w5) (Obj.cells #[Value.bool (sgn X), Value.slice a1 (lms X).length c1, Value.bool (sgn Y), Value.slice a2 (lms Y).length c2] 42))
      replace kr0 := (hbn.cell (p := ⟨w.heap.size, 0, none⟩) (by dsimp only; omega)).trans kr0
      replace fr0 := (hbn.frozen (p := ⟨w.heap.size, 0, none⟩) (by dsimp only; omega)).trans fr0
      replace kr1 := (hbn.cell (p := ⟨w.heap.size, 1, none⟩) (by dsimp only; omega)).trans kr1
      replace fr1 := (hbn.frozen (p := ⟨w.heap.size, 1, none⟩) (by dsimp only; omega)).trans fr1
      replace kr2 := (hbn.cell (p := ⟨w.heap.size, 2, none⟩) (by dsimp only; omega)).trans kr2
      replace fr2 := (hbn.frozen (p := ⟨w.heap.size, 2, none⟩) (by dsimp only; omega)).trans fr2
      replace kp0 := (hbn.cell (p := ⟨w1.heap.size, 0, none⟩) (by dsimp only; omega)).trans kp0
      replace fp0 := (hbn.frozen (p := ⟨w1.heap.size, 0, none⟩) (by dsimp only; omega)).trans fp0
      replace kp1 := (hbn.cell (p := ⟨w1.heap.size, 1, none⟩) (by dsimp only; omega)).trans kp1
      replace fp1 := (hbn.frozen (p := ⟨w1.heap.size, 1, none⟩) (by dsimp only; omega)).trans fp1
      replace kp2 := (hbn.cell (p := ⟨w1.heap.size, 2, none⟩) (by dsimp only; omega)).trans kp2
      replace fp2 := (hbn.frozen (p := ⟨w1.heap.size, 2, none⟩) (by dsimp only; omega)).trans fp2
      replace O1 := hide (O1.out.below hbn)
      replace O2 := hide (O2.out.below hbn)
      replace zr := Nat.lt_of_lt_of_le zr hbn.size
      replace HB := hide (bl_trans HB.out hbn)
      clear hbn
      go_wp2_with fail
      generalize (w5.alloc (Obj.cells #[Value.bool (sgn X), Value.slice a1 (lms X).length c1, Value.bool (sgn Y), Value.slice a2 (lms Y).length c2] 42)) = w6 at *
      refine (toIntS _ (sgn X) (lms X) _ ⟨a1, c1, rfl, O1.out⟩).mono ?_
      rw [HF10.out]
      rintro e w7 ⟨rfl, hb⟩
      have yw7 := hb.size
      replace kr0 := (hb.cell (p := ⟨w.heap.size, 0, none⟩) (by dsimp only; omega)).trans kr0
      replace fr0 := (hb.frozen (p := ⟨w.heap.size, 0, none⟩) (by dsimp only; omega)).trans fr0
      replace kr1 := (hb.cell (p := ⟨w.heap.size, 1, none⟩) (by dsimp only; omega)).trans kr1
      replace fr1 := (hb.frozen (p := ⟨w.heap.size, 1, none⟩) (by dsimp only; omega)).trans fr1
      replace kr2 := (hb.cell (p := ⟨w.heap.size, 2, none⟩) (by dsimp only; omega)).trans kr2
      replace fr2 := (hb.frozen (p := ⟨w.heap.size, 2, none⟩) (by dsimp only; omega)).trans fr2
      replace kp0 := (hb.cell (p := ⟨w1.heap.size, 0, none⟩) (by dsimp only; omega)).trans kp0
      replace fp0 := (hb.frozen (p := ⟨w1.heap.size, 0, none⟩) (by dsimp only; omega)).trans fp0
      replace kp1 := (hb.cell (p := ⟨w1.heap.size, 1, none⟩) (by dsimp only; omega)).trans kp1
      replace fp1 := (hb.frozen (p := ⟨w1.heap.size, 1, none⟩) (by dsimp only; omega)).trans fp1
      replace kp2 := (hb.cell (p := ⟨w1.heap.size, 2, none⟩) (by dsimp only; omega)).trans kp2
      replace fp2 := (hb.frozen (p := ⟨w1.heap.size, 2, none⟩) (by dsimp only; omega)).trans fp2
      replace kd0 := (hb.cell (p := ⟨w5.heap.size, 0, none⟩) (by dsimp only; omega)).trans kd0
      replace kd1 := (hb.cell (p := ⟨w5.heap.size, 1, none⟩) (by dsimp only; omega)).trans kd1
      replace kd2 := (hb.cell (p := ⟨w5.heap.size, 2, none⟩) (by dsimp only; omega)).trans kd2
      replace kd3 := (hb.cell (p := ⟨w5.heap.size, 3, none⟩) (by dsimp only; omega)).trans kd3
      replace O1 := hide (O1.out.below hb)
      replace O2 := hide (O2.out.below hb)
      replace zr := Nat.lt_of_lt_of_le zr hb.size
      replace HB := hide (bl_trans HB.out hb)
      clear hb
      go_wp2_with fail
      refine (toIntS _ (sgn Y) (lms Y) _ ⟨a2, c2, rfl, O2.out⟩).mono ?_
      rw [HF20.out]
      rintro e w8 ⟨rfl, hb⟩
      have yw8 := hb.size
      replace kr0 := (hb.cell (p := ⟨w.heap.size, 0, none⟩) (by dsimp only; omega)).trans kr0
      replace fr0 := (hb.frozen (p := ⟨w.heap.size, 0, none⟩) (by dsimp only; omega)).trans fr0
      replace kr1 := (hb.cell (p := ⟨w.heap.size, 1, none⟩) (by dsimp only; omega)).trans kr1
      replace fr1 := (hb.frozen (p := ⟨w.heap.size, 1, none⟩) (by dsimp only; omega)).trans fr1
      replace kr2 := (hb.cell (p := ⟨w.heap.size, 2, none⟩) (by dsimp only; omega)).trans kr2
      replace fr2 := (hb.frozen (p := ⟨w.heap.size, 2, none⟩) (by dsimp only; omega)).trans fr2
      replace kp0 := (hb.cell (p := ⟨w1.heap.size, 0, none⟩) (by dsimp only; omega)).trans kp0
      replace fp0 := (hb.frozen (p := ⟨w1.heap.size, 0, none⟩) (by dsimp only; omega)).trans fp0
      replace kp1 := (hb.cell (p := ⟨w1.heap.size, 1, none⟩) (by dsimp only; omega)).trans kp1
      replace fp1 := (hb.frozen (p := ⟨w1.heap.size, 1, none⟩) (by dsimp only; omega)).trans fp1
      replace kp2 := (hb.cell (p := ⟨w1.heap.size, 2, none⟩) (by dsimp only; omega)).trans kp2
      replace fp2 := (hb.frozen (p := ⟨w1.heap.size, 2, none⟩) (by dsimp only; omega)).trans fp2
      replace kd0 := (hb.cell (p := ⟨w5.heap.size, 0, none⟩) (by dsimp only; omega)).trans kd0
      replace kd1 := (hb.cell (p := ⟨w5.heap.size, 1, none⟩) (by dsimp only; omega)).trans kd1
      replace kd2 := (hb.cell (p := ⟨w5.heap.size, 2, none⟩) (by dsimp only; omega)).trans kd2
      replace kd3 := (hb.cell (p := ⟨w5.heap.size, 3, none⟩) (by dsimp only; omega)).trans kd3
      replace O1 := hide (O1.out.below hb)
      replace O2 := hide (O2.out.below hb)
      replace zr := Nat.lt_of_lt_of_le zr hb.size
      replace HB := hide (bl_trans HB.out hb)
      clear hb
      clear O1 O2
      go_wp2
      refine bodyPost_ret (v := (.tuple #[Value.agg #[Value.string ⟨#[]⟩, Value.int .i64 0, Value.int .i64 0], .bool false])) (by simp [results, Tryz.results10, go_sem, kr0, kr1, kr2]) rfl ?_
      exact ⟨rfl, ((HB.out.setCell (p := ⟨w.heap.size, 0, none⟩) (Nat.le_refl _) _).setCell (p := ⟨w.heap.size, 1, none⟩) (Nat.le_refl _) _).setCell (p := ⟨w.heap.size, 2, none⟩) (Nat.le_refl _) _⟩

set_option maxHeartbeats 4000000 in
set_option maxRecDepth 20000 in
theorem rpsWall (s N B : ByteArray) (P Q : Int) (at' : Nat) (w : World) (hs : s.size ≤ 1048576) (hN : N.size ≤ 140737488355328) (hB : B.size ≤ 4611686018427387904) (ha : at' ≤ s.size) (hne : ∀ k (h : k < s.size), k < at' → ((s[k].toNat : Int) != 94) = true) (hN' : s.extract 0 at' = N) (hal : at' < s.size) (h94 : ((s[at'].toNat : Int) != 94) = false) (hB' : s.extract (at' + 1) s.size = B) (hl : at' ≤ 12) (hl2 : s.size ≤ 30) (X Y : Int) (hX : RX B = X) (hY : RY B = Y) (hf1 : fitsI (sgn X) (lms X) = true) (hf2 : fitsI (sgn Y) (lms Y) = true) (hP : toIntR (sgn X) (lms X) = P) (hQ : toIntR (sgn Y) (lms Y) = Q)  :
    Calls Tryz.prog 10 #[.string s] w fun e w' => (partB N P Q = true ∧ (ptxt N P Q).data.toList = s.data.toList ∧ e = .returned (.tuple #[Value.agg #[Value.string N, Value.int .i64 P, Value.int .i64 Q], .bool true]) ∧ Below w.heap.size w w') ∨ ((partB N P Q = false ∨ (ptxt N P Q).data.toList ≠ s.data.toList) ∧ e = .returned (.tuple #[Value.agg #[Value.string ⟨#[]⟩, Value.int .i64 0, Value.int .i64 0], .bool false]) ∧ Below w.heap.size w w') := by
  obtain ⟨tx, htx⟩ : ∃ tx, ptxt N P Q = tx := ⟨_, rfl⟩
  have HTX := hide htx
  clear htx
  have HNE := hide hne
  clear hne
  subst hN'
  subst hB'
  have hali : (at' : Int) < (s.size : Int) := by omega
  have hli : ¬ (12 : Int) < (at' : Int) := by omega
  have hli2 : ¬ (30 : Int) < (s.size : Int) := by omega
  have HX0 := hide hX
  have HY0 := hide hY
  have HF10 := hide hf1
  have HF20 := hide hf2
  have HP0 := hide hP
  have HQ0 := hide hQ
  clear hX hY hf1 hf2 hP hQ
  have kr0 : (w.alloc (Obj.cells #[Value.string ⟨#[]⟩, Value.int .i64 0, Value.int .i64 0] 26)).cell? ⟨w.heap.size, 0, none⟩ = some (Value.string ⟨#[]⟩) := by go_simp
  have fr0 : (w.alloc (Obj.cells #[Value.string ⟨#[]⟩, Value.int .i64 0, Value.int .i64 0] 26)).frozen? ⟨w.heap.size, 0, none⟩ = false := by go_simp
  have kr1 : (w.alloc (Obj.cells #[Value.string ⟨#[]⟩, Value.int .i64 0, Value.int .i64 0] 26)).cell? ⟨w.heap.size, 1, none⟩ = some (Value.int .i64 0) := by go_simp
  have fr1 : (w.alloc (Obj.cells #[Value.string ⟨#[]⟩, Value.int .i64 0, Value.int .i64 0] 26)).frozen? ⟨w.heap.size, 1, none⟩ = false := by go_simp
  have kr2 : (w.alloc (Obj.cells #[Value.string ⟨#[]⟩, Value.int .i64 0, Value.int .i64 0] 26)).cell? ⟨w.heap.size, 2, none⟩ = some (Value.int .i64 0) := by go_simp
  have fr2 : (w.alloc (Obj.cells #[Value.string ⟨#[]⟩, Value.int .i64 0, Value.int .i64 0] 26)).frozen? ⟨w.heap.size, 2, none⟩ = false := by go_simp
  have zr : w.heap.size < (w.alloc (Obj.cells #[Value.string ⟨#[]⟩, Value.int .i64 0, Value.int .i64 0] 26)).heap.size := by simp only [World.size_alloc]; omega
  have HB := hide (bl_alloc (bl_refl w) (Obj.cells #[Value.string ⟨#[]⟩, Value.int .i64 0, Value.int .i64 0] 26))
  go_enter Tryz.func10, Tryz.ntmps10
  go_wp2
  generalize (w.alloc (Obj.cells #[Value.string ⟨#[]⟩, Value.int .i64 0, Value.int .i64 0] 26)) = w1 at *
  have z0 := zr
  go_loopw [4] (fun i wr => ∃ k : Nat, k ≤ at' ∧ i = .int .i64 k ∧ wr = w1) (fun i _ => at' - (intOf i).toNat)
  case atStart => exact ⟨0, Nat.zero_le _, rfl, rfl⟩
  case round =>
    obtain ⟨k, hk, rfl, hw⟩ := hrel
    have hw2 := hw.symm
    clear hw
    subst hw2
    by_cases hlt : k < at'
    · skip
      have hls : k < s.size := by omega
      have hlt' : (k : Int) < (s.size : Int) := by omega
      have hn := HNE.out k hls hlt
      have hk0 : (0 : Int) ≤ (k : Int) := by omega
      go_wp2
      exact ⟨⟨k + 1, by omega, by go_num, by first | rfl | trivial⟩, by simp [intOf]; omega⟩
    · skip
      obtain rfl : k = at' := by omega
      clear hlt
      have hk0 : (0 : Int) ≤ (k : Int) := by omega
      have hks : (k : Int) ≤ (s.size : Int) := by omega
      go_wp2_with fail
      have yw2 : w1.heap.size + 1 ≤ (w1.alloc (Obj.cells #[Value.string (s.extract 0 k), Value.int .i64 1, Value.int .i64 1] 26)).heap.size := by simp only [World.size_alloc]; omega
      have kp0 : (w1.alloc (Obj.cells #[Value.string (s.extract 0 k), Value.int .i64 1, Value.int .i64 1] 26)).cell? ⟨w1.heap.size, 0, none⟩ = some (Value.string (s.extract 0 k)) := by go_simp
      have fp0 : (w1.alloc (Obj.cells #[Value.string (s.extract 0 k), Value.int .i64 1, Value.int .i64 1] 26)).frozen? ⟨w1.heap.size, 0, none⟩ = false := by go_simp
      have kp1 : (w1.alloc (Obj.cells #[Value.string (s.extract 0 k), Value.int .i64 1, Value.int .i64 1] 26)).cell? ⟨w1.heap.size, 1, none⟩ = some (Value.int .i64 1) := by go_simp
      have fp1 : (w1.alloc (Obj.cells #[Value.string (s.extract 0 k), Value.int .i64 1, Value.int .i64 1] 26)).frozen? ⟨w1.heap.size, 1, none⟩ = false := by go_simp
      have kp2 : (w1.alloc (Obj.cells #[Value.string (s.extract 0 k), Value.int .i64 1, Value.int .i64 1] 26)).cell? ⟨w1.heap.size, 2, none⟩ = some (Value.int .i64 1) := by go_simp
      have fp2 : (w1.alloc (Obj.cells #[Value.string (s.extract 0 k), Value.int .i64 1, Value.int .i64 1] 26)).frozen? ⟨w1.heap.size, 2, none⟩ = false := by go_simp
      have hbn := (bl_alloc (bl_refl w1) (Obj.cells #[Value.string (s.extract 0 k), Value.int .i64 1, Value.int .i64 1] 26))
      replace kr0 := (hbn.cell (p := ⟨w.heap.size, 0, none⟩) (by dsimp only; omega)).trans kr0
      replace fr0 := (hbn.frozen (p := ⟨w.heap.size, 0, none⟩) (by dsimp only; omega)).trans fr0
      replace kr1 := (hbn.cell (p := ⟨w.heap.size, 1, none⟩) (by dsimp only; omega)).trans kr1
      replace fr1 := (hbn.frozen (p := ⟨w.heap.size, 1, none⟩) (by dsimp only; omega)).trans fr1
      replace kr2 := (hbn.cell (p := ⟨w.heap.size, 2, none⟩) (by dsimp only; omega)).trans kr2
      replace fr2 := (hbn.frozen (p := ⟨w.heap.size, 2, none⟩) (by dsimp only; omega)).trans fr2
      replace zr := Nat.lt_of_lt_of_le zr hbn.size
      replace HB := hide (bl_trans HB.out hbn)
      clear hbn
      generalize (w1.alloc (Obj.cells #[Value.string (s.extract 0 k), Value.int .i64 1, Value.int .i64 1] 26)) = w2 at *
      refine (readRatW (s.extract (k + 1) s.size) _ hB).mono ?_
      rw [HX0.out, HY0.out]
      generalize RF (s.extract (k + 1) s.size) = rf
      rintro e w5 ⟨a1, c1, a2, c2, rfl, ho1, ho2, hap, hb⟩
      clear hap
      have yw5 := hb.size
      replace kr0 := (hb.cell (p := ⟨w.heap.size, 0, none⟩) (by dsimp only; omega)).trans kr0
      replace fr0 := (hb.frozen (p := ⟨w.heap.size, 0, none⟩) (by dsimp only; omega)).trans fr0
      replace kr1 := (hb.cell (p := ⟨w.heap.size, 1, none⟩) (by dsimp only; omega)).trans kr1
      replace fr1 := (hb.frozen (p := ⟨w.heap.size, 1, none⟩) (by dsimp only; omega)).trans fr1
      replace kr2 := (hb.cell (p := ⟨w.heap.size, 2, none⟩) (by dsimp only; omega)).trans kr2
      replace fr2 := (hb.frozen (p := ⟨w.heap.size, 2, none⟩) (by dsimp only; omega)).trans fr2
      replace kp0 := (hb.cell (p := ⟨w1.heap.size, 0, none⟩) (by dsimp only; omega)).trans kp0
      replace fp0 := (hb.frozen (p := ⟨w1.heap.size, 0, none⟩) (by dsimp only; omega)).trans fp0
      replace kp1 := (hb.cell (p := ⟨w1.heap.size, 1, none⟩) (by dsimp only; omega)).trans kp1
      replace fp1 := (hb.frozen (p := ⟨w1.heap.size, 1, none⟩) (by dsimp only; omega)).trans fp1
      replace kp2 := (hb.cell (p := ⟨w1.heap.size, 2, none⟩) (by dsimp only; omega)).trans kp2
      replace fp2 := (hb.frozen (p := ⟨w1.heap.size, 2, none⟩) (by dsimp only; omega)).trans fp2
      replace zr := Nat.lt_of_lt_of_le zr hb.size
      replace HB := hide (bl_trans HB.out hb)
      clear hb
      have O1 := hide ho1.seg
      have O2 := hide ho2.seg
      clear ho1 ho2
      have yw6 : w5.heap.size + 1 ≤ (w5.alloc (Obj.cells #[Value.bool (sgn X), Value.slice a1 (lms X).length c1, Value.bool (sgn Y), Value.slice a2 (lms Y).length c2] 42)).heap.size := by simp only [World.size_alloc]; omega
      have kd0 : (w5.alloc (Obj.cells #[Value.bool (sgn X), Value.slice a1 (lms X).length c1, Value.bool (sgn Y), Value.slice a2 (lms Y).length c2] 42)).cell? ⟨w5.heap.size, 0, none⟩ = some (Value.bool (sgn X)) := by go_simp
      have kd1 : (w5.alloc (Obj.cells #[Value.bool (sgn X), Value.slice a1 (lms X).length c1, Value.bool (sgn Y), Value.slice a2 (lms Y).length c2] 42)).cell? ⟨w5.heap.size, 1, none⟩ = some (Value.slice a1 (lms X).length c1) := by go_simp
      have kd2 : (w5.alloc (Obj.cells #[Value.bool (sgn X), Value.slice a1 (lms X).length c1, Value.bool (sgn Y), Value.slice a2 (lms Y).length c2] 42)).cell? ⟨w5.heap.size, 2, none⟩ = some (Value.bool (sgn Y)) := by go_simp
      have kd3 : (w5.alloc (Obj.cells #[Value.bool (sgn X), Value.slice a1 (lms X).length c1, Value.bool (sgn Y), Value.slice a2 (lms Y).length c2] 42)).cell? ⟨w5.heap.size, 3, none⟩ = some (Value.slice a2 (lms Y).length c2) := by go_simp
      have hbn := (bl_alloc (bl_refl w5) (Obj.cells #[Value.bool (sgn X), Value.slice a1 (lms X).length c1, Value.bool (sgn Y), Value.slice a2 (lms Y).length c2] 42))
      replace kr0 := (hbn.cell (p := ⟨w.heap.size, 0, none⟩) (by dsimp only; omega)).trans kr0
      replace fr0 := (hbn.frozen (p := ⟨w.heap.size, 0, none⟩) (by dsimp only; omega)).trans fr0
      replace kr1 := (hbn.cell (p := ⟨w.heap.size, 1, none⟩) (by dsimp only; omega)).trans kr1
      replace fr1 := (hbn.frozen (p := ⟨w.heap.size, 1, none⟩) (by dsimp only; omega)).trans fr1
      replace kr2 := (hbn.cell (p := ⟨w.heap.size, 2, none⟩) (by dsimp only; omega)).trans kr2
      replace fr2 := (hbn.frozen (p := ⟨w.heap.size, 2, none⟩) (by dsimp only; omega)).trans fr2
      replace kp0 := (hbn.cell (p := ⟨w1.heap.size, 0, none⟩) (by dsimp only; omega)).trans kp0
      replace fp0 := (hbn.frozen (p := ⟨w1.heap.size, 0, none⟩) (by dsimp only; omega)).trans fp0
      replace kp1 := (hbn.cell (p := ⟨w1.heap.size, 1, none⟩) (by dsimp only; omega)).trans kp1
      replace fp1 := (hbn.frozen (p := ⟨w1.heap.size, 1, none⟩) (by dsimp only; omega)).trans fp1
      replace kp2 := (hbn.cell (p := ⟨w1.heap.size, 2, none⟩) (by dsimp only; omega)).trans kp2
      replace fp2 := (hbn.frozen (p := ⟨w1.heap.size, 2, none⟩) (by dsimp only; omega)).trans fp2
      replace O1 := hide (O1.out.below hbn)
      replace O2 := hide (O2.out.below hbn)
      replace zr := Nat.lt_of_lt_of_le zr hbn.size
      replace HB := hide (bl_trans HB.out hbn)
      clear hbn
      go_wp2_with fail
      generalize (w5.alloc (Obj.cells #[Value.bool (sgn X), Value.slice a1 (lms X).length c1, Value.bool (sgn Y), Value.slice a2 (lms Y).length c2] 42)) = w6 at *
      refine (toIntS _ (sgn X) (lms X) _ ⟨a1, c1, rfl, O1.out⟩).mono ?_
      rw [HF10.out, HP0.out]
      rintro e w7 ⟨rfl, hb⟩
      have yw7 := hb.size
      replace kr0 := (hb.cell (p := ⟨w.heap.size, 0, none⟩) (by dsimp only; omega)).trans kr0
      replace fr0 := (hb.frozen (p := ⟨w.heap.size, 0, none⟩) (by dsimp only; omega)).trans fr0
      replace kr1 := (hb.cell (p := ⟨w.heap.size, 1, none⟩) (by dsimp only; omega)).trans kr1
      replace fr1 := (hb.frozen (p := ⟨w.heap.size, 1, none⟩) (by dsimp only; omega)).trans fr1
      replace kr2 := (hb.cell (p := ⟨w.heap.size, 2, none⟩) (by dsimp only; omega)).trans kr2
      replace fr2 := (hb.frozen (p := ⟨w.heap.size, 2, none⟩) (by dsimp only; omega)).trans fr2
      replace kp0 := (hb.cell (p := ⟨w1.heap.size, 0, none⟩) (by dsimp only; omega)).trans kp0
      replace fp0 := (hb.frozen (p := ⟨w1.heap.size, 0, none⟩) (by dsimp only; omega)).trans fp0
      replace kp1 := (hb.cell (p := ⟨w1.heap.size, 1, none⟩) (by dsimp only; omega)).trans kp1
      replace fp1 := (hb.frozen (p := ⟨w1.heap.size, 1, none⟩) (by dsimp only; omega)).trans fp1
      replace kp2 := (hb.cell (p := ⟨w1.heap.size, 2, none⟩) (by dsimp only; omega)).trans kp2
      replace fp2 := (hb.frozen (p := ⟨w1.heap.size, 2, none⟩) (by dsimp only; omega)).trans fp2
      replace kd0 := (hb.cell (p := ⟨w5.heap.size, 0, none⟩) (by dsimp only; omega)).trans kd0
      replace kd1 := (hb.cell (p := ⟨w5.heap.size, 1, none⟩) (by dsimp only; omega)).trans kd1
      replace kd2 := (hb.cell (p := ⟨w5.heap.size, 2, none⟩) (by dsimp only; omega)).trans kd2
      replace kd3 := (hb.cell (p := ⟨w5.heap.size, 3, none⟩) (by dsimp only; omega)).trans kd3
      replace O1 := hide (O1.out.below hb)
      replace O2 := hide (O2.out.below hb)
      replace zr := Nat.lt_of_lt_of_le zr hb.size
      replace HB := hide (bl_trans HB.out hb)
      clear hb
      go_wp2_with fail
      refine (toIntS _ (sgn Y) (lms Y) _ ⟨a2, c2, rfl, O2.out⟩).mono ?_
      rw [HF20.out, HQ0.out]
      rintro e w8 ⟨rfl, hb⟩
      have yw8 := hb.size
      replace kr0 := (hb.cell (p := ⟨w.heap.size, 0, none⟩) (by dsimp only; omega)).trans kr0
      replace fr0 := (hb.frozen (p := ⟨w.heap.size, 0, none⟩) (by dsimp only; omega)).trans fr0
      replace kr1 := (hb.cell (p := ⟨w.heap.size, 1, none⟩) (by dsimp only; omega)).trans kr1
      replace fr1 := (hb.frozen (p := ⟨w.heap.size, 1, none⟩) (by dsimp only; omega)).trans fr1
      replace kr2 := (hb.cell (p := ⟨w.heap.size, 2, none⟩) (by dsimp only; omega)).trans kr2
      replace fr2 := (hb.frozen (p := ⟨w.heap.size, 2, none⟩) (by dsimp only; omega)).trans fr2
      replace kp0 := (hb.cell (p := ⟨w1.heap.size, 0, none⟩) (by dsimp only; omega)).trans kp0
      replace fp0 := (hb.frozen (p := ⟨w1.heap.size, 0, none⟩) (by dsimp only; omega)).trans fp0
      replace kp1 := (hb.cell (p := ⟨w1.heap.size, 1, none⟩) (by dsimp only; omega)).trans kp1
      replace fp1 := (hb.frozen (p := ⟨w1.heap.size, 1, none⟩) (by dsimp only; omega)).trans fp1
      replace kp2 := (hb.cell (p := ⟨w1.heap.size, 2, none⟩) (by dsimp only; omega)).trans kp2
      replace fp2 := (hb.frozen (p := ⟨w1.heap.size, 2, none⟩) (by dsimp only; omega)).trans fp2
      replace kd0 := (hb.cell (p := ⟨w5.heap.size, 0, none⟩) (by dsimp only; omega)).trans kd0
      replace kd1 := (hb.cell (p := ⟨w5.heap.size, 1, none⟩) (by dsimp only; omega)).trans kd1
      replace kd2 := (hb.cell (p := ⟨w5.heap.size, 2, none⟩) (by dsimp only; omega)).trans kd2
      replace kd3 := (hb.cell (p := ⟨w5.heap.size, 3, none⟩) (by dsimp only; omega)).trans kd3
      replace O1 := hide (O1.out.below hb)
      replace O2 := hide (O2.out.below hb)
      replace zr := Nat.lt_of_lt_of_le zr hb.size
      replace HB := hide (bl_trans HB.out hb)
      clear hb
      clear O1 O2
      go_wp2_with fail
      have hbk : w.heap.size < w1.heap.size := by omega
      have mr0 : ((w8.setCell ⟨w1.heap.size, 1, none⟩ (Value.int .i64 P)).setCell ⟨w1.heap.size, 2, none⟩ (Value.int .i64 Q)).cell? ⟨w.heap.size, 0, none⟩ = w8.cell? ⟨w.heap.size, 0, none⟩ := World.cell?_of_block ((Below.heap_setCell _ ⟨w1.heap.size, 2, none⟩ _ w.heap.size (by dsimp only; omega)).trans (Below.heap_setCell _ ⟨w1.heap.size, 1, none⟩ _ w.heap.size (by dsimp only; omega)))
      replace kr0 := mr0.trans kr0
      clear mr0
      have mr0 : ((w8.setCell ⟨w1.heap.size, 1, none⟩ (Value.int .i64 P)).setCell ⟨w1.heap.size, 2, none⟩ (Value.int .i64 Q)).frozen? ⟨w.heap.size, 0, none⟩ = w8.frozen? ⟨w.heap.size, 0, none⟩ := World.frozen?_of_block ((Below.heap_setCell _ ⟨w1.heap.size, 2, none⟩ _ w.heap.size (by dsimp only; omega)).trans (Below.heap_setCell _ ⟨w1.heap.size, 1, none⟩ _ w.heap.size (by dsimp only; omega)))
      replace fr0 := mr0.trans fr0
      clear mr0
      have mr1 : ((w8.setCell ⟨w1.heap.size, 1, none⟩ (Value.int .i64 P)).setCell ⟨w1.heap.size, 2, none⟩ (Value.int .i64 Q)).cell? ⟨w.heap.size, 1, none⟩ = w8.cell? ⟨w.heap.size, 1, none⟩ := World.cell?_of_block ((Below.heap_setCell _ ⟨w1.heap.size, 2, none⟩ _ w.heap.size (by dsimp only; omega)).trans (Below.heap_setCell _ ⟨w1.heap.size, 1, none⟩ _ w.heap.size (by dsimp only; omega)))
      replace kr1 := mr1.trans kr1
      clear mr1
      have mr1 : ((w8.setCell ⟨w1.heap.size, 1, none⟩ (Value.int .i64 P)).setCell ⟨w1.heap.size, 2, none⟩ (Value.int .i64 Q)).frozen? ⟨w.heap.size, 1, none⟩ = w8.frozen? ⟨w.heap.size, 1, none⟩ := World.frozen?_of_block ((Below.heap_setCell _ ⟨w1.heap.size, 2, none⟩ _ w.heap.size (by dsimp only; omega)).trans (Below.heap_setCell _ ⟨w1.heap.size, 1, none⟩ _ w.heap.size (by dsimp only; omega)))
      replace fr1 := mr1.trans fr1
      clear mr1
      have mr2 : ((w8.setCell ⟨w1.heap.size, 1, none⟩ (Value.int .i64 P)).setCell ⟨w1.heap.size, 2, none⟩ (Value.int .i64 Q)).cell? ⟨w.heap.size, 2, none⟩ = w8.cell? ⟨w.heap.size, 2, none⟩ := World.cell?_of_block ((Below.heap_setCell _ ⟨w1.heap.size, 2, none⟩ _ w.heap.size (by dsimp only; omega)).trans (Below.heap_setCell _ ⟨w1.heap.size, 1, none⟩ _ w.heap.size (by dsimp only; omega)))
      replace kr2 := mr2.trans kr2
      clear mr2
      have mr2 : ((w8.setCell ⟨w1.heap.size, 1, none⟩ (Value.int .i64 P)).setCell ⟨w1.heap.size, 2, none⟩ (Value.int .i64 Q)).frozen? ⟨w.heap.size, 2, none⟩ = w8.frozen? ⟨w.heap.size, 2, none⟩ := World.frozen?_of_block ((Below.heap_setCell _ ⟨w1.heap.size, 2, none⟩ _ w.heap.size (by dsimp only; omega)).trans (Below.heap_setCell _ ⟨w1.heap.size, 1, none⟩ _ w.heap.size (by dsimp only; omega)))
      replace fr2 := mr2.trans fr2
      clear mr2
      have md0 : ((w8.setCell ⟨w1.heap.size, 1, none⟩ (Value.int .i64 P)).setCell ⟨w1.heap.size, 2, none⟩ (Value.int .i64 Q)).cell? ⟨w5.heap.size, 0, none⟩ = w8.cell? ⟨w5.heap.size, 0, none⟩ := World.cell?_of_block ((Below.heap_setCell _ ⟨w1.heap.size, 2, none⟩ _ w5.heap.size (by dsimp only; omega)).trans (Below.heap_setCell _ ⟨w1.heap.size, 1, none⟩ _ w5.heap.size (by dsimp only; omega)))
      replace kd0 := md0.trans kd0
      clear md0
      have md1 : ((w8.setCell ⟨w1.heap.size, 1, none⟩ (Value.int .i64 P)).setCell ⟨w1.heap.size, 2, none⟩ (Value.int .i64 Q)).cell? ⟨w5.heap.size, 1, none⟩ = w8.cell? ⟨w5.heap.size, 1, none⟩ := World.cell?_of_block ((Below.heap_setCell _ ⟨w1.heap.size, 2, none⟩ _ w5.heap.size (by dsimp only; omega)).trans (Below.heap_setCell _ ⟨w1.heap.size, 1, none⟩ _ w5.heap.size (by dsimp only; omega)))
      replace kd1 := md1.trans kd1
      clear md1
      have md2 : ((w8.setCell ⟨w1.heap.size, 1, none⟩ (Value.int .i64 P)).setCell ⟨w1.heap.size, 2, none⟩ (Value.int .i64 Q)).cell? ⟨w5.heap.size, 2, none⟩ = w8.cell? ⟨w5.heap.size, 2, none⟩ := World.cell?_of_block ((Below.heap_setCell _ ⟨w1.heap.size, 2, none⟩ _ w5.heap.size (by dsimp only; omega)).trans (Below.heap_setCell _ ⟨w1.heap.size, 1, none⟩ _ w5.heap.size (by dsimp only; omega)))
      replace kd2 := md2.trans kd2
      clear md2
      have md3 : ((w8.setCell ⟨w1.heap.size, 1, none⟩ (Value.int .i64 P)).setCell ⟨w1.heap.size, 2, none⟩ (Value.int .i64 Q)).cell? ⟨w5.heap.size, 3, none⟩ = w8.cell? ⟨w5.heap.size, 3, none⟩ := World.cell?_of_block ((Below.heap_setCell _ ⟨w1.heap.size, 2, none⟩ _ w5.heap.size (by dsimp only; omega)).trans (Below.heap_setCell _ ⟨w1.heap.size, 1, none⟩ _ w5.heap.size (by dsimp only; omega)))
      replace kd3 := md3.trans kd3
      clear md3
      have qp0 : ((w8.setCell ⟨w1.heap.size, 1, none⟩ (Value.int .i64 P)).setCell ⟨w1.heap.size, 2, none⟩ (Value.int .i64 Q)).cell? ⟨w1.heap.size, 0, none⟩ = some (Value.string (s.extract 0 k)) := by go_simp
      have qp1 : ((w8.setCell ⟨w1.heap.size, 1, none⟩ (Value.int .i64 P)).setCell ⟨w1.heap.size, 2, none⟩ (Value.int .i64 Q)).cell? ⟨w1.heap.size, 1, none⟩ = some (Value.int .i64 P) := by go_simp
      have qp2 : ((w8.setCell ⟨w1.heap.size, 1, none⟩ (Value.int .i64 P)).setCell ⟨w1.heap.size, 2, none⟩ (Value.int .i64 Q)).cell? ⟨w1.heap.size, 2, none⟩ = some (Value.int .i64 Q) := by go_simp
      have ysz : ((w8.setCell ⟨w1.heap.size, 1, none⟩ (Value.int .i64 P)).setCell ⟨w1.heap.size, 2, none⟩ (Value.int .i64 Q)).heap.size = w8.heap.size := by simp
      replace HB := hide ((HB.out.setCell (p := ⟨w1.heap.size, 1, none⟩) (by dsimp only; omega) (Value.int .i64 P)).setCell (p := ⟨w1.heap.size, 2, none⟩) (by dsimp only; omega) (Value.int .i64 Q))
      clear kp0 kp1 kp2 fp0 fp1 fp2
      have kp0 := qp0
      clear qp0
      have kp1 := qp1
      clear qp1
      have kp2 := qp2
      clear qp2
      generalize ((w8.setCell ⟨w1.heap.size, 1, none⟩ (Value.int .i64 P)).setCell ⟨w1.heap.size, 2, none⟩ (Value.int .i64 Q)) = w9 at *
      replace zr : w.heap.size < w9.heap.size := by omega
      refine (partS (s.extract 0 k) P Q _ hN).mono ?_
      rintro e w10 ⟨rfl, hb⟩
      have yw10 := hb.size
      replace kr0 := (hb.cell (p := ⟨w.heap.size, 0, none⟩) (by dsimp only; omega)).trans kr0
      replace fr0 := (hb.frozen (p := ⟨w.heap.size, 0, none⟩) (by dsimp only; omega)).trans fr0
      replace kr1 := (hb.cell (p := ⟨w.heap.size, 1, none⟩) (by dsimp only; omega)).trans kr1
      replace fr1 := (hb.frozen (p := ⟨w.heap.size, 1, none⟩) (by dsimp only; omega)).trans fr1
      replace kr2 := (hb.cell (p := ⟨w.heap.size, 2, none⟩) (by dsimp only; omega)).trans kr2
      replace fr2 := (hb.frozen (p := ⟨w.heap.size, 2, none⟩) (by dsimp only; omega)).trans fr2
      replace kp0 := (hb.cell (p := ⟨w1.heap.size, 0, none⟩) (by dsimp only; omega)).trans kp0
      replace kp1 := (hb.cell (p := ⟨w1.heap.size, 1, none⟩) (by dsimp only; omega)).trans kp1
      replace kp2 := (hb.cell (p := ⟨w1.heap.size, 2, none⟩) (by dsimp only; omega)).trans kp2
      replace kd0 := (hb.cell (p := ⟨w5.heap.size, 0, none⟩) (by dsimp only; omega)).trans kd0
      replace kd1 := (hb.cell (p := ⟨w5.heap.size, 1, none⟩) (by dsimp only; omega)).trans kd1
      replace kd2 := (hb.cell (p := ⟨w5.heap.size, 2, none⟩) (by dsimp only; omega)).trans kd2
      replace kd3 := (hb.cell (p := ⟨w5.heap.size, 3, none⟩) (by dsimp only; omega)).trans kd3
      replace zr := Nat.lt_of_lt_of_le zr hb.size
      replace HB := hide (bl_trans HB.out hb)
      clear hb
      cases hk : partB (s.extract 0 k) P Q with
      | false =>
        have HK := hide hk
        clear hk
        go_wp2
        refine bodyPost_ret (v := (.tuple #[Value.agg #[Value.string ⟨#[]⟩, Value.int .i64 0, Value.int .i64 0], .bool false])) (by simp [results, Tryz.results10, go_sem, kr0, kr1, kr2]) rfl ?_
        exact .inr ⟨.inl HK.out, rfl, ((HB.out.setCell (p := ⟨w.heap.size, 0, none⟩) (Nat.le_refl _) _).setCell (p := ⟨w.heap.size, 1, none⟩) (Nat.le_refl _) _).setCell (p := ⟨w.heap.size, 2, none⟩) (Nat.le_refl _) _⟩
      | true =>
        have HK := hide hk
        clear hk
        go_wp2_with fail
        have HCT := hide (partTextS (s.extract 0 k) P Q w10 hN)
        rw [HTX.out] at HCT
        refine HCT.out.mono ?_
        rintro e w11 ⟨rfl, hb⟩
        clear HCT
        have yw11 := hb.size
        replace kr0 := (hb.cell (p := ⟨w.heap.size, 0, none⟩) (by dsimp only; omega)).trans kr0
        replace fr0 := (hb.frozen (p := ⟨w.heap.size, 0, none⟩) (by dsimp only; omega)).trans fr0
        replace kr1 := (hb.cell (p := ⟨w.heap.size, 1, none⟩) (by dsimp only; omega)).trans kr1
        replace fr1 := (hb.frozen (p := ⟨w.heap.size, 1, none⟩) (by dsimp only; omega)).trans fr1
        replace kr2 := (hb.cell (p := ⟨w.heap.size, 2, none⟩) (by dsimp only; omega)).trans kr2
        replace fr2 := (hb.frozen (p := ⟨w.heap.size, 2, none⟩) (by dsimp only; omega)).trans fr2
        replace kp0 := (hb.cell (p := ⟨w1.heap.size, 0, none⟩) (by dsimp only; omega)).trans kp0
        replace kp1 := (hb.cell (p := ⟨w1.heap.size, 1, none⟩) (by dsimp only; omega)).trans kp1
        replace kp2 := (hb.cell (p := ⟨w1.heap.size, 2, none⟩) (by dsimp only; omega)).trans kp2
        replace kd0 := (hb.cell (p := ⟨w5.heap.size, 0, none⟩) (by dsimp only; omega)).trans kd0
        replace kd1 := (hb.cell (p := ⟨w5.heap.size, 1, none⟩) (by dsimp only; omega)).trans kd1
        replace kd2 := (hb.cell (p := ⟨w5.heap.size, 2, none⟩) (by dsimp only; omega)).trans kd2
        replace kd3 := (hb.cell (p := ⟨w5.heap.size, 3, none⟩) (by dsimp only; omega)).trans kd3
        replace zr := Nat.lt_of_lt_of_le zr hb.size
        replace HB := hide (bl_trans HB.out hb)
        clear hb
        by_cases ht : tx.data.toList = s.data.toList
        · skip
          have hcmp : (tx.toList == s.toList) = true := by rw [ByteArray.toList_eq, ByteArray.toList_eq, beq_iff_eq]; exact ht
          have HT := hide ht
          clear ht
          go_wp2
          refine bodyPost_ret (v := (.tuple #[Value.agg #[Value.string (s.extract 0 k), Value.int .i64 P, Value.int .i64 Q], .bool true])) (by simp [results, Tryz.results10, go_sem, kr0, kr1, kr2]) rfl ?_
          exact .inl ⟨HK.out, by rw [HTX.out]; exact HT.out, rfl, ((HB.out.setCell (p := ⟨w.heap.size, 0, none⟩) (Nat.le_refl _) _).setCell (p := ⟨w.heap.size, 1, none⟩) (Nat.le_refl _) _).setCell (p := ⟨w.heap.size, 2, none⟩) (Nat.le_refl _) _⟩
        · skip
          have hcmp : (tx.toList == s.toList) = false := by rw [ByteArray.toList_eq, ByteArray.toList_eq, beq_eq_false_iff_ne]; exact ht
          have HT := hide ht
          clear ht
          go_wp2
          refine bodyPost_ret (v := (.tuple #[Value.agg #[Value.string ⟨#[]⟩, Value.int .i64 0, Value.int .i64 0], .bool false])) (by simp [results, Tryz.results10, go_sem, kr0, kr1, kr2]) rfl ?_
          exact .inr ⟨.inr (by rw [HTX.out]; exact HT.out), rfl, ((HB.out.setCell (p := ⟨w.heap.size, 0, none⟩) (Nat.le_refl _) _).setCell (p := ⟨w.heap.size, 1, none⟩) (Nat.le_refl _) _).setCell (p := ⟨w.heap.size, 2, none⟩) (Nat.le_refl _) _⟩

set_option maxHeartbeats 4000000 in
set_option maxRecDepth 20000 in
theorem rpsOl1 (s N B : ByteArray) (P Q : Int) (at' : Nat) (w : World) (hs : s.size ≤ 1048576) (hN : N.size ≤ 140737488355328) (hB : B.size ≤ 4611686018427387904) (ha : at' ≤ s.size) (hne : ∀ k (h : k < s.size), k < at' → ((s[k].toNat : Int) != 94) = true) (hN' : s.extract 0 at' = N) (hal : at' = s.size) (hl : 12 < at') :
    Calls Tryz.prog 10 #[.string s] w fun e w' => e = .returned (.tuple #[Value.agg #[Value.string ⟨#[]⟩, Value.int .i64 0, Value.int .i64 0], .bool false]) ∧ Below w.heap.size w w' := by
  have HNE := hide hne
  clear hne
  subst hN'
  have HAL := hide hal
  have hali : ¬ (at' : Int) < (s.size : Int) := by omega
  clear hal
  have hli : (12 : Int) < (at' : Int) := by omega
  have kr0 : (w.alloc (Obj.cells #[Value.string ⟨#[]⟩, Value.int .i64 0, Value.int .i64 0] 26)).cell? ⟨w.heap.size, 0, none⟩ = some (Value.string ⟨#[]⟩) := by go_simp
  have fr0 : (w.alloc (Obj.cells #[Value.string ⟨#[]⟩, Value.int .i64 0, Value.int .i64 0] 26)).frozen? ⟨w.heap.size, 0, none⟩ = false := by go_simp
  have kr1 : (w.alloc (Obj.cells #[Value.string ⟨#[]⟩, Value.int .i64 0, Value.int .i64 0] 26)).cell? ⟨w.heap.size, 1, none⟩ = some (Value.int .i64 0) := by go_simp
  have fr1 : (w.alloc (Obj.cells #[Value.string ⟨#[]⟩, Value.int .i64 0, Value.int .i64 0] 26)).frozen? ⟨w.heap.size, 1, none⟩ = false := by go_simp
  have kr2 : (w.alloc (Obj.cells #[Value.string ⟨#[]⟩, Value.int .i64 0, Value.int .i64 0] 26)).cell? ⟨w.heap.size, 2, none⟩ = some (Value.int .i64 0) := by go_simp
  have fr2 : (w.alloc (Obj.cells #[Value.string ⟨#[]⟩, Value.int .i64 0, Value.int .i64 0] 26)).frozen? ⟨w.heap.size, 2, none⟩ = false := by go_simp
  have zr : w.heap.size < (w.alloc (Obj.cells #[Value.string ⟨#[]⟩, Value.int .i64 0, Value.int .i64 0] 26)).heap.size := by simp only [World.size_alloc]; omega
  have HB := hide (bl_alloc (bl_refl w) (Obj.cells #[Value.string ⟨#[]⟩, Value.int .i64 0, Value.int .i64 0] 26))
  go_enter Tryz.func10, Tryz.ntmps10
  go_wp2
  generalize (w.alloc (Obj.cells #[Value.string ⟨#[]⟩, Value.int .i64 0, Value.int .i64 0] 26)) = w1 at *
  have z0 := zr
  go_loopw [4] (fun i wr => ∃ k : Nat, k ≤ at' ∧ i = .int .i64 k ∧ wr = w1) (fun i _ => at' - (intOf i).toNat)
  case atStart => exact ⟨0, Nat.zero_le _, rfl, rfl⟩
  case round =>
    obtain ⟨k, hk, rfl, hw⟩ := hrel
    have hw2 := hw.symm
    clear hw
    subst hw2
    by_cases hlt : k < at'
    · skip
      have hls : k < s.size := by omega
      have hlt' : (k : Int) < (s.size : Int) := by omega
      have hn := HNE.out k hls hlt
      have hk0 : (0 : Int) ≤ (k : Int) := by omega
      go_wp2
      exact ⟨⟨k + 1, by omega, by go_num, by first | rfl | trivial⟩, by simp [intOf]; omega⟩
    · skip
      obtain rfl : k = at' := by omega
      clear hlt
      have hk0 : (0 : Int) ≤ (k : Int) := by omega
      have hks : (k : Int) ≤ (s.size : Int) := by omega
      go_wp2
      refine bodyPost_ret (v := (.tuple #[Value.agg #[Value.string ⟨#[]⟩, Value.int .i64 0, Value.int .i64 0], .bool false])) (by simp [results, Tryz.results10, go_sem, kr0, kr1, kr2]) rfl ?_
      exact ⟨rfl, ((HB.out.setCell (p := ⟨w.heap.size, 0, none⟩) (Nat.le_refl _) _).setCell (p := ⟨w.heap.size, 1, none⟩) (Nat.le_refl _) _).setCell (p := ⟨w.heap.size, 2, none⟩) (Nat.le_refl _) _⟩

set_option maxHeartbeats 4000000 in
set_option maxRecDepth 20000 in
theorem rpsOall (s N B : ByteArray) (P Q : Int) (at' : Nat) (w : World) (hs : s.size ≤ 1048576) (hN : N.size ≤ 140737488355328) (hB : B.size ≤ 4611686018427387904) (ha : at' ≤ s.size) (hne : ∀ k (h : k < s.size), k < at' → ((s[k].toNat : Int) != 94) = true) (hN' : s.extract 0 at' = N) (hal : at' = s.size) (hl : at' ≤ 12) (hl2 : s.size ≤ 30) (hP : P = 1) (hQ : Q = 1)  :
    Calls Tryz.prog 10 #[.string s] w fun e w' => (partB N P Q = true ∧ (ptxt N P Q).data.toList = s.data.toList ∧ e = .returned (.tuple #[Value.agg #[Value.string N, Value.int .i64 P, Value.int .i64 Q], .bool true]) ∧ Below w.heap.size w w') ∨ ((partB N P Q = false ∨ (ptxt N P Q).data.toList ≠ s.data.toList) ∧ e = .returned (.tuple #[Value.agg #[Value.string ⟨#[]⟩, Value.int .i64 0, Value.int .i64 0], .bool false]) ∧ Below w.heap.size w w') := by
  obtain ⟨tx, htx⟩ : ∃ tx, ptxt N P Q = tx := ⟨_, rfl⟩
  have HTX := hide htx
  clear htx
  subst hP
  subst hQ
  have HNE := hide hne
  clear hne
  subst hN'
  have HAL := hide hal
  have hali : ¬ (at' : Int) < (s.size : Int) := by omega
  clear hal
  have hli : ¬ (12 : Int) < (at' : Int) := by omega
  have hli2 : ¬ (30 : Int) < (s.size : Int) := by omega
  have kr0 : (w.alloc (Obj.cells #[Value.string ⟨#[]⟩, Value.int .i64 0, Value.int .i64 0] 26)).cell? ⟨w.heap.size, 0, none⟩ = some (Value.string ⟨#[]⟩) := by go_simp
  have fr0 : (w.alloc (Obj.cells #[Value.string ⟨#[]⟩, Value.int .i64 0, Value.int .i64 0] 26)).frozen? ⟨w.heap.size, 0, none⟩ = false := by go_simp
  have kr1 : (w.alloc (Obj.cells #[Value.string ⟨#[]⟩, Value.int .i64 0, Value.int .i64 0] 26)).cell? ⟨w.heap.size, 1, none⟩ = some (Value.int .i64 0) := by go_simp
  have fr1 : (w.alloc (Obj.cells #[Value.string ⟨#[]⟩, Value.int .i64 0, Value.int .i64 0] 26)).frozen? ⟨w.heap.size, 1, none⟩ = false := by go_simp
  have kr2 : (w.alloc (Obj.cells #[Value.string ⟨#[]⟩, Value.int .i64 0, Value.int .i64 0] 26)).cell? ⟨w.heap.size, 2, none⟩ = some (Value.int .i64 0) := by go_simp
  have fr2 : (w.alloc (Obj.cells #[Value.string ⟨#[]⟩, Value.int .i64 0, Value.int .i64 0] 26)).frozen? ⟨w.heap.size, 2, none⟩ = false := by go_simp
  have zr : w.heap.size < (w.alloc (Obj.cells #[Value.string ⟨#[]⟩, Value.int .i64 0, Value.int .i64 0] 26)).heap.size := by simp only [World.size_alloc]; omega
  have HB := hide (bl_alloc (bl_refl w) (Obj.cells #[Value.string ⟨#[]⟩, Value.int .i64 0, Value.int .i64 0] 26))
  go_enter Tryz.func10, Tryz.ntmps10
  go_wp2
  generalize (w.alloc (Obj.cells #[Value.string ⟨#[]⟩, Value.int .i64 0, Value.int .i64 0] 26)) = w1 at *
  have z0 := zr
  go_loopw [4] (fun i wr => ∃ k : Nat, k ≤ at' ∧ i = .int .i64 k ∧ wr = w1) (fun i _ => at' - (intOf i).toNat)
  case atStart => exact ⟨0, Nat.zero_le _, rfl, rfl⟩
  case round =>
    obtain ⟨k, hk, rfl, hw⟩ := hrel
    have hw2 := hw.symm
    clear hw
    subst hw2
    by_cases hlt : k < at'
    · skip
      have hls : k < s.size := by omega
      have hlt' : (k : Int) < (s.size : Int) := by omega
      have hn := HNE.out k hls hlt
      have hk0 : (0 : Int) ≤ (k : Int) := by omega
      go_wp2
      exact ⟨⟨k + 1, by omega, by go_num, by first | rfl | trivial⟩, by simp [intOf]; omega⟩
    · skip
      obtain rfl : k = at' := by omega
      clear hlt
      have hk0 : (0 : Int) ≤ (k : Int) := by omega
      have hks : (k : Int) ≤ (s.size : Int) := by omega
      go_wp2_with fail
      clear HAL
      have yw2 : w1.heap.size + 1 ≤ (w1.alloc (Obj.cells #[Value.string (s.extract 0 k), Value.int .i64 1, Value.int .i64 1] 26)).heap.size := by simp only [World.size_alloc]; omega
      have kp0 : (w1.alloc (Obj.cells #[Value.string (s.extract 0 k), Value.int .i64 1, Value.int .i64 1] 26)).cell? ⟨w1.heap.size, 0, none⟩ = some (Value.string (s.extract 0 k)) := by go_simp
      have fp0 : (w1.alloc (Obj.cells #[Value.string (s.extract 0 k), Value.int .i64 1, Value.int .i64 1] 26)).frozen? ⟨w1.heap.size, 0, none⟩ = false := by go_simp
      have kp1 : (w1.alloc (Obj.cells #[Value.string (s.extract 0 k), Value.int .i64 1, Value.int .i64 1] 26)).cell? ⟨w1.heap.size, 1, none⟩ = some (Value.int .i64 1) := by go_simp
      have fp1 : (w1.alloc (Obj.cells #[Value.string (s.extract 0 k), Value.int .i64 1, Value.int .i64 1] 26)).frozen? ⟨w1.heap.size, 1, none⟩ = false := by go_simp
      have kp2 : (w1.alloc (Obj.cells #[Value.string (s.extract 0 k), Value.int .i64 1, Value.int .i64 1] 26)).cell? ⟨w1.heap.size, 2, none⟩ = some (Value.int .i64 1) := by go_simp
      have fp2 : (w1.alloc (Obj.cells #[Value.string (s.extract 0 k), Value.int .i64 1, Value.int .i64 1] 26)).frozen? ⟨w1.heap.size, 2, none⟩ = false := by go_simp
      have hbn := (bl_alloc (bl_refl w1) (Obj.cells #[Value.string (s.extract 0 k), Value.int .i64 1, Value.int .i64 1] 26))
      replace kr0 := (hbn.cell (p := ⟨w.heap.size, 0, none⟩) (by dsimp only; omega)).trans kr0
      replace fr0 := (hbn.frozen (p := ⟨w.heap.size, 0, none⟩) (by dsimp only; omega)).trans fr0
      replace kr1 := (hbn.cell (p := ⟨w.heap.size, 1, none⟩) (by dsimp only; omega)).trans kr1
      replace fr1 := (hbn.frozen (p := ⟨w.heap.size, 1, none⟩) (by dsimp only; omega)).trans fr1
      replace kr2 := (hbn.cell (p := ⟨w.heap.size, 2, none⟩) (by dsimp only; omega)).trans kr2
      replace fr2 := (hbn.frozen (p := ⟨w.heap.size, 2, none⟩) (by dsimp only; omega)).trans fr2
      replace zr := Nat.lt_of_lt_of_le zr hbn.size
      replace HB := hide (bl_trans HB.out hbn)
      clear hbn
      generalize (w1.alloc (Obj.cells #[Value.string (s.extract 0 k), Value.int .i64 1, Value.int .i64 1] 26)) = w2 at *
      refine (partS (s.extract 0 k) 1 1 _ hN).mono ?_
      rintro e w3 ⟨rfl, hb⟩
      have yw3 := hb.size
      replace kr0 := (hb.cell (p := ⟨w.heap.size, 0, none⟩) (by dsimp only; omega)).trans kr0
      replace fr0 := (hb.frozen (p := ⟨w.heap.size, 0, none⟩) (by dsimp only; omega)).trans fr0
      replace kr1 := (hb.cell (p := ⟨w.heap.size, 1, none⟩) (by dsimp only; omega)).trans kr1
      replace fr1 := (hb.frozen (p := ⟨w.heap.size, 1, none⟩) (by dsimp only; omega)).trans fr1
      replace kr2 := (hb.cell (p := ⟨w.heap.size, 2, none⟩) (by dsimp only; omega)).trans kr2
      replace fr2 := (hb.frozen (p := ⟨w.heap.size, 2, none⟩) (by dsimp only; omega)).trans fr2
      replace kp0 := (hb.cell (p := ⟨w1.heap.size, 0, none⟩) (by dsimp only; omega)).trans kp0
      replace fp0 := (hb.frozen (p := ⟨w1.heap.size, 0, none⟩) (by dsimp only; omega)).trans fp0
      replace kp1 := (hb.cell (p := ⟨w1.heap.size, 1, none⟩) (by dsimp only; omega)).trans kp1
      replace fp1 := (hb.frozen (p := ⟨w1.heap.size, 1, none⟩) (by dsimp only; omega)).trans fp1
      replace kp2 := (hb.cell (p := ⟨w1.heap.size, 2, none⟩) (by dsimp only; omega)).trans kp2
      replace fp2 := (hb.frozen (p := ⟨w1.heap.size, 2, none⟩) (by dsimp only; omega)).trans fp2
      replace zr := Nat.lt_of_lt_of_le zr hb.size
      replace HB := hide (bl_trans HB.out hb)
      clear hb
      cases hk : partB (s.extract 0 k) 1 1 with
      | false =>
        have HK := hide hk
        clear hk
        go_wp2
        refine bodyPost_ret (v := (.tuple #[Value.agg #[Value.string ⟨#[]⟩, Value.int .i64 0, Value.int .i64 0], .bool false])) (by simp [results, Tryz.results10, go_sem, kr0, kr1, kr2]) rfl ?_
        exact .inr ⟨.inl HK.out, rfl, ((HB.out.setCell (p := ⟨w.heap.size, 0, none⟩) (Nat.le_refl _) _).setCell (p := ⟨w.heap.size, 1, none⟩) (Nat.le_refl _) _).setCell (p := ⟨w.heap.size, 2, none⟩) (Nat.le_refl _) _⟩
      | true =>
        have HK := hide hk
        clear hk
        go_wp2_with fail
        have HCT := hide (partTextS (s.extract 0 k) 1 1 w3 hN)
        rw [HTX.out] at HCT
        refine HCT.out.mono ?_
        rintro e w4 ⟨rfl, hb⟩
        clear HCT
        have yw4 := hb.size
        replace kr0 := (hb.cell (p := ⟨w.heap.size, 0, none⟩) (by dsimp only; omega)).trans kr0
        replace fr0 := (hb.frozen (p := ⟨w.heap.size, 0, none⟩) (by dsimp only; omega)).trans fr0
        replace kr1 := (hb.cell (p := ⟨w.heap.size, 1, none⟩) (by dsimp only; omega)).trans kr1
        replace fr1 := (hb.frozen (p := ⟨w.heap.size, 1, none⟩) (by dsimp only; omega)).trans fr1
        replace kr2 := (hb.cell (p := ⟨w.heap.size, 2, none⟩) (by dsimp only; omega)).trans kr2
        replace fr2 := (hb.frozen (p := ⟨w.heap.size, 2, none⟩) (by dsimp only; omega)).trans fr2
        replace kp0 := (hb.cell (p := ⟨w1.heap.size, 0, none⟩) (by dsimp only; omega)).trans kp0
        replace fp0 := (hb.frozen (p := ⟨w1.heap.size, 0, none⟩) (by dsimp only; omega)).trans fp0
        replace kp1 := (hb.cell (p := ⟨w1.heap.size, 1, none⟩) (by dsimp only; omega)).trans kp1
        replace fp1 := (hb.frozen (p := ⟨w1.heap.size, 1, none⟩) (by dsimp only; omega)).trans fp1
        replace kp2 := (hb.cell (p := ⟨w1.heap.size, 2, none⟩) (by dsimp only; omega)).trans kp2
        replace fp2 := (hb.frozen (p := ⟨w1.heap.size, 2, none⟩) (by dsimp only; omega)).trans fp2
        replace zr := Nat.lt_of_lt_of_le zr hb.size
        replace HB := hide (bl_trans HB.out hb)
        clear hb
        by_cases ht : tx.data.toList = s.data.toList
        · skip
          have hcmp : (tx.toList == s.toList) = true := by rw [ByteArray.toList_eq, ByteArray.toList_eq, beq_iff_eq]; exact ht
          have HT := hide ht
          clear ht
          go_wp2
          refine bodyPost_ret (v := (.tuple #[Value.agg #[Value.string (s.extract 0 k), Value.int .i64 1, Value.int .i64 1], .bool true])) (by simp [results, Tryz.results10, go_sem, kr0, kr1, kr2]) rfl ?_
          exact .inl ⟨HK.out, by rw [HTX.out]; exact HT.out, rfl, ((HB.out.setCell (p := ⟨w.heap.size, 0, none⟩) (Nat.le_refl _) _).setCell (p := ⟨w.heap.size, 1, none⟩) (Nat.le_refl _) _).setCell (p := ⟨w.heap.size, 2, none⟩) (Nat.le_refl _) _⟩
        · skip
          have hcmp : (tx.toList == s.toList) = false := by rw [ByteArray.toList_eq, ByteArray.toList_eq, beq_eq_false_iff_ne]; exact ht
          have HT := hide ht
          clear ht
          go_wp2
          refine bodyPost_ret (v := (.tuple #[Value.agg #[Value.string ⟨#[]⟩, Value.int .i64 0, Value.int .i64 0], .bool false])) (by simp [results, Tryz.results10, go_sem, kr0, kr1, kr2]) rfl ?_
          exact .inr ⟨.inr (by rw [HTX.out]; exact HT.out), rfl, ((HB.out.setCell (p := ⟨w.heap.size, 0, none⟩) (Nat.le_refl _) _).setCell (p := ⟨w.heap.size, 1, none⟩) (Nat.le_refl _) _).setCell (p := ⟨w.heap.size, 2, none⟩) (Nat.le_refl _) _⟩

end Go.Proofs.YtkemplmhemnpbaaGreatDoor

/- ReadPart of the program and of the specification at any text: both answer the same. -/
namespace Go.Proofs.YtkemplmhemnpbaaGreatDoor
open Go.RowKit
set_option linter.unusedVariables false

def rpN (s : ByteArray) : ByteArray := ⟨(Lib.cut s.data.toList [94]).1.toArray⟩
def rpR (s : ByteArray) : ByteArray := ⟨(Lib.cut s.data.toList [94]).2.1.toArray⟩
def rpW (s : ByteArray) : Bool := (Lib.cut s.data.toList [94]).2.2
def rpP (s : ByteArray) : Int := if rpW s = true then toIntR (sgn (RX (rpR s))) (lms (RX (rpR s))) else 1
def rpQ (s : ByteArray) : Int := if rpW s = true then toIntR (sgn (RY (rpR s))) (lms (RY (rpR s))) else 1
def rpG (s : ByteArray) : Bool := partB (rpN s) (rpP s) (rpQ s) && decide ((ptxt (rpN s) (rpP s) (rpQ s)).data.toList = s.data.toList)
/-- the part that is read, or nothing -/
def PartAns (s : ByteArray) (w w' : World) (e : Ending) : Prop :=
  e = .returned (.tuple #[.agg #[.string (if rpG s = true then rpN s else ⟨#[]⟩), .int .i64 (if rpG s = true then rpP s else 0), .int .i64 (if rpG s = true then rpQ s else 0)], .bool (rpG s)]) ∧ Below w.heap.size w w'
theorem pa_no {s : ByteArray} {w w' : World} {e : Ending} (h : rpG s = false) (ha : e = .returned (.tuple #[.agg #[.string ⟨#[]⟩, .int .i64 0, .int .i64 0], .bool false]) ∧ Below w.heap.size w w') : PartAns s w w' e := by
  unfold PartAns; rw [h]; exact ha
theorem pa_yes {s : ByteArray} {w w' : World} {e : Ending} (h : rpG s = true) (ha : e = .returned (.tuple #[.agg #[.string (rpN s), .int .i64 (rpP s), .int .i64 (rpQ s)], .bool true]) ∧ Below w.heap.size w w') : PartAns s w w' e := by
  unfold PartAns; rw [h]; exact ha
theorem g_bp {s : ByteArray} (h : partB (rpN s) (rpP s) (rpQ s) = false) : rpG s = false := by unfold rpG; rw [h, Bool.false_and]
theorem g_bt {s : ByteArray} (h : (ptxt (rpN s) (rpP s) (rpQ s)).data.toList ≠ s.data.toList) : rpG s = false := by unfold rpG; rw [decide_eq_false h, Bool.and_false]
theorem g_gd {s : ByteArray} (h : partB (rpN s) (rpP s) (rpQ s) = true) (h2 : (ptxt (rpN s) (rpP s) (rpQ s)).data.toList = s.data.toList) : rpG s = true := by unfold rpG; rw [h, decide_eq_true h2]; rfl
theorem g_of {s : ByteArray} (h : rpG s = true) : partB (rpN s) (rpP s) (rpQ s) = true ∧ (ptxt (rpN s) (rpP s) (rpQ s)).data.toList = s.data.toList := by
  unfold rpG at h; rw [Bool.and_eq_true, decide_eq_true_eq] at h; exact h
theorem pa_or {s : ByteArray} {w w' : World} {e : Ending} (h : (partB (rpN s) (rpP s) (rpQ s) = true ∧ (ptxt (rpN s) (rpP s) (rpQ s)).data.toList = s.data.toList ∧ e = .returned (.tuple #[Value.agg #[Value.string (rpN s), Value.int .i64 (rpP s), Value.int .i64 (rpQ s)], .bool true]) ∧ Below w.heap.size w w') ∨ ((partB (rpN s) (rpP s) (rpQ s) = false ∨ (ptxt (rpN s) (rpP s) (rpQ s)).data.toList ≠ s.data.toList) ∧ e = .returned (.tuple #[Value.agg #[Value.string ⟨#[]⟩, Value.int .i64 0, Value.int .i64 0], .bool false]) ∧ Below w.heap.size w w')) : PartAns s w w' e := by
  rcases h with ⟨h1, h2, he, hb⟩ | ⟨h1, he, hb⟩
  · exact pa_yes (g_gd h1 h2) ⟨he, hb⟩
  · refine pa_no ?_ ⟨he, hb⟩
    rcases h1 with h1 | h1
    · exact g_bp h1
    · exact g_bt h1
theorem cut_is (s : ByteArray) : Lib.cut s.data.toList [94] = ((rpN s).data.toList, (rpR s).data.toList, rpW s) := rfl
theorem cut_len3 (l : List UInt8) (c : UInt8) : (Lib.cut l [c]).1.length ≤ l.length ∧ (Lib.cut l [c]).2.1.length ≤ l.length := by
  by_cases h : c ∈ l
  · obtain ⟨a, b, rfl, ha⟩ := first h
    rw [cut_mid ha]; simp; omega
  · rw [cut_none h]; simp
theorem rp_size (s : ByteArray) : (rpN s).size ≤ s.size ∧ (rpR s).size ≤ s.size := by
  have := cut_len3 s.data.toList 94
  rw [← bsize (rpN s), ← bsize (rpR s), ← bsize s]
  exact this

theorem readPartI (s : ByteArray) (w : World) (hs : s.size ≤ 1048576) (htab : Tabs w) (hm : Mx w) :
    Calls Tryz.prog 11 #[.string s] w fun e w' => PartAns s w w' e := by
  obtain ⟨h1, h2⟩ := rp_size s
  have hc := cut_is s
  cases hw : rpW s with
  | true =>
    rw [hw] at hc
    have hP : toIntR (sgn (RX (rpR s))) (lms (RX (rpR s))) = rpP s := by unfold rpP; rw [if_pos hw]
    have hQ : toIntR (sgn (RY (rpR s))) (lms (RY (rpR s))) = rpQ s := by unfold rpQ; rw [if_pos hw]
    exact (rpiW s _ _ _ _ w hs (by omega) (by omega) htab hm hc _ _ rfl rfl hP hQ).mono fun e w' h => pa_or h
  | false =>
    rw [hw] at hc
    have hP : rpP s = 1 := by unfold rpP; rw [if_neg (by rw [hw]; decide)]
    have hQ : rpQ s = 1 := by unfold rpQ; rw [if_neg (by rw [hw]; decide)]
    exact (rpiO s _ _ _ _ w hs (by omega) (by omega) htab hm hc hP hQ).mono fun e w' h => pa_or h

theorem g_long {s : ByteArray} (h : 12 < (rpN s).size) : rpG s = false := by
  cases hg : rpG s with
  | false => rfl
  | true => have := name_short (pb_of (g_of hg).1).1; omega
theorem g_wide {s : ByteArray} (h : 30 < s.size) : rpG s = false := by
  cases hg : rpG s with
  | false => rfl
  | true =>
    obtain ⟨h1, h2⟩ := g_of hg
    have hn := name_short (pb_of h1).1
    have hr := rt_small (pb_of h1).2
    have hl := congrArg List.length h2
    rw [bsize, bsize] at hl
    unfold ptxt at hl
    rw [if_pos h1] at hl
    split at hl
    · omega
    · rw [ByteArray.size_append, ByteArray.size_append] at hl
      have : (⟨#[94]⟩ : ByteArray).size = 1 := rfl
      omega
theorem it_nul : (itB 0).data.toList = [48] := by decide +kernel
theorem rx_emp : RX ⟨#[]⟩ = 0 := by decide +kernel
theorem rx_nul : RX ⟨#[48]⟩ = 0 := by decide +kernel
theorem fits_nul : fitsI (sgn 0) (lms 0) = true := by decide +kernel
theorem s_parts {s : ByteArray} (hw : rpW s = true) : s.data.toList = (rpN s).data.toList ++ 94 :: (rpR s).data.toList := by
  by_cases h : (94 : UInt8) ∈ s.data.toList
  · obtain ⟨a, b, hl, ha⟩ := first h
    have := cut_mid (c := 94) (b := b) ha
    have hc := cut_is s
    rw [hl, this] at hc
    have e1 : a = (rpN s).data.toList := congrArg (·.1) hc
    have e2 : b = (rpR s).data.toList := congrArg (·.2.1) hc
    rw [hl, e1, e2]
  · have hc := cut_is s
    rw [cut_none h] at hc
    have : false = rpW s := congrArg (·.2.2) hc
    rw [hw] at this; cases this
theorem s_whole {s : ByteArray} (hw : rpW s = false) : (94 : UInt8) ∉ s.data.toList ∧ (rpN s).data.toList = s.data.toList := by
  by_cases h : (94 : UInt8) ∈ s.data.toList
  · obtain ⟨a, b, hl, ha⟩ := first h
    have := cut_mid (c := 94) (b := b) ha
    have hc := cut_is s
    rw [hl, this] at hc
    have : true = rpW s := congrArg (·.2.2) hc
    rw [hw] at this; cases this
  · refine ⟨h, ?_⟩
    have hc := cut_is s
    rw [cut_none h] at hc
    exact (congrArg (·.1) hc).symm
theorem g_u1 {s : ByteArray} (hw : rpW s = true) (h : fitsI (sgn (RX (rpR s))) (lms (RX (rpR s))) = false) : rpG s = false := by
  cases hg : rpG s with
  | false => rfl
  | true =>
    obtain ⟨h1, h2⟩ := g_of hg
    have hP : rpP s = 0 := by unfold rpP; rw [if_pos hw]; unfold toIntR; rw [if_neg (by rw [h]; decide)]
    rw [hP] at h1 h2
    obtain ⟨_, hq, hgc⟩ := pw_of (pb_of h1).2
    rw [Int.gcd_zero_left] at hgc
    have hq1 : rpQ s = 1 := by omega
    rw [hq1] at h1 h2
    rw [pt_two h1 (by decide), app_list, app_list, s_parts hw, List.append_assoc] at h2
    have h3 := List.append_cancel_left h2
    have h4 : (ratT (sgn 0) (lms 0) (sgn 1) (lms 1)).data.toList = (rpR s).data.toList := by
      have : (⟨#[94]⟩ : ByteArray).data.toList = [94] := rfl
      rw [this] at h3
      exact (List.cons.inj h3).2
    have h5 : (rpR s).data.toList = [] ∨ (rpR s).data.toList = [48] := by
      rw [← h4]
      unfold ratT
      rw [mk_lm, mk_lm, if_pos (show (1 : Int) = 1 from rfl)]
      split
      · exact .inr it_nul
      · exact .inl rfl
    have h6 : RX (rpR s) = 0 := by
      rcases h5 with h5 | h5
      · rw [show rpR s = ⟨#[]⟩ from ByteArray.ext (Array.ext' h5)]; exact rx_emp
      · rw [show rpR s = ⟨#[48]⟩ from ByteArray.ext (Array.ext' h5)]; exact rx_nul
    rw [h6, fits_nul] at h; cases h
theorem g_u2 {s : ByteArray} (hw : rpW s = true) (h : fitsI (sgn (RY (rpR s))) (lms (RY (rpR s))) = false) : rpG s = false := by
  cases hg : rpG s with
  | false => rfl
  | true =>
    obtain ⟨h1, h2⟩ := g_of hg
    have hQ : rpQ s = 0 := by unfold rpQ; rw [if_pos hw]; unfold toIntR; rw [if_neg (by rw [h]; decide)]
    obtain ⟨_, hq, _⟩ := pw_of (pb_of h1).2
    omega
theorem b94 {c : UInt8} (h : c ≠ 94) : ((c.toNat : Int) != 94) = true := by
  rw [bne_iff_ne]
  exact fun e => h (UInt8.toNat_inj.1 (show c.toNat = (94 : UInt8).toNat from by have : (94 : UInt8).toNat = 94 := rfl; omega))

theorem readPartS (s : ByteArray) (w : World) (hs : s.size ≤ 1048576) :
    Calls Tryz.prog 10 #[.string s] w fun e w' => PartAns s w w' e := by
  obtain ⟨h1, h2⟩ := rp_size s
  obtain ⟨a, ha⟩ : ∃ a, (rpN s).size = a := ⟨_, rfl⟩
  rw [ha] at h1
  cases hw : rpW s with
  | true =>
    have hl := s_parts hw
    have hna : (94 : UInt8) ∉ (rpN s).data.toList := by
      have h : (94 : UInt8) ∈ s.data.toList := by rw [hl]; simp
      obtain ⟨x, b, hx, hxa⟩ := first h
      have := cut_mid (c := 94) (b := b) hxa
      have hc := cut_is s
      rw [hx, this] at hc
      have e1 : x = (rpN s).data.toList := congrArg (·.1) hc
      rw [← e1]; exact hxa
    have hal : (rpN s).data.toList.length = a := by rw [bsize, ha]
    have hlen : s.size = a + 1 + (rpR s).data.toList.length := by rw [← bsize, hl, List.length_append, List.length_cons, hal]; omega
    have hlt : a < s.size := by omega
    have hget (k : Nat) (h : k < s.size) : s[k] = s.data.toList[k]'(by rw [bsize]; exact h) := rfl
    have hne : ∀ k (h : k < s.size), k < a → ((s[k].toNat : Int) != 94) = true := fun k h hk => by
      refine b94 fun e => hna ?_
      have hk2 : k < (rpN s).data.toList.length := by omega
      have : s[k] = (rpN s).data.toList[k] := by
        rw [hget]; simp only [hl]; rw [List.getElem_append_left hk2]
      rw [← e, this]; exact List.getElem_mem _
    have h94 : ((s[a].toNat : Int) != 94) = false := by
      have : s[a] = 94 := by
        rw [hget]; simp only [hl]; rw [List.getElem_append_right (by omega)]; simp [hal]
      rw [this]; rfl
    have hN' : s.extract 0 a = rpN s := ByteArray.ext (Array.ext' (by rw [ext_list, List.drop_zero, Nat.sub_zero, hl, ← hal, List.take_left]))
    have hR' : s.extract (a + 1) s.size = rpR s := ByteArray.ext (Array.ext' (by
      rw [ext_tail, hl, show (rpN s).data.toList ++ 94 :: (rpR s).data.toList = ((rpN s).data.toList ++ [94]) ++ (rpR s).data.toList by simp, show a + 1 = ((rpN s).data.toList ++ [94]).length by simp [hal], List.drop_left]))
    have hNs : (rpN s).size ≤ 140737488355328 := by omega
    have hRs : (rpR s).size ≤ 4611686018427387904 := by omega
    by_cases hl1 : 12 < a
    · exact (rpsWl1 s _ _ 0 0 a w hs hNs hRs (by omega) hne hN' hlt h94 hR' hl1).mono fun e w' h => pa_no (g_long (by omega)) h
    by_cases hl2 : 30 < s.size
    · exact (rpsWl2 s _ _ 0 0 a w hs hNs hRs (by omega) hne hN' hlt h94 hR' (by omega) hl2).mono fun e w' h => pa_no (g_wide hl2) h
    have hP : toIntR (sgn (RX (rpR s))) (lms (RX (rpR s))) = rpP s := by unfold rpP; rw [if_pos hw]
    have hQ : toIntR (sgn (RY (rpR s))) (lms (RY (rpR s))) = rpQ s := by unfold rpQ; rw [if_pos hw]
    cases hf1 : fitsI (sgn (RX (rpR s))) (lms (RX (rpR s))) with
    | false => exact (rpsWu1 s _ _ 0 0 a w hs hNs hRs (by omega) hne hN' hlt h94 hR' (by omega) (by omega) _ _ rfl rfl hf1).mono fun e w' h => pa_no (g_u1 hw hf1) h
    | true =>
      cases hf2 : fitsI (sgn (RY (rpR s))) (lms (RY (rpR s))) with
      | false => exact (rpsWu2 s _ _ 0 0 a w hs hNs hRs (by omega) hne hN' hlt h94 hR' (by omega) (by omega) _ _ rfl rfl hf1 hf2).mono fun e w' h => pa_no (g_u2 hw hf2) h
      | true =>
        exact (rpsWall s _ _ _ _ a w hs hNs hRs (by omega) hne hN' hlt h94 hR' (by omega) (by omega) _ _ rfl rfl hf1 hf2 hP hQ).mono fun e w' h => pa_or h
  | false =>
    obtain ⟨hna, hl⟩ := s_whole hw
    have hNe : rpN s = s := ByteArray.ext (Array.ext' hl)
    have hae : a = s.size := by rw [← ha, hNe]
    have hget (k : Nat) (h : k < s.size) : s[k] = s.data.toList[k]'(by rw [bsize]; exact h) := rfl
    have hne : ∀ k (h : k < s.size), k < a → ((s[k].toNat : Int) != 94) = true := fun k h hk => b94 fun e => hna (by rw [← e, hget]; exact List.getElem_mem _)
    have hN' : s.extract 0 a = rpN s := by
      rw [hNe, hae]
      exact ByteArray.ext (Array.ext' (by rw [ext_tail, List.drop_zero]))
    have hNs : (rpN s).size ≤ 140737488355328 := by omega
    have hRs : (rpR s).size ≤ 4611686018427387904 := by omega
    by_cases hl1 : 12 < a
    · exact (rpsOl1 s _ _ 0 0 a w hs hNs hRs (by omega) hne hN' hae hl1).mono fun e w' h => pa_no (g_long (by omega)) h
    have hP : rpP s = 1 := by unfold rpP; rw [if_neg (by rw [hw]; decide)]
    have hQ : rpQ s = 1 := by unfold rpQ; rw [if_neg (by rw [hw]; decide)]
    exact (rpsOall s _ (rpR s) _ _ a w hs hNs hRs (by omega) hne hN' hae (by omega) (by omega) hP hQ).mono fun e w' h => pa_or h
end Go.Proofs.YtkemplmhemnpbaaGreatDoor

/- The walk of the exact law of ReadPart. -/
namespace Go.Proofs.YtkemplmhemnpbaaGreatDoor
open Go.RowKit
set_option linter.unusedVariables false

def rN (s : ByteArray) : ByteArray := if rpG s = true then rpN s else ⟨#[]⟩
def rP (s : ByteArray) : Int := if rpG s = true then rpP s else 0
def rQ (s : ByteArray) : Int := if rpG s = true then rpQ s else 0
theorem readPartW (s : ByteArray) (w : World) (hs : s.size ≤ 1048576) :
    Calls Tryz.prog 10 #[.string s] w fun e w' => e = .returned (.tuple #[.agg #[.string (rN s), .int .i64 (rP s), .int .i64 (rQ s)], .bool (rpG s)]) ∧ Below w.heap.size w w' := readPartS s w hs
theorem readPartP (s : ByteArray) (w : World) (hs : s.size ≤ 1048576) (htab : Tabs w) (hm : Mx w) :
    Calls Tryz.prog 11 #[.string s] w fun e w' => e = .returned (.tuple #[.agg #[.string (rN s), .int .i64 (rP s), .int .i64 (rQ s)], .bool (rpG s)]) ∧ Below w.heap.size w w' := readPartI s w hs htab hm

set_option maxHeartbeats 4000000 in
set_option maxRecDepth 20000 in
theorem eqP (s : ByteArray) (p q : Int) (w : World) :
    Calls Tryz.prog 12 #[Value.agg #[Value.string s, Value.int .i64 p, Value.int .i64 q], Value.agg #[Value.string s, Value.int .i64 p, Value.int .i64 q]] w fun e w' => e = .returned (.bool true) ∧ Below w.heap.size w w' := by
  have hcmp : (s.toList == s.toList) = true := by rw [beq_iff_eq]
  have hp : (p == p) = true := by rw [beq_iff_eq]
  have hq : (q == q) = true := by rw [beq_iff_eq]
  have HB := hide (bl_alloc (bl_alloc (bl_refl w) (Obj.cells #[Value.string s, Value.int .i64 p, Value.int .i64 q] 26)) (Obj.cells #[Value.string s, Value.int .i64 p, Value.int .i64 q] 26))
  go_enter Tryz.func12, Tryz.ntmps12
  go_wp2
  go_ret
  exact ⟨rfl, HB.out⟩

set_option maxHeartbeats 4000000 in
set_option maxRecDepth 20000 in
theorem walkRp (s : ByteArray) (w : World) (hs : s.size ≤ 9223372036854775807) (htab : Tabs w) (hm : Mx w) :
    Calls Tryz.prog 4 #[.string s] w fun e w' => e = .returned (.bool true) ∧ Below w.heap.size w w' := by
  have HT0 := hide htab
  have HM0 := hide hm
  clear htab hm
  have HB := hide (bl_refl w)
  by_cases hbig : (1048576 : Int) < (s.size : Int)
  · go_enter Tryz.func4, Tryz.ntmps4
    go_wp2
    go_ret
    exact ⟨rfl, bl_refl w⟩
  have hs2 : s.size ≤ 1048576 := by omega
  go_enter Tryz.func4, Tryz.ntmps4
  go_wp2_with fail
  refine (readPartW s _ hs2).mono ?_
  rintro e w1 ⟨rfl, hb⟩
  have yw1 := hb.size
  replace HB := hide (bl_trans HB.out hb)
  clear hb
  have yw2 : w1.heap.size + 1 ≤ (w1.alloc (Obj.cells #[Value.string (rN s), Value.int .i64 (rP s), Value.int .i64 (rQ s)] 26)).heap.size := by simp only [World.size_alloc]; omega
  have kg0 : (w1.alloc (Obj.cells #[Value.string (rN s), Value.int .i64 (rP s), Value.int .i64 (rQ s)] 26)).cell? ⟨w1.heap.size, 0, none⟩ = some (Value.string (rN s)) := by go_simp
  have kg1 : (w1.alloc (Obj.cells #[Value.string (rN s), Value.int .i64 (rP s), Value.int .i64 (rQ s)] 26)).cell? ⟨w1.heap.size, 1, none⟩ = some (Value.int .i64 (rP s)) := by go_simp
  have kg2 : (w1.alloc (Obj.cells #[Value.string (rN s), Value.int .i64 (rP s), Value.int .i64 (rQ s)] 26)).cell? ⟨w1.heap.size, 2, none⟩ = some (Value.int .i64 (rQ s)) := by go_simp
  have hbn := (bl_alloc (bl_refl w1) (Obj.cells #[Value.string (rN s), Value.int .i64 (rP s), Value.int .i64 (rQ s)] 26))
  replace HB := hide (bl_trans HB.out hbn)
  clear hbn
  go_wp2_with fail
  generalize (w1.alloc (Obj.cells #[Value.string (rN s), Value.int .i64 (rP s), Value.int .i64 (rQ s)] 26)) = w2 at *
  have zr : w1.heap.size < w2.heap.size := by omega
  refine (readPartP s _ hs2 (HT0.out.below HB.out) (HM0.out.below HB.out)).mono ?_
  rintro e w3 ⟨rfl, hb⟩
  have yw3 := hb.size
  replace kg0 := (hb.cell (p := ⟨w1.heap.size, 0, none⟩) (by dsimp only; omega)).trans kg0
  replace kg1 := (hb.cell (p := ⟨w1.heap.size, 1, none⟩) (by dsimp only; omega)).trans kg1
  replace kg2 := (hb.cell (p := ⟨w1.heap.size, 2, none⟩) (by dsimp only; omega)).trans kg2
  replace zr := Nat.lt_of_lt_of_le zr hb.size
  replace HB := hide (bl_trans HB.out hb)
  clear hb
  have yw4 : w3.heap.size + 1 ≤ (w3.alloc (Obj.cells #[Value.string (rN s), Value.int .i64 (rP s), Value.int .i64 (rQ s)] 26)).heap.size := by simp only [World.size_alloc]; omega
  have kh0 : (w3.alloc (Obj.cells #[Value.string (rN s), Value.int .i64 (rP s), Value.int .i64 (rQ s)] 26)).cell? ⟨w3.heap.size, 0, none⟩ = some (Value.string (rN s)) := by go_simp
  have kh1 : (w3.alloc (Obj.cells #[Value.string (rN s), Value.int .i64 (rP s), Value.int .i64 (rQ s)] 26)).cell? ⟨w3.heap.size, 1, none⟩ = some (Value.int .i64 (rP s)) := by go_simp
  have kh2 : (w3.alloc (Obj.cells #[Value.string (rN s), Value.int .i64 (rP s), Value.int .i64 (rQ s)] 26)).cell? ⟨w3.heap.size, 2, none⟩ = some (Value.int .i64 (rQ s)) := by go_simp
  have hbn := (bl_alloc (bl_refl w3) (Obj.cells #[Value.string (rN s), Value.int .i64 (rP s), Value.int .i64 (rQ s)] 26))
  replace kg0 := (hbn.cell (p := ⟨w1.heap.size, 0, none⟩) (by dsimp only; omega)).trans kg0
  replace kg1 := (hbn.cell (p := ⟨w1.heap.size, 1, none⟩) (by dsimp only; omega)).trans kg1
  replace kg2 := (hbn.cell (p := ⟨w1.heap.size, 2, none⟩) (by dsimp only; omega)).trans kg2
  replace zr := Nat.lt_of_lt_of_le zr hbn.size
  replace HB := hide (bl_trans HB.out hbn)
  clear hbn
  go_wp2_with fail
  generalize (w3.alloc (Obj.cells #[Value.string (rN s), Value.int .i64 (rP s), Value.int .i64 (rQ s)] 26)) = w4 at *
  refine (eqP (rN s) (rP s) (rQ s) _).mono ?_
  rintro e w5 ⟨rfl, hb⟩
  have yw5 := hb.size
  replace kg0 := (hb.cell (p := ⟨w1.heap.size, 0, none⟩) (by dsimp only; omega)).trans kg0
  replace kg1 := (hb.cell (p := ⟨w1.heap.size, 1, none⟩) (by dsimp only; omega)).trans kg1
  replace kg2 := (hb.cell (p := ⟨w1.heap.size, 2, none⟩) (by dsimp only; omega)).trans kg2
  replace kh0 := (hb.cell (p := ⟨w3.heap.size, 0, none⟩) (by dsimp only; omega)).trans kh0
  replace kh1 := (hb.cell (p := ⟨w3.heap.size, 1, none⟩) (by dsimp only; omega)).trans kh1
  replace kh2 := (hb.cell (p := ⟨w3.heap.size, 2, none⟩) (by dsimp only; omega)).trans kh2
  replace zr := Nat.lt_of_lt_of_le zr hb.size
  replace HB := hide (bl_trans HB.out hb)
  clear hb
  generalize rpG s = g
  cases g with
  | false =>
    go_wp2
    go_ret
    exact ⟨rfl, HB.out⟩
  | true =>
    go_wp2
    go_ret
    exact ⟨rfl, HB.out⟩

end Go.Proofs.YtkemplmhemnpbaaGreatDoor
