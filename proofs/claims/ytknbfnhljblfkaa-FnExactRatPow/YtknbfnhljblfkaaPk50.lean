/- My texts Pw0, in this order. -/
import Derived.Test.YtknbfnhljblfkaaPk48
import Derived.Test.YtknbfnhljblfkaaPk49
/- Powers of fractions: what is told, and the program's eachPart with Power. -/
namespace Go.Proofs.Ytknbfnhljblfkaa
open Go.RowKit
set_option linter.unusedVariables false

/-- whether a power of a fraction is right, and the fraction -/
def prT (t : Bool) (X Y : Int) (k : Nat) : Bool := t && ftT (X ^ k) (Y ^ k)
def prN (t : Bool) (X Y : Int) (k : Nat) : Int := if prT t X Y k = true then X ^ k else 0
def prD (t : Bool) (X Y : Int) (k : Nat) : Int := if prT t X Y k = true then Y ^ k else 0
def PrAns (t : Bool) (X Y : Int) (k : Nat) (w w' : World) (e : Ending) : Prop :=
  ∃ a1 c1 a2 c2, e = .returned (.tuple #[.agg #[.bool (sgn (prN t X Y k)), .slice a1 (lms (prN t X Y k)).length c1, .bool (sgn (prD t X Y k)), .slice a2 (lms (prD t X Y k)).length c2], .bool (prT t X Y k)]) ∧ Own w' w.heap.size a1 (lms (prN t X Y k)).length c1 (lms (prN t X Y k)) ∧ Own w' w.heap.size a2 (lms (prD t X Y k)).length c2 (lms (prD t X Y k)) ∧ Apart a1 a2 ∧ Below w.heap.size w w'
theorem pr_no {t : Bool} {X Y : Int} {k : Nat} {w w' : World} (h : prT t X Y k = false) (hb : Below w.heap.size w w') : PrAns t X Y k w w' (.returned (.tuple #[.agg #[.bool false, .slice none 0 0, .bool false, .slice none 0 0], .bool false])) := by
  have h1 : prN t X Y k = 0 := by unfold prN; rw [h]; rfl
  have h2 : prD t X Y k = 0 := by unfold prD; rw [h]; rfl
  refine ⟨none, 0, none, 0, ?_, ?_, ?_, Apart.none _, hb⟩
  · rw [h1, h2, h, zero_sgn, zero_lms]; rfl
  · rw [h1, zero_lms]; exact Own.nil _ _
  · rw [h2, zero_lms]; exact Own.nil _ _
theorem pr_yes {t : Bool} {X Y P Q : Int} {k : Nat} {w w' : World} {a1 a2 : Option Addr} {c1 c2 : Nat} (h : prT t X Y k = true) (hP : P = X ^ k) (hQ : Q = Y ^ k) (o1 : Own w' w.heap.size a1 (lms P).length c1 (lms P)) (o2 : Own w' w.heap.size a2 (lms Q).length c2 (lms Q)) (hap : Apart a1 a2) (hb : Below w.heap.size w w') :
    PrAns t X Y k w w' (.returned (.tuple #[.agg #[.bool (sgn P), .slice a1 (lms P).length c1, .bool (sgn Q), .slice a2 (lms Q).length c2], .bool true])) := by
  have h1 : prN t X Y k = P := by unfold prN; rw [h, hP]; rfl
  have h2 : prD t X Y k = Q := by unfold prD; rw [h, hQ]; rfl
  refine ⟨a1, c1, a2, c2, ?_, ?_, ?_, hap, hb⟩
  · rw [h1, h2, h]
  · rw [h1]; exact o1
  · rw [h2]; exact o2
theorem prN_len (t : Bool) (X Y : Int) (k : Nat) : (lms (prN t X Y k)).length ≤ 40 := by
  unfold prN
  by_cases h : prT t X Y k = true
  · rw [if_pos h]; unfold prT ftT fits at h; simp only [Bool.and_eq_true, decide_eq_true_eq] at h; exact Num.limbs_len.2 h.2.1
  · rw [if_neg h, zero_lms]; exact Nat.zero_le _
theorem prD_len (t : Bool) (X Y : Int) (k : Nat) : (lms (prD t X Y k)).length ≤ 40 := by
  unfold prD
  by_cases h : prT t X Y k = true
  · rw [if_pos h]; unfold prT ftT fits at h; simp only [Bool.and_eq_true, decide_eq_true_eq] at h; exact Num.limbs_len.2 h.2.2
  · rw [if_neg h, zero_lms]; exact Nat.zero_le _
theorem pr_f {t : Bool} {X Y : Int} {k : Nat} (ht : t = false) : prT t X Y k = false := by unfold prT; rw [ht]; rfl
theorem powT_num {x n : Int} (hx : x.natAbs < 4294967296 ^ 40) (h0 : 0 ≤ n) : powT (sgn x) (lms x) n = (decide (n ≤ 1000) && fits (x ^ n.toNat)) := by
  unfold powT
  rw [ok_of_num, decide_eq_true hx, nat_lms, mk_self, Bool.true_and]
  congr 1
  exact decide_eq_decide.2 ⟨fun h => h.2, fun h => ⟨h0, h⟩⟩
theorem powZ_num {x n : Int} (h : powT (sgn x) (lms x) n = true) : powZ (sgn x) (lms x) n = x ^ n.toNat := by
  unfold powZ; rw [if_pos h, nat_lms, mk_self]
theorem pr_pow {x y n : Int} (hx : x.natAbs < 4294967296 ^ 40) (hy : y.natAbs < 4294967296 ^ 40) (h0 : 0 ≤ n) : prT (decide (n ≤ 1000)) x y n.toNat = (powT (sgn x) (lms x) n && powT (sgn y) (lms y) n) := by
  unfold prT ftT
  rw [powT_num hx h0, powT_num hy h0]
  cases decide (n ≤ 1000) <;> rfl

set_option maxHeartbeats 4000000 in
theorem eachP (x y : Int) (a1 : Option Addr) (c1 : Nat) (b1 : Option Addr) (e1 : Nat) (w : World) (s1 : Seg w a1 (lms x).length c1 (lms x)) (t1 : Seg w b1 (lms y).length e1 (lms y)) (n : Int) (hx : x.natAbs < 4294967296 ^ 40) (hy : y.natAbs < 4294967296 ^ 40) (h0 : 0 ≤ n) (hn : n ≤ 9223372036854775807) :
    Calls Try.prog 46 #[Value.agg #[Value.bool (sgn x), Value.slice a1 (lms x).length c1, Value.bool (sgn y), Value.slice b1 (lms y).length e1], .func (.func 47) #[] #[], .int .i64 n] w fun e w' => PrAns (decide (n ≤ 1000)) x y n.toNat w w' e := by
  have HT := hide (pr_pow hx hy h0)
  clear hx hy
  have ka0 : ((w.alloc (Obj.cells #[Value.bool (sgn x), Value.slice a1 (lms x).length c1, Value.bool (sgn y), Value.slice b1 (lms y).length e1] 37)).alloc (Obj.cells #[Value.bool false, Value.slice none 0 0, Value.bool false, Value.slice none 0 0] 37)).cell? ⟨w.heap.size, 0, none⟩ = some (Value.bool (sgn x)) := by go_simp
  have ka1 : ((w.alloc (Obj.cells #[Value.bool (sgn x), Value.slice a1 (lms x).length c1, Value.bool (sgn y), Value.slice b1 (lms y).length e1] 37)).alloc (Obj.cells #[Value.bool false, Value.slice none 0 0, Value.bool false, Value.slice none 0 0] 37)).cell? ⟨w.heap.size, 1, none⟩ = some (Value.slice a1 (lms x).length c1) := by go_simp
  have ka2 : ((w.alloc (Obj.cells #[Value.bool (sgn x), Value.slice a1 (lms x).length c1, Value.bool (sgn y), Value.slice b1 (lms y).length e1] 37)).alloc (Obj.cells #[Value.bool false, Value.slice none 0 0, Value.bool false, Value.slice none 0 0] 37)).cell? ⟨w.heap.size, 2, none⟩ = some (Value.bool (sgn y)) := by go_simp
  have ka3 : ((w.alloc (Obj.cells #[Value.bool (sgn x), Value.slice a1 (lms x).length c1, Value.bool (sgn y), Value.slice b1 (lms y).length e1] 37)).alloc (Obj.cells #[Value.bool false, Value.slice none 0 0, Value.bool false, Value.slice none 0 0] 37)).cell? ⟨w.heap.size, 3, none⟩ = some (Value.slice b1 (lms y).length e1) := by go_simp
  have kr0 : ((w.alloc (Obj.cells #[Value.bool (sgn x), Value.slice a1 (lms x).length c1, Value.bool (sgn y), Value.slice b1 (lms y).length e1] 37)).alloc (Obj.cells #[Value.bool false, Value.slice none 0 0, Value.bool false, Value.slice none 0 0] 37)).cell? ⟨w.heap.size + 1, 0, none⟩ = some (Value.bool false) := by go_simp
  have fr0 : ((w.alloc (Obj.cells #[Value.bool (sgn x), Value.slice a1 (lms x).length c1, Value.bool (sgn y), Value.slice b1 (lms y).length e1] 37)).alloc (Obj.cells #[Value.bool false, Value.slice none 0 0, Value.bool false, Value.slice none 0 0] 37)).frozen? ⟨w.heap.size + 1, 0, none⟩ = false := by go_simp
  have kr1 : ((w.alloc (Obj.cells #[Value.bool (sgn x), Value.slice a1 (lms x).length c1, Value.bool (sgn y), Value.slice b1 (lms y).length e1] 37)).alloc (Obj.cells #[Value.bool false, Value.slice none 0 0, Value.bool false, Value.slice none 0 0] 37)).cell? ⟨w.heap.size + 1, 1, none⟩ = some (Value.slice none 0 0) := by go_simp
  have fr1 : ((w.alloc (Obj.cells #[Value.bool (sgn x), Value.slice a1 (lms x).length c1, Value.bool (sgn y), Value.slice b1 (lms y).length e1] 37)).alloc (Obj.cells #[Value.bool false, Value.slice none 0 0, Value.bool false, Value.slice none 0 0] 37)).frozen? ⟨w.heap.size + 1, 1, none⟩ = false := by go_simp
  have kr2 : ((w.alloc (Obj.cells #[Value.bool (sgn x), Value.slice a1 (lms x).length c1, Value.bool (sgn y), Value.slice b1 (lms y).length e1] 37)).alloc (Obj.cells #[Value.bool false, Value.slice none 0 0, Value.bool false, Value.slice none 0 0] 37)).cell? ⟨w.heap.size + 1, 2, none⟩ = some (Value.bool false) := by go_simp
  have fr2 : ((w.alloc (Obj.cells #[Value.bool (sgn x), Value.slice a1 (lms x).length c1, Value.bool (sgn y), Value.slice b1 (lms y).length e1] 37)).alloc (Obj.cells #[Value.bool false, Value.slice none 0 0, Value.bool false, Value.slice none 0 0] 37)).frozen? ⟨w.heap.size + 1, 2, none⟩ = false := by go_simp
  have kr3 : ((w.alloc (Obj.cells #[Value.bool (sgn x), Value.slice a1 (lms x).length c1, Value.bool (sgn y), Value.slice b1 (lms y).length e1] 37)).alloc (Obj.cells #[Value.bool false, Value.slice none 0 0, Value.bool false, Value.slice none 0 0] 37)).cell? ⟨w.heap.size + 1, 3, none⟩ = some (Value.slice none 0 0) := by go_simp
  have fr3 : ((w.alloc (Obj.cells #[Value.bool (sgn x), Value.slice a1 (lms x).length c1, Value.bool (sgn y), Value.slice b1 (lms y).length e1] 37)).alloc (Obj.cells #[Value.bool false, Value.slice none 0 0, Value.bool false, Value.slice none 0 0] 37)).frozen? ⟨w.heap.size + 1, 3, none⟩ = false := by go_simp
  have zr : w.heap.size + 1 < ((w.alloc (Obj.cells #[Value.bool (sgn x), Value.slice a1 (lms x).length c1, Value.bool (sgn y), Value.slice b1 (lms y).length e1] 37)).alloc (Obj.cells #[Value.bool false, Value.slice none 0 0, Value.bool false, Value.slice none 0 0] 37)).heap.size := by simp only [World.size_alloc]; omega
  have HB := hide (bl_alloc (bl_alloc (bl_refl w) (Obj.cells #[Value.bool (sgn x), Value.slice a1 (lms x).length c1, Value.bool (sgn y), Value.slice b1 (lms y).length e1] 37)) (Obj.cells #[Value.bool false, Value.slice none 0 0, Value.bool false, Value.slice none 0 0] 37))
  have S1 := hide (s1.below HB.out)
  have T1 := hide (t1.below HB.out)
  clear s1
  clear t1
  go_enter Try.func46, Try.ntmps46
  go_wp2_with fail
  generalize ((w.alloc (Obj.cells #[Value.bool (sgn x), Value.slice a1 (lms x).length c1, Value.bool (sgn y), Value.slice b1 (lms y).length e1] 37)).alloc (Obj.cells #[Value.bool false, Value.slice none 0 0, Value.bool false, Value.slice none 0 0] 37)) = w1 at *
  have z0 := zr
  refine (PowP _ (sgn x) (lms x) n _ ⟨a1, c1, rfl, S1.out⟩ (by omega) (by omega)).mono ?_
  rintro e w2 ⟨_, rfl, ⟨u1, v1, rfl, ho⟩, hb⟩
  have yw2 := hb.size
  replace ka0 := (hb.cell (p := ⟨w.heap.size, 0, none⟩) (by dsimp only; omega)).trans ka0
  replace ka1 := (hb.cell (p := ⟨w.heap.size, 1, none⟩) (by dsimp only; omega)).trans ka1
  replace ka2 := (hb.cell (p := ⟨w.heap.size, 2, none⟩) (by dsimp only; omega)).trans ka2
  replace ka3 := (hb.cell (p := ⟨w.heap.size, 3, none⟩) (by dsimp only; omega)).trans ka3
  replace kr0 := (hb.cell (p := ⟨w.heap.size + 1, 0, none⟩) (by dsimp only; omega)).trans kr0
  replace fr0 := (hb.frozen (p := ⟨w.heap.size + 1, 0, none⟩) (by dsimp only; omega)).trans fr0
  replace kr1 := (hb.cell (p := ⟨w.heap.size + 1, 1, none⟩) (by dsimp only; omega)).trans kr1
  replace fr1 := (hb.frozen (p := ⟨w.heap.size + 1, 1, none⟩) (by dsimp only; omega)).trans fr1
  replace kr2 := (hb.cell (p := ⟨w.heap.size + 1, 2, none⟩) (by dsimp only; omega)).trans kr2
  replace fr2 := (hb.frozen (p := ⟨w.heap.size + 1, 2, none⟩) (by dsimp only; omega)).trans fr2
  replace kr3 := (hb.cell (p := ⟨w.heap.size + 1, 3, none⟩) (by dsimp only; omega)).trans kr3
  replace fr3 := (hb.frozen (p := ⟨w.heap.size + 1, 3, none⟩) (by dsimp only; omega)).trans fr3
  replace S1 := hide (S1.out.below hb)
  replace T1 := hide (T1.out.below hb)
  replace zr := Nat.lt_of_lt_of_le zr hb.size
  replace HB := hide (bl_trans HB.out hb)
  clear hb
  have O1 := hide ho
  clear ho
  obtain ⟨Px, hPx⟩ : ∃ P, powZ (sgn x) (lms x) n = P := ⟨_, rfl⟩
  rw [hPx] at O1 ⊢
  have HPx := hide hPx
  clear hPx
  have yw3 : w2.heap.size + 1 ≤ (w2.alloc (Obj.cells #[Value.bool (sgn Px), Value.slice u1 (lms Px).length v1] 26)).heap.size := by simp only [World.size_alloc]; omega
  have kp0 : (w2.alloc (Obj.cells #[Value.bool (sgn Px), Value.slice u1 (lms Px).length v1] 26)).cell? ⟨w2.heap.size, 0, none⟩ = some (Value.bool (sgn Px)) := by go_simp
  have kp1 : (w2.alloc (Obj.cells #[Value.bool (sgn Px), Value.slice u1 (lms Px).length v1] 26)).cell? ⟨w2.heap.size, 1, none⟩ = some (Value.slice u1 (lms Px).length v1) := by go_simp
  have hbn := (bl_alloc (bl_refl w2) (Obj.cells #[Value.bool (sgn Px), Value.slice u1 (lms Px).length v1] 26))
  replace ka0 := (hbn.cell (p := ⟨w.heap.size, 0, none⟩) (by dsimp only; omega)).trans ka0
  replace ka1 := (hbn.cell (p := ⟨w.heap.size, 1, none⟩) (by dsimp only; omega)).trans ka1
  replace ka2 := (hbn.cell (p := ⟨w.heap.size, 2, none⟩) (by dsimp only; omega)).trans ka2
  replace ka3 := (hbn.cell (p := ⟨w.heap.size, 3, none⟩) (by dsimp only; omega)).trans ka3
  replace kr0 := (hbn.cell (p := ⟨w.heap.size + 1, 0, none⟩) (by dsimp only; omega)).trans kr0
  replace fr0 := (hbn.frozen (p := ⟨w.heap.size + 1, 0, none⟩) (by dsimp only; omega)).trans fr0
  replace kr1 := (hbn.cell (p := ⟨w.heap.size + 1, 1, none⟩) (by dsimp only; omega)).trans kr1
  replace fr1 := (hbn.frozen (p := ⟨w.heap.size + 1, 1, none⟩) (by dsimp only; omega)).trans fr1
  replace kr2 := (hbn.cell (p := ⟨w.heap.size + 1, 2, none⟩) (by dsimp only; omega)).trans kr2
  replace fr2 := (hbn.frozen (p := ⟨w.heap.size + 1, 2, none⟩) (by dsimp only; omega)).trans fr2
  replace kr3 := (hbn.cell (p := ⟨w.heap.size + 1, 3, none⟩) (by dsimp only; omega)).trans kr3
  replace fr3 := (hbn.frozen (p := ⟨w.heap.size + 1, 3, none⟩) (by dsimp only; omega)).trans fr3
  replace S1 := hide (S1.out.below hbn)
  replace T1 := hide (T1.out.below hbn)
  replace O1 := hide (O1.out.below hbn)
  replace zr := Nat.lt_of_lt_of_le zr hbn.size
  replace HB := hide (bl_trans HB.out hbn)
  clear hbn
  go_wp2_with fail
  generalize (w2.alloc (Obj.cells #[Value.bool (sgn Px), Value.slice u1 (lms Px).length v1] 26)) = w3 at *
  have OS := O1
  refine (PowP _ (sgn y) (lms y) n _ ⟨b1, e1, rfl, T1.out⟩ (by omega) (by omega)).mono ?_
  rintro e w4 ⟨_, rfl, ⟨u2, v2, rfl, ho⟩, hb⟩
  have yw4 := hb.size
  replace ka0 := (hb.cell (p := ⟨w.heap.size, 0, none⟩) (by dsimp only; omega)).trans ka0
  replace ka1 := (hb.cell (p := ⟨w.heap.size, 1, none⟩) (by dsimp only; omega)).trans ka1
  replace ka2 := (hb.cell (p := ⟨w.heap.size, 2, none⟩) (by dsimp only; omega)).trans ka2
  replace ka3 := (hb.cell (p := ⟨w.heap.size, 3, none⟩) (by dsimp only; omega)).trans ka3
  replace kr0 := (hb.cell (p := ⟨w.heap.size + 1, 0, none⟩) (by dsimp only; omega)).trans kr0
  replace fr0 := (hb.frozen (p := ⟨w.heap.size + 1, 0, none⟩) (by dsimp only; omega)).trans fr0
  replace kr1 := (hb.cell (p := ⟨w.heap.size + 1, 1, none⟩) (by dsimp only; omega)).trans kr1
  replace fr1 := (hb.frozen (p := ⟨w.heap.size + 1, 1, none⟩) (by dsimp only; omega)).trans fr1
  replace kr2 := (hb.cell (p := ⟨w.heap.size + 1, 2, none⟩) (by dsimp only; omega)).trans kr2
  replace fr2 := (hb.frozen (p := ⟨w.heap.size + 1, 2, none⟩) (by dsimp only; omega)).trans fr2
  replace kr3 := (hb.cell (p := ⟨w.heap.size + 1, 3, none⟩) (by dsimp only; omega)).trans kr3
  replace fr3 := (hb.frozen (p := ⟨w.heap.size + 1, 3, none⟩) (by dsimp only; omega)).trans fr3
  replace kp0 := (hb.cell (p := ⟨w2.heap.size, 0, none⟩) (by dsimp only; omega)).trans kp0
  replace kp1 := (hb.cell (p := ⟨w2.heap.size, 1, none⟩) (by dsimp only; omega)).trans kp1
  replace S1 := hide (S1.out.below hb)
  replace T1 := hide (T1.out.below hb)
  replace O1 := hide (O1.out.below hb)
  replace zr := Nat.lt_of_lt_of_le zr hb.size
  replace HB := hide (bl_trans HB.out hb)
  clear hb
  have O2 := hide ho
  have HAP := hide (apart_two OS.out ho)
  clear OS
  clear ho
  obtain ⟨Py, hPy⟩ : ∃ P, powZ (sgn y) (lms y) n = P := ⟨_, rfl⟩
  rw [hPy] at O2 ⊢
  have HPy := hide hPy
  clear hPy
  cases g1 : powT (sgn x) (lms x) n with
  | false =>
    have G1 := hide g1
    clear g1
    have HE : Hid (prT (decide (n ≤ 1000)) x y n.toNat = false) := hide (by rw [HT.out, G1.out]; rfl)
    have yw5 : w4.heap.size + 1 ≤ (w4.alloc (Obj.cells #[Value.bool (sgn Py), Value.slice u2 (lms Py).length v2] 26)).heap.size := by simp only [World.size_alloc]; omega
    have kq0 : (w4.alloc (Obj.cells #[Value.bool (sgn Py), Value.slice u2 (lms Py).length v2] 26)).cell? ⟨w4.heap.size, 0, none⟩ = some (Value.bool (sgn Py)) := by go_simp
    have kq1 : (w4.alloc (Obj.cells #[Value.bool (sgn Py), Value.slice u2 (lms Py).length v2] 26)).cell? ⟨w4.heap.size, 1, none⟩ = some (Value.slice u2 (lms Py).length v2) := by go_simp
    have hbn := (bl_alloc (bl_refl w4) (Obj.cells #[Value.bool (sgn Py), Value.slice u2 (lms Py).length v2] 26))
    replace ka0 := (hbn.cell (p := ⟨w.heap.size, 0, none⟩) (by dsimp only; omega)).trans ka0
    replace ka1 := (hbn.cell (p := ⟨w.heap.size, 1, none⟩) (by dsimp only; omega)).trans ka1
    replace ka2 := (hbn.cell (p := ⟨w.heap.size, 2, none⟩) (by dsimp only; omega)).trans ka2
    replace ka3 := (hbn.cell (p := ⟨w.heap.size, 3, none⟩) (by dsimp only; omega)).trans ka3
    replace kr0 := (hbn.cell (p := ⟨w.heap.size + 1, 0, none⟩) (by dsimp only; omega)).trans kr0
    replace fr0 := (hbn.frozen (p := ⟨w.heap.size + 1, 0, none⟩) (by dsimp only; omega)).trans fr0
    replace kr1 := (hbn.cell (p := ⟨w.heap.size + 1, 1, none⟩) (by dsimp only; omega)).trans kr1
    replace fr1 := (hbn.frozen (p := ⟨w.heap.size + 1, 1, none⟩) (by dsimp only; omega)).trans fr1
    replace kr2 := (hbn.cell (p := ⟨w.heap.size + 1, 2, none⟩) (by dsimp only; omega)).trans kr2
    replace fr2 := (hbn.frozen (p := ⟨w.heap.size + 1, 2, none⟩) (by dsimp only; omega)).trans fr2
    replace kr3 := (hbn.cell (p := ⟨w.heap.size + 1, 3, none⟩) (by dsimp only; omega)).trans kr3
    replace fr3 := (hbn.frozen (p := ⟨w.heap.size + 1, 3, none⟩) (by dsimp only; omega)).trans fr3
    replace kp0 := (hbn.cell (p := ⟨w2.heap.size, 0, none⟩) (by dsimp only; omega)).trans kp0
    replace kp1 := (hbn.cell (p := ⟨w2.heap.size, 1, none⟩) (by dsimp only; omega)).trans kp1
    replace S1 := hide (S1.out.below hbn)
    replace T1 := hide (T1.out.below hbn)
    replace O1 := hide (O1.out.below hbn)
    replace O2 := hide (O2.out.below hbn)
    replace zr := Nat.lt_of_lt_of_le zr hbn.size
    replace HB := hide (bl_trans HB.out hbn)
    clear hbn
    go_wp2
    generalize (w4.alloc (Obj.cells #[Value.bool (sgn Py), Value.slice u2 (lms Py).length v2] 26)) = w5 at *
    refine bodyPost_ret (v := (.tuple #[.agg #[.bool false, .slice none 0 0, .bool false, .slice none 0 0], .bool false])) (by simp [results, Try.results46, go_sem, kr0, kr1, kr2, kr3]) rfl ?_
    exact pr_no HE.out (by first | exact HB.out | exact set_four (N := w.heap.size + 1) (by omega) HB.out _ _ _ _)
  | true =>
  have G1 := hide g1
  clear g1
  cases g2 : powT (sgn y) (lms y) n with
  | false =>
    have G2 := hide g2
    clear g2
    have HE : Hid (prT (decide (n ≤ 1000)) x y n.toNat = false) := hide (by rw [HT.out, G2.out, Bool.and_false])
    have yw5 : w4.heap.size + 1 ≤ (w4.alloc (Obj.cells #[Value.bool (sgn Py), Value.slice u2 (lms Py).length v2] 26)).heap.size := by simp only [World.size_alloc]; omega
    have kq0 : (w4.alloc (Obj.cells #[Value.bool (sgn Py), Value.slice u2 (lms Py).length v2] 26)).cell? ⟨w4.heap.size, 0, none⟩ = some (Value.bool (sgn Py)) := by go_simp
    have kq1 : (w4.alloc (Obj.cells #[Value.bool (sgn Py), Value.slice u2 (lms Py).length v2] 26)).cell? ⟨w4.heap.size, 1, none⟩ = some (Value.slice u2 (lms Py).length v2) := by go_simp
    have hbn := (bl_alloc (bl_refl w4) (Obj.cells #[Value.bool (sgn Py), Value.slice u2 (lms Py).length v2] 26))
    replace ka0 := (hbn.cell (p := ⟨w.heap.size, 0, none⟩) (by dsimp only; omega)).trans ka0
    replace ka1 := (hbn.cell (p := ⟨w.heap.size, 1, none⟩) (by dsimp only; omega)).trans ka1
    replace ka2 := (hbn.cell (p := ⟨w.heap.size, 2, none⟩) (by dsimp only; omega)).trans ka2
    replace ka3 := (hbn.cell (p := ⟨w.heap.size, 3, none⟩) (by dsimp only; omega)).trans ka3
    replace kr0 := (hbn.cell (p := ⟨w.heap.size + 1, 0, none⟩) (by dsimp only; omega)).trans kr0
    replace fr0 := (hbn.frozen (p := ⟨w.heap.size + 1, 0, none⟩) (by dsimp only; omega)).trans fr0
    replace kr1 := (hbn.cell (p := ⟨w.heap.size + 1, 1, none⟩) (by dsimp only; omega)).trans kr1
    replace fr1 := (hbn.frozen (p := ⟨w.heap.size + 1, 1, none⟩) (by dsimp only; omega)).trans fr1
    replace kr2 := (hbn.cell (p := ⟨w.heap.size + 1, 2, none⟩) (by dsimp only; omega)).trans kr2
    replace fr2 := (hbn.frozen (p := ⟨w.heap.size + 1, 2, none⟩) (by dsimp only; omega)).trans fr2
    replace kr3 := (hbn.cell (p := ⟨w.heap.size + 1, 3, none⟩) (by dsimp only; omega)).trans kr3
    replace fr3 := (hbn.frozen (p := ⟨w.heap.size + 1, 3, none⟩) (by dsimp only; omega)).trans fr3
    replace kp0 := (hbn.cell (p := ⟨w2.heap.size, 0, none⟩) (by dsimp only; omega)).trans kp0
    replace kp1 := (hbn.cell (p := ⟨w2.heap.size, 1, none⟩) (by dsimp only; omega)).trans kp1
    replace S1 := hide (S1.out.below hbn)
    replace T1 := hide (T1.out.below hbn)
    replace O1 := hide (O1.out.below hbn)
    replace O2 := hide (O2.out.below hbn)
    replace zr := Nat.lt_of_lt_of_le zr hbn.size
    replace HB := hide (bl_trans HB.out hbn)
    clear hbn
    go_wp2
    generalize (w4.alloc (Obj.cells #[Value.bool (sgn Py), Value.slice u2 (lms Py).length v2] 26)) = w5 at *
    refine bodyPost_ret (v := (.tuple #[.agg #[.bool false, .slice none 0 0, .bool false, .slice none 0 0], .bool false])) (by simp [results, Try.results46, go_sem, kr0, kr1, kr2, kr3]) rfl ?_
    exact pr_no HE.out (by first | exact HB.out | exact set_four (N := w.heap.size + 1) (by omega) HB.out _ _ _ _)
  | true =>
  have G2 := hide g2
  clear g2
  have yw5 : w4.heap.size + 1 ≤ (w4.alloc (Obj.cells #[Value.bool (sgn Py), Value.slice u2 (lms Py).length v2] 26)).heap.size := by simp only [World.size_alloc]; omega
  have kq0 : (w4.alloc (Obj.cells #[Value.bool (sgn Py), Value.slice u2 (lms Py).length v2] 26)).cell? ⟨w4.heap.size, 0, none⟩ = some (Value.bool (sgn Py)) := by go_simp
  have kq1 : (w4.alloc (Obj.cells #[Value.bool (sgn Py), Value.slice u2 (lms Py).length v2] 26)).cell? ⟨w4.heap.size, 1, none⟩ = some (Value.slice u2 (lms Py).length v2) := by go_simp
  have hbn := (bl_alloc (bl_refl w4) (Obj.cells #[Value.bool (sgn Py), Value.slice u2 (lms Py).length v2] 26))
  replace ka0 := (hbn.cell (p := ⟨w.heap.size, 0, none⟩) (by dsimp only; omega)).trans ka0
  replace ka1 := (hbn.cell (p := ⟨w.heap.size, 1, none⟩) (by dsimp only; omega)).trans ka1
  replace ka2 := (hbn.cell (p := ⟨w.heap.size, 2, none⟩) (by dsimp only; omega)).trans ka2
  replace ka3 := (hbn.cell (p := ⟨w.heap.size, 3, none⟩) (by dsimp only; omega)).trans ka3
  replace kr0 := (hbn.cell (p := ⟨w.heap.size + 1, 0, none⟩) (by dsimp only; omega)).trans kr0
  replace fr0 := (hbn.frozen (p := ⟨w.heap.size + 1, 0, none⟩) (by dsimp only; omega)).trans fr0
  replace kr1 := (hbn.cell (p := ⟨w.heap.size + 1, 1, none⟩) (by dsimp only; omega)).trans kr1
  replace fr1 := (hbn.frozen (p := ⟨w.heap.size + 1, 1, none⟩) (by dsimp only; omega)).trans fr1
  replace kr2 := (hbn.cell (p := ⟨w.heap.size + 1, 2, none⟩) (by dsimp only; omega)).trans kr2
  replace fr2 := (hbn.frozen (p := ⟨w.heap.size + 1, 2, none⟩) (by dsimp only; omega)).trans fr2
  replace kr3 := (hbn.cell (p := ⟨w.heap.size + 1, 3, none⟩) (by dsimp only; omega)).trans kr3
  replace fr3 := (hbn.frozen (p := ⟨w.heap.size + 1, 3, none⟩) (by dsimp only; omega)).trans fr3
  replace kp0 := (hbn.cell (p := ⟨w2.heap.size, 0, none⟩) (by dsimp only; omega)).trans kp0
  replace kp1 := (hbn.cell (p := ⟨w2.heap.size, 1, none⟩) (by dsimp only; omega)).trans kp1
  replace S1 := hide (S1.out.below hbn)
  replace T1 := hide (T1.out.below hbn)
  replace O1 := hide (O1.out.below hbn)
  replace O2 := hide (O2.out.below hbn)
  replace zr := Nat.lt_of_lt_of_le zr hbn.size
  replace HB := hide (bl_trans HB.out hbn)
  clear hbn
  go_wp2
  generalize (w4.alloc (Obj.cells #[Value.bool (sgn Py), Value.slice u2 (lms Py).length v2] 26)) = w5 at *
  refine bodyPost_ret (v := (.tuple #[Value.agg #[Value.bool (sgn Px), Value.slice u1 (lms Px).length v1, Value.bool (sgn Py), Value.slice u2 (lms Py).length v2], .bool true])) (by simp [results, Try.results46, go_sem, kr0, kr1, kr2, kr3]) rfl ?_
  obtain ⟨h1, h2, h3⟩ := fin_four (N := w.heap.size + 1) O1.out O2.out (by omega) (by omega) (by omega) HB.out (Value.bool (sgn Px)) (Value.slice u1 (lms Px).length v1) (Value.bool (sgn Py)) (Value.slice u2 (lms Py).length v2)
  exact pr_yes (by rw [HT.out, G1.out, G2.out]; rfl) (HPx.out.symm.trans (powZ_num G1.out)) (HPy.out.symm.trans (powZ_num G2.out)) h1 h2 HAP.out h3


end Go.Proofs.Ytknbfnhljblfkaa
