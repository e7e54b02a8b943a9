/- My texts RrI, RrR, in this order. -/
import Derived.Test.YtkemplmhemnpbaaGreatDoorPk25
import Derived.Test.YtkemplmhemnpbaaGreatDoorCutR
import Derived.Test.YtkemplmhemnpbaaGreatDoorPk16
import Derived.Test.YtkemplmhemnpbaaGreatDoorPk12
import Derived.Test.YtkemplmhemnpbaaGreatDoorPk24
/- The walks of cutPlaces, readQuotient, readDecimal and ReadRat of the program, at texts of digits with a stroke or none. -/
namespace Go.Proofs.YtkemplmhemnpbaaGreatDoor
open Go.RowKit
set_option linter.unusedVariables false

/-- internal/bytealg.MaxLen holds some int -/
def Mx (w : World) : Prop := ∃ m : Int, w.cell? ⟨0, 0, none⟩ = some (.int .i64 m)
theorem Mx.below {w w' : World} (h : Mx w) (hb : Below w.heap.size w w') : Mx w' := by
  obtain ⟨m, hm⟩ := h
  exact ⟨m, (hb.cell (p := ⟨0, 0, none⟩) (World.block_lt_of_cell? w ⟨0, 0, none⟩ hm)).trans hm⟩
theorem cutI (s : ByteArray) (c : UInt8) (w : World) (hs : s.size ≤ 1000) (hm : Mx w) :
    Calls Tryz.prog 24 #[.string s, .string ⟨#[c]⟩] w fun e w' => e = .returned (.tuple #[.string ⟨(Lib.cut s.data.toList [c]).1.toArray⟩, .string ⟨(Lib.cut s.data.toList [c]).2.1.toArray⟩, .bool (Lib.cut s.data.toList [c]).2.2]) ∧ Below w.heap.size w w' := by
  obtain ⟨m, hm⟩ := hm
  refine (Tryz.strings_Cut s ⟨#[c]⟩ m w (by omega) hm).mono ?_
  rintro e w' ⟨he, n, hn⟩
  exact ⟨he, by rw [hn]; exact below_drewN (bl_refl w) n⟩
theorem cel4 {w1 : World} {N : Nat} {p : Addr} (h : p.block ≠ N) (x y z t : Value) : ((((w1.setCell ⟨N, 0, none⟩ x).setCell ⟨N, 1, none⟩ y).setCell ⟨N, 2, none⟩ z).setCell ⟨N, 3, none⟩ t).cell? p = w1.cell? p :=
  World.cell?_of_block ((Below.heap_setCell _ ⟨N, 3, none⟩ _ p.block h).trans ((Below.heap_setCell _ ⟨N, 2, none⟩ _ p.block h).trans ((Below.heap_setCell _ ⟨N, 1, none⟩ _ p.block h).trans (Below.heap_setCell _ ⟨N, 0, none⟩ _ p.block h))))
theorem own_four' {w1 : World} {N b n c lo : Nat} {a : Option Addr} {xs : List Nat} (h : Own w1 b a n c xs) (hN : N < b) (hlo : lo ≤ b) (x y z t : Value) : Own ((((w1.setCell ⟨N, 0, none⟩ x).setCell ⟨N, 1, none⟩ y).setCell ⟨N, 2, none⟩ z).setCell ⟨N, 3, none⟩ t) lo a n c xs :=
  ((((h.setCell (p := ⟨N, 0, none⟩) hN x).setCell (p := ⟨N, 1, none⟩) hN y).setCell (p := ⟨N, 2, none⟩) hN z).setCell (p := ⟨N, 3, none⟩) hN t).mono hlo
theorem ft_ok {p q : Int} (h1 : fits p = true) (h2 : fits q = true) (a : Option Addr) (c : Nat) (b : Option Addr) (d : Nat) : ftV p q a c b d = .agg #[.bool (sgn p), .slice a (lms p).length c, .bool (sgn q), .slice b (lms q).length d] ∧ ftT p q = true := by
  have : ftT p q = true := by unfold ftT; rw [h1, h2]; rfl
  exact ⟨by unfold ftV; rw [if_pos this], this⟩

set_option maxHeartbeats 1000000 in
theorem cutPlacesI (s : ByteArray) (w : World) (hs : s.size ≤ 1000) (hm : Mx w) (hd : digAll s.data.toList = true) :
    Calls Tryz.prog 83 #[.string s] w fun e w' => e = .returned (.tuple #[.string s, .int .i64 0, .bool true]) ∧ Below w.heap.size w w' := by
  have HC := hide (cut_none (dig_not hd (c := 101) (by decide)))
  have HM := hide hm
  clear hd hm
  go_enter Tryz.func83, Tryz.ntmps83
  go_wp2_with fail
  refine (cutI s 101 _ hs HM.out).mono ?_
  rw [HC.out]
  rintro e w1 ⟨rfl, hb⟩
  have HB := hide hb
  clear hb
  go_wp2
  refine bodyPost_ret (v := .tuple #[.string s, .int .i64 0, .bool true]) (by simp [results, Tryz.results83, go_sem, *]) rfl ?_
  exact ⟨rfl, HB.out⟩

set_option maxHeartbeats 4000000 in
set_option maxRecDepth 20000 in
theorem readQuotI (neg : Bool) (N D : ByteArray) (x y : Int) (w : World) (hN : digOk N = true) (hD : digOk D = true) (sN : N.size ≤ 400) (sD : D.size ≤ 400) (hx : mk neg (valN N.data.toList) = x) (hy : mk false (valN D.data.toList) = y) (hy0 : 0 < y) (hg : Int.gcd x y = 1) (fx : fits x = true) (fy : fits y = true) :
    Calls Tryz.prog 50 #[.bool neg, .string N, .string D] w fun e w' => ∃ b1 e1 b2 e2, e = .returned (.tuple #[.agg #[.bool (sgn x), .slice b1 (lms x).length e1, .bool (sgn y), .slice b2 (lms y).length e2], .bool true]) ∧ Own w' w.heap.size b1 (lms x).length e1 (lms x) ∧ Own w' w.heap.size b2 (lms y).length e2 (lms y) ∧ Below w.heap.size w w' := by
  have HDN := hide hN
  have HDD := hide hD
  have HAN : Hid (digAll N.data.toList = true) := hide (by unfold digOk at hN; rw [Bool.and_eq_true] at hN; exact hN.1)
  have HAD : Hid (digAll D.data.toList = true) := hide (by unfold digOk at hD; rw [Bool.and_eq_true] at hD; exact hD.1)
  have HX := hide hx
  have HY := hide hy
  have HSG : Hid (sgG x y = 1) := hide (by unfold sgG; rw [if_neg (by omega), hg]; rfl)
  have lx : (lms x).length ≤ 40 := Num.limbs_len.2 (of_decide_eq_true fx)
  have ly : (lms y).length ≤ 40 := Num.limbs_len.2 (of_decide_eq_true fy)
  have HFX := hide fx
  have HFY := hide fy
  clear hN hD hx hy hg fx fy
  have kr0 : (w.alloc (Obj.cells #[Value.bool false, Value.slice none 0 0, Value.bool false, Value.slice none 0 0] 42)).cell? ⟨w.heap.size, 0, none⟩ = some (Value.bool false) := by go_simp
  have fr0 : (w.alloc (Obj.cells #[Value.bool false, Value.slice none 0 0, Value.bool false, Value.slice none 0 0] 42)).frozen? ⟨w.heap.size, 0, none⟩ = false := by go_simp
  have kr1 : (w.alloc (Obj.cells #[Value.bool false, Value.slice none 0 0, Value.bool false, Value.slice none 0 0] 42)).cell? ⟨w.heap.size, 1, none⟩ = some (Value.slice none 0 0) := by go_simp
  have fr1 : (w.alloc (Obj.cells #[Value.bool false, Value.slice none 0 0, Value.bool false, Value.slice none 0 0] 42)).frozen? ⟨w.heap.size, 1, none⟩ = false := by go_simp
  have kr2 : (w.alloc (Obj.cells #[Value.bool false, Value.slice none 0 0, Value.bool false, Value.slice none 0 0] 42)).cell? ⟨w.heap.size, 2, none⟩ = some (Value.bool false) := by go_simp
  have fr2 : (w.alloc (Obj.cells #[Value.bool false, Value.slice none 0 0, Value.bool false, Value.slice none 0 0] 42)).frozen? ⟨w.heap.size, 2, none⟩ = false := by go_simp
  have kr3 : (w.alloc (Obj.cells #[Value.bool false, Value.slice none 0 0, Value.bool false, Value.slice none 0 0] 42)).cell? ⟨w.heap.size, 3, none⟩ = some (Value.slice none 0 0) := by go_simp
  have fr3 : (w.alloc (Obj.cells #[Value.bool false, Value.slice none 0 0, Value.bool false, Value.slice none 0 0] 42)).frozen? ⟨w.heap.size, 3, none⟩ = false := by go_simp
  have zr : w.heap.size < (w.alloc (Obj.cells #[Value.bool false, Value.slice none 0 0, Value.bool false, Value.slice none 0 0] 42)).heap.size := by simp only [World.size_alloc]; omega
  have HB := hide (bl_alloc (bl_refl w) (Obj.cells #[Value.bool false, Value.slice none 0 0, Value.bool false, Value.slice none 0 0] 42))
  go_enter Tryz.func50, Tryz.ntmps50
  go_wp2_with fail
  generalize w.alloc (Obj.cells #[Value.bool false, Value.slice none 0 0, Value.bool false, Value.slice none 0 0] 42) = W0 at *
  refine (allDigitsI N _ (by omega)).mono ?_
  rw [HDN.out]
  rintro e w1 ⟨rfl, hb⟩
  replace kr0 := (hb.cell (p := ⟨w.heap.size, 0, none⟩) zr).trans kr0
  replace fr0 := (hb.frozen (p := ⟨w.heap.size, 0, none⟩) zr).trans fr0
  replace kr1 := (hb.cell (p := ⟨w.heap.size, 1, none⟩) zr).trans kr1
  replace fr1 := (hb.frozen (p := ⟨w.heap.size, 1, none⟩) zr).trans fr1
  replace kr2 := (hb.cell (p := ⟨w.heap.size, 2, none⟩) zr).trans kr2
  replace fr2 := (hb.frozen (p := ⟨w.heap.size, 2, none⟩) zr).trans fr2
  replace kr3 := (hb.cell (p := ⟨w.heap.size, 3, none⟩) zr).trans kr3
  replace fr3 := (hb.frozen (p := ⟨w.heap.size, 3, none⟩) zr).trans fr3
  replace zr := Nat.lt_of_lt_of_le zr hb.size
  replace HB := hide (bl_trans HB.out hb)
  clear hb
  go_wp2_with fail
  refine (allDigitsI D _ (by omega)).mono ?_
  rw [HDD.out]
  rintro e w2 ⟨rfl, hb⟩
  replace kr0 := (hb.cell (p := ⟨w.heap.size, 0, none⟩) zr).trans kr0
  replace fr0 := (hb.frozen (p := ⟨w.heap.size, 0, none⟩) zr).trans fr0
  replace kr1 := (hb.cell (p := ⟨w.heap.size, 1, none⟩) zr).trans kr1
  replace fr1 := (hb.frozen (p := ⟨w.heap.size, 1, none⟩) zr).trans fr1
  replace kr2 := (hb.cell (p := ⟨w.heap.size, 2, none⟩) zr).trans kr2
  replace fr2 := (hb.frozen (p := ⟨w.heap.size, 2, none⟩) zr).trans fr2
  replace kr3 := (hb.cell (p := ⟨w.heap.size, 3, none⟩) zr).trans kr3
  replace fr3 := (hb.frozen (p := ⟨w.heap.size, 3, none⟩) zr).trans fr3
  replace zr := Nat.lt_of_lt_of_le zr hb.size
  replace HB := hide (bl_trans HB.out hb)
  clear hb
  go_wp2_with fail
  refine (digitLimbsI D _ HAD.out (by omega)).mono ?_
  rintro e w3 ⟨a3, n3, c3, xs3, rfl, ho3, hn3, hv3, hb⟩
  have hb3 := hb.size
  have HO3 := hide ho3
  have HV3 := hide hv3
  clear ho3 hv3
  replace kr0 := (hb.cell (p := ⟨w.heap.size, 0, none⟩) zr).trans kr0
  replace fr0 := (hb.frozen (p := ⟨w.heap.size, 0, none⟩) zr).trans fr0
  replace kr1 := (hb.cell (p := ⟨w.heap.size, 1, none⟩) zr).trans kr1
  replace fr1 := (hb.frozen (p := ⟨w.heap.size, 1, none⟩) zr).trans fr1
  replace kr2 := (hb.cell (p := ⟨w.heap.size, 2, none⟩) zr).trans kr2
  replace fr2 := (hb.frozen (p := ⟨w.heap.size, 2, none⟩) zr).trans fr2
  replace kr3 := (hb.cell (p := ⟨w.heap.size, 3, none⟩) zr).trans kr3
  replace fr3 := (hb.frozen (p := ⟨w.heap.size, 3, none⟩) zr).trans fr3
  replace zr := Nat.lt_of_lt_of_le zr hb.size
  replace HB := hide (bl_trans HB.out hb)
  clear hb
  go_wp2_with fail
  refine (bigOfI false a3 n3 c3 xs3 _ _ HO3.out hb3).mono ?_
  rw [HV3.out, HY.out]
  rintro e w4 ⟨v4, rfl, ⟨a4, c4, rfl, ho4⟩, hb⟩
  have S4 := hide ho4.seg
  clear ho4 HO3 HV3
  replace kr0 := (hb.cell (p := ⟨w.heap.size, 0, none⟩) zr).trans kr0
  replace fr0 := (hb.frozen (p := ⟨w.heap.size, 0, none⟩) zr).trans fr0
  replace kr1 := (hb.cell (p := ⟨w.heap.size, 1, none⟩) zr).trans kr1
  replace fr1 := (hb.frozen (p := ⟨w.heap.size, 1, none⟩) zr).trans fr1
  replace kr2 := (hb.cell (p := ⟨w.heap.size, 2, none⟩) zr).trans kr2
  replace fr2 := (hb.frozen (p := ⟨w.heap.size, 2, none⟩) zr).trans fr2
  replace kr3 := (hb.cell (p := ⟨w.heap.size, 3, none⟩) zr).trans kr3
  replace fr3 := (hb.frozen (p := ⟨w.heap.size, 3, none⟩) zr).trans fr3
  replace zr := Nat.lt_of_lt_of_le zr hb.size
  replace HB := hide (bl_trans HB.out hb)
  clear hb
  have zr4 := zr
  have kd0 : (w4.alloc (Obj.cells #[Value.bool (sgn y), Value.slice a4 (lms y).length c4] 40)).cell? ⟨w4.heap.size, 0, none⟩ = some (Value.bool (sgn y)) := by go_simp
  have kd1 : (w4.alloc (Obj.cells #[Value.bool (sgn y), Value.slice a4 (lms y).length c4] 40)).cell? ⟨w4.heap.size, 1, none⟩ = some (Value.slice a4 (lms y).length c4) := by go_simp
  have fd0 : (w4.alloc (Obj.cells #[Value.bool (sgn y), Value.slice a4 (lms y).length c4] 40)).frozen? ⟨w4.heap.size, 0, none⟩ = false := by go_simp
  have fd1 : (w4.alloc (Obj.cells #[Value.bool (sgn y), Value.slice a4 (lms y).length c4] 40)).frozen? ⟨w4.heap.size, 1, none⟩ = false := by go_simp
  have zd : w4.heap.size < (w4.alloc (Obj.cells #[Value.bool (sgn y), Value.slice a4 (lms y).length c4] 40)).heap.size := by simp only [World.size_alloc]; omega
  have hbn := bl_alloc (bl_refl w4) (Obj.cells #[Value.bool (sgn y), Value.slice a4 (lms y).length c4] 40)
  replace kr0 := (hbn.cell (p := ⟨w.heap.size, 0, none⟩) zr).trans kr0
  replace fr0 := (hbn.frozen (p := ⟨w.heap.size, 0, none⟩) zr).trans fr0
  replace kr1 := (hbn.cell (p := ⟨w.heap.size, 1, none⟩) zr).trans kr1
  replace fr1 := (hbn.frozen (p := ⟨w.heap.size, 1, none⟩) zr).trans fr1
  replace kr2 := (hbn.cell (p := ⟨w.heap.size, 2, none⟩) zr).trans kr2
  replace fr2 := (hbn.frozen (p := ⟨w.heap.size, 2, none⟩) zr).trans fr2
  replace kr3 := (hbn.cell (p := ⟨w.heap.size, 3, none⟩) zr).trans kr3
  replace fr3 := (hbn.frozen (p := ⟨w.heap.size, 3, none⟩) zr).trans fr3
  replace zr := Nat.lt_of_lt_of_le zr hbn.size
  replace S4 := hide (S4.out.below hbn)
  replace HB := hide (bl_trans HB.out hbn)
  clear hbn
  go_wp2_with fail
  generalize w4.alloc (Obj.cells #[Value.bool (sgn y), Value.slice a4 (lms y).length c4] 40) = w5 at *
  refine (noughtI _ (sgn y) (lms y) _ ⟨a4, c4, rfl, S4.out⟩).mono ?_
  rw [decide_eq_false (show ¬ (lms y).length = 0 from fun h => by have := sgn_lms_nil h; omega)]
  rintro e w6 ⟨rfl, hb⟩
  replace kr0 := (hb.cell (p := ⟨w.heap.size, 0, none⟩) zr).trans kr0
  replace fr0 := (hb.frozen (p := ⟨w.heap.size, 0, none⟩) zr).trans fr0
  replace kr1 := (hb.cell (p := ⟨w.heap.size, 1, none⟩) zr).trans kr1
  replace fr1 := (hb.frozen (p := ⟨w.heap.size, 1, none⟩) zr).trans fr1
  replace kr2 := (hb.cell (p := ⟨w.heap.size, 2, none⟩) zr).trans kr2
  replace fr2 := (hb.frozen (p := ⟨w.heap.size, 2, none⟩) zr).trans fr2
  replace kr3 := (hb.cell (p := ⟨w.heap.size, 3, none⟩) zr).trans kr3
  replace fr3 := (hb.frozen (p := ⟨w.heap.size, 3, none⟩) zr).trans fr3
  replace kd0 := (hb.cell (p := ⟨w4.heap.size, 0, none⟩) zd).trans kd0
  replace fd0 := (hb.frozen (p := ⟨w4.heap.size, 0, none⟩) zd).trans fd0
  replace kd1 := (hb.cell (p := ⟨w4.heap.size, 1, none⟩) zd).trans kd1
  replace fd1 := (hb.frozen (p := ⟨w4.heap.size, 1, none⟩) zd).trans fd1
  replace zd := Nat.lt_of_lt_of_le zd hb.size
  replace zr := Nat.lt_of_lt_of_le zr hb.size
  replace S4 := hide (S4.out.below hb)
  replace HB := hide (bl_trans HB.out hb)
  clear hb
  have hdr : w4.heap.size ≠ w.heap.size := by omega
  go_wp2_with fail
  go_region_held3 (fun w' => w'.cell? ⟨w4.heap.size, 0, none⟩ = some (Value.bool (sgn y)) ∧ w'.cell? ⟨w4.heap.size, 1, none⟩ = some (Value.slice a4 (lms y).length c4))
    (first | exact ⟨(by (try rw [World.cell?_drew]); first | with_reducible assumption), (by (try rw [World.cell?_drew]); first | with_reducible assumption)⟩ | exact ⟨(cel4 (p := ⟨w4.heap.size, 0, none⟩) hdr _ _ _ _).trans kd0, (cel4 (p := ⟨w4.heap.size, 1, none⟩) hdr _ _ _ _).trans kd1⟩)
    (first
      | (go_at_call 82; refine (digitLimbsI N _ HAN.out (by omega)).mono ?_; rintro e wA ⟨aA, nA, cA, xsA, rfl, hoA, hnA, hvA, hbAr⟩; have hbA : Below w6.heap.size w6 wA := (bl_refl w6).drew.trans hbAr; have yA := hbA.size; have yAr := hbAr.size; have kd0 := (hbAr.cell (p := ⟨w4.heap.size, 0, none⟩) (by dsimp only; rw [World.size_drew]; omega)).trans kd0; have kd1 := (hbAr.cell (p := ⟨w4.heap.size, 1, none⟩) (by dsimp only; rw [World.size_drew]; omega)).trans kd1)
      | (go_at_call 72; refine (bigOfI neg aA nA cA xsA _ _ hoA yAr).mono ?_; rw [hvA, HX.out]; rintro e wB ⟨vB, rfl, ⟨aB, cB, rfl, hoB⟩, hbBr⟩; have hbB : Below w6.heap.size w6 wB := bl_trans hbA hbBr; have yB := hbBr.size; have kd0 := (hbBr.cell (p := ⟨w4.heap.size, 0, none⟩) (by dsimp only; omega)).trans kd0; have kd1 := (hbBr.cell (p := ⟨w4.heap.size, 1, none⟩) (by dsimp only; omega)).trans kd1)
      | (go_at_call 70; refine (shortI' x y aB cB a4 c4 _ hoB.seg (S4.out.below hbB) (by omega) (by omega) (by omega)).mono ?_; rw [HSG.out, Int.ediv_one, Int.ediv_one]; rintro e wC ⟨b1, e1, b2, e2, rfl, ho1, ho2, hap, hbCr⟩; have hbC : Below w6.heap.size w6 wC := bl_trans hbB hbCr; have yC := hbCr.size; have kd0 := (hbCr.cell (p := ⟨w4.heap.size, 0, none⟩) (by dsimp only; omega)).trans kd0; have kd1 := (hbCr.cell (p := ⟨w4.heap.size, 1, none⟩) (by dsimp only; omega)).trans kd1)
      | (go_at_call 71; refine (fitI x y b1 e1 b2 e2 _ ho1.seg ho2.seg).mono ?_; rw [(ft_ok HFX.out HFY.out b1 e1 b2 e2).1, (ft_ok HFX.out HFY.out b1 e1 b2 e2).2]; rintro e wD ⟨rfl, hbDr⟩; have hbD : Below w6.heap.size w6 wD := bl_trans hbC hbDr; have yD := hbDr.size; have kd0 := (hbDr.cell (p := ⟨w4.heap.size, 0, none⟩) (by dsimp only; omega)).trans kd0; have kd1 := (hbDr.cell (p := ⟨w4.heap.size, 1, none⟩) (by dsimp only; omega)).trans kd1; have kr0 := (hbD.cell (p := ⟨w.heap.size, 0, none⟩) zr).trans kr0; have fr0 := (hbD.frozen (p := ⟨w.heap.size, 0, none⟩) zr).trans fr0; have kr1 := (hbD.cell (p := ⟨w.heap.size, 1, none⟩) zr).trans kr1; have fr1 := (hbD.frozen (p := ⟨w.heap.size, 1, none⟩) zr).trans fr1; have kr2 := (hbD.cell (p := ⟨w.heap.size, 2, none⟩) zr).trans kr2; have fr2 := (hbD.frozen (p := ⟨w.heap.size, 2, none⟩) zr).trans fr2; have kr3 := (hbD.cell (p := ⟨w.heap.size, 3, none⟩) zr).trans kr3; have fr3 := (hbD.frozen (p := ⟨w.heap.size, 3, none⟩) zr).trans fr3; have HO1 := hide (ho1.below hbDr); have HO2 := hide (ho2.below hbDr)))
  replace HB := hide (bl_trans HB.out hbD)
  clear hoA hoB ho1 ho2 hap hbA hbAr hbB hbBr hbC hbCr hbD hbDr
  go_wp2
  refine bodyPost_ret (v := .tuple #[.agg #[.bool (sgn x), .slice b1 (lms x).length e1, .bool (sgn y), .slice b2 (lms y).length e2], .bool true]) (by simp [results, Tryz.results50, go_sem, *]) rfl ?_
  exact ⟨b1, e1, b2, e2, rfl, own_four' HO1.out (by omega) (by omega) _ _ _ _, own_four' HO2.out (by omega) (by omega) _ _ _ _, set_four (Nat.le_refl _) HB.out _ _ _ _⟩

theorem back_bytes (D : ByteArray) : (⟨D.data.toList.toArray⟩ : ByteArray) = D := by rw [Array.toArray_toList]
theorem app_none (D : ByteArray) : D ++ ⟨#[]⟩ = D := ByteArray.ext (Array.ext' (by simp))
theorem cel2 {w1 : World} {N : Nat} {p : Addr} (h : p.block ≠ N) (x y : Value) : ((w1.setCell ⟨N, 0, none⟩ x).setCell ⟨N, 1, none⟩ y).cell? p = w1.cell? p :=
  World.cell?_of_block ((Below.heap_setCell _ ⟨N, 1, none⟩ _ p.block h).trans (Below.heap_setCell _ ⟨N, 0, none⟩ _ p.block h))
theorem fro2 {w1 : World} {N : Nat} {p : Addr} (h : p.block ≠ N) (x y : Value) : ((w1.setCell ⟨N, 0, none⟩ x).setCell ⟨N, 1, none⟩ y).frozen? p = w1.frozen? p :=
  World.frozen?_of_block ((Below.heap_setCell _ ⟨N, 1, none⟩ _ p.block h).trans (Below.heap_setCell _ ⟨N, 0, none⟩ _ p.block h))
theorem grown_at (W : World) (p : Addr) (v : Value) : W.grownBy (W.setCell p v) (some p.block) :=
  ⟨rfl, rfl, rfl, by simp [World.setCell], fun k _ hn => Below.heap_setCell _ _ _ _ (fun e => hn (by rw [e]))⟩
theorem seg_off {W W' : World} {lo N n c : Nat} {a : Option Addr} {xs : List Nat} (h : Own W lo a n c xs) (hb : Below W.heap.size W W') (hN : W.heap.size ≤ N) (x y : Value) : Seg ((W'.setCell ⟨N, 0, none⟩ x).setCell ⟨N, 1, none⟩ y) a n c xs := by
  have ne : (Value.slice a n c).ownBlock = none ∨ (Value.slice a n c).ownBlock ≠ some N := by
    cases hk : (Value.slice a n c).ownBlock with
    | none => exact .inl rfl
    | some k => exact .inr fun e => by have := (h.1.lt k hk).2; cases e; omega
  exact (((h.below hb).kept (grown_at W' ⟨N, 0, none⟩ x) ne).kept (grown_at _ ⟨N, 1, none⟩ y) ne).seg
theorem seg_on {W : World} {lo N n c : Nat} {a : Option Addr} {xs : List Nat} (h : Own W lo a n c xs) (hN : N < lo) (x y : Value) : Seg ((W.setCell ⟨N, 0, none⟩ x).setCell ⟨N, 1, none⟩ y) a n c xs :=
  ((h.setCell (p := ⟨N, 0, none⟩) hN x).setCell (p := ⟨N, 1, none⟩) hN y).seg
theorem pow0I (v : Value) (z : Int) (w : World) (h : Is w v z) : Calls Tryz.prog 84 #[v, .int .i64 0] w fun e w' => ∃ v, e = .returned v ∧ New w' w.heap.size v 1 ∧ Below w.heap.size w w' := by
  have := powI v z 0 w h (by decide) (fun j hj => by
    obtain rfl : j = 0 := Nat.le_zero.1 hj
    rw [Int.pow_zero, lms_one (by rfl)]; decide)
  simpa using this
theorem prodXY (v1 v2 : Value) (x y : Int) (w : World) (h1 : Is w v1 x) (h2 : Is w v2 y) (l1 : (lms x).length ≤ 500000) (l2 : (lms y).length ≤ 500000) :
    Calls Tryz.prog 85 #[v1, v2] w fun e w' => ∃ v, e = .returned v ∧ New w' w.heap.size v (x * y) ∧ Below w.heap.size w w' := by
  have := prodI v1 v2 (sgn x) (sgn y) x.natAbs y.natAbs w h1 h2 l1 l2
  rw [mk_self, mk_self] at this; exact this

set_option maxHeartbeats 8000000 in
set_option maxRecDepth 20000 in
theorem readDecI (neg : Bool) (D : ByteArray) (x : Int) (w : World) (hm : Mx w) (hD : digOk D = true) (sD : D.size ≤ 400) (hx : mk neg (valN D.data.toList) = x) (fx : fits x = true) :
    Calls Tryz.prog 51 #[.bool neg, .string D] w fun e w' => ∃ b1 e1 b2 e2, e = .returned (.tuple #[.agg #[.bool (sgn x), .slice b1 (lms x).length e1, .bool (sgn 1), .slice b2 (lms 1).length e2], .bool true]) ∧ Own w' w.heap.size b1 (lms x).length e1 (lms x) ∧ Own w' w.heap.size b2 (lms 1).length e2 (lms 1) ∧ Below w.heap.size w w' := by
  have HDD := hide hD
  have HAD : Hid (digAll D.data.toList = true) := hide (by unfold digOk at hD; rw [Bool.and_eq_true] at hD; exact hD.1)
  have HX := hide hx
  have HSG : Hid (sgG x 1 = 1) := hide (by unfold sgG; rw [if_neg (by omega), Int.gcd_one]; rfl)
  have lx : (lms x).length ≤ 40 := Num.limbs_len.2 (of_decide_eq_true fx)
  have HFX := hide fx
  have HFY : Hid (fits 1 = true) := hide (by unfold fits; decide)
  have ly : (lms 1).length ≤ 40 := Num.limbs_len.2 (of_decide_eq_true HFY.out)
  have l10 : (lms 10).length ≤ 40 := Num.limbs_len.2 (by decide)
  clear hD hx fx
  have HC := hide (cut_none (dig_not HAD.out (c := 46) (by decide)))
  have HM := hide hm
  clear hm
  have kr0 : (w.alloc (Obj.cells #[Value.bool false, Value.slice none 0 0, Value.bool false, Value.slice none 0 0] 42)).cell? ⟨w.heap.size, 0, none⟩ = some (Value.bool false) := by go_simp
  have fr0 : (w.alloc (Obj.cells #[Value.bool false, Value.slice none 0 0, Value.bool false, Value.slice none 0 0] 42)).frozen? ⟨w.heap.size, 0, none⟩ = false := by go_simp
  have kr1 : (w.alloc (Obj.cells #[Value.bool false, Value.slice none 0 0, Value.bool false, Value.slice none 0 0] 42)).cell? ⟨w.heap.size, 1, none⟩ = some (Value.slice none 0 0) := by go_simp
  have fr1 : (w.alloc (Obj.cells #[Value.bool false, Value.slice none 0 0, Value.bool false, Value.slice none 0 0] 42)).frozen? ⟨w.heap.size, 1, none⟩ = false := by go_simp
  have kr2 : (w.alloc (Obj.cells #[Value.bool false, Value.slice none 0 0, Value.bool false, Value.slice none 0 0] 42)).cell? ⟨w.heap.size, 2, none⟩ = some (Value.bool false) := by go_simp
  have fr2 : (w.alloc (Obj.cells #[Value.bool false, Value.slice none 0 0, Value.bool false, Value.slice none 0 0] 42)).frozen? ⟨w.heap.size, 2, none⟩ = false := by go_simp
  have kr3 : (w.alloc (Obj.cells #[Value.bool false, Value.slice none 0 0, Value.bool false, Value.slice none 0 0] 42)).cell? ⟨w.heap.size, 3, none⟩ = some (Value.slice none 0 0) := by go_simp
  have fr3 : (w.alloc (Obj.cells #[Value.bool false, Value.slice none 0 0, Value.bool false, Value.slice none 0 0] 42)).frozen? ⟨w.heap.size, 3, none⟩ = false := by go_simp
  have zr : w.heap.size < (w.alloc (Obj.cells #[Value.bool false, Value.slice none 0 0, Value.bool false, Value.slice none 0 0] 42)).heap.size := by simp only [World.size_alloc]; omega
  have HB := hide (bl_alloc (bl_refl w) (Obj.cells #[Value.bool false, Value.slice none 0 0, Value.bool false, Value.slice none 0 0] 42))
  replace HM := hide (HM.out.below HB.out)
  go_enter Tryz.func51, Tryz.ntmps51
  go_wp2_with fail
  generalize w.alloc (Obj.cells #[Value.bool false, Value.slice none 0 0, Value.bool false, Value.slice none 0 0] 42) = W0 at *
  refine (cutPlacesI D _ (by omega) HM.out HAD.out).mono ?_
  rintro e w1 ⟨rfl, hb⟩
  replace kr0 := (hb.cell (p := ⟨w.heap.size, 0, none⟩) zr).trans kr0
  replace fr0 := (hb.frozen (p := ⟨w.heap.size, 0, none⟩) zr).trans fr0
  replace kr1 := (hb.cell (p := ⟨w.heap.size, 1, none⟩) zr).trans kr1
  replace fr1 := (hb.frozen (p := ⟨w.heap.size, 1, none⟩) zr).trans fr1
  replace kr2 := (hb.cell (p := ⟨w.heap.size, 2, none⟩) zr).trans kr2
  replace fr2 := (hb.frozen (p := ⟨w.heap.size, 2, none⟩) zr).trans fr2
  replace kr3 := (hb.cell (p := ⟨w.heap.size, 3, none⟩) zr).trans kr3
  replace fr3 := (hb.frozen (p := ⟨w.heap.size, 3, none⟩) zr).trans fr3
  replace zr := Nat.lt_of_lt_of_le zr hb.size
  replace HM := hide (HM.out.below hb)
  replace HB := hide (bl_trans HB.out hb)
  clear hb
  go_wp2_with fail
  refine (cutI D 46 _ (by omega) HM.out).mono ?_
  rw [HC.out, back_bytes]
  rintro e w2 ⟨rfl, hb⟩
  replace kr0 := (hb.cell (p := ⟨w.heap.size, 0, none⟩) zr).trans kr0
  replace fr0 := (hb.frozen (p := ⟨w.heap.size, 0, none⟩) zr).trans fr0
  replace kr1 := (hb.cell (p := ⟨w.heap.size, 1, none⟩) zr).trans kr1
  replace fr1 := (hb.frozen (p := ⟨w.heap.size, 1, none⟩) zr).trans fr1
  replace kr2 := (hb.cell (p := ⟨w.heap.size, 2, none⟩) zr).trans kr2
  replace fr2 := (hb.frozen (p := ⟨w.heap.size, 2, none⟩) zr).trans fr2
  replace kr3 := (hb.cell (p := ⟨w.heap.size, 3, none⟩) zr).trans kr3
  replace fr3 := (hb.frozen (p := ⟨w.heap.size, 3, none⟩) zr).trans fr3
  replace zr := Nat.lt_of_lt_of_le zr hb.size
  replace HM := hide (HM.out.below hb)
  replace HB := hide (bl_trans HB.out hb)
  clear hb
  go_wp2_with fail
  refine (allDigitsI D _ (by omega)).mono ?_
  rw [HDD.out]
  rintro e w3 ⟨rfl, hb⟩
  replace kr0 := (hb.cell (p := ⟨w.heap.size, 0, none⟩) zr).trans kr0
  replace fr0 := (hb.frozen (p := ⟨w.heap.size, 0, none⟩) zr).trans fr0
  replace kr1 := (hb.cell (p := ⟨w.heap.size, 1, none⟩) zr).trans kr1
  replace fr1 := (hb.frozen (p := ⟨w.heap.size, 1, none⟩) zr).trans fr1
  replace kr2 := (hb.cell (p := ⟨w.heap.size, 2, none⟩) zr).trans kr2
  replace fr2 := (hb.frozen (p := ⟨w.heap.size, 2, none⟩) zr).trans fr2
  replace kr3 := (hb.cell (p := ⟨w.heap.size, 3, none⟩) zr).trans kr3
  replace fr3 := (hb.frozen (p := ⟨w.heap.size, 3, none⟩) zr).trans fr3
  replace zr := Nat.lt_of_lt_of_le zr hb.size
  replace HB := hide (bl_trans HB.out hb)
  clear hb
  clear HM
  go_wp2_with fail
  rw [app_none]
  refine (digitLimbsI D _ HAD.out (by omega)).mono ?_
  rintro e w4 ⟨a4, n4, c4, xs4, rfl, ho4, hn4, hv4, hb⟩
  have hb4 := hb.size
  have HO4 := hide ho4
  have HV4 := hide hv4
  clear ho4 hv4
  replace kr0 := (hb.cell (p := ⟨w.heap.size, 0, none⟩) zr).trans kr0
  replace fr0 := (hb.frozen (p := ⟨w.heap.size, 0, none⟩) zr).trans fr0
  replace kr1 := (hb.cell (p := ⟨w.heap.size, 1, none⟩) zr).trans kr1
  replace fr1 := (hb.frozen (p := ⟨w.heap.size, 1, none⟩) zr).trans fr1
  replace kr2 := (hb.cell (p := ⟨w.heap.size, 2, none⟩) zr).trans kr2
  replace fr2 := (hb.frozen (p := ⟨w.heap.size, 2, none⟩) zr).trans fr2
  replace kr3 := (hb.cell (p := ⟨w.heap.size, 3, none⟩) zr).trans kr3
  replace fr3 := (hb.frozen (p := ⟨w.heap.size, 3, none⟩) zr).trans fr3
  replace zr := Nat.lt_of_lt_of_le zr hb.size
  replace HB := hide (bl_trans HB.out hb)
  clear hb
  go_wp2_with fail
  refine (bigOfI neg a4 n4 c4 xs4 _ _ HO4.out hb4).mono ?_
  rw [HV4.out, HX.out]
  rintro e w5 ⟨v5, rfl, ⟨a5, c5, rfl, ho5⟩, hb⟩
  have S5 := hide ho5.seg
  clear ho5 HO4 HV4
  replace kr0 := (hb.cell (p := ⟨w.heap.size, 0, none⟩) zr).trans kr0
  replace fr0 := (hb.frozen (p := ⟨w.heap.size, 0, none⟩) zr).trans fr0
  replace kr1 := (hb.cell (p := ⟨w.heap.size, 1, none⟩) zr).trans kr1
  replace fr1 := (hb.frozen (p := ⟨w.heap.size, 1, none⟩) zr).trans fr1
  replace kr2 := (hb.cell (p := ⟨w.heap.size, 2, none⟩) zr).trans kr2
  replace fr2 := (hb.frozen (p := ⟨w.heap.size, 2, none⟩) zr).trans fr2
  replace kr3 := (hb.cell (p := ⟨w.heap.size, 3, none⟩) zr).trans kr3
  replace fr3 := (hb.frozen (p := ⟨w.heap.size, 3, none⟩) zr).trans fr3
  replace zr := Nat.lt_of_lt_of_le zr hb.size
  replace HB := hide (bl_trans HB.out hb)
  clear hb
  go_wp2_with fail
  refine (fromI 1 _ (by decide) (by decide)).mono ?_
  rintro e w6 ⟨v6, rfl, ⟨a6, c6, rfl, ho6⟩, hb⟩
  have O6 := hide ho6
  clear ho6
  replace kr0 := (hb.cell (p := ⟨w.heap.size, 0, none⟩) zr).trans kr0
  replace fr0 := (hb.frozen (p := ⟨w.heap.size, 0, none⟩) zr).trans fr0
  replace kr1 := (hb.cell (p := ⟨w.heap.size, 1, none⟩) zr).trans kr1
  replace fr1 := (hb.frozen (p := ⟨w.heap.size, 1, none⟩) zr).trans fr1
  replace kr2 := (hb.cell (p := ⟨w.heap.size, 2, none⟩) zr).trans kr2
  replace fr2 := (hb.frozen (p := ⟨w.heap.size, 2, none⟩) zr).trans fr2
  replace kr3 := (hb.cell (p := ⟨w.heap.size, 3, none⟩) zr).trans kr3
  replace fr3 := (hb.frozen (p := ⟨w.heap.size, 3, none⟩) zr).trans fr3
  replace zr := Nat.lt_of_lt_of_le zr hb.size
  replace S5 := hide (S5.out.below hb)
  replace HB := hide (bl_trans HB.out hb)
  clear hb
  have zr6 := zr
  have kn0 : ((w6.alloc (Obj.cells #[Value.bool (sgn x), Value.slice a5 (lms x).length c5] 40)).alloc (Obj.cells #[Value.bool (sgn 1), Value.slice a6 (lms 1).length c6] 40)).cell? ⟨w6.heap.size, 0, none⟩ = some (Value.bool (sgn x)) := by go_simp
  have kn1 : ((w6.alloc (Obj.cells #[Value.bool (sgn x), Value.slice a5 (lms x).length c5] 40)).alloc (Obj.cells #[Value.bool (sgn 1), Value.slice a6 (lms 1).length c6] 40)).cell? ⟨w6.heap.size, 1, none⟩ = some (Value.slice a5 (lms x).length c5) := by go_simp
  have fn0 : ((w6.alloc (Obj.cells #[Value.bool (sgn x), Value.slice a5 (lms x).length c5] 40)).alloc (Obj.cells #[Value.bool (sgn 1), Value.slice a6 (lms 1).length c6] 40)).frozen? ⟨w6.heap.size, 0, none⟩ = false := by go_simp
  have fn1 : ((w6.alloc (Obj.cells #[Value.bool (sgn x), Value.slice a5 (lms x).length c5] 40)).alloc (Obj.cells #[Value.bool (sgn 1), Value.slice a6 (lms 1).length c6] 40)).frozen? ⟨w6.heap.size, 1, none⟩ = false := by go_simp
  have zn : w6.heap.size < ((w6.alloc (Obj.cells #[Value.bool (sgn x), Value.slice a5 (lms x).length c5] 40)).alloc (Obj.cells #[Value.bool (sgn 1), Value.slice a6 (lms 1).length c6] 40)).heap.size := by simp only [World.size_alloc]; omega
  have kd0 : ((w6.alloc (Obj.cells #[Value.bool (sgn x), Value.slice a5 (lms x).length c5] 40)).alloc (Obj.cells #[Value.bool (sgn 1), Value.slice a6 (lms 1).length c6] 40)).cell? ⟨w6.heap.size + 1, 0, none⟩ = some (Value.bool (sgn 1)) := by go_simp
  have kd1 : ((w6.alloc (Obj.cells #[Value.bool (sgn x), Value.slice a5 (lms x).length c5] 40)).alloc (Obj.cells #[Value.bool (sgn 1), Value.slice a6 (lms 1).length c6] 40)).cell? ⟨w6.heap.size + 1, 1, none⟩ = some (Value.slice a6 (lms 1).length c6) := by go_simp
  have fd0 : ((w6.alloc (Obj.cells #[Value.bool (sgn x), Value.slice a5 (lms x).length c5] 40)).alloc (Obj.cells #[Value.bool (sgn 1), Value.slice a6 (lms 1).length c6] 40)).frozen? ⟨w6.heap.size + 1, 0, none⟩ = false := by go_simp
  have fd1 : ((w6.alloc (Obj.cells #[Value.bool (sgn x), Value.slice a5 (lms x).length c5] 40)).alloc (Obj.cells #[Value.bool (sgn 1), Value.slice a6 (lms 1).length c6] 40)).frozen? ⟨w6.heap.size + 1, 1, none⟩ = false := by go_simp
  have zd : w6.heap.size + 1 < ((w6.alloc (Obj.cells #[Value.bool (sgn x), Value.slice a5 (lms x).length c5] 40)).alloc (Obj.cells #[Value.bool (sgn 1), Value.slice a6 (lms 1).length c6] 40)).heap.size := by simp only [World.size_alloc]; omega
  have hbn := bl_alloc (bl_alloc (bl_refl w6) (Obj.cells #[Value.bool (sgn x), Value.slice a5 (lms x).length c5] 40)) (Obj.cells #[Value.bool (sgn 1), Value.slice a6 (lms 1).length c6] 40)
  have HW7 := hide hbn
  replace kr0 := (hbn.cell (p := ⟨w.heap.size, 0, none⟩) zr).trans kr0
  replace fr0 := (hbn.frozen (p := ⟨w.heap.size, 0, none⟩) zr).trans fr0
  replace kr1 := (hbn.cell (p := ⟨w.heap.size, 1, none⟩) zr).trans kr1
  replace fr1 := (hbn.frozen (p := ⟨w.heap.size, 1, none⟩) zr).trans fr1
  replace kr2 := (hbn.cell (p := ⟨w.heap.size, 2, none⟩) zr).trans kr2
  replace fr2 := (hbn.frozen (p := ⟨w.heap.size, 2, none⟩) zr).trans fr2
  replace kr3 := (hbn.cell (p := ⟨w.heap.size, 3, none⟩) zr).trans kr3
  replace fr3 := (hbn.frozen (p := ⟨w.heap.size, 3, none⟩) zr).trans fr3
  replace zr := Nat.lt_of_lt_of_le zr hbn.size
  replace S5 := hide (S5.out.below hbn)
  replace HB := hide (bl_trans HB.out hbn)
  clear hbn
  go_upto_region 9 with fail
  generalize ((w6.alloc (Obj.cells #[Value.bool (sgn x), Value.slice a5 (lms x).length c5] 40)).alloc (Obj.cells #[Value.bool (sgn 1), Value.slice a6 (lms 1).length c6] 40)) = w7 at *
  go_region_with
    (first
      | (go_at_call 42; refine (fromI 10 _ (by decide) (by decide)).mono ?_; rintro e wA ⟨vA, rfl, ⟨aA, cA, rfl, hoA⟩, hbAr⟩; have hbA : Below w7.heap.size w7 wA := (bl_refl w7).drew.trans hbAr; have yA := hbA.size; have kn0 := (hbAr.cell (p := ⟨w6.heap.size, 0, none⟩) (by dsimp only; rw [World.size_drew]; omega)).trans kn0; have kn1 := (hbAr.cell (p := ⟨w6.heap.size, 1, none⟩) (by dsimp only; rw [World.size_drew]; omega)).trans kn1)
      | (go_at_call 84; refine (pow0I (.agg #[.bool (sgn 10), .slice aA (lms 10).length cA]) 10 _ ⟨aA, cA, rfl, hoA.seg⟩).mono ?_; rintro e wB ⟨vB, rfl, ⟨aB, cB, rfl, hoB⟩, hbBr⟩; have hbB : Below w7.heap.size w7 wB := bl_trans hbA hbBr; have yB := hbBr.size; have kn0 := (hbBr.cell (p := ⟨w6.heap.size, 0, none⟩) (by dsimp only; omega)).trans kn0; have kn1 := (hbBr.cell (p := ⟨w6.heap.size, 1, none⟩) (by dsimp only; omega)).trans kn1)
      | (go_at_call 85; refine (prodXY (.agg #[.bool (sgn x), .slice a5 (lms x).length c5]) (.agg #[.bool (sgn 1), .slice aB (lms 1).length cB]) x 1 _ ⟨a5, c5, rfl, S5.out.below hbB⟩ ⟨aB, cB, rfl, hoB.seg⟩ (by omega) (by omega)).mono ?_; rw [Int.mul_one]; rintro e wC ⟨vC, rfl, ⟨aC, cC, rfl, hoC⟩, hbCr⟩; have hbC : Below w7.heap.size w7 wC := bl_trans hbB hbCr; have yC := hbCr.size; have kn0 := (hbCr.cell (p := ⟨w6.heap.size, 0, none⟩) (by dsimp only; omega)).trans kn0; have kn1 := (hbCr.cell (p := ⟨w6.heap.size, 1, none⟩) (by dsimp only; omega)).trans kn1; have fn0 := (hbC.frozen (p := ⟨w6.heap.size, 0, none⟩) zn).trans fn0; have fn1 := (hbC.frozen (p := ⟨w6.heap.size, 1, none⟩) zn).trans fn1))
  all_goals
    have m0 : ((wC.setCell ⟨w6.heap.size, 0, none⟩ (Value.bool (sgn x))).setCell ⟨w6.heap.size, 1, none⟩ (Value.slice aC (lms x).length cC)).cell? ⟨w6.heap.size, 0, none⟩ = some (Value.bool (sgn x)) := by go_simp
    have m1 : ((wC.setCell ⟨w6.heap.size, 0, none⟩ (Value.bool (sgn x))).setCell ⟨w6.heap.size, 1, none⟩ (Value.slice aC (lms x).length cC)).cell? ⟨w6.heap.size, 1, none⟩ = some (Value.slice aC (lms x).length cC) := by go_simp
    replace kr0 := (cel2 (w1 := wC) (N := w6.heap.size) (p := ⟨w.heap.size, 0, none⟩) (by dsimp only; omega) (Value.bool (sgn x)) (Value.slice aC (lms x).length cC)).trans ((hbC.cell (p := ⟨w.heap.size, 0, none⟩) zr).trans kr0)
    replace fr0 := (fro2 (w1 := wC) (N := w6.heap.size) (p := ⟨w.heap.size, 0, none⟩) (by dsimp only; omega) (Value.bool (sgn x)) (Value.slice aC (lms x).length cC)).trans ((hbC.frozen (p := ⟨w.heap.size, 0, none⟩) zr).trans fr0)
    replace kr1 := (cel2 (w1 := wC) (N := w6.heap.size) (p := ⟨w.heap.size, 1, none⟩) (by dsimp only; omega) (Value.bool (sgn x)) (Value.slice aC (lms x).length cC)).trans ((hbC.cell (p := ⟨w.heap.size, 1, none⟩) zr).trans kr1)
    replace fr1 := (fro2 (w1 := wC) (N := w6.heap.size) (p := ⟨w.heap.size, 1, none⟩) (by dsimp only; omega) (Value.bool (sgn x)) (Value.slice aC (lms x).length cC)).trans ((hbC.frozen (p := ⟨w.heap.size, 1, none⟩) zr).trans fr1)
    replace kr2 := (cel2 (w1 := wC) (N := w6.heap.size) (p := ⟨w.heap.size, 2, none⟩) (by dsimp only; omega) (Value.bool (sgn x)) (Value.slice aC (lms x).length cC)).trans ((hbC.cell (p := ⟨w.heap.size, 2, none⟩) zr).trans kr2)
    replace fr2 := (fro2 (w1 := wC) (N := w6.heap.size) (p := ⟨w.heap.size, 2, none⟩) (by dsimp only; omega) (Value.bool (sgn x)) (Value.slice aC (lms x).length cC)).trans ((hbC.frozen (p := ⟨w.heap.size, 2, none⟩) zr).trans fr2)
    replace kr3 := (cel2 (w1 := wC) (N := w6.heap.size) (p := ⟨w.heap.size, 3, none⟩) (by dsimp only; omega) (Value.bool (sgn x)) (Value.slice aC (lms x).length cC)).trans ((hbC.cell (p := ⟨w.heap.size, 3, none⟩) zr).trans kr3)
    replace fr3 := (fro2 (w1 := wC) (N := w6.heap.size) (p := ⟨w.heap.size, 3, none⟩) (by dsimp only; omega) (Value.bool (sgn x)) (Value.slice aC (lms x).length cC)).trans ((hbC.frozen (p := ⟨w.heap.size, 3, none⟩) zr).trans fr3)
    replace kd0 := (cel2 (w1 := wC) (N := w6.heap.size) (p := ⟨w6.heap.size + 1, 0, none⟩) (by dsimp only; omega) (Value.bool (sgn x)) (Value.slice aC (lms x).length cC)).trans ((hbC.cell (p := ⟨w6.heap.size + 1, 0, none⟩) zd).trans kd0)
    replace kd1 := (cel2 (w1 := wC) (N := w6.heap.size) (p := ⟨w6.heap.size + 1, 1, none⟩) (by dsimp only; omega) (Value.bool (sgn x)) (Value.slice aC (lms x).length cC)).trans ((hbC.cell (p := ⟨w6.heap.size + 1, 1, none⟩) zd).trans kd1)
    have SN := hide (seg_on hoC (N := w6.heap.size) (by omega) (Value.bool (sgn x)) (Value.slice aC (lms x).length cC))
    have SD := hide (seg_off O6.out (bl_trans HW7.out hbC) (Nat.le_refl _) (Value.bool (sgn x)) (Value.slice aC (lms x).length cC))
    replace HB := hide (((bl_trans HB.out hbC).setCell (p := ⟨w6.heap.size, 0, none⟩) (by dsimp only; omega) (Value.bool (sgn x))).setCell (p := ⟨w6.heap.size, 1, none⟩) (by dsimp only; omega) (Value.slice aC (lms x).length cC))
    replace zr : w.heap.size < ((wC.setCell ⟨w6.heap.size, 0, none⟩ (Value.bool (sgn x))).setCell ⟨w6.heap.size, 1, none⟩ (Value.slice aC (lms x).length cC)).heap.size := by (simp only [World.size_setCell]; omega)
    clear kn0 kn1 fn0 fn1 fd0 fd1 zd zn S5 O6 HW7 hoA hoB hoC hbA hbAr hbB hbBr hbC hbCr
    go_wp2_with fail
    generalize ((wC.setCell ⟨w6.heap.size, 0, none⟩ (Value.bool (sgn x))).setCell ⟨w6.heap.size, 1, none⟩ (Value.slice aC (lms x).length cC)) = w8 at *
    refine (shortI' x 1 aC cC a6 c6 _ SN.out SD.out (by decide) (by omega) (by omega)).mono ?_
    rw [HSG.out, Int.ediv_one, Int.ediv_one]
    rintro e w9 ⟨b1, e1, b2, e2, rfl, ho1, ho2, hap, hb⟩
    have zr8 := zr
    have HO1 := hide ho1
    have HO2 := hide ho2
    clear ho1 ho2 hap m0 m1 kd0 kd1 SN SD
    replace kr0 := (hb.cell (p := ⟨w.heap.size, 0, none⟩) zr).trans kr0
    replace fr0 := (hb.frozen (p := ⟨w.heap.size, 0, none⟩) zr).trans fr0
    replace kr1 := (hb.cell (p := ⟨w.heap.size, 1, none⟩) zr).trans kr1
    replace fr1 := (hb.frozen (p := ⟨w.heap.size, 1, none⟩) zr).trans fr1
    replace kr2 := (hb.cell (p := ⟨w.heap.size, 2, none⟩) zr).trans kr2
    replace fr2 := (hb.frozen (p := ⟨w.heap.size, 2, none⟩) zr).trans fr2
    replace kr3 := (hb.cell (p := ⟨w.heap.size, 3, none⟩) zr).trans kr3
    replace fr3 := (hb.frozen (p := ⟨w.heap.size, 3, none⟩) zr).trans fr3
    replace zr := Nat.lt_of_lt_of_le zr hb.size
    replace HB := hide (bl_trans HB.out hb)
    clear hb
    go_wp2_with fail
    refine (fitI x 1 b1 e1 b2 e2 _ HO1.out.seg HO2.out.seg).mono ?_
    rw [(ft_ok HFX.out HFY.out b1 e1 b2 e2).1, (ft_ok HFX.out HFY.out b1 e1 b2 e2).2]
    rintro e w10 ⟨rfl, hb⟩
    replace kr0 := (hb.cell (p := ⟨w.heap.size, 0, none⟩) zr).trans kr0
    replace fr0 := (hb.frozen (p := ⟨w.heap.size, 0, none⟩) zr).trans fr0
    replace kr1 := (hb.cell (p := ⟨w.heap.size, 1, none⟩) zr).trans kr1
    replace fr1 := (hb.frozen (p := ⟨w.heap.size, 1, none⟩) zr).trans fr1
    replace kr2 := (hb.cell (p := ⟨w.heap.size, 2, none⟩) zr).trans kr2
    replace fr2 := (hb.frozen (p := ⟨w.heap.size, 2, none⟩) zr).trans fr2
    replace kr3 := (hb.cell (p := ⟨w.heap.size, 3, none⟩) zr).trans kr3
    replace fr3 := (hb.frozen (p := ⟨w.heap.size, 3, none⟩) zr).trans fr3
    replace zr := Nat.lt_of_lt_of_le zr hb.size
    replace HO1 := hide (HO1.out.below hb)
    replace HO2 := hide (HO2.out.below hb)
    replace HB := hide (bl_trans HB.out hb)
    clear hb
    go_wp2
    refine bodyPost_ret (v := .tuple #[.agg #[.bool (sgn x), .slice b1 (lms x).length e1, .bool (sgn 1), .slice b2 (lms 1).length e2], .bool true]) (by simp [results, Tryz.results51, go_sem, *]) rfl ?_
    exact ⟨b1, e1, b2, e2, rfl, own_four' HO1.out (by omega) (by omega) _ _ _ _, own_four' HO2.out (by omega) (by omega) _ _ _ _, set_four (Nat.le_refl _) HB.out _ _ _ _⟩
end Go.Proofs.YtkemplmhemnpbaaGreatDoor

/- The walk of the program's ReadRat at the text of a right fraction: that fraction comes back. -/
namespace Go.Proofs.YtkemplmhemnpbaaGreatDoor
open Go.RowKit
set_option linter.unusedVariables false

theorem rd_gen {s : ByteArray} {g : Bool} {d : List UInt8} (h : s.data.toList = if g then 45 :: d else d) (hd : d.head? ≠ some 45) : rdNeg s = g ∧ rdD s = ⟨d.toArray⟩ := by
  unfold rdNeg rdD Lib.trimPrefix Lib.hasPrefix
  rw [h]
  cases g with
  | true => simp
  | false =>
    cases d with
    | nil => simp
    | cons c t =>
      have hc : (45 == c) = false := by
        rw [beq_eq_false_iff_ne]; intro e; exact hd (by rw [← e]; rfl)
      simp [List.isPrefixOf, hc]
theorem head_not {l : List UInt8} (h : digAll l = true) : l.head? ≠ some 45 := by
  cases l with
  | nil => simp
  | cons c t =>
    simp only [digAll, List.all_cons, Bool.and_eq_true] at h
    have := dig_bounds h.1
    intro e
    simp only [List.head?_cons, Option.some.injEq] at e
    subst e
    exact absurd this.1 (by decide)
theorem head_app {l r : List UInt8} (h : digAll l = true) (hl : l ≠ []) : (l ++ r).head? ≠ some 45 := by
  cases l with
  | nil => exact absurd rfl hl
  | cons c t => exact head_not (l := c :: t) h
theorem it_sign (z : Int) (r : List UInt8) : (itB z).data.toList ++ r = if sgn z then 45 :: (Lib.decDigits z.natAbs ++ r) else Lib.decDigits z.natAbs ++ r := by
  cases hg : sgn z with
  | true => rw [it_neg hg]; rfl
  | false => rw [it_pos hg]; rfl
theorem dig_bytes (m : Nat) : digOk ⟨(Lib.decDigits m).toArray⟩ = true := by
  unfold digOk
  rw [show (⟨(Lib.decDigits m).toArray⟩ : ByteArray).data.toList = Lib.decDigits m from rfl, dec_digs]
  have : (⟨(Lib.decDigits m).toArray⟩ : ByteArray).size ≠ 0 := by
    rw [← bsize]
    have := TxN.dec_pos m
    show (Lib.decDigits m).length ≠ 0
    omega
  rw [decide_eq_true this]; rfl
theorem size_bytes (m : Nat) : (⟨(Lib.decDigits m).toArray⟩ : ByteArray).size = (Lib.decDigits m).length := by rw [← bsize]
theorem rat_facts {x y : Int} (h : ratB (sgn x) (lms x) (sgn y) (lms y) = true) : 0 < y ∧ Int.gcd x y = 1 ∧ fits x = true ∧ fits y = true := by
  simp only [ratB, Bool.and_eq_true, decide_eq_true_eq] at h
  obtain ⟨⟨ha, hb⟩, hc, hd⟩ := h
  rw [nat_lms, mk_self] at hc
  rw [nat_lms, nat_lms, mk_self, mk_self] at hd
  exact ⟨hc, hd, by rw [← ok_fits]; exact ha, by rw [← ok_fits]; exact hb⟩

set_option maxHeartbeats 2000000 in
set_option maxRecDepth 20000 in
theorem readWhole (s : ByteArray) (x : Int) (dd : List UInt8) (w : World) (hm : Mx w) (hs : s.size ≤ 400) (hg : rdNeg s = sgn x) (hd : rdD s = ⟨dd.toArray⟩) (he : dd = Lib.decDigits x.natAbs) (hl : dd.length ≤ 400) (fx : fits x = true) :
    Calls Tryz.prog 25 #[.string s] w fun e w' => ∃ b1 e1 b2 e2, e = .returned (.tuple #[.agg #[.bool (sgn x), .slice b1 (lms x).length e1, .bool (sgn 1), .slice b2 (lms 1).length e2], .bool true]) ∧ Own w' w.heap.size b1 (lms x).length e1 (lms x) ∧ Own w' w.heap.size b2 (lms 1).length e2 (lms 1) ∧ Below w.heap.size w w' := by
  have HN := hide hg
  have HD := hide hd
  have hs' : ¬ (400 : Int) < (s.size : Int) := by omega
  have HSZ : Hid ((⟨dd.toArray⟩ : ByteArray).size = dd.length) := hide (by rw [← bsize])
  have HC := hide (cut_none (c := 47) (l := dd) (dig_not (by rw [he]; exact dec_digs _) (by decide)))
  have HE := hide he
  clear hg hd he
  have kr0 : (w.alloc (Obj.cells #[Value.bool false, Value.slice none 0 0, Value.bool false, Value.slice none 0 0] 42)).cell? ⟨w.heap.size, 0, none⟩ = some (Value.bool false) := by go_simp
  have fr0 : (w.alloc (Obj.cells #[Value.bool false, Value.slice none 0 0, Value.bool false, Value.slice none 0 0] 42)).frozen? ⟨w.heap.size, 0, none⟩ = false := by go_simp
  have kr1 : (w.alloc (Obj.cells #[Value.bool false, Value.slice none 0 0, Value.bool false, Value.slice none 0 0] 42)).cell? ⟨w.heap.size, 1, none⟩ = some (Value.slice none 0 0) := by go_simp
  have fr1 : (w.alloc (Obj.cells #[Value.bool false, Value.slice none 0 0, Value.bool false, Value.slice none 0 0] 42)).frozen? ⟨w.heap.size, 1, none⟩ = false := by go_simp
  have kr2 : (w.alloc (Obj.cells #[Value.bool false, Value.slice none 0 0, Value.bool false, Value.slice none 0 0] 42)).cell? ⟨w.heap.size, 2, none⟩ = some (Value.bool false) := by go_simp
  have fr2 : (w.alloc (Obj.cells #[Value.bool false, Value.slice none 0 0, Value.bool false, Value.slice none 0 0] 42)).frozen? ⟨w.heap.size, 2, none⟩ = false := by go_simp
  have kr3 : (w.alloc (Obj.cells #[Value.bool false, Value.slice none 0 0, Value.bool false, Value.slice none 0 0] 42)).cell? ⟨w.heap.size, 3, none⟩ = some (Value.slice none 0 0) := by go_simp
  have fr3 : (w.alloc (Obj.cells #[Value.bool false, Value.slice none 0 0, Value.bool false, Value.slice none 0 0] 42)).frozen? ⟨w.heap.size, 3, none⟩ = false := by go_simp
  have zr : w.heap.size < (w.alloc (Obj.cells #[Value.bool false, Value.slice none 0 0, Value.bool false, Value.slice none 0 0] 42)).heap.size := by simp only [World.size_alloc]; omega
  have HB := hide (bl_alloc (bl_refl w) (Obj.cells #[Value.bool false, Value.slice none 0 0, Value.bool false, Value.slice none 0 0] 42))
  have HM := hide (hm.below HB.out)
  clear hm
  go_enter Tryz.func25, Tryz.ntmps25
  go_wp2_with fail
  generalize w.alloc (Obj.cells #[Value.bool false, Value.slice none 0 0, Value.bool false, Value.slice none 0 0] 42) = W0 at *
  refine (cutPre s _ _).mono ?_
  rintro e w1 ⟨rfl, hw⟩
  subst w1
  rw [show ({ data := #[45] } : ByteArray).data.toList = [45] from rfl, show (⟨(Lib.trimPrefix s.data.toList [45]).toArray⟩ : ByteArray) = rdD s from rfl, show Lib.hasPrefix s.data.toList [45] = rdNeg s from rfl, HN.out, HD.out]
  go_wp2_with fail
  refine (cutI _ 47 _ (by rw [HSZ.out]; omega) HM.out).mono ?_
  rw [show (⟨dd.toArray⟩ : ByteArray).data.toList = dd from rfl, HC.out]
  rintro e w2 ⟨rfl, hb⟩
  replace kr0 := (hb.cell (p := ⟨w.heap.size, 0, none⟩) zr).trans kr0
  replace fr0 := (hb.frozen (p := ⟨w.heap.size, 0, none⟩) zr).trans fr0
  replace kr1 := (hb.cell (p := ⟨w.heap.size, 1, none⟩) zr).trans kr1
  replace fr1 := (hb.frozen (p := ⟨w.heap.size, 1, none⟩) zr).trans fr1
  replace kr2 := (hb.cell (p := ⟨w.heap.size, 2, none⟩) zr).trans kr2
  replace fr2 := (hb.frozen (p := ⟨w.heap.size, 2, none⟩) zr).trans fr2
  replace kr3 := (hb.cell (p := ⟨w.heap.size, 3, none⟩) zr).trans kr3
  replace fr3 := (hb.frozen (p := ⟨w.heap.size, 3, none⟩) zr).trans fr3
  replace zr := Nat.lt_of_lt_of_le zr hb.size
  replace HM := hide (HM.out.below hb)
  replace HB := hide (bl_trans HB.out hb)
  clear hb
  go_wp2_with fail
  refine (readDecI (sgn x) ⟨dd.toArray⟩ x _ HM.out (by rw [HE.out]; exact dig_bytes _) (by rw [HSZ.out]; exact hl) (by show mk (sgn x) (valN dd) = x; rw [HE.out, val_dec, mk_self]) fx).mono ?_
  rintro e w3 ⟨b1, e1, b2, e2, rfl, ho1, ho2, hb⟩
  have zr2 := zr
  have HO1 := hide ho1
  have HO2 := hide ho2
  clear ho1 ho2
  replace kr0 := (hb.cell (p := ⟨w.heap.size, 0, none⟩) zr).trans kr0
  replace fr0 := (hb.frozen (p := ⟨w.heap.size, 0, none⟩) zr).trans fr0
  replace kr1 := (hb.cell (p := ⟨w.heap.size, 1, none⟩) zr).trans kr1
  replace fr1 := (hb.frozen (p := ⟨w.heap.size, 1, none⟩) zr).trans fr1
  replace kr2 := (hb.cell (p := ⟨w.heap.size, 2, none⟩) zr).trans kr2
  replace fr2 := (hb.frozen (p := ⟨w.heap.size, 2, none⟩) zr).trans fr2
  replace kr3 := (hb.cell (p := ⟨w.heap.size, 3, none⟩) zr).trans kr3
  replace fr3 := (hb.frozen (p := ⟨w.heap.size, 3, none⟩) zr).trans fr3
  replace zr := Nat.lt_of_lt_of_le zr hb.size
  replace HB := hide (bl_trans HB.out hb)
  clear hb
  go_wp2
  refine bodyPost_ret (v := .tuple #[.agg #[.bool (sgn x), .slice b1 (lms x).length e1, .bool (sgn 1), .slice b2 (lms 1).length e2], .bool true]) (by simp [results, Tryz.results25, go_sem, *]) rfl ?_
  exact ⟨b1, e1, b2, e2, rfl, own_four' HO1.out (by omega) (by omega) _ _ _ _, own_four' HO2.out (by omega) (by omega) _ _ _ _, set_four (Nat.le_refl _) HB.out _ _ _ _⟩

set_option maxHeartbeats 2000000 in
set_option maxRecDepth 20000 in
theorem readTwo (s : ByteArray) (x y : Int) (dd : List UInt8) (w : World) (hm : Mx w) (hs : s.size ≤ 400) (hg : rdNeg s = sgn x) (hd : rdD s = ⟨dd.toArray⟩) (he : dd = Lib.decDigits x.natAbs ++ 47 :: Lib.decDigits y.natAbs) (hl : dd.length ≤ 400) (hy : 0 < y) (hgc : Int.gcd x y = 1) (fx : fits x = true) (fy : fits y = true) :
    Calls Tryz.prog 25 #[.string s] w fun e w' => ∃ b1 e1 b2 e2, e = .returned (.tuple #[.agg #[.bool (sgn x), .slice b1 (lms x).length e1, .bool (sgn y), .slice b2 (lms y).length e2], .bool true]) ∧ Own w' w.heap.size b1 (lms x).length e1 (lms x) ∧ Own w' w.heap.size b2 (lms y).length e2 (lms y) ∧ Below w.heap.size w w' := by
  have HN := hide hg
  have HD := hide hd
  have hs' : ¬ (400 : Int) < (s.size : Int) := by omega
  have HSZ : Hid ((⟨dd.toArray⟩ : ByteArray).size = dd.length) := hide (by rw [← bsize])
  have HL1 : Hid ((Lib.decDigits x.natAbs).length ≤ 400 ∧ (Lib.decDigits y.natAbs).length ≤ 400) := hide (by rw [he, List.length_append, List.length_cons] at hl; omega)
  have HC : Hid (Lib.cut dd [47] = (Lib.decDigits x.natAbs, Lib.decDigits y.natAbs, true)) := hide (by rw [he]; exact cut_mid (dig_not (dec_digs _) (by decide)))
  clear hg hd he
  have kr0 : (w.alloc (Obj.cells #[Value.bool false, Value.slice none 0 0, Value.bool false, Value.slice none 0 0] 42)).cell? ⟨w.heap.size, 0, none⟩ = some (Value.bool false) := by go_simp
  have fr0 : (w.alloc (Obj.cells #[Value.bool false, Value.slice none 0 0, Value.bool false, Value.slice none 0 0] 42)).frozen? ⟨w.heap.size, 0, none⟩ = false := by go_simp
  have kr1 : (w.alloc (Obj.cells #[Value.bool false, Value.slice none 0 0, Value.bool false, Value.slice none 0 0] 42)).cell? ⟨w.heap.size, 1, none⟩ = some (Value.slice none 0 0) := by go_simp
  have fr1 : (w.alloc (Obj.cells #[Value.bool false, Value.slice none 0 0, Value.bool false, Value.slice none 0 0] 42)).frozen? ⟨w.heap.size, 1, none⟩ = false := by go_simp
  have kr2 : (w.alloc (Obj.cells #[Value.bool false, Value.slice none 0 0, Value.bool false, Value.slice none 0 0] 42)).cell? ⟨w.heap.size, 2, none⟩ = some (Value.bool false) := by go_simp
  have fr2 : (w.alloc (Obj.cells #[Value.bool false, Value.slice none 0 0, Value.bool false, Value.slice none 0 0] 42)).frozen? ⟨w.heap.size, 2, none⟩ = false := by go_simp
  have kr3 : (w.alloc (Obj.cells #[Value.bool false, Value.slice none 0 0, Value.bool false, Value.slice none 0 0] 42)).cell? ⟨w.heap.size, 3, none⟩ = some (Value.slice none 0 0) := by go_simp
  have fr3 : (w.alloc (Obj.cells #[Value.bool false, Value.slice none 0 0, Value.bool false, Value.slice none 0 0] 42)).frozen? ⟨w.heap.size, 3, none⟩ = false := by go_simp
  have zr : w.heap.size < (w.alloc (Obj.cells #[Value.bool false, Value.slice none 0 0, Value.bool false, Value.slice none 0 0] 42)).heap.size := by simp only [World.size_alloc]; omega
  have HB := hide (bl_alloc (bl_refl w) (Obj.cells #[Value.bool false, Value.slice none 0 0, Value.bool false, Value.slice none 0 0] 42))
  have HM := hide (hm.below HB.out)
  clear hm
  go_enter Tryz.func25, Tryz.ntmps25
  go_wp2_with fail
  generalize w.alloc (Obj.cells #[Value.bool false, Value.slice none 0 0, Value.bool false, Value.slice none 0 0] 42) = W0 at *
  refine (cutPre s _ _).mono ?_
  rintro e w1 ⟨rfl, hw⟩
  subst w1
  rw [show ({ data := #[45] } : ByteArray).data.toList = [45] from rfl, show (⟨(Lib.trimPrefix s.data.toList [45]).toArray⟩ : ByteArray) = rdD s from rfl, show Lib.hasPrefix s.data.toList [45] = rdNeg s from rfl, HN.out, HD.out]
  go_wp2_with fail
  refine (cutI _ 47 _ (by rw [HSZ.out]; omega) HM.out).mono ?_
  rw [show (⟨dd.toArray⟩ : ByteArray).data.toList = dd from rfl, HC.out]
  rintro e w2 ⟨rfl, hb⟩
  replace kr0 := (hb.cell (p := ⟨w.heap.size, 0, none⟩) zr).trans kr0
  replace fr0 := (hb.frozen (p := ⟨w.heap.size, 0, none⟩) zr).trans fr0
  replace kr1 := (hb.cell (p := ⟨w.heap.size, 1, none⟩) zr).trans kr1
  replace fr1 := (hb.frozen (p := ⟨w.heap.size, 1, none⟩) zr).trans fr1
  replace kr2 := (hb.cell (p := ⟨w.heap.size, 2, none⟩) zr).trans kr2
  replace fr2 := (hb.frozen (p := ⟨w.heap.size, 2, none⟩) zr).trans fr2
  replace kr3 := (hb.cell (p := ⟨w.heap.size, 3, none⟩) zr).trans kr3
  replace fr3 := (hb.frozen (p := ⟨w.heap.size, 3, none⟩) zr).trans fr3
  replace zr := Nat.lt_of_lt_of_le zr hb.size
  replace HM := hide (HM.out.below hb)
  replace HB := hide (bl_trans HB.out hb)
  clear hb
  go_wp2_with fail
  refine (readQuotI (sgn x) ⟨(Lib.decDigits x.natAbs).toArray⟩ ⟨(Lib.decDigits y.natAbs).toArray⟩ x y _ (dig_bytes _) (dig_bytes _) (by rw [size_bytes]; exact HL1.out.1) (by rw [size_bytes]; exact HL1.out.2) (by show mk (sgn x) (valN (Lib.decDigits x.natAbs)) = x; rw [val_dec, mk_self]) (by show mk false (valN (Lib.decDigits y.natAbs)) = y; rw [val_dec]; show (y.natAbs : Int) = y; omega) hy hgc fx fy).mono ?_
  rintro e w3 ⟨b1, e1, b2, e2, rfl, ho1, ho2, hb⟩
  have zr2 := zr
  have HO1 := hide ho1
  have HO2 := hide ho2
  clear ho1 ho2
  replace kr0 := (hb.cell (p := ⟨w.heap.size, 0, none⟩) zr).trans kr0
  replace fr0 := (hb.frozen (p := ⟨w.heap.size, 0, none⟩) zr).trans fr0
  replace kr1 := (hb.cell (p := ⟨w.heap.size, 1, none⟩) zr).trans kr1
  replace fr1 := (hb.frozen (p := ⟨w.heap.size, 1, none⟩) zr).trans fr1
  replace kr2 := (hb.cell (p := ⟨w.heap.size, 2, none⟩) zr).trans kr2
  replace fr2 := (hb.frozen (p := ⟨w.heap.size, 2, none⟩) zr).trans fr2
  replace kr3 := (hb.cell (p := ⟨w.heap.size, 3, none⟩) zr).trans kr3
  replace fr3 := (hb.frozen (p := ⟨w.heap.size, 3, none⟩) zr).trans fr3
  replace zr := Nat.lt_of_lt_of_le zr hb.size
  replace HB := hide (bl_trans HB.out hb)
  clear hb
  go_wp2
  refine bodyPost_ret (v := .tuple #[.agg #[.bool (sgn x), .slice b1 (lms x).length e1, .bool (sgn y), .slice b2 (lms y).length e2], .bool true]) (by simp [results, Tryz.results25, go_sem, *]) rfl ?_
  exact ⟨b1, e1, b2, e2, rfl, own_four' HO1.out (by omega) (by omega) _ _ _ _, own_four' HO2.out (by omega) (by omega) _ _ _ _, set_four (Nat.le_refl _) HB.out _ _ _ _⟩

theorem len_cut {s : ByteArray} {g : Bool} {d : List UInt8} (h : s.data.toList = if g then 45 :: d else d) : d.length ≤ s.size := by
  have := congrArg List.length h
  rw [bsize] at this
  cases g with
  | true => rw [if_pos rfl, List.length_cons] at this; omega
  | false => rw [if_neg (by simp)] at this; omega
theorem readRatI (x y : Int) (w : World) (hm : Mx w) (hr : ratB (sgn x) (lms x) (sgn y) (lms y) = true) (hs : (ratT (sgn x) (lms x) (sgn y) (lms y)).size ≤ 400) :
    Calls Tryz.prog 25 #[.string (ratT (sgn x) (lms x) (sgn y) (lms y))] w fun e w' => ∃ b1 e1 b2 e2, e = .returned (.tuple #[.agg #[.bool (sgn x), .slice b1 (lms x).length e1, .bool (sgn y), .slice b2 (lms y).length e2], .bool true]) ∧ Own w' w.heap.size b1 (lms x).length e1 (lms x) ∧ Own w' w.heap.size b2 (lms y).length e2 (lms y) ∧ Below w.heap.size w w' := by
  obtain ⟨hy, hg, fx, fy⟩ := rat_facts hr
  by_cases h1 : y = 1
  · have e0 := ratT_one hr h1
    rw [e0] at hs ⊢
    subst h1
    have hc : (itB x).data.toList = if sgn x then 45 :: Lib.decDigits x.natAbs else Lib.decDigits x.natAbs := by
      have := it_sign x []; simpa using this
    obtain ⟨g1, g2⟩ := rd_gen hc (head_not (dec_digs _))
    exact readWhole _ x _ w hm hs g1 g2 rfl (Nat.le_trans (len_cut hc) hs) fx
  · have e0 := ratT_two hr h1
    rw [e0] at hs ⊢
    have hsy : sgn y = false := decide_eq_false (by omega)
    have hc : (itB x ++ ⟨#[47]⟩ ++ itB y).data.toList = if sgn x then 45 :: (Lib.decDigits x.natAbs ++ 47 :: Lib.decDigits y.natAbs) else Lib.decDigits x.natAbs ++ 47 :: Lib.decDigits y.natAbs := by
      have := it_sign x (47 :: Lib.decDigits y.natAbs)
      rw [← this, ← it_pos hsy]; simp
    obtain ⟨g1, g2⟩ := rd_gen hc (head_app (dec_digs _) (dec_ne _))
    exact readTwo _ x y _ w hm hs g1 g2 rfl (Nat.le_trans (len_cut hc) hs) hy hg fx fy
end Go.Proofs.YtkemplmhemnpbaaGreatDoor
