/- My texts PowX, RrI, in this order. -/
import Derived.Test.YtpmgpdlminacaaaGreatDoorPk16
import Derived.Test.YtpmgpdlminacaaaGreatDoorPk15
import Derived.Test.YtpmgpdlminacaaaGreatDoorPk03
import Derived.Test.YtpmgpdlminacaaaGreatDoorPk14
import Derived.Deep.DeepCutAuto
import Derived.Shelf.Small.Bits
import Derived.Test.YtpmgpdlminacaaaGreatDoorChecked
import Derived.Lib.BitFns
import Derived.Test.YtpmgpdlminacaaaGreatDoorPk39
import Derived.Test.YtpmgpdlminacaaaGreatDoorPk29
/- The walk of bigPower: a number to a power, in new memory. -/
namespace Go.Proofs.YtpmgpdlminacaaaGreatDoor
open Go.RowKit Go.Shelf
set_option linter.unusedVariables false

def Tryz.lays125_ren : Go.Shelf.Ren := ⟨fun | 125 => 108 | 128 => 143 | 129 => 144 | n => n, fun | 46 => 127 | 3 => 3 | 51 => 67 | 53 => 126 | 4 => 4 | 5 => 5 | 9 => 9 | n => n, fun | n => n⟩

set_option maxRecDepth 100000 in
theorem Tryz.lays125 : Go.Proofs.Lays.n125 Tryz.prog Tryz.lays125_ren := {
  mixed := by kernel_rfl
  f125 := Tryz.func108.trans (congrArg some (by kernel_rfl))
  f128 := Tryz.func143.trans (congrArg some (by kernel_rfl))
  f129 := Tryz.func144.trans (congrArg some (by kernel_rfl))
  t3 := Tryz.underlying3
  a3 := Tryz.isAgg3
  z3 := Tryz.sizeOf3
  v3 := Tryz.zeroValue3
  t4 := Tryz.underlying4
  a4 := Tryz.isAgg4
  z4 := Tryz.sizeOf4
  v4 := Tryz.zeroValue4
  t5 := Tryz.underlying5
  a5 := Tryz.isAgg5
  z5 := Tryz.sizeOf5
  v5 := Tryz.zeroValue5
  t9 := Tryz.underlying9
  a9 := Tryz.isAgg9
  z9 := Tryz.sizeOf9
  v9 := Tryz.zeroValue9
  t46 := Tryz.underlying127
  a46 := Tryz.isAgg127
  z46 := Tryz.sizeOf127
  v46 := Tryz.zeroValue127
  t51 := Tryz.underlying67
  a51 := Tryz.isAgg67
  z51 := Tryz.sizeOf67
  v51 := Tryz.zeroValue67
  t53 := Tryz.underlying126
  a53 := Tryz.isAgg126
  z53 := Tryz.sizeOf126
  v53 := Tryz.zeroValue126 }

theorem Tryz.bits_Len (x : Int) (w : World) (h0 : 0 ≤ x) (h1 : x ≤ 18446744073709551615) :
    Calls Tryz.prog 108 #[.int .u64 x] w fun e w' => e = .returned (.int .i64 (Lib.bitLen x.toNat)) ∧ w' = w := Any.bits_Len Tryz.lays125 x w h0 h1

set_option maxHeartbeats 4000000 in
set_option maxRecDepth 20000 in
theorem powI (v1 : Value) (z : Int) (n : Nat) (w : World) (h1 : Is w v1 z) (hn : n ≤ 1000) (hl : ∀ j, j ≤ n → (lms (z ^ j)).length ≤ 250000) :
    Calls Tryz.prog 71 #[v1, .int .i64 n] w fun e w' => ∃ v, e = .returned v ∧ New w' w.heap.size v (z ^ n) ∧ Below w.heap.size w w' := by
  obtain ⟨a, ca, rfl, ha⟩ := h1
  have HA := hide ha
  clear ha
  go_enter Tryz.func71, Tryz.ntmps71
  go_wp2_with fail
  have HZ := hide (bl_alloc (bl_alloc (bl_refl w) (Obj.cells #[Value.bool (sgn z), Value.slice a (lms z).length ca] 24)) (Obj.cells #[Value.bool false, Value.slice none 0 0] 24))
  have kA0 : ((w.alloc (Obj.cells #[Value.bool (sgn z), Value.slice a (lms z).length ca] 24)).alloc (Obj.cells #[Value.bool false, Value.slice none 0 0] 24)).cell? ⟨w.heap.size, 0, none⟩ = some (.bool (sgn z)) := by go_simp
  have kA1 : ((w.alloc (Obj.cells #[Value.bool (sgn z), Value.slice a (lms z).length ca] 24)).alloc (Obj.cells #[Value.bool false, Value.slice none 0 0] 24)).cell? ⟨w.heap.size, 1, none⟩ = some (.slice a (lms z).length ca) := by go_simp
  have kR0 : ((w.alloc (Obj.cells #[Value.bool (sgn z), Value.slice a (lms z).length ca] 24)).alloc (Obj.cells #[Value.bool false, Value.slice none 0 0] 24)).cell? ⟨w.heap.size + 1, 0, none⟩ = some (.bool false) := by go_simp
  have kR1 : ((w.alloc (Obj.cells #[Value.bool (sgn z), Value.slice a (lms z).length ca] 24)).alloc (Obj.cells #[Value.bool false, Value.slice none 0 0] 24)).cell? ⟨w.heap.size + 1, 1, none⟩ = some (.slice none 0 0) := by go_simp
  have fR0 : ((w.alloc (Obj.cells #[Value.bool (sgn z), Value.slice a (lms z).length ca] 24)).alloc (Obj.cells #[Value.bool false, Value.slice none 0 0] 24)).frozen? ⟨w.heap.size + 1, 0, none⟩ = false := by go_simp
  have fR1 : ((w.alloc (Obj.cells #[Value.bool (sgn z), Value.slice a (lms z).length ca] 24)).alloc (Obj.cells #[Value.bool false, Value.slice none 0 0] 24)).frozen? ⟨w.heap.size + 1, 1, none⟩ = false := by go_simp
  have zz : w.heap.size + 2 = ((w.alloc (Obj.cells #[Value.bool (sgn z), Value.slice a (lms z).length ca] 24)).alloc (Obj.cells #[Value.bool false, Value.slice none 0 0] 24)).heap.size := by simp only [World.size_alloc]
  generalize (w.alloc (Obj.cells #[Value.bool (sgn z), Value.slice a (lms z).length ca] 24)).alloc (Obj.cells #[Value.bool false, Value.slice none 0 0] 24) = w1 at *
  refine (fromI 1 _ (by decide) (by decide)).mono ?_
  rintro e w2 ⟨v2, rfl, ⟨a2, c2, rfl, ho2⟩, hb2⟩
  have q2 := hb2.size
  have hP : PSt w (w2.alloc (Obj.cells #[Value.bool (sgn 1), Value.slice a2 (lms 1).length c2] 24)) w1.heap.size w2.heap.size z 1 a ca a2 c2 := by
    have hbl := bl_trans hb2 (bl_alloc (bl_refl w2) (Obj.cells #[Value.bool (sgn 1), Value.slice a2 (lms 1).length c2] 24))
    exact ⟨(hbl.cell (p := ⟨w.heap.size, 0, none⟩) (by dsimp only; omega)).trans kA0, (hbl.cell (p := ⟨w.heap.size, 1, none⟩) (by dsimp only; omega)).trans kA1, (hbl.cell (p := ⟨w.heap.size + 1, 0, none⟩) (by dsimp only; omega)).trans kR0, (hbl.cell (p := ⟨w.heap.size + 1, 1, none⟩) (by dsimp only; omega)).trans kR1, (hbl.frozen (p := ⟨w.heap.size + 1, 0, none⟩) (by dsimp only; omega)).trans fR0, (hbl.frozen (p := ⟨w.heap.size + 1, 1, none⟩) (by dsimp only; omega)).trans fR1, by go_simp, by go_simp, by go_simp, by go_simp, by simp only [World.size_alloc]; omega, ho2.below (bl_alloc (bl_refl w2) _), bl_trans HZ.out hbl⟩
  have HP := hide hP
  have hVw : w.heap.size + 2 ≤ w2.heap.size := by omega
  have hBW : w1.heap.size ≤ w2.heap.size := q2
  clear hP kA0 kA1 kR0 kR1 fR0 fR1 ho2 hb2
  have hL64 := Lib.bitLen_le n 64 (by omega) (by omega)
  have HLN := hide (Nat.lt_of_lt_of_le (show n < 2 ^ 64 by omega) (Nat.le_refl _))
  go_wp2_with (go_at_call 108; refine (Tryz.bits_Len n _ (by omega) (by omega)).mono ?_; rintro e w5 ⟨rfl, hw5⟩; subst w5)
  go_loopw [6] (fun i wr => ∃ (j : Nat) (av : Option Addr) (cv : Nat), j ≤ Lib.bitLen n ∧ i = .int .i64 ((j : Int) - 1) ∧ Hid (PSt w wr w1.heap.size w2.heap.size z (z ^ (n / 2 ^ j)) a ca av cv)) (fun i _ => (intOf i + 1).toNat)
  case atStart =>
    refine ⟨Lib.bitLen n, a2, c2, Nat.le_refl _, by go_num, ?_⟩
    have e : n / 2 ^ Lib.bitLen n = 0 := Nat.div_eq_of_lt (lt_bits n (by omega))
    rw [e, Int.pow_zero]
    exact HP
  case round =>
    obtain ⟨j, av, cv, hj, rfl, hP⟩ := hrel
    by_cases h0 : j = 0
    · subst h0
      rw [show n / 2 ^ 0 = n by simp] at hP
      obtain ⟨kA0, kA1, kR0, kR1, fR0, fR1, kV0, kV1, fV0, fV1, zV, own, bel⟩ := hP.out
      have HO := hide own
      have HB := hide bel
      clear own bel
      go_wp2
      refine bodyPost_ret (v := .agg #[.bool (sgn (z ^ n)), .slice av (lms (z ^ n)).length cv]) (by simp [results, Tryz.results71, go_sem, *]) rfl ?_
      refine ⟨_, rfl, ⟨av, cv, rfl, ?_⟩, ?_⟩
      · exact ((HO.out.setCell (p := ⟨w.heap.size + 1, 0, none⟩) (by dsimp only; omega) _).setCell (p := ⟨w.heap.size + 1, 1, none⟩) (by dsimp only; omega) _).mono (by omega)
      · exact (HB.out.setCell (p := ⟨w.heap.size + 1, 0, none⟩) (by dsimp only; omega) _).setCell (p := ⟨w.heap.size + 1, 1, none⟩) (by dsimp only; omega) _
    · obtain ⟨i, rfl⟩ : ∃ i, j = i + 1 := ⟨j - 1, by omega⟩
      have ei : (((i + 1 : Nat) : Int) - 1) = (i : Int) := by omega
      rw [ei]
      have hlq : (lms (z ^ (n / 2 ^ (i + 1)))).length ≤ 250000 := hl _ (Nat.div_le_self _ _)
      obtain ⟨kA0, kA1, kR0, kR1, fR0, fR1, kV0, kV1, fV0, fV1, zV, own, bel⟩ := hP.out
      have HO := hide own
      have HB := hide bel
      clear own bel
      go_wp2_with fail
      refine (prodI (.agg #[.bool (sgn (z ^ (n / 2 ^ (i + 1)))), .slice av (lms (z ^ (n / 2 ^ (i + 1)))).length cv]) (.agg #[.bool (sgn (z ^ (n / 2 ^ (i + 1)))), .slice av (lms (z ^ (n / 2 ^ (i + 1)))).length cv]) (sgn (z ^ (n / 2 ^ (i + 1)))) (sgn (z ^ (n / 2 ^ (i + 1)))) _ _ _ ⟨av, cv, rfl, HO.out.seg⟩ ⟨av, cv, rfl, HO.out.seg⟩ (Nat.le_trans hlq (by decide)) (Nat.le_trans hlq (by decide))).mono ?_
      rintro e w6 ⟨v6, rfl, hn6, hb6⟩
      rw [mk_self] at hn6
      obtain ⟨a6, c6, rfl, ho6⟩ := hn6
      have hP6 := hP.out.store hb6 ho6 hVw (by have := zV; omega)
      have v0 := (hb6.cell (p := ⟨w2.heap.size, 0, none⟩) zV).trans kV0
      have v1 := (hb6.cell (p := ⟨w2.heap.size, 1, none⟩) zV).trans kV1
      have g0 := (hb6.frozen (p := ⟨w2.heap.size, 0, none⟩) zV).trans fV0
      have g1 := (hb6.frozen (p := ⟨w2.heap.size, 1, none⟩) zV).trans fV1
      have HP6 := hide hP6
      clear hP6 hb6 ho6 kA0 kA1 kR0 kR1 fR0 fR1 kV0 kV1 fV0 fV1 HO HB hP
      go_upto_region 6 with fail
      generalize (w6.setCell ⟨w2.heap.size, 0, none⟩ (Value.bool (sgn (z ^ (n / 2 ^ (i + 1)) * z ^ (n / 2 ^ (i + 1)))))).setCell ⟨w2.heap.size, 1, none⟩ (Value.slice a6 (lms (z ^ (n / 2 ^ (i + 1)) * z ^ (n / 2 ^ (i + 1)))).length c6) = w7 at *
      clear v0 v1 g0 g1
      have hnn : (n : Int) / 2 ^ i = ((n / 2 ^ i : Nat) : Int) := by rw [Int.natCast_ediv, Int.natCast_pow]; rfl
      have hbit : bits BinOp.and IntKind.i64 ((n : Int) / 2 ^ i) 1 = ((n / 2 ^ i % 2 : Nat) : Int) := by
        have hle := Nat.div_le_self n (2 ^ i)
        rw [hnn]
        generalize n / 2 ^ i = m at *
        rw [and1 _ (Int.natCast_nonneg _) (by omega)]; omega
      clear hnn
      rcases Nat.mod_two_eq_zero_or_one (n / 2 ^ i) with hz2 | hz2
      · rw [hz2] at hbit
        rw [pow_bit0 z n i hz2] at HP6
        go_wp2
        exact ⟨⟨i, a6, c6, by omega, by go_num, HP6⟩, by simp [intOf]⟩
      · rw [hz2] at hbit
        obtain ⟨kA0, kA1, kR0, kR1, fR0, fR1, kV0, kV1, fV0, fV1, zV, own, bel⟩ := HP6.out
        have HO := hide own
        have HB := hide bel
        clear own bel
        have hlz : (lms z).length ≤ 250000 := by
          have hn1 : 1 ≤ n := by
            refine Classical.byContradiction fun hc => ?_
            have : n = 0 := by omega
            subst this; simp at hz2
          have := hl 1 hn1
          rwa [Int.pow_one] at this
        have hlqq : (lms (z ^ (n / 2 ^ (i + 1)) * z ^ (n / 2 ^ (i + 1)))).length ≤ 250000 := by
          rw [← Int.pow_add]
          refine hl _ ?_
          have h2 : n / 2 ^ (i + 1) = n / 2 ^ i / 2 := by rw [Nat.pow_succ, ← Nat.div_div_eq_div_mul]
          have := Nat.div_le_self n (2 ^ i)
          omega
        go_wp2_with fail
        refine (prodI (.agg #[.bool (sgn (z ^ (n / 2 ^ (i + 1)) * z ^ (n / 2 ^ (i + 1)))), .slice a6 (lms (z ^ (n / 2 ^ (i + 1)) * z ^ (n / 2 ^ (i + 1)))).length c6]) (.agg #[.bool (sgn z), .slice a (lms z).length ca]) (sgn (z ^ (n / 2 ^ (i + 1)) * z ^ (n / 2 ^ (i + 1)))) (sgn z) _ _ _ ⟨a6, c6, rfl, HO.out.seg⟩ ⟨a, ca, rfl, HA.out.below HB.out⟩ (Nat.le_trans hlqq (by decide)) (Nat.le_trans hlz (by decide))).mono ?_
        rintro e w8 ⟨v8, rfl, hn8, hb8⟩
        rw [mk_self, mk_self, pow_bit1 z n i hz2] at hn8
        obtain ⟨a8, c8, rfl, ho8⟩ := hn8
        have HP8 := hide (HP6.out.store hb8 ho8 hVw (by have := zV; omega))
        have v0 := (hb8.cell (p := ⟨w2.heap.size, 0, none⟩) zV).trans kV0
        have v1 := (hb8.cell (p := ⟨w2.heap.size, 1, none⟩) zV).trans kV1
        have g0 := (hb8.frozen (p := ⟨w2.heap.size, 0, none⟩) zV).trans fV0
        have g1 := (hb8.frozen (p := ⟨w2.heap.size, 1, none⟩) zV).trans fV1
        clear hb8 ho8 kA0 kA1 kR0 kR1 fR0 fR1 kV0 kV1 fV0 fV1 HO HB HP6
        go_wp2
        exact ⟨⟨i, a8, c8, by omega, by go_num, HP8⟩, by simp [intOf]⟩
end Go.Proofs.YtpmgpdlminacaaaGreatDoor

/- The walks of cutPlaces, readQuotient, readDecimal and ReadRat of the program, at texts of digits with a stroke or none. -/
namespace Go.Proofs.YtpmgpdlminacaaaGreatDoor
open Go.RowKit
set_option linter.unusedVariables false

/-- internal/bytealg.MaxLen holds some int -/
def Mx (w : World) : Prop := ∃ m : Int, w.cell? ⟨0, 0, none⟩ = some (.int .i64 m)
theorem Mx.below {w w' : World} (h : Mx w) (hb : Below w.heap.size w w') : Mx w' := by
  obtain ⟨m, hm⟩ := h
  exact ⟨m, (hb.cell (p := ⟨0, 0, none⟩) (World.block_lt_of_cell? w ⟨0, 0, none⟩ hm)).trans hm⟩
theorem cutI (s : ByteArray) (c : UInt8) (w : World) (hs : s.size ≤ 1000) (hm : Mx w) :
    Calls Tryz.prog 28 #[.string s, .string ⟨#[c]⟩] w fun e w' => e = .returned (.tuple #[.string ⟨(Lib.cut s.data.toList [c]).1.toArray⟩, .string ⟨(Lib.cut s.data.toList [c]).2.1.toArray⟩, .bool (Lib.cut s.data.toList [c]).2.2]) ∧ Below w.heap.size w w' := by
  obtain ⟨m, hm⟩ := hm
  refine (Tryz.strings_Cut s ⟨#[c]⟩ m w (by omega) hm).mono ?_
  rintro e w' ⟨he, n, hn⟩
  exact ⟨he, by rw [hn]; exact below_drewN (bl_refl w) n⟩
theorem cel4 {w1 : World} {N : Nat} {p : Addr} (h : p.block ≠ N) (x y z t : Value) : ((((w1.setCell ⟨N, 0, none⟩ x).setCell ⟨N, 1, none⟩ y).setCell ⟨N, 2, none⟩ z).setCell ⟨N, 3, none⟩ t).cell? p = w1.cell? p :=
  World.cell?_of_block ((Below.heap_setCell _ ⟨N, 3, none⟩ _ p.block h).trans ((Below.heap_setCell _ ⟨N, 2, none⟩ _ p.block h).trans ((Below.heap_setCell _ ⟨N, 1, none⟩ _ p.block h).trans (Below.heap_setCell _ ⟨N, 0, none⟩ _ p.block h))))
theorem own_four' {w1 : World} {N b n c lo : Nat} {a : Option Addr} {xs : List Nat} (h : Own w1 b a n c xs) (hN : N < b) (hlo : lo ≤ b) (x y z t : Value) : Own ((((w1.setCell ⟨N, 0, none⟩ x).setCell ⟨N, 1, none⟩ y).setCell ⟨N, 2, none⟩ z).setCell ⟨N, 3, none⟩ t) lo a n c xs :=
  ((((h.setCell (p := ⟨N, 0, none⟩) hN x).setCell (p := ⟨N, 1, none⟩) hN y).setCell (p := ⟨N, 2, none⟩) hN z).setCell (p := ⟨N, 3, none⟩) hN t).mono hlo
theorem ft_ok {p q : Int} (h1 : fits p = true) (h2 : fits q = true) (a : Option Addr) (c : Nat) (b : Option Addr) (d : Nat) : ftV p q a c b d = .agg #[.bool (sgn p), .slice a (lms p).length c, .bool (sgn q), .slice b (lms q).length d] ∧ ftT p q = true := by
  have : ftT p q = true := by unfold ftT; rw [h1, h2]; rfl
  exact ⟨by unfold ftV; rw [if_pos this], this⟩

set_option maxHeartbeats 1000000 in
theorem cutPlacesI (s : ByteArray) (w : World) (hs : s.size ≤ 1000) (hm : Mx w) (hd : digAll s.data.toList = true) :
    Calls Tryz.prog 69 #[.string s] w fun e w' => e = .returned (.tuple #[.string s, .int .i64 0, .bool true]) ∧ Below w.heap.size w w' := by
  have HC := hide (cut_none (dig_not hd (c := 101) (by decide)))
  have HM := hide hm
  clear hd hm
  go_enter Tryz.func69, Tryz.ntmps69
  go_wp2_with fail
  refine (cutI s 101 _ hs HM.out).mono ?_
  rw [HC.out]
  rintro e w1 ⟨rfl, hb⟩
  have HB := hide hb
  clear hb
  go_wp2
  refine bodyPost_ret (v := .tuple #[.string s, .int .i64 0, .bool true]) (by simp [results, Tryz.results69, go_sem, *]) rfl ?_
  exact ⟨rfl, HB.out⟩

set_option maxHeartbeats 4000000 in
set_option maxRecDepth 20000 in
theorem readQuotI (neg : Bool) (N D : ByteArray) (x y : Int) (w : World) (hN : digOk N = true) (hD : digOk D = true) (sN : N.size ≤ 400) (sD : D.size ≤ 400) (hx : mk neg (valN N.data.toList) = x) (hy : mk false (valN D.data.toList) = y) (hy0 : 0 < y) (hg : Int.gcd x y = 1) (fx : fits x = true) (fy : fits y = true) :
    Calls Tryz.prog 29 #[.bool neg, .string N, .string D] w fun e w' => ∃ b1 e1 b2 e2, e = .returned (.tuple #[.agg #[.bool (sgn x), .slice b1 (lms x).length e1, .bool (sgn y), .slice b2 (lms y).length e2], .bool true]) ∧ Own w' w.heap.size b1 (lms x).length e1 (lms x) ∧ Own w' w.heap.size b2 (lms y).length e2 (lms y) ∧ Below w.heap.size w w' := by
  have HDN := hide hN
  have HDD := hide hD
  have HAN : Hid (digAll N.data.toList = true) := hide (by unfold digOk at hN; rw [Bool.and_eq_true] at hN; exact hN.1)
  have HAD : Hid (digAll D.data.toList = true) := hide (by unfold digOk at hD; rw [Bool.and_eq_true] at hD; exact hD.1)
  have HX := hide hx
  have HY := hide hy
  have HSG : Hid (sgG x y = 1) := hide (by unfold sgG; rw [if_neg (by omega), hg]; rfl)
  have lx : (lms x).length ≤ 40 := Num.limbs_len.2 (of_decide_eq_true fx)
  have ly : (lms y).length ≤ 40 := Num.limbs_len.2 (of_decide_eq_true fy)
  have HFX := hide fx
  have HFY := hide fy
  clear hN hD hx hy hg fx fy
  have kr0 : (w.alloc (Obj.cells #[Value.bool false, Value.slice none 0 0, Value.bool false, Value.slice none 0 0] 26)).cell? ⟨w.heap.size, 0, none⟩ = some (Value.bool false) := by go_simp
  have fr0 : (w.alloc (Obj.cells #[Value.bool false, Value.slice none 0 0, Value.bool false, Value.slice none 0 0] 26)).frozen? ⟨w.heap.size, 0, none⟩ = false := by go_simp
  have kr1 : (w.alloc (Obj.cells #[Value.bool false, Value.slice none 0 0, Value.bool false, Value.slice none 0 0] 26)).cell? ⟨w.heap.size, 1, none⟩ = some (Value.slice none 0 0) := by go_simp
  have fr1 : (w.alloc (Obj.cells #[Value.bool false, Value.slice none 0 0, Value.bool false, Value.slice none 0 0] 26)).frozen? ⟨w.heap.size, 1, none⟩ = false := by go_simp
  have kr2 : (w.alloc (Obj.cells #[Value.bool false, Value.slice none 0 0, Value.bool false, Value.slice none 0 0] 26)).cell? ⟨w.heap.size, 2, none⟩ = some (Value.bool false) := by go_simp
  have fr2 : (w.alloc (Obj.cells #[Value.bool false, Value.slice none 0 0, Value.bool false, Value.slice none 0 0] 26)).frozen? ⟨w.heap.size, 2, none⟩ = false := by go_simp
  have kr3 : (w.alloc (Obj.cells #[Value.bool false, Value.slice none 0 0, Value.bool false, Value.slice none 0 0] 26)).cell? ⟨w.heap.size, 3, none⟩ = some (Value.slice none 0 0) := by go_simp
  have fr3 : (w.alloc (Obj.cells #[Value.bool false, Value.slice none 0 0, Value.bool false, Value.slice none 0 0] 26)).frozen? ⟨w.heap.size, 3, none⟩ = false := by go_simp
  have zr : w.heap.size < (w.alloc (Obj.cells #[Value.bool false, Value.slice none 0 0, Value.bool false, Value.slice none 0 0] 26)).heap.size := by simp only [World.size_alloc]; omega
  have HB := hide (bl_alloc (bl_refl w) (Obj.cells #[Value.bool false, Value.slice none 0 0, Value.bool false, Value.slice none 0 0] 26))
  go_enter Tryz.func29, Tryz.ntmps29
  go_wp2_with fail
  generalize w.alloc (Obj.cells #[Value.bool false, Value.slice none 0 0, Value.bool false, Value.slice none 0 0] 26) = W0 at *
  refine (allDigitsI N _ (by omega)).mono ?_
  rw [HDN.out]
  rintro e w1 ⟨rfl, hb⟩
  replace kr0 := (hb.cell (p := ⟨w.heap.size, 0, none⟩) zr).trans kr0
  replace fr0 := (hb.frozen (p := ⟨w.heap.size, 0, none⟩) zr).trans fr0
  replace kr1 := (hb.cell (p := ⟨w.heap.size, 1, none⟩) zr).trans kr1
  replace fr1 := (hb.frozen (p := ⟨w.heap.size, 1, none⟩) zr).trans fr1
  replace kr2 := (hb.cell (p := ⟨w.heap.size, 2, none⟩) zr).trans kr2
  replace fr2 := (hb.frozen (p := ⟨w.heap.size, 2, none⟩) zr).trans fr2
  replace kr3 := (hb.cell (p := ⟨w.heap.size, 3, none⟩) zr).trans kr3
  replace fr3 := (hb.frozen (p := ⟨w.heap.size, 3, none⟩) zr).trans fr3
  replace zr := Nat.lt_of_lt_of_le zr hb.size
  replace HB := hide (bl_trans HB.out hb)
  clear hb
  go_wp2_with fail
  refine (allDigitsI D _ (by omega)).mono ?_
  rw [HDD.out]
  rintro e w2 ⟨rfl, hb⟩
  replace kr0 := (hb.cell (p := ⟨w.heap.size, 0, none⟩) zr).trans kr0
  replace fr0 := (hb.frozen (p := ⟨w.heap.size, 0, none⟩) zr).trans fr0
  replace kr1 := (hb.cell (p := ⟨w.heap.size, 1, none⟩) zr).trans kr1
  replace fr1 := (hb.frozen (p := ⟨w.heap.size, 1, none⟩) zr).trans fr1
  replace kr2 := (hb.cell (p := ⟨w.heap.size, 2, none⟩) zr).trans kr2
  replace fr2 := (hb.frozen (p := ⟨w.heap.size, 2, none⟩) zr).trans fr2
  replace kr3 := (hb.cell (p := ⟨w.heap.size, 3, none⟩) zr).trans kr3
  replace fr3 := (hb.frozen (p := ⟨w.heap.size, 3, none⟩) zr).trans fr3
  replace zr := Nat.lt_of_lt_of_le zr hb.size
  replace HB := hide (bl_trans HB.out hb)
  clear hb
  go_wp2_with fail
  refine (digitLimbsI D _ HAD.out (by omega)).mono ?_
  rintro e w3 ⟨a3, n3, c3, xs3, rfl, ho3, hn3, hv3, hb⟩
  have hb3 := hb.size
  have HO3 := hide ho3
  have HV3 := hide hv3
  clear ho3 hv3
  replace kr0 := (hb.cell (p := ⟨w.heap.size, 0, none⟩) zr).trans kr0
  replace fr0 := (hb.frozen (p := ⟨w.heap.size, 0, none⟩) zr).trans fr0
  replace kr1 := (hb.cell (p := ⟨w.heap.size, 1, none⟩) zr).trans kr1
  replace fr1 := (hb.frozen (p := ⟨w.heap.size, 1, none⟩) zr).trans fr1
  replace kr2 := (hb.cell (p := ⟨w.heap.size, 2, none⟩) zr).trans kr2
  replace fr2 := (hb.frozen (p := ⟨w.heap.size, 2, none⟩) zr).trans fr2
  replace kr3 := (hb.cell (p := ⟨w.heap.size, 3, none⟩) zr).trans kr3
  replace fr3 := (hb.frozen (p := ⟨w.heap.size, 3, none⟩) zr).trans fr3
  replace zr := Nat.lt_of_lt_of_le zr hb.size
  replace HB := hide (bl_trans HB.out hb)
  clear hb
  go_wp2_with fail
  refine (bigOfI false a3 n3 c3 xs3 _ _ HO3.out hb3).mono ?_
  rw [HV3.out, HY.out]
  rintro e w4 ⟨v4, rfl, ⟨a4, c4, rfl, ho4⟩, hb⟩
  have S4 := hide ho4.seg
  clear ho4 HO3 HV3
  replace kr0 := (hb.cell (p := ⟨w.heap.size, 0, none⟩) zr).trans kr0
  replace fr0 := (hb.frozen (p := ⟨w.heap.size, 0, none⟩) zr).trans fr0
  replace kr1 := (hb.cell (p := ⟨w.heap.size, 1, none⟩) zr).trans kr1
  replace fr1 := (hb.frozen (p := ⟨w.heap.size, 1, none⟩) zr).trans fr1
  replace kr2 := (hb.cell (p := ⟨w.heap.size, 2, none⟩) zr).trans kr2
  replace fr2 := (hb.frozen (p := ⟨w.heap.size, 2, none⟩) zr).trans fr2
  replace kr3 := (hb.cell (p := ⟨w.heap.size, 3, none⟩) zr).trans kr3
  replace fr3 := (hb.frozen (p := ⟨w.heap.size, 3, none⟩) zr).trans fr3
  replace zr := Nat.lt_of_lt_of_le zr hb.size
  replace HB := hide (bl_trans HB.out hb)
  clear hb
  have zr4 := zr
  have kd0 : (w4.alloc (Obj.cells #[Value.bool (sgn y), Value.slice a4 (lms y).length c4] 24)).cell? ⟨w4.heap.size, 0, none⟩ = some (Value.bool (sgn y)) := by go_simp
  have kd1 : (w4.alloc (Obj.cells #[Value.bool (sgn y), Value.slice a4 (lms y).length c4] 24)).cell? ⟨w4.heap.size, 1, none⟩ = some (Value.slice a4 (lms y).length c4) := by go_simp
  have fd0 : (w4.alloc (Obj.cells #[Value.bool (sgn y), Value.slice a4 (lms y).length c4] 24)).frozen? ⟨w4.heap.size, 0, none⟩ = false := by go_simp
  have fd1 : (w4.alloc (Obj.cells #[Value.bool (sgn y), Value.slice a4 (lms y).length c4] 24)).frozen? ⟨w4.heap.size, 1, none⟩ = false := by go_simp
  have zd : w4.heap.size < (w4.alloc (Obj.cells #[Value.bool (sgn y), Value.slice a4 (lms y).length c4] 24)).heap.size := by simp only [World.size_alloc]; omega
  have hbn := bl_alloc (bl_refl w4) (Obj.cells #[Value.bool (sgn y), Value.slice a4 (lms y).length c4] 24)
  replace kr0 := (hbn.cell (p := ⟨w.heap.size, 0, none⟩) zr).trans kr0
  replace fr0 := (hbn.frozen (p := ⟨w.heap.size, 0, none⟩) zr).trans fr0
  replace kr1 := (hbn.cell (p := ⟨w.heap.size, 1, none⟩) zr).trans kr1
  replace fr1 := (hbn.frozen (p := ⟨w.heap.size, 1, none⟩) zr).trans fr1
  replace kr2 := (hbn.cell (p := ⟨w.heap.size, 2, none⟩) zr).trans kr2
  replace fr2 := (hbn.frozen (p := ⟨w.heap.size, 2, none⟩) zr).trans fr2
  replace kr3 := (hbn.cell (p := ⟨w.heap.size, 3, none⟩) zr).trans kr3
  replace fr3 := (hbn.frozen (p := ⟨w.heap.size, 3, none⟩) zr).trans fr3
  replace zr := Nat.lt_of_lt_of_le zr hbn.size
  replace S4 := hide (S4.out.below hbn)
  replace HB := hide (bl_trans HB.out hbn)
  clear hbn
  go_wp2_with fail
  generalize w4.alloc (Obj.cells #[Value.bool (sgn y), Value.slice a4 (lms y).length c4] 24) = w5 at *
  refine (noughtI _ (sgn y) (lms y) _ ⟨a4, c4, rfl, S4.out⟩).mono ?_
  rw [decide_eq_false (show ¬ (lms y).length = 0 from fun h => by have := sgn_lms_nil h; omega)]
  rintro e w6 ⟨rfl, hb⟩
  replace kr0 := (hb.cell (p := ⟨w.heap.size, 0, none⟩) zr).trans kr0
  replace fr0 := (hb.frozen (p := ⟨w.heap.size, 0, none⟩) zr).trans fr0
  replace kr1 := (hb.cell (p := ⟨w.heap.size, 1, none⟩) zr).trans kr1
  replace fr1 := (hb.frozen (p := ⟨w.heap.size, 1, none⟩) zr).trans fr1
  replace kr2 := (hb.cell (p := ⟨w.heap.size, 2, none⟩) zr).trans kr2
  replace fr2 := (hb.frozen (p := ⟨w.heap.size, 2, none⟩) zr).trans fr2
  replace kr3 := (hb.cell (p := ⟨w.heap.size, 3, none⟩) zr).trans kr3
  replace fr3 := (hb.frozen (p := ⟨w.heap.size, 3, none⟩) zr).trans fr3
  replace kd0 := (hb.cell (p := ⟨w4.heap.size, 0, none⟩) zd).trans kd0
  replace fd0 := (hb.frozen (p := ⟨w4.heap.size, 0, none⟩) zd).trans fd0
  replace kd1 := (hb.cell (p := ⟨w4.heap.size, 1, none⟩) zd).trans kd1
  replace fd1 := (hb.frozen (p := ⟨w4.heap.size, 1, none⟩) zd).trans fd1
  replace zd := Nat.lt_of_lt_of_le zd hb.size
  replace zr := Nat.lt_of_lt_of_le zr hb.size
  replace S4 := hide (S4.out.below hb)
  replace HB := hide (bl_trans HB.out hb)
  clear hb
  have hdr : w4.heap.size ≠ w.heap.size := by omega
  go_wp2_with fail
  go_region_held3 (fun w' => w'.cell? ⟨w4.heap.size, 0, none⟩ = some (Value.bool (sgn y)) ∧ w'.cell? ⟨w4.heap.size, 1, none⟩ = some (Value.slice a4 (lms y).length c4))
    (first | exact ⟨(by (try rw [World.cell?_drew]); first | with_reducible assumption), (by (try rw [World.cell?_drew]); first | with_reducible assumption)⟩ | exact ⟨(cel4 (p := ⟨w4.heap.size, 0, none⟩) hdr _ _ _ _).trans kd0, (cel4 (p := ⟨w4.heap.size, 1, none⟩) hdr _ _ _ _).trans kd1⟩)
    (first
      | (go_at_call 65; refine (digitLimbsI N _ HAN.out (by omega)).mono ?_; rintro e wA ⟨aA, nA, cA, xsA, rfl, hoA, hnA, hvA, hbAr⟩; have hbA : Below w6.heap.size w6 wA := (bl_refl w6).drew.trans hbAr; have yA := hbA.size; have yAr := hbAr.size; have kd0 := (hbAr.cell (p := ⟨w4.heap.size, 0, none⟩) (by dsimp only; rw [World.size_drew]; omega)).trans kd0; have kd1 := (hbAr.cell (p := ⟨w4.heap.size, 1, none⟩) (by dsimp only; rw [World.size_drew]; omega)).trans kd1)
      | (go_at_call 64; refine (bigOfI neg aA nA cA xsA _ _ hoA yAr).mono ?_; rw [hvA, HX.out]; rintro e wB ⟨vB, rfl, ⟨aB, cB, rfl, hoB⟩, hbBr⟩; have hbB : Below w6.heap.size w6 wB := bl_trans hbA hbBr; have yB := hbBr.size; have kd0 := (hbBr.cell (p := ⟨w4.heap.size, 0, none⟩) (by dsimp only; omega)).trans kd0; have kd1 := (hbBr.cell (p := ⟨w4.heap.size, 1, none⟩) (by dsimp only; omega)).trans kd1)
      | (go_at_call 67; refine (shortI' x y aB cB a4 c4 _ hoB.seg (S4.out.below hbB) (by omega) (by omega) (by omega)).mono ?_; rw [HSG.out, Int.ediv_one, Int.ediv_one]; rintro e wC ⟨b1, e1, b2, e2, rfl, ho1, ho2, hap, hbCr⟩; have hbC : Below w6.heap.size w6 wC := bl_trans hbB hbCr; have yC := hbCr.size; have kd0 := (hbCr.cell (p := ⟨w4.heap.size, 0, none⟩) (by dsimp only; omega)).trans kd0; have kd1 := (hbCr.cell (p := ⟨w4.heap.size, 1, none⟩) (by dsimp only; omega)).trans kd1)
      | (go_at_call 68; refine (fitI x y b1 e1 b2 e2 _ ho1.seg ho2.seg).mono ?_; rw [(ft_ok HFX.out HFY.out b1 e1 b2 e2).1, (ft_ok HFX.out HFY.out b1 e1 b2 e2).2]; rintro e wD ⟨rfl, hbDr⟩; have hbD : Below w6.heap.size w6 wD := bl_trans hbC hbDr; have yD := hbDr.size; have kd0 := (hbDr.cell (p := ⟨w4.heap.size, 0, none⟩) (by dsimp only; omega)).trans kd0; have kd1 := (hbDr.cell (p := ⟨w4.heap.size, 1, none⟩) (by dsimp only; omega)).trans kd1; have kr0 := (hbD.cell (p := ⟨w.heap.size, 0, none⟩) zr).trans kr0; have fr0 := (hbD.frozen (p := ⟨w.heap.size, 0, none⟩) zr).trans fr0; have kr1 := (hbD.cell (p := ⟨w.heap.size, 1, none⟩) zr).trans kr1; have fr1 := (hbD.frozen (p := ⟨w.heap.size, 1, none⟩) zr).trans fr1; have kr2 := (hbD.cell (p := ⟨w.heap.size, 2, none⟩) zr).trans kr2; have fr2 := (hbD.frozen (p := ⟨w.heap.size, 2, none⟩) zr).trans fr2; have kr3 := (hbD.cell (p := ⟨w.heap.size, 3, none⟩) zr).trans kr3; have fr3 := (hbD.frozen (p := ⟨w.heap.size, 3, none⟩) zr).trans fr3; have HO1 := hide (ho1.below hbDr); have HO2 := hide (ho2.below hbDr)))
  replace HB := hide (bl_trans HB.out hbD)
  clear hoA hoB ho1 ho2 hap hbA hbAr hbB hbBr hbC hbCr hbD hbDr
  go_wp2
  refine bodyPost_ret (v := .tuple #[.agg #[.bool (sgn x), .slice b1 (lms x).length e1, .bool (sgn y), .slice b2 (lms y).length e2], .bool true]) (by simp [results, Tryz.results29, go_sem, *]) rfl ?_
  exact ⟨b1, e1, b2, e2, rfl, own_four' HO1.out (by omega) (by omega) _ _ _ _, own_four' HO2.out (by omega) (by omega) _ _ _ _, set_four (Nat.le_refl _) HB.out _ _ _ _⟩

theorem back_bytes (D : ByteArray) : (⟨D.data.toList.toArray⟩ : ByteArray) = D := by rw [Array.toArray_toList]
theorem app_none (D : ByteArray) : D ++ ⟨#[]⟩ = D := ByteArray.ext (Array.ext' (by simp))
theorem cel2 {w1 : World} {N : Nat} {p : Addr} (h : p.block ≠ N) (x y : Value) : ((w1.setCell ⟨N, 0, none⟩ x).setCell ⟨N, 1, none⟩ y).cell? p = w1.cell? p :=
  World.cell?_of_block ((Below.heap_setCell _ ⟨N, 1, none⟩ _ p.block h).trans (Below.heap_setCell _ ⟨N, 0, none⟩ _ p.block h))
theorem fro2 {w1 : World} {N : Nat} {p : Addr} (h : p.block ≠ N) (x y : Value) : ((w1.setCell ⟨N, 0, none⟩ x).setCell ⟨N, 1, none⟩ y).frozen? p = w1.frozen? p :=
  World.frozen?_of_block ((Below.heap_setCell _ ⟨N, 1, none⟩ _ p.block h).trans (Below.heap_setCell _ ⟨N, 0, none⟩ _ p.block h))
theorem grown_at (W : World) (p : Addr) (v : Value) : W.grownBy (W.setCell p v) (some p.block) :=
  ⟨rfl, rfl, rfl, by simp [World.setCell], fun k _ hn => Below.heap_setCell _ _ _ _ (fun e => hn (by rw [e]))⟩
theorem seg_off {W W' : World} {lo N n c : Nat} {a : Option Addr} {xs : List Nat} (h : Own W lo a n c xs) (hb : Below W.heap.size W W') (hN : W.heap.size ≤ N) (x y : Value) : Seg ((W'.setCell ⟨N, 0, none⟩ x).setCell ⟨N, 1, none⟩ y) a n c xs := by
  have ne : (Value.slice a n c).ownBlock = none ∨ (Value.slice a n c).ownBlock ≠ some N := by
    cases hk : (Value.slice a n c).ownBlock with
    | none => exact .inl rfl
    | some k => exact .inr fun e => by have := (h.1.lt k hk).2; cases e; omega
  exact (((h.below hb).kept (grown_at W' ⟨N, 0, none⟩ x) ne).kept (grown_at _ ⟨N, 1, none⟩ y) ne).seg
theorem seg_on {W : World} {lo N n c : Nat} {a : Option Addr} {xs : List Nat} (h : Own W lo a n c xs) (hN : N < lo) (x y : Value) : Seg ((W.setCell ⟨N, 0, none⟩ x).setCell ⟨N, 1, none⟩ y) a n c xs :=
  ((h.setCell (p := ⟨N, 0, none⟩) hN x).setCell (p := ⟨N, 1, none⟩) hN y).seg
theorem pow0I (v : Value) (z : Int) (w : World) (h : Is w v z) : Calls Tryz.prog 71 #[v, .int .i64 0] w fun e w' => ∃ v, e = .returned v ∧ New w' w.heap.size v 1 ∧ Below w.heap.size w w' := by
  have := powI v z 0 w h (by decide) (fun j hj => by
    obtain rfl : j = 0 := Nat.le_zero.1 hj
    rw [Int.pow_zero, lms_one (by rfl)]; decide)
  simpa using this
theorem prodXY (v1 v2 : Value) (x y : Int) (w : World) (h1 : Is w v1 x) (h2 : Is w v2 y) (l1 : (lms x).length ≤ 500000) (l2 : (lms y).length ≤ 500000) :
    Calls Tryz.prog 72 #[v1, v2] w fun e w' => ∃ v, e = .returned v ∧ New w' w.heap.size v (x * y) ∧ Below w.heap.size w w' := by
  have := prodI v1 v2 (sgn x) (sgn y) x.natAbs y.natAbs w h1 h2 l1 l2
  rw [mk_self, mk_self] at this; exact this

set_option maxHeartbeats 8000000 in
set_option maxRecDepth 20000 in
theorem readDecI (neg : Bool) (D : ByteArray) (x : Int) (w : World) (hm : Mx w) (hD : digOk D = true) (sD : D.size ≤ 400) (hx : mk neg (valN D.data.toList) = x) (fx : fits x = true) :
    Calls Tryz.prog 30 #[.bool neg, .string D] w fun e w' => ∃ b1 e1 b2 e2, e = .returned (.tuple #[.agg #[.bool (sgn x), .slice b1 (lms x).length e1, .bool (sgn 1), .slice b2 (lms 1).length e2], .bool true]) ∧ Own w' w.heap.size b1 (lms x).length e1 (lms x) ∧ Own w' w.heap.size b2 (lms 1).length e2 (lms 1) ∧ Below w.heap.size w w' := by
  have HDD := hide hD
  have HAD : Hid (digAll D.data.toList = true) := hide (by unfold digOk at hD; rw [Bool.and_eq_true] at hD; exact hD.1)
  have HX := hide hx
  have HSG : Hid (sgG x 1 = 1) := hide (by unfold sgG; rw [if_neg (by omega), Int.gcd_one]; rfl)
  have lx : (lms x).length ≤ 40 := Num.limbs_len.2 (of_decide_eq_true fx)
  have HFX := hide fx
  have HFY : Hid (fits 1 = true) := hide (by unfold fits; decide)
  have ly : (lms 1).length ≤ 40 := Num.limbs_len.2 (of_decide_eq_true HFY.out)
  have l10 : (lms 10).length ≤ 40 := Num.limbs_len.2 (by decide)
  clear hD hx fx
  have HC := hide (cut_none (dig_not HAD.out (c := 46) (by decide)))
  have HM := hide hm
  clear hm
  have kr0 : (w.alloc (Obj.cells #[Value.bool false, Value.slice none 0 0, Value.bool false, Value.slice none 0 0] 26)).cell? ⟨w.heap.size, 0, none⟩ = some (Value.bool false) := by go_simp
  have fr0 : (w.alloc (Obj.cells #[Value.bool false, Value.slice none 0 0, Value.bool false, Value.slice none 0 0] 26)).frozen? ⟨w.heap.size, 0, none⟩ = false := by go_simp
  have kr1 : (w.alloc (Obj.cells #[Value.bool false, Value.slice none 0 0, Value.bool false, Value.slice none 0 0] 26)).cell? ⟨w.heap.size, 1, none⟩ = some (Value.slice none 0 0) := by go_simp
  have fr1 : (w.alloc (Obj.cells #[Value.bool false, Value.slice none 0 0, Value.bool false, Value.slice none 0 0] 26)).frozen? ⟨w.heap.size, 1, none⟩ = false := by go_simp
  have kr2 : (w.alloc (Obj.cells #[Value.bool false, Value.slice none 0 0, Value.bool false, Value.slice none 0 0] 26)).cell? ⟨w.heap.size, 2, none⟩ = some (Value.bool false) := by go_simp
  have fr2 : (w.alloc (Obj.cells #[Value.bool false, Value.slice none 0 0, Value.bool false, Value.slice none 0 0] 26)).frozen? ⟨w.heap.size, 2, none⟩ = false := by go_simp
  have kr3 : (w.alloc (Obj.cells #[Value.bool false, Value.slice none 0 0, Value.bool false, Value.slice none 0 0] 26)).cell? ⟨w.heap.size, 3, none⟩ = some (Value.slice none 0 0) := by go_simp
  have fr3 : (w.alloc (Obj.cells #[Value.bool false, Value.slice none 0 0, Value.bool false, Value.slice none 0 0] 26)).frozen? ⟨w.heap.size, 3, none⟩ = false := by go_simp
  have zr : w.heap.size < (w.alloc (Obj.cells #[Value.bool false, Value.slice none 0 0, Value.bool false, Value.slice none 0 0] 26)).heap.size := by simp only [World.size_alloc]; omega
  have HB := hide (bl_alloc (bl_refl w) (Obj.cells #[Value.bool false, Value.slice none 0 0, Value.bool false, Value.slice none 0 0] 26))
  replace HM := hide (HM.out.below HB.out)
  go_enter Tryz.func30, Tryz.ntmps30
  go_wp2_with fail
  generalize w.alloc (Obj.cells #[Value.bool false, Value.slice none 0 0, Value.bool false, Value.slice none 0 0] 26) = W0 at *
  refine (cutPlacesI D _ (by omega) HM.out HAD.out).mono ?_
  rintro e w1 ⟨rfl, hb⟩
  replace kr0 := (hb.cell (p := ⟨w.heap.size, 0, none⟩) zr).trans kr0
  replace fr0 := (hb.frozen (p := ⟨w.heap.size, 0, none⟩) zr).trans fr0
  replace kr1 := (hb.cell (p := ⟨w.heap.size, 1, none⟩) zr).trans kr1
  replace fr1 := (hb.frozen (p := ⟨w.heap.size, 1, none⟩) zr).trans fr1
  replace kr2 := (hb.cell (p := ⟨w.heap.size, 2, none⟩) zr).trans kr2
  replace fr2 := (hb.frozen (p := ⟨w.heap.size, 2, none⟩) zr).trans fr2
  replace kr3 := (hb.cell (p := ⟨w.heap.size, 3, none⟩) zr).trans kr3
  replace fr3 := (hb.frozen (p := ⟨w.heap.size, 3, none⟩) zr).trans fr3
  replace zr := Nat.lt_of_lt_of_le zr hb.size
  replace HM := hide (HM.out.below hb)
  replace HB := hide (bl_trans HB.out hb)
  clear hb
  go_wp2_with fail
  refine (cutI D 46 _ (by omega) HM.out).mono ?_
  rw [HC.out, back_bytes]
  rintro e w2 ⟨rfl, hb⟩
  replace kr0 := (hb.cell (p := ⟨w.heap.size, 0, none⟩) zr).trans kr0
  replace fr0 := (hb.frozen (p := ⟨w.heap.size, 0, none⟩) zr).trans fr0
  replace kr1 := (hb.cell (p := ⟨w.heap.size, 1, none⟩) zr).trans kr1
  replace fr1 := (hb.frozen (p := ⟨w.heap.size, 1, none⟩) zr).trans fr1
  replace kr2 := (hb.cell (p := ⟨w.heap.size, 2, none⟩) zr).trans kr2
  replace fr2 := (hb.frozen (p := ⟨w.heap.size, 2, none⟩) zr).trans fr2
  replace kr3 := (hb.cell (p := ⟨w.heap.size, 3, none⟩) zr).trans kr3
  replace fr3 := (hb.frozen (p := ⟨w.heap.size, 3, none⟩) zr).trans fr3
  replace zr := Nat.lt_of_lt_of_le zr hb.size
  replace HM := hide (HM.out.below hb)
  replace HB := hide (bl_trans HB.out hb)
  clear hb
  go_wp2_with fail
  refine (allDigitsI D _ (by omega)).mono ?_
  rw [HDD.out]
  rintro e w3 ⟨rfl, hb⟩
  replace kr0 := (hb.cell (p := ⟨w.heap.size, 0, none⟩) zr).trans kr0
  replace fr0 := (hb.frozen (p := ⟨w.heap.size, 0, none⟩) zr).trans fr0
  replace kr1 := (hb.cell (p := ⟨w.heap.size, 1, none⟩) zr).trans kr1
  replace fr1 := (hb.frozen (p := ⟨w.heap.size, 1, none⟩) zr).trans fr1
  replace kr2 := (hb.cell (p := ⟨w.heap.size, 2, none⟩) zr).trans kr2
  replace fr2 := (hb.frozen (p := ⟨w.heap.size, 2, none⟩) zr).trans fr2
  replace kr3 := (hb.cell (p := ⟨w.heap.size, 3, none⟩) zr).trans kr3
  replace fr3 := (hb.frozen (p := ⟨w.heap.size, 3, none⟩) zr).trans fr3
  replace zr := Nat.lt_of_lt_of_le zr hb.size
  replace HB := hide (bl_trans HB.out hb)
  clear hb
  clear HM
  go_wp2_with fail
  rw [app_none]
  refine (digitLimbsI D _ HAD.out (by omega)).mono ?_
  rintro e w4 ⟨a4, n4, c4, xs4, rfl, ho4, hn4, hv4, hb⟩
  have hb4 := hb.size
  have HO4 := hide ho4
  have HV4 := hide hv4
  clear ho4 hv4
  replace kr0 := (hb.cell (p := ⟨w.heap.size, 0, none⟩) zr).trans kr0
  replace fr0 := (hb.frozen (p := ⟨w.heap.size, 0, none⟩) zr).trans fr0
  replace kr1 := (hb.cell (p := ⟨w.heap.size, 1, none⟩) zr).trans kr1
  replace fr1 := (hb.frozen (p := ⟨w.heap.size, 1, none⟩) zr).trans fr1
  replace kr2 := (hb.cell (p := ⟨w.heap.size, 2, none⟩) zr).trans kr2
  replace fr2 := (hb.frozen (p := ⟨w.heap.size, 2, none⟩) zr).trans fr2
  replace kr3 := (hb.cell (p := ⟨w.heap.size, 3, none⟩) zr).trans kr3
  replace fr3 := (hb.frozen (p := ⟨w.heap.size, 3, none⟩) zr).trans fr3
  replace zr := Nat.lt_of_lt_of_le zr hb.size
  replace HB := hide (bl_trans HB.out hb)
  clear hb
  go_wp2_with fail
  refine (bigOfI neg a4 n4 c4 xs4 _ _ HO4.out hb4).mono ?_
  rw [HV4.out, HX.out]
  rintro e w5 ⟨v5, rfl, ⟨a5, c5, rfl, ho5⟩, hb⟩
  have S5 := hide ho5.seg
  clear ho5 HO4 HV4
  replace kr0 := (hb.cell (p := ⟨w.heap.size, 0, none⟩) zr).trans kr0
  replace fr0 := (hb.frozen (p := ⟨w.heap.size, 0, none⟩) zr).trans fr0
  replace kr1 := (hb.cell (p := ⟨w.heap.size, 1, none⟩) zr).trans kr1
  replace fr1 := (hb.frozen (p := ⟨w.heap.size, 1, none⟩) zr).trans fr1
  replace kr2 := (hb.cell (p := ⟨w.heap.size, 2, none⟩) zr).trans kr2
  replace fr2 := (hb.frozen (p := ⟨w.heap.size, 2, none⟩) zr).trans fr2
  replace kr3 := (hb.cell (p := ⟨w.heap.size, 3, none⟩) zr).trans kr3
  replace fr3 := (hb.frozen (p := ⟨w.heap.size, 3, none⟩) zr).trans fr3
  replace zr := Nat.lt_of_lt_of_le zr hb.size
  replace HB := hide (bl_trans HB.out hb)
  clear hb
  go_wp2_with fail
  refine (fromI 1 _ (by decide) (by decide)).mono ?_
  rintro e w6 ⟨v6, rfl, ⟨a6, c6, rfl, ho6⟩, hb⟩
  have O6 := hide ho6
  clear ho6
  replace kr0 := (hb.cell (p := ⟨w.heap.size, 0, none⟩) zr).trans kr0
  replace fr0 := (hb.frozen (p := ⟨w.heap.size, 0, none⟩) zr).trans fr0
  replace kr1 := (hb.cell (p := ⟨w.heap.size, 1, none⟩) zr).trans kr1
  replace fr1 := (hb.frozen (p := ⟨w.heap.size, 1, none⟩) zr).trans fr1
  replace kr2 := (hb.cell (p := ⟨w.heap.size, 2, none⟩) zr).trans kr2
  replace fr2 := (hb.frozen (p := ⟨w.heap.size, 2, none⟩) zr).trans fr2
  replace kr3 := (hb.cell (p := ⟨w.heap.size, 3, none⟩) zr).trans kr3
  replace fr3 := (hb.frozen (p := ⟨w.heap.size, 3, none⟩) zr).trans fr3
  replace zr := Nat.lt_of_lt_of_le zr hb.size
  replace S5 := hide (S5.out.below hb)
  replace HB := hide (bl_trans HB.out hb)
  clear hb
  have zr6 := zr
  have kn0 : ((w6.alloc (Obj.cells #[Value.bool (sgn x), Value.slice a5 (lms x).length c5] 24)).alloc (Obj.cells #[Value.bool (sgn 1), Value.slice a6 (lms 1).length c6] 24)).cell? ⟨w6.heap.size, 0, none⟩ = some (Value.bool (sgn x)) := by go_simp
  have kn1 : ((w6.alloc (Obj.cells #[Value.bool (sgn x), Value.slice a5 (lms x).length c5] 24)).alloc (Obj.cells #[Value.bool (sgn 1), Value.slice a6 (lms 1).length c6] 24)).cell? ⟨w6.heap.size, 1, none⟩ = some (Value.slice a5 (lms x).length c5) := by go_simp
  have fn0 : ((w6.alloc (Obj.cells #[Value.bool (sgn x), Value.slice a5 (lms x).length c5] 24)).alloc (Obj.cells #[Value.bool (sgn 1), Value.slice a6 (lms 1).length c6] 24)).frozen? ⟨w6.heap.size, 0, none⟩ = false := by go_simp
  have fn1 : ((w6.alloc (Obj.cells #[Value.bool (sgn x), Value.slice a5 (lms x).length c5] 24)).alloc (Obj.cells #[Value.bool (sgn 1), Value.slice a6 (lms 1).length c6] 24)).frozen? ⟨w6.heap.size, 1, none⟩ = false := by go_simp
  have zn : w6.heap.size < ((w6.alloc (Obj.cells #[Value.bool (sgn x), Value.slice a5 (lms x).length c5] 24)).alloc (Obj.cells #[Value.bool (sgn 1), Value.slice a6 (lms 1).length c6] 24)).heap.size := by simp only [World.size_alloc]; omega
  have kd0 : ((w6.alloc (Obj.cells #[Value.bool (sgn x), Value.slice a5 (lms x).length c5] 24)).alloc (Obj.cells #[Value.bool (sgn 1), Value.slice a6 (lms 1).length c6] 24)).cell? ⟨w6.heap.size + 1, 0, none⟩ = some (Value.bool (sgn 1)) := by go_simp
  have kd1 : ((w6.alloc (Obj.cells #[Value.bool (sgn x), Value.slice a5 (lms x).length c5] 24)).alloc (Obj.cells #[Value.bool (sgn 1), Value.slice a6 (lms 1).length c6] 24)).cell? ⟨w6.heap.size + 1, 1, none⟩ = some (Value.slice a6 (lms 1).length c6) := by go_simp
  have fd0 : ((w6.alloc (Obj.cells #[Value.bool (sgn x), Value.slice a5 (lms x).length c5] 24)).alloc (Obj.cells #[Value.bool (sgn 1), Value.slice a6 (lms 1).length c6] 24)).frozen? ⟨w6.heap.size + 1, 0, none⟩ = false := by go_simp
  have fd1 : ((w6.alloc (Obj.cells #[Value.bool (sgn x), Value.slice a5 (lms x).length c5] 24)).alloc (Obj.cells #[Value.bool (sgn 1), Value.slice a6 (lms 1).length c6] 24)).frozen? ⟨w6.heap.size + 1, 1, none⟩ = false := by go_simp
  have zd : w6.heap.size + 1 < ((w6.alloc (Obj.cells #[Value.bool (sgn x), Value.slice a5 (lms x).length c5] 24)).alloc (Obj.cells #[Value.bool (sgn 1), Value.slice a6 (lms 1).length c6] 24)).heap.size := by simp only [World.size_alloc]; omega
  have hbn := bl_alloc (bl_alloc (bl_refl w6) (Obj.cells #[Value.bool (sgn x), Value.slice a5 (lms x).length c5] 24)) (Obj.cells #[Value.bool (sgn 1), Value.slice a6 (lms 1).length c6] 24)
  have HW7 := hide hbn
  replace kr0 := (hbn.cell (p := ⟨w.heap.size, 0, none⟩) zr).trans kr0
  replace fr0 := (hbn.frozen (p := ⟨w.heap.size, 0, none⟩) zr).trans fr0
  replace kr1 := (hbn.cell (p := ⟨w.heap.size, 1, none⟩) zr).trans kr1
  replace fr1 := (hbn.frozen (p := ⟨w.heap.size, 1, none⟩) zr).trans fr1
  replace kr2 := (hbn.cell (p := ⟨w.heap.size, 2, none⟩) zr).trans kr2
  replace fr2 := (hbn.frozen (p := ⟨w.heap.size, 2, none⟩) zr).trans fr2
  replace kr3 := (hbn.cell (p := ⟨w.heap.size, 3, none⟩) zr).trans kr3
  replace fr3 := (hbn.frozen (p := ⟨w.heap.size, 3, none⟩) zr).trans fr3
  replace zr := Nat.lt_of_lt_of_le zr hbn.size
  replace S5 := hide (S5.out.below hbn)
  replace HB := hide (bl_trans HB.out hbn)
  clear hbn
  go_upto_region 9 with fail
  generalize ((w6.alloc (Obj.cells #[Value.bool (sgn x), Value.slice a5 (lms x).length c5] 24)).alloc (Obj.cells #[Value.bool (sgn 1), Value.slice a6 (lms 1).length c6] 24)) = w7 at *
  go_region_with
    (first
      | (go_at_call 70; refine (fromI 10 _ (by decide) (by decide)).mono ?_; rintro e wA ⟨vA, rfl, ⟨aA, cA, rfl, hoA⟩, hbAr⟩; have hbA : Below w7.heap.size w7 wA := (bl_refl w7).drew.trans hbAr; have yA := hbA.size; have kn0 := (hbAr.cell (p := ⟨w6.heap.size, 0, none⟩) (by dsimp only; rw [World.size_drew]; omega)).trans kn0; have kn1 := (hbAr.cell (p := ⟨w6.heap.size, 1, none⟩) (by dsimp only; rw [World.size_drew]; omega)).trans kn1)
      | (go_at_call 71; refine (pow0I (.agg #[.bool (sgn 10), .slice aA (lms 10).length cA]) 10 _ ⟨aA, cA, rfl, hoA.seg⟩).mono ?_; rintro e wB ⟨vB, rfl, ⟨aB, cB, rfl, hoB⟩, hbBr⟩; have hbB : Below w7.heap.size w7 wB := bl_trans hbA hbBr; have yB := hbBr.size; have kn0 := (hbBr.cell (p := ⟨w6.heap.size, 0, none⟩) (by dsimp only; omega)).trans kn0; have kn1 := (hbBr.cell (p := ⟨w6.heap.size, 1, none⟩) (by dsimp only; omega)).trans kn1)
      | (go_at_call 72; refine (prodXY (.agg #[.bool (sgn x), .slice a5 (lms x).length c5]) (.agg #[.bool (sgn 1), .slice aB (lms 1).length cB]) x 1 _ ⟨a5, c5, rfl, S5.out.below hbB⟩ ⟨aB, cB, rfl, hoB.seg⟩ (by omega) (by omega)).mono ?_; rw [Int.mul_one]; rintro e wC ⟨vC, rfl, ⟨aC, cC, rfl, hoC⟩, hbCr⟩; have hbC : Below w7.heap.size w7 wC := bl_trans hbB hbCr; have yC := hbCr.size; have kn0 := (hbCr.cell (p := ⟨w6.heap.size, 0, none⟩) (by dsimp only; omega)).trans kn0; have kn1 := (hbCr.cell (p := ⟨w6.heap.size, 1, none⟩) (by dsimp only; omega)).trans kn1; have fn0 := (hbC.frozen (p := ⟨w6.heap.size, 0, none⟩) zn).trans fn0; have fn1 := (hbC.frozen (p := ⟨w6.heap.size, 1, none⟩) zn).trans fn1))
  all_goals
    have m0 : ((wC.setCell ⟨w6.heap.size, 0, none⟩ (Value.bool (sgn x))).setCell ⟨w6.heap.size, 1, none⟩ (Value.slice aC (lms x).length cC)).cell? ⟨w6.heap.size, 0, none⟩ = some (Value.bool (sgn x)) := by go_simp
    have m1 : ((wC.setCell ⟨w6.heap.size, 0, none⟩ (Value.bool (sgn x))).setCell ⟨w6.heap.size, 1, none⟩ (Value.slice aC (lms x).length cC)).cell? ⟨w6.heap.size, 1, none⟩ = some (Value.slice aC (lms x).length cC) := by go_simp
    replace kr0 := (cel2 (w1 := wC) (N := w6.heap.size) (p := ⟨w.heap.size, 0, none⟩) (by dsimp only; omega) (Value.bool (sgn x)) (Value.slice aC (lms x).length cC)).trans ((hbC.cell (p := ⟨w.heap.size, 0, none⟩) zr).trans kr0)
    replace fr0 := (fro2 (w1 := wC) (N := w6.heap.size) (p := ⟨w.heap.size, 0, none⟩) (by dsimp only; omega) (Value.bool (sgn x)) (Value.slice aC (lms x).length cC)).trans ((hbC.frozen (p := ⟨w.heap.size, 0, none⟩) zr).trans fr0)
    replace kr1 := (cel2 (w1 := wC) (N := w6.heap.size) (p := ⟨w.heap.size, 1, none⟩) (by dsimp only; omega) (Value.bool (sgn x)) (Value.slice aC (lms x).length cC)).trans ((hbC.cell (p := ⟨w.heap.size, 1, none⟩) zr).trans kr1)
    replace fr1 := (fro2 (w1 := wC) (N := w6.heap.size) (p := ⟨w.heap.size, 1, none⟩) (by dsimp only; omega) (Value.bool (sgn x)) (Value.slice aC (lms x).length cC)).trans ((hbC.frozen (p := ⟨w.heap.size, 1, none⟩) zr).trans fr1)
    replace kr2 := (cel2 (w1 := wC) (N := w6.heap.size) (p := ⟨w.heap.size, 2, none⟩) (by dsimp only; omega) (Value.bool (sgn x)) (Value.slice aC (lms x).length cC)).trans ((hbC.cell (p := ⟨w.heap.size, 2, none⟩) zr).trans kr2)
    replace fr2 := (fro2 (w1 := wC) (N := w6.heap.size) (p := ⟨w.heap.size, 2, none⟩) (by dsimp only; omega) (Value.bool (sgn x)) (Value.slice aC (lms x).length cC)).trans ((hbC.frozen (p := ⟨w.heap.size, 2, none⟩) zr).trans fr2)
    replace kr3 := (cel2 (w1 := wC) (N := w6.heap.size) (p := ⟨w.heap.size, 3, none⟩) (by dsimp only; omega) (Value.bool (sgn x)) (Value.slice aC (lms x).length cC)).trans ((hbC.cell (p := ⟨w.heap.size, 3, none⟩) zr).trans kr3)
    replace fr3 := (fro2 (w1 := wC) (N := w6.heap.size) (p := ⟨w.heap.size, 3, none⟩) (by dsimp only; omega) (Value.bool (sgn x)) (Value.slice aC (lms x).length cC)).trans ((hbC.frozen (p := ⟨w.heap.size, 3, none⟩) zr).trans fr3)
    replace kd0 := (cel2 (w1 := wC) (N := w6.heap.size) (p := ⟨w6.heap.size + 1, 0, none⟩) (by dsimp only; omega) (Value.bool (sgn x)) (Value.slice aC (lms x).length cC)).trans ((hbC.cell (p := ⟨w6.heap.size + 1, 0, none⟩) zd).trans kd0)
    replace kd1 := (cel2 (w1 := wC) (N := w6.heap.size) (p := ⟨w6.heap.size + 1, 1, none⟩) (by dsimp only; omega) (Value.bool (sgn x)) (Value.slice aC (lms x).length cC)).trans ((hbC.cell (p := ⟨w6.heap.size + 1, 1, none⟩) zd).trans kd1)
    have SN := hide (seg_on hoC (N := w6.heap.size) (by omega) (Value.bool (sgn x)) (Value.slice aC (lms x).length cC))
    have SD := hide (seg_off O6.out (bl_trans HW7.out hbC) (Nat.le_refl _) (Value.bool (sgn x)) (Value.slice aC (lms x).length cC))
    replace HB := hide (((bl_trans HB.out hbC).setCell (p := ⟨w6.heap.size, 0, none⟩) (by dsimp only; omega) (Value.bool (sgn x))).setCell (p := ⟨w6.heap.size, 1, none⟩) (by dsimp only; omega) (Value.slice aC (lms x).length cC))
    replace zr : w.heap.size < ((wC.setCell ⟨w6.heap.size, 0, none⟩ (Value.bool (sgn x))).setCell ⟨w6.heap.size, 1, none⟩ (Value.slice aC (lms x).length cC)).heap.size := by (simp only [World.size_setCell]; omega)
    clear kn0 kn1 fn0 fn1 fd0 fd1 zd zn S5 O6 HW7 hoA hoB hoC hbA hbAr hbB hbBr hbC hbCr
    go_wp2_with fail
    generalize ((wC.setCell ⟨w6.heap.size, 0, none⟩ (Value.bool (sgn x))).setCell ⟨w6.heap.size, 1, none⟩ (Value.slice aC (lms x).length cC)) = w8 at *
    refine (shortI' x 1 aC cC a6 c6 _ SN.out SD.out (by decide) (by omega) (by omega)).mono ?_
    rw [HSG.out, Int.ediv_one, Int.ediv_one]
    rintro e w9 ⟨b1, e1, b2, e2, rfl, ho1, ho2, hap, hb⟩
    have zr8 := zr
    have HO1 := hide ho1
    have HO2 := hide ho2
    clear ho1 ho2 hap m0 m1 kd0 kd1 SN SD
    replace kr0 := (hb.cell (p := ⟨w.heap.size, 0, none⟩) zr).trans kr0
    replace fr0 := (hb.frozen (p := ⟨w.heap.size, 0, none⟩) zr).trans fr0
    replace kr1 := (hb.cell (p := ⟨w.heap.size, 1, none⟩) zr).trans kr1
    replace fr1 := (hb.frozen (p := ⟨w.heap.size, 1, none⟩) zr).trans fr1
    replace kr2 := (hb.cell (p := ⟨w.heap.size, 2, none⟩) zr).trans kr2
    replace fr2 := (hb.frozen (p := ⟨w.heap.size, 2, none⟩) zr).trans fr2
    replace kr3 := (hb.cell (p := ⟨w.heap.size, 3, none⟩) zr).trans kr3
    replace fr3 := (hb.frozen (p := ⟨w.heap.size, 3, none⟩) zr).trans fr3
    replace zr := Nat.lt_of_lt_of_le zr hb.size
    replace HB := hide (bl_trans HB.out hb)
    clear hb
    go_wp2_with fail
    refine (fitI x 1 b1 e1 b2 e2 _ HO1.out.seg HO2.out.seg).mono ?_
    rw [(ft_ok HFX.out HFY.out b1 e1 b2 e2).1, (ft_ok HFX.out HFY.out b1 e1 b2 e2).2]
    rintro e w10 ⟨rfl, hb⟩
    replace kr0 := (hb.cell (p := ⟨w.heap.size, 0, none⟩) zr).trans kr0
    replace fr0 := (hb.frozen (p := ⟨w.heap.size, 0, none⟩) zr).trans fr0
    replace kr1 := (hb.cell (p := ⟨w.heap.size, 1, none⟩) zr).trans kr1
    replace fr1 := (hb.frozen (p := ⟨w.heap.size, 1, none⟩) zr).trans fr1
    replace kr2 := (hb.cell (p := ⟨w.heap.size, 2, none⟩) zr).trans kr2
    replace fr2 := (hb.frozen (p := ⟨w.heap.size, 2, none⟩) zr).trans fr2
    replace kr3 := (hb.cell (p := ⟨w.heap.size, 3, none⟩) zr).trans kr3
    replace fr3 := (hb.frozen (p := ⟨w.heap.size, 3, none⟩) zr).trans fr3
    replace zr := Nat.lt_of_lt_of_le zr hb.size
    replace HO1 := hide (HO1.out.below hb)
    replace HO2 := hide (HO2.out.below hb)
    replace HB := hide (bl_trans HB.out hb)
    clear hb
    go_wp2
    refine bodyPost_ret (v := .tuple #[.agg #[.bool (sgn x), .slice b1 (lms x).length e1, .bool (sgn 1), .slice b2 (lms 1).length e2], .bool true]) (by simp [results, Tryz.results30, go_sem, *]) rfl ?_
    exact ⟨b1, e1, b2, e2, rfl, own_four' HO1.out (by omega) (by omega) _ _ _ _, own_four' HO2.out (by omega) (by omega) _ _ _ _, set_four (Nat.le_refl _) HB.out _ _ _ _⟩
end Go.Proofs.YtpmgpdlminacaaaGreatDoor
