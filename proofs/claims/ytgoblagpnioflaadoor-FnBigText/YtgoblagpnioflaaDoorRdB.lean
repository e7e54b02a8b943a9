/- The walks of strings.CutPrefix and of the program's ReadBig: the number of a numeral, in new memory, where it is one. -/
import Derived.Test.YtgoblagpnioflaaDoorRdI
import Derived.Test.YtgoblagpnioflaaDoorFit
import Derived.Test.YtgoblagpnioflaaDoorTxC
import Derived.Lib.Strings
import Derived.Lib.Slices
import Derived.Lib.Walk
namespace Go.Proofs.YtgoblagpnioflaaDoor
open Go.RowKit
set_option linter.unusedVariables false

set_option maxHeartbeats 1000000 in
theorem cutPre (s p : ByteArray) (w : World) :
    Calls Tryd.prog 14 #[.string s, .string p] w fun e w' => e = .returned (.tuple #[.string ⟨(Lib.trimPrefix s.data.toList p.data.toList).toArray⟩, .bool (Lib.hasPrefix s.data.toList p.data.toList)]) ∧ w' = w := by
  go_enter Tryd.func14, Tryd.ntmps14
  go_wp2
  · have h2 : (!((s.extract 0 p.size).toList == p.toList)) = true := by assumption
    have h3 : (decide (p.size ≤ s.size) && ((s.extract 0 p.size).toList == p.toList)) = false := by
      have : ((s.extract 0 p.size).toList == p.toList) = false := by simpa using h2
      rw [this]
      simp
    go_ret2
    refine ⟨?_, rfl⟩
    rw [Lib.trimPrefix_miss s p h3, ← Lib.hasPrefix_raw, h3]
    rfl
  · have h1 : p.size ≤ s.size := by assumption
    have h2 : (!((s.extract 0 p.size).toList == p.toList)) = false := by assumption
    have h2' : ((s.extract 0 p.size).toList == p.toList) = true := by simpa using h2
    go_ret2
    refine ⟨?_, rfl⟩
    rw [Lib.trimPrefix_hit s p h1 h2', ← Lib.hasPrefix_raw, h2', decide_eq_true h1]
    rfl
  · have h1 : ¬ p.size ≤ s.size := by assumption
    have h3 : (decide (p.size ≤ s.size) && ((s.extract 0 p.size).toList == p.toList)) = false := by simp [h1]
    go_ret2
    refine ⟨?_, rfl⟩
    rw [Lib.trimPrefix_miss s p h3, ← Lib.hasPrefix_raw, h3]
    rfl

/-- what stands behind a minus, or all; whether there is one -/
def rdNeg (s : ByteArray) : Bool := Lib.hasPrefix s.data.toList [45]
def rdD (s : ByteArray) : ByteArray := ⟨(Lib.trimPrefix s.data.toList [45]).toArray⟩
/-- the number that is read -/
def rdV (s : ByteArray) : Int := mk (rdNeg s) (valN (rdD s).data.toList)
/-- a nought stands ahead -/
def rdLead (s : ByteArray) : Bool := decide ((rdD s).data.toList.head? = some 48) && !(s.data.toList == [48])
def rdOk (s : ByteArray) : Bool := decide (s.size ≤ 400) && (digOk (rdD s) && !rdLead s)
def rdZ (s : ByteArray) : Int := if rdOk s then fitZ (rdV s) else 0
def rdF (s : ByteArray) : Bool := rdOk s && fits (rdV s)
theorem rd_no {s : ByteArray} (h : rdOk s = false) : rdZ s = 0 ∧ rdF s = false := by unfold rdZ rdF; rw [h]; exact ⟨rfl, rfl⟩
theorem rd_yes {s : ByteArray} (h : rdOk s = true) : rdZ s = fitZ (rdV s) ∧ rdF s = fits (rdV s) := by unfold rdZ rdF; rw [h]; exact ⟨rfl, Bool.true_and _⟩
theorem rdD_size (s : ByteArray) : (rdD s).size ≤ s.size := by
  have : (rdD s).size = (Lib.trimPrefix s.data.toList [45]).length := by rw [← bsize]; rfl
  rw [this, ← bsize s]
  unfold Lib.trimPrefix; split
  · rw [List.length_drop]; omega
  · exact Nat.le_refl _

theorem head_dec (D : ByteArray) (h : 0 < D.size) : decide (D.data.toList.head? = some 48) = decide (D[0].toNat = 48) := by
  have hl : 0 < D.data.toList.length := by rw [bsize]; exact h
  have e : D.data.toList.head? = some D[0] := by
    rw [List.head?_eq_getElem?, List.getElem?_eq_getElem hl]; rfl
  rw [e, Bool.eq_iff_iff]
  simp only [Option.some.injEq, decide_eq_true_eq]
  constructor
  · intro h; rw [h]; rfl
  · intro h; exact UInt8.toNat_inj.1 h

set_option maxHeartbeats 2000000 in
set_option maxRecDepth 20000 in
theorem readBigI (s : ByteArray) (w : World) (hs : s.size ≤ 140737488355328) :
    Calls Tryd.prog 8 #[.string s] w fun e w' => ∃ v, e = .returned (.tuple #[v, .bool (rdF s)]) ∧ New w' w.heap.size v (rdZ s) ∧ Below w.heap.size w w' := by
  have k0 : (w.alloc (Obj.cells #[Value.bool false, Value.slice none 0 0] 26)).cell? ⟨w.heap.size, 0, none⟩ = some (Value.bool false) := by go_simp
  have k1 : (w.alloc (Obj.cells #[Value.bool false, Value.slice none 0 0] 26)).cell? ⟨w.heap.size, 1, none⟩ = some (Value.slice none 0 0) := by go_simp
  have f0 : (w.alloc (Obj.cells #[Value.bool false, Value.slice none 0 0] 26)).frozen? ⟨w.heap.size, 0, none⟩ = false := by go_simp
  have f1 : (w.alloc (Obj.cells #[Value.bool false, Value.slice none 0 0] 26)).frozen? ⟨w.heap.size, 1, none⟩ = false := by go_simp
  have z1 : w.heap.size < (w.alloc (Obj.cells #[Value.bool false, Value.slice none 0 0] 26)).heap.size := by simp only [World.size_alloc]; omega
  have HB := hide (bl_alloc (bl_refl w) (Obj.cells #[Value.bool false, Value.slice none 0 0] 26))
  by_cases h4 : s.size ≤ 400
  · have h4' : ¬ (400 : Int) < (s.size : Int) := by omega
    go_enter Tryd.func8, Tryd.ntmps8
    go_wp2_with fail
    generalize w.alloc (Obj.cells #[Value.bool false, Value.slice none 0 0] 26) = W0 at *
    refine (cutPre s _ _).mono ?_
    rintro e w1 ⟨rfl, hw⟩
    subst w1
    have hds := rdD_size s
    obtain ⟨D, hD⟩ : ∃ D : ByteArray, D = rdD s := ⟨_, rfl⟩
    have hDr := hD
    unfold rdD at hD
    obtain ⟨ng, hng⟩ : ∃ ng : Bool, ng = rdNeg s := ⟨_, rfl⟩
    have hngr := hng
    unfold rdNeg at hng
    rw [show ({ data := #[45] } : ByteArray).data.toList = [45] from rfl, ← hD, ← hng]
    rw [← hDr] at hds
    have HDR := hide hDr
    have HNG := hide hngr
    clear hD hng hDr hngr
    go_wp2_with fail
    refine (allDigitsI D _ (by omega)).mono ?_
    rintro e w1 ⟨rfl, hb1⟩
    replace k0 := (hb1.cell (p := ⟨w.heap.size, 0, none⟩) z1).trans k0
    replace k1 := (hb1.cell (p := ⟨w.heap.size, 1, none⟩) z1).trans k1
    replace f0 := (hb1.frozen (p := ⟨w.heap.size, 0, none⟩) z1).trans f0
    replace f1 := (hb1.frozen (p := ⟨w.heap.size, 1, none⟩) z1).trans f1
    replace z1 := Nat.lt_of_lt_of_le z1 hb1.size
    replace HB := hide (bl_trans HB.out hb1)
    clear hb1
    cases hdg : digOk D with
    | false =>
      have hno := rd_no (s := s) (by unfold rdOk; rw [← HDR.out, hdg]; simp)
      have HNO := hide hno
      clear hno
      go_wp2
      refine bodyPost_ret (v := .tuple #[.agg #[.bool false, .slice none 0 0], .bool false]) (by simp [results, Tryd.results8, go_sem, *]) rfl ?_
      exact ⟨_, by rw [HNO.out.2], by rw [HNO.out.1]; exact new_zero _ _, (HB.out.setCell (p := ⟨w.heap.size, 0, none⟩) (Nat.le_refl _) _).setCell (p := ⟨w.heap.size, 1, none⟩) (Nat.le_refl _) _⟩
    | true =>
      obtain ⟨hda, hdp⟩ : digAll D.data.toList = true ∧ D.size ≠ 0 := by
        unfold digOk at hdg
        rw [Bool.and_eq_true, decide_eq_true_eq] at hdg; exact hdg
      have hpos : 0 < D.size := by omega
      have hpos' : (0 : Int) < (D.size : Int) := by omega
      have HDA := hide hda
      clear hda hdp hdg
      have HLD : Hid (rdLead s = (decide (D[0].toNat = 48) && !(s.toList == [48]))) := hide (by
        unfold rdLead; rw [← HDR.out, head_dec D hpos, ByteArray.toList_eq])
      have HOK : Hid (rdOk s = !rdLead s) := hide (by
        unfold rdOk; rw [← HDR.out, decide_eq_true h4, Bool.true_and]
        have : digOk D = true := by unfold digOk; rw [HDA.out, decide_eq_true (by omega)]; rfl
        rw [this, Bool.true_and])
      by_cases hrej : D[0].toNat = 48 ∧ (s.toList == [48]) = false
      · obtain ⟨hr1, hr2⟩ := hrej
        have hno := rd_no (s := s) (by rw [HOK.out, HLD.out, decide_eq_true hr1, hr2]; rfl)
        have HNO := hide hno
        have h48 : (D[0].toNat : Int) = 48 := by omega
        clear hno hr1 HLD
        go_wp2
        refine bodyPost_ret (v := .tuple #[.agg #[.bool false, .slice none 0 0], .bool false]) (by simp [results, Tryd.results8, go_sem, *]) rfl ?_
        exact ⟨_, by rw [HNO.out.2], by rw [HNO.out.1]; exact new_zero _ _, (HB.out.setCell (p := ⟨w.heap.size, 0, none⟩) (Nat.le_refl _) _).setCell (p := ⟨w.heap.size, 1, none⟩) (Nat.le_refl _) _⟩
      · have HY := hide (rd_yes (s := s) (by
          rw [HOK.out, HLD.out]
          by_cases h : D[0].toNat = 48
          · have : (s.toList == [48]) = true := by
              cases hq : (s.toList == [48]) with
              | true => rfl
              | false => exact absurd ⟨h, hq⟩ hrej
            rw [this]; simp
          · rw [decide_eq_false h]; rfl))
        have hgo : (¬ (D[0].toNat : Int) = 48) ∨ ((D[0].toNat : Int) = 48 ∧ (s.toList == [48]) = true) := by
          by_cases h : D[0].toNat = 48
          · refine .inr ⟨by omega, ?_⟩
            cases hq : (s.toList == [48]) with
            | true => rfl
            | false => exact absurd ⟨h, hq⟩ hrej
          · exact .inl (by omega)
        have HV : Hid (rdV s = mk ng (valN D.data.toList)) := hide (by unfold rdV; rw [← HDR.out, ← HNG.out])
        clear hrej HLD HOK HDR HNG
        rcases hgo with hg | ⟨hg, hg2⟩
        all_goals
          go_wp2_with fail
          refine (digitLimbsI D _ HDA.out (by omega)).mono ?_
          rintro e w2 ⟨a2, n2, c2, xs, rfl, ho2, hn2, hv2, hb2⟩
          have hs1 := z1
          replace k0 := (hb2.cell (p := ⟨w.heap.size, 0, none⟩) z1).trans k0
          replace k1 := (hb2.cell (p := ⟨w.heap.size, 1, none⟩) z1).trans k1
          replace f0 := (hb2.frozen (p := ⟨w.heap.size, 0, none⟩) z1).trans f0
          replace f1 := (hb2.frozen (p := ⟨w.heap.size, 1, none⟩) z1).trans f1
          replace z1 := Nat.lt_of_lt_of_le z1 hb2.size
          have hbs2 := hb2.size
          replace HB := hide (bl_trans HB.out hb2)
          have HO2 := hide ho2
          have HV2 := hide hv2
          clear hb2 ho2 hv2
          go_wp2_with fail
          refine (bigOfI ng a2 n2 c2 xs _ _ HO2.out hbs2).mono ?_
          rintro e w3 ⟨v3, rfl, hn3, hb3⟩
          rw [HV2.out, ← HV.out] at hn3
          replace k0 := (hb3.cell (p := ⟨w.heap.size, 0, none⟩) z1).trans k0
          replace k1 := (hb3.cell (p := ⟨w.heap.size, 1, none⟩) z1).trans k1
          replace f0 := (hb3.frozen (p := ⟨w.heap.size, 0, none⟩) z1).trans f0
          replace f1 := (hb3.frozen (p := ⟨w.heap.size, 1, none⟩) z1).trans f1
          replace z1 := Nat.lt_of_lt_of_le z1 hb3.size
          have hbs3 := hb3.size
          replace HB := hide (bl_trans HB.out hb3)
          clear hb3 HO2
          go_wp2_with fail
          refine (fitI v3 _ _ _ hn3 (by omega)).mono ?_
          rintro e w4 ⟨v4, rfl, hn4, hb4⟩
          rw [← HY.out.1] at hn4
          rw [← HY.out.2]
          replace k0 := (hb4.cell (p := ⟨w.heap.size, 0, none⟩) z1).trans k0
          replace k1 := (hb4.cell (p := ⟨w.heap.size, 1, none⟩) z1).trans k1
          replace f0 := (hb4.frozen (p := ⟨w.heap.size, 0, none⟩) z1).trans f0
          replace f1 := (hb4.frozen (p := ⟨w.heap.size, 1, none⟩) z1).trans f1
          have HF := hide (fun p r => fin_box (N := w.heap.size) (x := p) (y := r) hn4 (by omega) (Nat.le_refl _) (bl_trans HB.out hb4))
          obtain ⟨a4, c4, rfl, ho4⟩ := hn4
          clear ho4 hb4 HY
          go_wp2
          refine bodyPost_ret (v := .tuple #[.agg #[.bool (sgn (rdZ s)), .slice a4 (lms (rdZ s)).length c4], .bool (rdF s)]) (by simp [results, Tryd.results8, go_sem, *]) rfl ?_
          exact ⟨_, rfl, (HF.out _ _).1, (HF.out _ _).2⟩
  · have h4' : (400 : Int) < (s.size : Int) := by omega
    have HNO := hide (rd_no (s := s) (by unfold rdOk; rw [decide_eq_false h4]; rfl))
    go_enter Tryd.func8, Tryd.ntmps8
    go_wp2
    refine bodyPost_ret (v := .tuple #[.agg #[.bool false, .slice none 0 0], .bool false]) (by simp [results, Tryd.results8, go_sem, *]) rfl ?_
    exact ⟨_, by rw [HNO.out.2], by rw [HNO.out.1]; exact new_zero _ _, HB.out⟩
end Go.Proofs.YtgoblagpnioflaaDoor
