/- My texts RrC, RrG, RrD, RrE, RrF, RrH, RrJ, in this order. -/
import Derived.Test.YtkemplmhemnpbaaGreatDoorRrI
import Derived.Test.YtkemplmhemnpbaaGreatDoorPk21
import Derived.Test.YtkemplmhemnpbaaGreatDoorAtoR
import Derived.Test.YtkemplmhemnpbaaGreatDoorPk14
import Derived.Test.YtkemplmhemnpbaaGreatDoorRdC
/- The walk of cutPlaces of the program at any text: what stands ahead of an e, and the places behind it. -/
namespace Go.Proofs.YtkemplmhemnpbaaGreatDoor
open Go.RowKit
set_option linter.unusedVariables false

theorem below_bytes (w : World) (e : TypeId) (t : ByteArray) : Below w.heap.size w (Lib.bytesWorld w e t) :=
  ⟨rfl, rfl, rfl, by rw [Lib.bytesWorld_size]; omega, fun i hi => Lib.bytesWorld_at_old w e t i hi⟩
theorem dec_from : ∀ (l : List UInt8) (acc : Nat), digAll l = true → Lib.decFrom acc l = some (l.foldl (fun a c => 10 * a + (c.toNat - 48)) acc)
  | [], acc, _ => rfl
  | c :: t, acc, h => by
    simp only [digAll, List.all_cons, Bool.and_eq_true] at h
    have hb := dig_bounds h.1
    have hv : Lib.digitVal c = some (c.toNat - 48) := by unfold Lib.digitVal; rw [if_pos hb]
    unfold Lib.decFrom
    rw [hv]
    show Lib.decFrom (acc * 10 + (c.toNat - 48)) t = _
    rw [dec_from t _ h.2, List.foldl_cons, Nat.mul_comm acc 10]
theorem atoi_dig {l : List UInt8} (h : digAll l = true) (hn : l ≠ []) : Lib.atoi l = some (valN l : Int) := by
  cases l with
  | nil => exact absurd rfl hn
  | cons c t =>
    have h' := h
    simp only [digAll, List.all_cons, Bool.and_eq_true] at h'
    have hb := dig_bounds h'.1
    have h45 : (c == 45) = false := by rw [beq_eq_false_iff_ne]; intro e; rw [e] at hb; exact absurd hb.1 (by decide)
    have h43 : (c == 43) = false := by rw [beq_eq_false_iff_ne]; intro e; rw [e] at hb; exact absurd hb.1 (by decide)
    have : Lib.decNat (c :: t) = some (valN (c :: t)) := by unfold Lib.decNat; rw [dec_from _ 0 h]; rfl
    simp only [Lib.atoi, h45, h43, this, Bool.false_eq_true, if_false, Option.map_some]
theorem digOk_L (l : List UInt8) : digOk ⟨l.toArray⟩ = digL l := by
  unfold digOk digL
  rw [show (⟨l.toArray⟩ : ByteArray).data.toList = l from rfl]
  congr 1
  have hs : (⟨l.toArray⟩ : ByteArray).size = l.length := by rw [← bsize]
  rw [hs]
  cases l <;> simp
/-- what cutPlaces tells -/
def cpS (l : List UInt8) : List UInt8 × Int × Bool :=
  if (Lib.cut l [101]).2.2 = true then (match expV (Lib.cut l [101]).2.1 with | some k => ((Lib.cut l [101]).1, k, true) | none => ([], 0, false)) else (l, 0, true)
theorem cut_len (l : List UInt8) (c : UInt8) : (Lib.cut l [c]).1.length ≤ l.length ∧ (Lib.cut l [c]).2.1.length ≤ l.length := by
  by_cases h : c ∈ l
  · obtain ⟨a, b, rfl, ha⟩ := first h
    rw [cut_mid ha]; simp; omega
  · rw [cut_none h]; simp
theorem trim_len (l : List UInt8) : (Lib.trimPrefix l [45]).length ≤ l.length := by
  unfold Lib.trimPrefix; split
  · rw [List.length_drop]; omega
  · exact Nat.le_refl _
theorem val3 {l : List UInt8} (h : digAll l = true) (hl : l.length ≤ 3) : valN l < 1000 := by
  have h1 := valN_lt l h
  have h2 : (10 : Nat) ^ l.length ≤ 10 ^ 3 := Nat.pow_le_pow_right (by decide) hl
  have h3 : (10 : Nat) ^ 3 = 1000 := by decide
  omega

set_option maxHeartbeats 2000000 in
set_option maxRecDepth 20000 in
theorem cutPlacesG (s : ByteArray) (w : World) (hs : s.size ≤ 1000) (hm : Mx w) :
    Calls Tryz.prog 83 #[.string s] w fun e w' => e = .returned (.tuple #[.string ⟨(cpS s.data.toList).1.toArray⟩, .int .i64 (cpS s.data.toList).2.1, .bool (cpS s.data.toList).2.2]) ∧ Below w.heap.size w w' := by
  have hcl := cut_len s.data.toList 101
  rw [bsize] at hcl
  cases hf : (Lib.cut s.data.toList [101]).2.2 with
  | false =>
    have HP : Hid (cpS s.data.toList = (s.data.toList, 0, true)) := hide (by unfold cpS; rw [hf]; rfl)
    have HM := hide hm
    have HC1 : Hid ((Lib.cut s.data.toList [101]).1 = s.data.toList) := hide (by
      by_cases h : (101 : UInt8) ∈ s.data.toList
      · obtain ⟨a, b, e, ha⟩ := first h
        rw [e, cut_mid ha] at hf; cases hf
      · rw [cut_none h])
    rw [HP.out, back_bytes]
    clear hm
    go_enter Tryz.func83, Tryz.ntmps83
    go_wp2_with fail
    refine (cutI s 101 _ hs HM.out).mono ?_
    rw [hf, HC1.out, back_bytes]
    rintro e w1 ⟨rfl, hb⟩
    have HB := hide hb
    clear hb
    go_wp2
    refine bodyPost_ret (v := .tuple #[.string s, .int .i64 0, .bool true]) (by simp [results, Tryz.results83, go_sem, *]) rfl ?_
    exact ⟨rfl, HB.out⟩
  | true =>
    obtain ⟨A, hA⟩ : ∃ A, (Lib.cut s.data.toList [101]).1 = A := ⟨_, rfl⟩
    obtain ⟨B, hB⟩ : ∃ B, (Lib.cut s.data.toList [101]).2.1 = B := ⟨_, rfl⟩
    have hP0 : cpS s.data.toList = match expV B with | some k => (A, k, true) | none => ([], 0, false) := by unfold cpS; rw [if_pos hf, hA, hB]
    rw [hA, hB] at hcl
    have htl := trim_len B
    obtain ⟨T, hT⟩ : ∃ T, Lib.trimPrefix B [45] = T := ⟨_, rfl⟩
    obtain ⟨g, hg⟩ : ∃ g, Lib.hasPrefix B [45] = g := ⟨_, rfl⟩
    have hE : expV B = if (digL T && decide (T.length ≤ 3)) = true then some (if g then -(valN T : Int) else (valN T : Int)) else none := by unfold expV; rw [hT, hg]
    rw [hT] at htl
    have HTS : Hid ((⟨T.toArray⟩ : ByteArray).size = T.length) := hide (by rw [← bsize])
    have HCUT : Hid ((Lib.cut s.data.toList [101]).1 = A ∧ (Lib.cut s.data.toList [101]).2.1 = B ∧ (Lib.cut s.data.toList [101]).2.2 = true) := hide ⟨hA, hB, hf⟩
    have HTG := hide (And.intro hT hg)
    have HM := hide hm
    clear hA hB hf hT hg hm
    have hts := HTS.out
    by_cases hok : (digL T && decide (T.length ≤ 3)) = true
    · rw [if_pos hok] at hE
      have HP : Hid (cpS s.data.toList = (A, (if g then -(valN T : Int) else (valN T : Int)), true)) := hide (by rw [hP0, hE])
      clear hE hP0
      rw [Bool.and_eq_true, decide_eq_true_eq] at hok
      have hd := hok.1
      unfold digL at hd
      rw [Bool.and_eq_true, decide_eq_true_eq] at hd
      have hv := val3 hd.1 hok.2
      have HAT := hide (atoi_dig hd.1 hd.2)
      have HDG : Hid (digOk ⟨T.toArray⟩ = true) := hide (by rw [digOk_L]; exact hok.1)
      have h3 : (((⟨T.toArray⟩ : ByteArray).size : Nat) : Int) ≤ 3 := by omega
      have hle := hok.2
      clear hok hd
      rw [HP.out]
      go_enter Tryz.func83, Tryz.ntmps83
      go_wp2_with fail
      refine (cutI s 101 _ hs HM.out).mono ?_
      rw [HCUT.out.1, HCUT.out.2.1, HCUT.out.2.2]
      rintro e w1 ⟨rfl, hb⟩
      have HB := hide hb
      clear hb
      go_wp2_with fail
      refine (cutPre _ _ _).mono ?_
      rw [show (⟨B.toArray⟩ : ByteArray).data.toList = B from rfl, show ({ data := #[45] } : ByteArray).data.toList = [45] from rfl, HTG.out.1, HTG.out.2]
      rintro e w2 ⟨rfl, hw⟩
      subst w2
      go_wp2_with fail
      refine (allDigitsI _ _ (by omega)).mono ?_
      rw [HDG.out]
      rintro e w3 ⟨rfl, hb⟩
      replace HB := hide (bl_trans HB.out hb)
      clear hb
      go_wp2_with fail
      refine (Tryz.strconv_Atoi ⟨T.toArray⟩ (valN T : Int) (by omega) HAT.out _).mono ?_
      rintro e w4 ⟨rfl, t, hw4⟩
      have hb : Below w3.heap.size w3 w4 := by rw [hw4]; exact below_bytes w3 5 t
      replace HB := hide (bl_trans HB.out hb)
      clear hb hw4
      cases g with
      | true =>
        go_wp2
        refine bodyPost_ret (v := .tuple #[.string ⟨A.toArray⟩, .int .i64 (-(valN T : Int)), .bool true]) (by simp [results, Tryz.results83, go_sem, *]) rfl ?_
        exact ⟨rfl, HB.out⟩
      | false =>
        go_wp2
        refine bodyPost_ret (v := .tuple #[.string ⟨A.toArray⟩, .int .i64 (valN T : Int), .bool true]) (by simp [results, Tryz.results83, go_sem, *]) rfl ?_
        exact ⟨rfl, HB.out⟩
    · rw [if_neg hok] at hE
      have HP : Hid (cpS s.data.toList = ([], 0, false)) := hide (by rw [hP0, hE])
      clear hE hP0
      have hcase : digOk ⟨T.toArray⟩ = false ∨ (digOk ⟨T.toArray⟩ = true ∧ (3 : Int) < (((⟨T.toArray⟩ : ByteArray).size : Nat) : Int)) := by
        rw [digOk_L]
        cases hd : digL T with
        | false => exact .inl rfl
        | true =>
          refine .inr ⟨rfl, ?_⟩
          rw [hd, Bool.true_and, decide_eq_true_eq] at hok
          omega
      clear hok
      rcases hcase with hc | ⟨hc, h3⟩
      all_goals
        have HDG := hide hc
        clear hc
        rw [HP.out]
        go_enter Tryz.func83, Tryz.ntmps83
        go_wp2_with fail
        refine (cutI s 101 _ hs HM.out).mono ?_
        rw [HCUT.out.1, HCUT.out.2.1, HCUT.out.2.2]
        rintro e w1 ⟨rfl, hb⟩
        have HB := hide hb
        clear hb
        go_wp2_with fail
        refine (cutPre _ _ _).mono ?_
        rw [show (⟨B.toArray⟩ : ByteArray).data.toList = B from rfl, show ({ data := #[45] } : ByteArray).data.toList = [45] from rfl, HTG.out.1, HTG.out.2]
        rintro e w2 ⟨rfl, hw⟩
        subst w2
        go_wp2_with fail
        refine (allDigitsI _ _ (by omega)).mono ?_
        rw [HDG.out]
        rintro e w3 ⟨rfl, hb⟩
        replace HB := hide (bl_trans HB.out hb)
        clear hb
        go_wp2
        refine bodyPost_ret (v := .tuple #[.string ⟨#[]⟩, .int .i64 0, .bool false]) (by simp [results, Tryz.results83, go_sem, *]) rfl ?_
        exact ⟨rfl, HB.out⟩
end Go.Proofs.YtkemplmhemnpbaaGreatDoor

/- The walk of readQuotient of the program at any two texts. -/
namespace Go.Proofs.YtkemplmhemnpbaaGreatDoor
open Go.RowKit
set_option linter.unusedVariables false

theorem lms_shortN {neg : Bool} {l : List UInt8} (h : digAll l = true) (hl : l.length ≤ 400) : (lms (mk neg (valN l))).length ≤ 200 := by
  rw [mk_lms]
  refine Num.limbs_len.2 ?_
  have h1 := valN_lt l h
  have key : ∀ m : Nat, l.length ≤ 2 * m → valN l < 4294967296 ^ m := fun m hm => by
    have h2 : (10 : Nat) ^ l.length ≤ 10 ^ (2 * m) := Nat.pow_le_pow_right (by decide) hm
    rw [Nat.pow_mul] at h2
    exact Nat.lt_of_lt_of_le h1 (Nat.le_trans h2 (Nat.pow_le_pow_left (by decide) _))
  exact key 200 (by omega)

set_option maxHeartbeats 8000000 in
set_option maxRecDepth 20000 in
theorem readQuotG (neg : Bool) (N D : ByteArray) (x y : Int) (w : World) (sN : N.size ≤ 400) (sD : D.size ≤ 400) (hx : mk neg (valN N.data.toList) = x) (hy : mk false (valN D.data.toList) = y) (t : Bool) (ht : (digOk N && digOk D) = t) :
    Calls Tryz.prog 50 #[.bool neg, .string N, .string D] w fun e w' => RatAns t x y w w' e := by
  have kr0 : (w.alloc (Obj.cells #[Value.bool false, Value.slice none 0 0, Value.bool false, Value.slice none 0 0] 42)).cell? ⟨w.heap.size, 0, none⟩ = some (Value.bool false) := by go_simp
  have fr0 : (w.alloc (Obj.cells #[Value.bool false, Value.slice none 0 0, Value.bool false, Value.slice none 0 0] 42)).frozen? ⟨w.heap.size, 0, none⟩ = false := by go_simp
  have kr1 : (w.alloc (Obj.cells #[Value.bool false, Value.slice none 0 0, Value.bool false, Value.slice none 0 0] 42)).cell? ⟨w.heap.size, 1, none⟩ = some (Value.slice none 0 0) := by go_simp
  have fr1 : (w.alloc (Obj.cells #[Value.bool false, Value.slice none 0 0, Value.bool false, Value.slice none 0 0] 42)).frozen? ⟨w.heap.size, 1, none⟩ = false := by go_simp
  have kr2 : (w.alloc (Obj.cells #[Value.bool false, Value.slice none 0 0, Value.bool false, Value.slice none 0 0] 42)).cell? ⟨w.heap.size, 2, none⟩ = some (Value.bool false) := by go_simp
  have fr2 : (w.alloc (Obj.cells #[Value.bool false, Value.slice none 0 0, Value.bool false, Value.slice none 0 0] 42)).frozen? ⟨w.heap.size, 2, none⟩ = false := by go_simp
  have kr3 : (w.alloc (Obj.cells #[Value.bool false, Value.slice none 0 0, Value.bool false, Value.slice none 0 0] 42)).cell? ⟨w.heap.size, 3, none⟩ = some (Value.slice none 0 0) := by go_simp
  have fr3 : (w.alloc (Obj.cells #[Value.bool false, Value.slice none 0 0, Value.bool false, Value.slice none 0 0] 42)).frozen? ⟨w.heap.size, 3, none⟩ = false := by go_simp
  have zr : w.heap.size < (w.alloc (Obj.cells #[Value.bool false, Value.slice none 0 0, Value.bool false, Value.slice none 0 0] 42)).heap.size := by simp only [World.size_alloc]; omega
  have HB := hide (bl_alloc (bl_refl w) (Obj.cells #[Value.bool false, Value.slice none 0 0, Value.bool false, Value.slice none 0 0] 42))
  have HX := hide hx
  have HY := hide hy
  have HTT := hide ht
  clear hx hy ht
  go_enter Tryz.func50, Tryz.ntmps50
  go_wp2_with fail
  generalize w.alloc (Obj.cells #[Value.bool false, Value.slice none 0 0, Value.bool false, Value.slice none 0 0] 42) = W0 at *
  refine (allDigitsI N _ (by omega)).mono ?_
  rintro e w1 ⟨rfl, hb⟩
  replace kr0 := (hb.cell (p := ⟨w.heap.size, 0, none⟩) zr).trans kr0
  replace fr0 := (hb.frozen (p := ⟨w.heap.size, 0, none⟩) zr).trans fr0
  replace kr1 := (hb.cell (p := ⟨w.heap.size, 1, none⟩) zr).trans kr1
  replace fr1 := (hb.frozen (p := ⟨w.heap.size, 1, none⟩) zr).trans fr1
  replace kr2 := (hb.cell (p := ⟨w.heap.size, 2, none⟩) zr).trans kr2
  replace fr2 := (hb.frozen (p := ⟨w.heap.size, 2, none⟩) zr).trans fr2
  replace kr3 := (hb.cell (p := ⟨w.heap.size, 3, none⟩) zr).trans kr3
  replace fr3 := (hb.frozen (p := ⟨w.heap.size, 3, none⟩) zr).trans fr3
  replace zr := Nat.lt_of_lt_of_le zr hb.size
  replace HB := hide (bl_trans HB.out hb)
  clear hb
  cases hN : digOk N with
  | false =>
    have HA := hide (fun W (hb : Below w.heap.size w W) => ans_no (x := x) (y := y) (ans_f (t := t) (by rw [← HTT.out, hN]; rfl)) hb)
    go_wp2
    refine bodyPost_ret (v := .tuple #[.agg #[.bool false, .slice none 0 0, .bool false, .slice none 0 0], .bool false]) (by simp [results, Tryz.results50, go_sem, *]) rfl ?_
    exact HA.out _ (set_four (Nat.le_refl _) HB.out _ _ _ _)
  | true =>
    go_wp2_with fail
    refine (allDigitsI D _ (by omega)).mono ?_
    rintro e w2 ⟨rfl, hb⟩
    replace kr0 := (hb.cell (p := ⟨w.heap.size, 0, none⟩) zr).trans kr0
    replace fr0 := (hb.frozen (p := ⟨w.heap.size, 0, none⟩) zr).trans fr0
    replace kr1 := (hb.cell (p := ⟨w.heap.size, 1, none⟩) zr).trans kr1
    replace fr1 := (hb.frozen (p := ⟨w.heap.size, 1, none⟩) zr).trans fr1
    replace kr2 := (hb.cell (p := ⟨w.heap.size, 2, none⟩) zr).trans kr2
    replace fr2 := (hb.frozen (p := ⟨w.heap.size, 2, none⟩) zr).trans fr2
    replace kr3 := (hb.cell (p := ⟨w.heap.size, 3, none⟩) zr).trans kr3
    replace fr3 := (hb.frozen (p := ⟨w.heap.size, 3, none⟩) zr).trans fr3
    replace zr := Nat.lt_of_lt_of_le zr hb.size
    replace HB := hide (bl_trans HB.out hb)
    clear hb
    cases hD : digOk D with
    | false =>
      have HA := hide (fun W (hb : Below w.heap.size w W) => ans_no (x := x) (y := y) (ans_f (t := t) (by rw [← HTT.out, hN, hD]; rfl)) hb)
      go_wp2
      refine bodyPost_ret (v := .tuple #[.agg #[.bool false, .slice none 0 0, .bool false, .slice none 0 0], .bool false]) (by simp [results, Tryz.results50, go_sem, *]) rfl ?_
      exact HA.out _ (set_four (Nat.le_refl _) HB.out _ _ _ _)
    | true =>
      have HAN : Hid (digAll N.data.toList = true) := hide (by unfold digOk at hN; rw [Bool.and_eq_true] at hN; exact hN.1)
      have HAD : Hid (digAll D.data.toList = true) := hide (by unfold digOk at hD; rw [Bool.and_eq_true] at hD; exact hD.1)
      have HTR : Hid (t = true) := hide (by rw [← HTT.out, hN, hD]; rfl)
      clear hN hD
      have ly : (lms y).length ≤ 200 := by rw [← HY.out]; exact lms_shortN HAD.out (by rw [bsize]; exact sD)
      have lx : (lms x).length ≤ 200 := by rw [← HX.out, mk_lms]; have := lms_shortN (neg := false) HAN.out (by rw [bsize]; exact sN); rw [mk_lms] at this; exact this
      go_wp2_with fail
      refine (digitLimbsI D _ HAD.out (by omega)).mono ?_
      rintro e w3 ⟨a3, n3, c3, xs3, rfl, ho3, hn3, hv3, hb⟩
      have hb3 := hb.size
      have HO3 := hide ho3
      have HV3 := hide hv3
      clear ho3 hv3
      replace kr0 := (hb.cell (p := ⟨w.heap.size, 0, none⟩) zr).trans kr0
      replace fr0 := (hb.frozen (p := ⟨w.heap.size, 0, none⟩) zr).trans fr0
      replace kr1 := (hb.cell (p := ⟨w.heap.size, 1, none⟩) zr).trans kr1
      replace fr1 := (hb.frozen (p := ⟨w.heap.size, 1, none⟩) zr).trans fr1
      replace kr2 := (hb.cell (p := ⟨w.heap.size, 2, none⟩) zr).trans kr2
      replace fr2 := (hb.frozen (p := ⟨w.heap.size, 2, none⟩) zr).trans fr2
      replace kr3 := (hb.cell (p := ⟨w.heap.size, 3, none⟩) zr).trans kr3
      replace fr3 := (hb.frozen (p := ⟨w.heap.size, 3, none⟩) zr).trans fr3
      replace zr := Nat.lt_of_lt_of_le zr hb.size
      replace HB := hide (bl_trans HB.out hb)
      clear hb
      go_wp2_with fail
      refine (bigOfI false a3 n3 c3 xs3 _ _ HO3.out hb3).mono ?_
      rw [HV3.out, HY.out]
      rintro e w4 ⟨v4, rfl, ⟨a4, c4, rfl, ho4⟩, hb⟩
      have S4 := hide ho4.seg
      clear ho4 HO3 HV3
      replace kr0 := (hb.cell (p := ⟨w.heap.size, 0, none⟩) zr).trans kr0
      replace fr0 := (hb.frozen (p := ⟨w.heap.size, 0, none⟩) zr).trans fr0
      replace kr1 := (hb.cell (p := ⟨w.heap.size, 1, none⟩) zr).trans kr1
      replace fr1 := (hb.frozen (p := ⟨w.heap.size, 1, none⟩) zr).trans fr1
      replace kr2 := (hb.cell (p := ⟨w.heap.size, 2, none⟩) zr).trans kr2
      replace fr2 := (hb.frozen (p := ⟨w.heap.size, 2, none⟩) zr).trans fr2
      replace kr3 := (hb.cell (p := ⟨w.heap.size, 3, none⟩) zr).trans kr3
      replace fr3 := (hb.frozen (p := ⟨w.heap.size, 3, none⟩) zr).trans fr3
      replace zr := Nat.lt_of_lt_of_le zr hb.size
      replace HB := hide (bl_trans HB.out hb)
      clear hb
      have zr4 := zr
      have kd0 : (w4.alloc (Obj.cells #[Value.bool (sgn y), Value.slice a4 (lms y).length c4] 40)).cell? ⟨w4.heap.size, 0, none⟩ = some (Value.bool (sgn y)) := by go_simp
      have kd1 : (w4.alloc (Obj.cells #[Value.bool (sgn y), Value.slice a4 (lms y).length c4] 40)).cell? ⟨w4.heap.size, 1, none⟩ = some (Value.slice a4 (lms y).length c4) := by go_simp
      have fd0 : (w4.alloc (Obj.cells #[Value.bool (sgn y), Value.slice a4 (lms y).length c4] 40)).frozen? ⟨w4.heap.size, 0, none⟩ = false := by go_simp
      have fd1 : (w4.alloc (Obj.cells #[Value.bool (sgn y), Value.slice a4 (lms y).length c4] 40)).frozen? ⟨w4.heap.size, 1, none⟩ = false := by go_simp
      have zd : w4.heap.size < (w4.alloc (Obj.cells #[Value.bool (sgn y), Value.slice a4 (lms y).length c4] 40)).heap.size := by simp only [World.size_alloc]; omega
      have hbn := bl_alloc (bl_refl w4) (Obj.cells #[Value.bool (sgn y), Value.slice a4 (lms y).length c4] 40)
      replace kr0 := (hbn.cell (p := ⟨w.heap.size, 0, none⟩) zr).trans kr0
      replace fr0 := (hbn.frozen (p := ⟨w.heap.size, 0, none⟩) zr).trans fr0
      replace kr1 := (hbn.cell (p := ⟨w.heap.size, 1, none⟩) zr).trans kr1
      replace fr1 := (hbn.frozen (p := ⟨w.heap.size, 1, none⟩) zr).trans fr1
      replace kr2 := (hbn.cell (p := ⟨w.heap.size, 2, none⟩) zr).trans kr2
      replace fr2 := (hbn.frozen (p := ⟨w.heap.size, 2, none⟩) zr).trans fr2
      replace kr3 := (hbn.cell (p := ⟨w.heap.size, 3, none⟩) zr).trans kr3
      replace fr3 := (hbn.frozen (p := ⟨w.heap.size, 3, none⟩) zr).trans fr3
      replace zr := Nat.lt_of_lt_of_le zr hbn.size
      replace S4 := hide (S4.out.below hbn)
      replace HB := hide (bl_trans HB.out hbn)
      clear hbn
      go_wp2_with fail
      generalize w4.alloc (Obj.cells #[Value.bool (sgn y), Value.slice a4 (lms y).length c4] 40) = w5 at *
      refine (noughtI _ (sgn y) (lms y) _ ⟨a4, c4, rfl, S4.out⟩).mono ?_
      rintro e w6 ⟨rfl, hb⟩
      replace kr0 := (hb.cell (p := ⟨w.heap.size, 0, none⟩) zr).trans kr0
      replace fr0 := (hb.frozen (p := ⟨w.heap.size, 0, none⟩) zr).trans fr0
      replace kr1 := (hb.cell (p := ⟨w.heap.size, 1, none⟩) zr).trans kr1
      replace fr1 := (hb.frozen (p := ⟨w.heap.size, 1, none⟩) zr).trans fr1
      replace kr2 := (hb.cell (p := ⟨w.heap.size, 2, none⟩) zr).trans kr2
      replace fr2 := (hb.frozen (p := ⟨w.heap.size, 2, none⟩) zr).trans fr2
      replace kr3 := (hb.cell (p := ⟨w.heap.size, 3, none⟩) zr).trans kr3
      replace fr3 := (hb.frozen (p := ⟨w.heap.size, 3, none⟩) zr).trans fr3
      replace kd0 := (hb.cell (p := ⟨w4.heap.size, 0, none⟩) zd).trans kd0
      replace fd0 := (hb.frozen (p := ⟨w4.heap.size, 0, none⟩) zd).trans fd0
      replace kd1 := (hb.cell (p := ⟨w4.heap.size, 1, none⟩) zd).trans kd1
      replace fd1 := (hb.frozen (p := ⟨w4.heap.size, 1, none⟩) zd).trans fd1
      replace zd := Nat.lt_of_lt_of_le zd hb.size
      replace zr := Nat.lt_of_lt_of_le zr hb.size
      replace S4 := hide (S4.out.below hb)
      replace HB := hide (bl_trans HB.out hb)
      clear hb
      by_cases hy0 : (lms y).length = 0
      · have hyz := sgn_lms_nil hy0
        have HA := hide (fun W (hb : Below w.heap.size w W) => ans_no (x := x) (y := y) (ans_0 (t := t) hyz) hb)
        rw [decide_eq_true hy0]
        clear hyz
        go_wp2
        refine bodyPost_ret (v := .tuple #[.agg #[.bool false, .slice none 0 0, .bool false, .slice none 0 0], .bool false]) (by simp [results, Tryz.results50, go_sem, *]) rfl ?_
        exact HA.out _ (set_four (Nat.le_refl _) HB.out _ _ _ _)
      · rw [decide_eq_false hy0]
        have hyn : y ≠ 0 := fun e => hy0 (by rw [e, zero_lms]; rfl)
        have HFT := hide (ans_ft (t := t) (x := x) (y := y) HTR.out hyn)
        obtain ⟨p, hp⟩ : ∃ p, x / sgG x y = p := ⟨_, rfl⟩
        obtain ⟨q, hq⟩ : ∃ q, y / sgG x y = q := ⟨_, rfl⟩
        have HPQ := hide (And.intro hp hq)
        clear hp hq
        have hdr : w4.heap.size ≠ w.heap.size := by omega
        have HSUB := hide (fun (a : Option Addr) (c : Nat) (b : Option Addr) (d : Nat) => @ftV_t p q a b c d)
        cases hft : ftT p q with
        | false =>
          go_wp2_with fail
          go_region_held3 (fun w' => w'.cell? ⟨w4.heap.size, 0, none⟩ = some (Value.bool (sgn y)) ∧ w'.cell? ⟨w4.heap.size, 1, none⟩ = some (Value.slice a4 (lms y).length c4))
            (first | exact ⟨(by (try rw [World.cell?_drew]); first | with_reducible assumption), (by (try rw [World.cell?_drew]); first | with_reducible assumption)⟩ | exact ⟨(cel4 (p := ⟨w4.heap.size, 0, none⟩) hdr _ _ _ _).trans kd0, (cel4 (p := ⟨w4.heap.size, 1, none⟩) hdr _ _ _ _).trans kd1⟩)
            (first
              | (go_at_call 82; refine (digitLimbsI N _ HAN.out (by omega)).mono ?_; rintro e wA ⟨aA, nA, cA, xsA, rfl, hoA, hnA, hvA, hbAr⟩; have hbA : Below w6.heap.size w6 wA := (bl_refl w6).drew.trans hbAr; have yA := hbA.size; have yAr := hbAr.size; have kd0 := (hbAr.cell (p := ⟨w4.heap.size, 0, none⟩) (by dsimp only; rw [World.size_drew]; omega)).trans kd0; have kd1 := (hbAr.cell (p := ⟨w4.heap.size, 1, none⟩) (by dsimp only; rw [World.size_drew]; omega)).trans kd1)
              | (go_at_call 72; refine (bigOfI neg aA nA cA xsA _ _ hoA yAr).mono ?_; rw [hvA, HX.out]; rintro e wB ⟨vB, rfl, ⟨aB, cB, rfl, hoB⟩, hbBr⟩; have hbB : Below w6.heap.size w6 wB := bl_trans hbA hbBr; have yB := hbBr.size; have kd0 := (hbBr.cell (p := ⟨w4.heap.size, 0, none⟩) (by dsimp only; omega)).trans kd0; have kd1 := (hbBr.cell (p := ⟨w4.heap.size, 1, none⟩) (by dsimp only; omega)).trans kd1)
              | (go_at_call 70; refine (shortI' x y aB cB a4 c4 _ hoB.seg (S4.out.below hbB) hyn (by omega) (by omega)).mono ?_; rw [HPQ.out.1, HPQ.out.2]; rintro e wC ⟨b1, e1, b2, e2, rfl, ho1, ho2, hap, hbCr⟩; have hbC : Below w6.heap.size w6 wC := bl_trans hbB hbCr; have yC := hbCr.size; have kd0 := (hbCr.cell (p := ⟨w4.heap.size, 0, none⟩) (by dsimp only; omega)).trans kd0; have kd1 := (hbCr.cell (p := ⟨w4.heap.size, 1, none⟩) (by dsimp only; omega)).trans kd1)
              | (go_at_call 71; refine (fitI p q b1 e1 b2 e2 _ ho1.seg ho2.seg).mono ?_; rw [ftV_f hft, hft]; rintro e wD ⟨rfl, hbDr⟩; have hbD : Below w6.heap.size w6 wD := bl_trans hbC hbDr; have yD := hbDr.size; have kd0 := (hbDr.cell (p := ⟨w4.heap.size, 0, none⟩) (by dsimp only; omega)).trans kd0; have kd1 := (hbDr.cell (p := ⟨w4.heap.size, 1, none⟩) (by dsimp only; omega)).trans kd1; have kr0 := (hbD.cell (p := ⟨w.heap.size, 0, none⟩) zr).trans kr0; have fr0 := (hbD.frozen (p := ⟨w.heap.size, 0, none⟩) zr).trans fr0; have kr1 := (hbD.cell (p := ⟨w.heap.size, 1, none⟩) zr).trans kr1; have fr1 := (hbD.frozen (p := ⟨w.heap.size, 1, none⟩) zr).trans fr1; have kr2 := (hbD.cell (p := ⟨w.heap.size, 2, none⟩) zr).trans kr2; have fr2 := (hbD.frozen (p := ⟨w.heap.size, 2, none⟩) zr).trans fr2; have kr3 := (hbD.cell (p := ⟨w.heap.size, 3, none⟩) zr).trans kr3; have fr3 := (hbD.frozen (p := ⟨w.heap.size, 3, none⟩) zr).trans fr3; have HO1 := hide (ho1.below hbDr); have HO2 := hide (ho2.below hbDr); have HAP := hide hap))
          replace HB := hide (bl_trans HB.out hbD)
          clear hoA hoB ho1 ho2 hap hbA hbAr hbB hbBr hbC hbCr hbD hbDr
          go_wp2
          refine bodyPost_ret (v := .tuple #[.agg #[.bool false, .slice none 0 0, .bool false, .slice none 0 0], .bool false]) (by simp [results, Tryz.results50, go_sem, *]) rfl ?_
          exact ans_no (by rw [HFT.out, HPQ.out.1, HPQ.out.2]; exact hft) (set_four (Nat.le_refl _) HB.out _ _ _ _)
        | true =>
          go_wp2_with fail
          go_region_held3 (fun w' => w'.cell? ⟨w4.heap.size, 0, none⟩ = some (Value.bool (sgn y)) ∧ w'.cell? ⟨w4.heap.size, 1, none⟩ = some (Value.slice a4 (lms y).length c4))
            (first | exact ⟨(by (try rw [World.cell?_drew]); first | with_reducible assumption), (by (try rw [World.cell?_drew]); first | with_reducible assumption)⟩ | exact ⟨(cel4 (p := ⟨w4.heap.size, 0, none⟩) hdr _ _ _ _).trans kd0, (cel4 (p := ⟨w4.heap.size, 1, none⟩) hdr _ _ _ _).trans kd1⟩)
            (first
              | (go_at_call 82; refine (digitLimbsI N _ HAN.out (by omega)).mono ?_; rintro e wA ⟨aA, nA, cA, xsA, rfl, hoA, hnA, hvA, hbAr⟩; have hbA : Below w6.heap.size w6 wA := (bl_refl w6).drew.trans hbAr; have yA := hbA.size; have yAr := hbAr.size; have kd0 := (hbAr.cell (p := ⟨w4.heap.size, 0, none⟩) (by dsimp only; rw [World.size_drew]; omega)).trans kd0; have kd1 := (hbAr.cell (p := ⟨w4.heap.size, 1, none⟩) (by dsimp only; rw [World.size_drew]; omega)).trans kd1)
              | (go_at_call 72; refine (bigOfI neg aA nA cA xsA _ _ hoA yAr).mono ?_; rw [hvA, HX.out]; rintro e wB ⟨vB, rfl, ⟨aB, cB, rfl, hoB⟩, hbBr⟩; have hbB : Below w6.heap.size w6 wB := bl_trans hbA hbBr; have yB := hbBr.size; have kd0 := (hbBr.cell (p := ⟨w4.heap.size, 0, none⟩) (by dsimp only; omega)).trans kd0; have kd1 := (hbBr.cell (p := ⟨w4.heap.size, 1, none⟩) (by dsimp only; omega)).trans kd1)
              | (go_at_call 70; refine (shortI' x y aB cB a4 c4 _ hoB.seg (S4.out.below hbB) hyn (by omega) (by omega)).mono ?_; rw [HPQ.out.1, HPQ.out.2]; rintro e wC ⟨b1, e1, b2, e2, rfl, ho1, ho2, hap, hbCr⟩; have hbC : Below w6.heap.size w6 wC := bl_trans hbB hbCr; have yC := hbCr.size; have kd0 := (hbCr.cell (p := ⟨w4.heap.size, 0, none⟩) (by dsimp only; omega)).trans kd0; have kd1 := (hbCr.cell (p := ⟨w4.heap.size, 1, none⟩) (by dsimp only; omega)).trans kd1)
              | (go_at_call 71; refine (fitI p q b1 e1 b2 e2 _ ho1.seg ho2.seg).mono ?_; rw [ftV_t hft, hft]; rintro e wD ⟨rfl, hbDr⟩; have hbD : Below w6.heap.size w6 wD := bl_trans hbC hbDr; have yD := hbDr.size; have kd0 := (hbDr.cell (p := ⟨w4.heap.size, 0, none⟩) (by dsimp only; omega)).trans kd0; have kd1 := (hbDr.cell (p := ⟨w4.heap.size, 1, none⟩) (by dsimp only; omega)).trans kd1; have kr0 := (hbD.cell (p := ⟨w.heap.size, 0, none⟩) zr).trans kr0; have fr0 := (hbD.frozen (p := ⟨w.heap.size, 0, none⟩) zr).trans fr0; have kr1 := (hbD.cell (p := ⟨w.heap.size, 1, none⟩) zr).trans kr1; have fr1 := (hbD.frozen (p := ⟨w.heap.size, 1, none⟩) zr).trans fr1; have kr2 := (hbD.cell (p := ⟨w.heap.size, 2, none⟩) zr).trans kr2; have fr2 := (hbD.frozen (p := ⟨w.heap.size, 2, none⟩) zr).trans fr2; have kr3 := (hbD.cell (p := ⟨w.heap.size, 3, none⟩) zr).trans kr3; have fr3 := (hbD.frozen (p := ⟨w.heap.size, 3, none⟩) zr).trans fr3; have HO1 := hide (ho1.below hbDr); have HO2 := hide (ho2.below hbDr); have HAP := hide hap))
          replace HB := hide (bl_trans HB.out hbD)
          clear hoA hoB ho1 ho2 hap hbA hbAr hbB hbBr hbC hbCr hbD hbDr
          go_wp2
          refine bodyPost_ret (v := .tuple #[.agg #[.bool (sgn p), .slice b1 (lms p).length e1, .bool (sgn q), .slice b2 (lms q).length e2], .bool true]) (by simp [results, Tryz.results50, go_sem, *]) rfl ?_
          have h1 := own_four' (lo := w.heap.size) HO1.out (show w.heap.size < _ by omega) (by omega) (Value.bool (sgn p)) (Value.slice b1 (lms p).length e1) (Value.bool (sgn q)) (Value.slice b2 (lms q).length e2)
          have h2 := own_four' (lo := w.heap.size) HO2.out (show w.heap.size < _ by omega) (by omega) (Value.bool (sgn p)) (Value.slice b1 (lms p).length e1) (Value.bool (sgn q)) (Value.slice b2 (lms q).length e2)
          have ha := ans_yes (t := t) (x := x) (y := y) (w := w) (a1 := b1) (a2 := b2) (c1 := e1) (c2 := e2) (by rw [HFT.out, HPQ.out.1, HPQ.out.2]; exact hft) (by rw [HPQ.out.1]; exact h1) (by rw [HPQ.out.2]; exact h2) HAP.out (set_four (Nat.le_refl _) HB.out _ _ _ _)
          rw [HPQ.out.1, HPQ.out.2] at ha
          exact ha
end Go.Proofs.YtkemplmhemnpbaaGreatDoor

/- The walk of readDecimal of the program at any text. -/
namespace Go.Proofs.YtkemplmhemnpbaaGreatDoor
open Go.RowKit
set_option linter.unusedVariables false

theorem ten_len (j : Nat) : (lms ((10 : Int) ^ j)).length ≤ j + 1 := by
  refine Num.limbs_len.2 ?_
  rw [Int.natAbs_pow]
  have h1 : (10 : Int).natAbs ^ j ≤ 4294967296 ^ j := Nat.pow_le_pow_left (by decide) j
  have h2 : 4294967296 ^ j < 4294967296 ^ (j + 1) := Nat.pow_lt_pow_right (by decide) (by omega)
  omega
theorem tenI (v : Value) (n : Nat) (z : Int) (w : World) (h : Is w v 10) (hn : n ≤ 2000) (hz : z = (n : Int)) : Calls Tryz.prog 84 #[v, .int .i64 z] w fun e w' => ∃ v, e = .returned v ∧ New w' w.heap.size v (10 ^ n) ∧ Below w.heap.size w w' := by
  subst hz
  exact powI v 10 n w h (by omega) (fun j hj => Nat.le_trans (ten_len j) (by omega))
set_option maxHeartbeats 8000000 in
set_option maxRecDepth 20000 in
theorem decNo1 (neg : Bool) (s : ByteArray) (A W P : List UInt8) (k : Int) (ok pt : Bool) (w : World) (hs : s.size ≤ 400) (hm : Mx w) (hcp : cpS s.data.toList = (A, k, ok)) (hcu : Lib.cut A [46] = (W, P, pt)) (hA : A.length ≤ 400) (hWP : W.length + P.length ≤ 400) (x y : Int) (h : ok = false) :
    Calls Tryz.prog 51 #[.bool neg, .string s] w fun e w' => RatAns false x y w w' e := by
  subst h
  have HCP := hide hcp
  have HCU := hide hcu
  have HM := hide hm
  clear hcp hcu hm
  have HSA : Hid ((⟨A.toArray⟩ : ByteArray).size = A.length) := hide (by rw [← bsize])
  have HSW : Hid ((⟨W.toArray⟩ : ByteArray).size = W.length) := hide (by rw [← bsize])
  have HSP : Hid ((⟨P.toArray⟩ : ByteArray).size = P.length) := hide (by rw [← bsize])
  have kr0 : (w.alloc (Obj.cells #[Value.bool false, Value.slice none 0 0, Value.bool false, Value.slice none 0 0] 42)).cell? ⟨w.heap.size, 0, none⟩ = some (Value.bool false) := by go_simp
  have fr0 : (w.alloc (Obj.cells #[Value.bool false, Value.slice none 0 0, Value.bool false, Value.slice none 0 0] 42)).frozen? ⟨w.heap.size, 0, none⟩ = false := by go_simp
  have kr1 : (w.alloc (Obj.cells #[Value.bool false, Value.slice none 0 0, Value.bool false, Value.slice none 0 0] 42)).cell? ⟨w.heap.size, 1, none⟩ = some (Value.slice none 0 0) := by go_simp
  have fr1 : (w.alloc (Obj.cells #[Value.bool false, Value.slice none 0 0, Value.bool false, Value.slice none 0 0] 42)).frozen? ⟨w.heap.size, 1, none⟩ = false := by go_simp
  have kr2 : (w.alloc (Obj.cells #[Value.bool false, Value.slice none 0 0, Value.bool false, Value.slice none 0 0] 42)).cell? ⟨w.heap.size, 2, none⟩ = some (Value.bool false) := by go_simp
  have fr2 : (w.alloc (Obj.cells #[Value.bool false, Value.slice none 0 0, Value.bool false, Value.slice none 0 0] 42)).frozen? ⟨w.heap.size, 2, none⟩ = false := by go_simp
  have kr3 : (w.alloc (Obj.cells #[Value.bool false, Value.slice none 0 0, Value.bool false, Value.slice none 0 0] 42)).cell? ⟨w.heap.size, 3, none⟩ = some (Value.slice none 0 0) := by go_simp
  have fr3 : (w.alloc (Obj.cells #[Value.bool false, Value.slice none 0 0, Value.bool false, Value.slice none 0 0] 42)).frozen? ⟨w.heap.size, 3, none⟩ = false := by go_simp
  have zr : w.heap.size < (w.alloc (Obj.cells #[Value.bool false, Value.slice none 0 0, Value.bool false, Value.slice none 0 0] 42)).heap.size := by simp only [World.size_alloc]; omega
  have HB := hide (bl_alloc (bl_refl w) (Obj.cells #[Value.bool false, Value.slice none 0 0, Value.bool false, Value.slice none 0 0] 42))
  replace HM := hide (HM.out.below HB.out)
  go_enter Tryz.func51, Tryz.ntmps51
  go_wp2_with fail
  generalize w.alloc (Obj.cells #[Value.bool false, Value.slice none 0 0, Value.bool false, Value.slice none 0 0] 42) = W0 at *
  refine (cutPlacesG s _ (by omega) HM.out).mono ?_
  rw [HCP.out]
  rintro e w1 ⟨rfl, hb⟩
  replace kr0 := (hb.cell (p := ⟨w.heap.size, 0, none⟩) zr).trans kr0
  replace fr0 := (hb.frozen (p := ⟨w.heap.size, 0, none⟩) zr).trans fr0
  replace kr1 := (hb.cell (p := ⟨w.heap.size, 1, none⟩) zr).trans kr1
  replace fr1 := (hb.frozen (p := ⟨w.heap.size, 1, none⟩) zr).trans fr1
  replace kr2 := (hb.cell (p := ⟨w.heap.size, 2, none⟩) zr).trans kr2
  replace fr2 := (hb.frozen (p := ⟨w.heap.size, 2, none⟩) zr).trans fr2
  replace kr3 := (hb.cell (p := ⟨w.heap.size, 3, none⟩) zr).trans kr3
  replace fr3 := (hb.frozen (p := ⟨w.heap.size, 3, none⟩) zr).trans fr3
  replace zr := Nat.lt_of_lt_of_le zr hb.size
  replace HM := hide (HM.out.below hb)
  replace HB := hide (bl_trans HB.out hb)
  clear hb
  go_wp2_with fail
  refine (cutI _ 46 _ (by rw [HSA.out]; omega) HM.out).mono ?_
  rw [show (⟨A.toArray⟩ : ByteArray).data.toList = A from rfl, HCU.out]
  rintro e w2 ⟨rfl, hb⟩
  replace kr0 := (hb.cell (p := ⟨w.heap.size, 0, none⟩) zr).trans kr0
  replace fr0 := (hb.frozen (p := ⟨w.heap.size, 0, none⟩) zr).trans fr0
  replace kr1 := (hb.cell (p := ⟨w.heap.size, 1, none⟩) zr).trans kr1
  replace fr1 := (hb.frozen (p := ⟨w.heap.size, 1, none⟩) zr).trans fr1
  replace kr2 := (hb.cell (p := ⟨w.heap.size, 2, none⟩) zr).trans kr2
  replace fr2 := (hb.frozen (p := ⟨w.heap.size, 2, none⟩) zr).trans fr2
  replace kr3 := (hb.cell (p := ⟨w.heap.size, 3, none⟩) zr).trans kr3
  replace fr3 := (hb.frozen (p := ⟨w.heap.size, 3, none⟩) zr).trans fr3
  replace zr := Nat.lt_of_lt_of_le zr hb.size
  replace HB := hide (bl_trans HB.out hb)
  clear hb
  clear HM
  go_wp2
  refine bodyPost_ret (v := .tuple #[.agg #[.bool false, .slice none 0 0, .bool false, .slice none 0 0], .bool false]) (by simp [results, Tryz.results51, go_sem, *]) rfl ?_
  exact ans_no (ans_f rfl) (set_four (Nat.le_refl _) HB.out _ _ _ _)

set_option maxHeartbeats 8000000 in
set_option maxRecDepth 20000 in
theorem decNo2 (neg : Bool) (s : ByteArray) (A W P : List UInt8) (k : Int) (ok pt : Bool) (w : World) (hs : s.size ≤ 400) (hm : Mx w) (hcp : cpS s.data.toList = (A, k, ok)) (hcu : Lib.cut A [46] = (W, P, pt)) (hA : A.length ≤ 400) (hWP : W.length + P.length ≤ 400) (x y : Int) (h : ok = true) (hW : digOk ⟨W.toArray⟩ = false) :
    Calls Tryz.prog 51 #[.bool neg, .string s] w fun e w' => RatAns false x y w w' e := by
  subst h
  have HDW := hide hW
  clear hW
  have HCP := hide hcp
  have HCU := hide hcu
  have HM := hide hm
  clear hcp hcu hm
  have HSA : Hid ((⟨A.toArray⟩ : ByteArray).size = A.length) := hide (by rw [← bsize])
  have HSW : Hid ((⟨W.toArray⟩ : ByteArray).size = W.length) := hide (by rw [← bsize])
  have HSP : Hid ((⟨P.toArray⟩ : ByteArray).size = P.length) := hide (by rw [← bsize])
  have kr0 : (w.alloc (Obj.cells #[Value.bool false, Value.slice none 0 0, Value.bool false, Value.slice none 0 0] 42)).cell? ⟨w.heap.size, 0, none⟩ = some (Value.bool false) := by go_simp
  have fr0 : (w.alloc (Obj.cells #[Value.bool false, Value.slice none 0 0, Value.bool false, Value.slice none 0 0] 42)).frozen? ⟨w.heap.size, 0, none⟩ = false := by go_simp
  have kr1 : (w.alloc (Obj.cells #[Value.bool false, Value.slice none 0 0, Value.bool false, Value.slice none 0 0] 42)).cell? ⟨w.heap.size, 1, none⟩ = some (Value.slice none 0 0) := by go_simp
  have fr1 : (w.alloc (Obj.cells #[Value.bool false, Value.slice none 0 0, Value.bool false, Value.slice none 0 0] 42)).frozen? ⟨w.heap.size, 1, none⟩ = false := by go_simp
  have kr2 : (w.alloc (Obj.cells #[Value.bool false, Value.slice none 0 0, Value.bool false, Value.slice none 0 0] 42)).cell? ⟨w.heap.size, 2, none⟩ = some (Value.bool false) := by go_simp
  have fr2 : (w.alloc (Obj.cells #[Value.bool false, Value.slice none 0 0, Value.bool false, Value.slice none 0 0] 42)).frozen? ⟨w.heap.size, 2, none⟩ = false := by go_simp
  have kr3 : (w.alloc (Obj.cells #[Value.bool false, Value.slice none 0 0, Value.bool false, Value.slice none 0 0] 42)).cell? ⟨w.heap.size, 3, none⟩ = some (Value.slice none 0 0) := by go_simp
  have fr3 : (w.alloc (Obj.cells #[Value.bool false, Value.slice none 0 0, Value.bool false, Value.slice none 0 0] 42)).frozen? ⟨w.heap.size, 3, none⟩ = false := by go_simp
  have zr : w.heap.size < (w.alloc (Obj.cells #[Value.bool false, Value.slice none 0 0, Value.bool false, Value.slice none 0 0] 42)).heap.size := by simp only [World.size_alloc]; omega
  have HB := hide (bl_alloc (bl_refl w) (Obj.cells #[Value.bool false, Value.slice none 0 0, Value.bool false, Value.slice none 0 0] 42))
  replace HM := hide (HM.out.below HB.out)
  go_enter Tryz.func51, Tryz.ntmps51
  go_wp2_with fail
  generalize w.alloc (Obj.cells #[Value.bool false, Value.slice none 0 0, Value.bool false, Value.slice none 0 0] 42) = W0 at *
  refine (cutPlacesG s _ (by omega) HM.out).mono ?_
  rw [HCP.out]
  rintro e w1 ⟨rfl, hb⟩
  replace kr0 := (hb.cell (p := ⟨w.heap.size, 0, none⟩) zr).trans kr0
  replace fr0 := (hb.frozen (p := ⟨w.heap.size, 0, none⟩) zr).trans fr0
  replace kr1 := (hb.cell (p := ⟨w.heap.size, 1, none⟩) zr).trans kr1
  replace fr1 := (hb.frozen (p := ⟨w.heap.size, 1, none⟩) zr).trans fr1
  replace kr2 := (hb.cell (p := ⟨w.heap.size, 2, none⟩) zr).trans kr2
  replace fr2 := (hb.frozen (p := ⟨w.heap.size, 2, none⟩) zr).trans fr2
  replace kr3 := (hb.cell (p := ⟨w.heap.size, 3, none⟩) zr).trans kr3
  replace fr3 := (hb.frozen (p := ⟨w.heap.size, 3, none⟩) zr).trans fr3
  replace zr := Nat.lt_of_lt_of_le zr hb.size
  replace HM := hide (HM.out.below hb)
  replace HB := hide (bl_trans HB.out hb)
  clear hb
  go_wp2_with fail
  refine (cutI _ 46 _ (by rw [HSA.out]; omega) HM.out).mono ?_
  rw [show (⟨A.toArray⟩ : ByteArray).data.toList = A from rfl, HCU.out]
  rintro e w2 ⟨rfl, hb⟩
  replace kr0 := (hb.cell (p := ⟨w.heap.size, 0, none⟩) zr).trans kr0
  replace fr0 := (hb.frozen (p := ⟨w.heap.size, 0, none⟩) zr).trans fr0
  replace kr1 := (hb.cell (p := ⟨w.heap.size, 1, none⟩) zr).trans kr1
  replace fr1 := (hb.frozen (p := ⟨w.heap.size, 1, none⟩) zr).trans fr1
  replace kr2 := (hb.cell (p := ⟨w.heap.size, 2, none⟩) zr).trans kr2
  replace fr2 := (hb.frozen (p := ⟨w.heap.size, 2, none⟩) zr).trans fr2
  replace kr3 := (hb.cell (p := ⟨w.heap.size, 3, none⟩) zr).trans kr3
  replace fr3 := (hb.frozen (p := ⟨w.heap.size, 3, none⟩) zr).trans fr3
  replace zr := Nat.lt_of_lt_of_le zr hb.size
  replace HB := hide (bl_trans HB.out hb)
  clear hb
  clear HM
  go_wp2_with fail
  refine (allDigitsI _ _ (by rw [HSW.out]; omega)).mono ?_
  rw [HDW.out]
  rintro e w3 ⟨rfl, hb⟩
  replace kr0 := (hb.cell (p := ⟨w.heap.size, 0, none⟩) zr).trans kr0
  replace fr0 := (hb.frozen (p := ⟨w.heap.size, 0, none⟩) zr).trans fr0
  replace kr1 := (hb.cell (p := ⟨w.heap.size, 1, none⟩) zr).trans kr1
  replace fr1 := (hb.frozen (p := ⟨w.heap.size, 1, none⟩) zr).trans fr1
  replace kr2 := (hb.cell (p := ⟨w.heap.size, 2, none⟩) zr).trans kr2
  replace fr2 := (hb.frozen (p := ⟨w.heap.size, 2, none⟩) zr).trans fr2
  replace kr3 := (hb.cell (p := ⟨w.heap.size, 3, none⟩) zr).trans kr3
  replace fr3 := (hb.frozen (p := ⟨w.heap.size, 3, none⟩) zr).trans fr3
  replace zr := Nat.lt_of_lt_of_le zr hb.size
  replace HB := hide (bl_trans HB.out hb)
  clear hb
  go_wp2
  refine bodyPost_ret (v := .tuple #[.agg #[.bool false, .slice none 0 0, .bool false, .slice none 0 0], .bool false]) (by simp [results, Tryz.results51, go_sem, *]) rfl ?_
  exact ans_no (ans_f rfl) (set_four (Nat.le_refl _) HB.out _ _ _ _)

set_option maxHeartbeats 8000000 in
set_option maxRecDepth 20000 in
theorem decNo3 (neg : Bool) (s : ByteArray) (A W P : List UInt8) (k : Int) (ok pt : Bool) (w : World) (hs : s.size ≤ 400) (hm : Mx w) (hcp : cpS s.data.toList = (A, k, ok)) (hcu : Lib.cut A [46] = (W, P, pt)) (hA : A.length ≤ 400) (hWP : W.length + P.length ≤ 400) (x y : Int) (h : ok = true) (hW : digOk ⟨W.toArray⟩ = true) (h2 : pt = true) (hP : digOk ⟨P.toArray⟩ = false) :
    Calls Tryz.prog 51 #[.bool neg, .string s] w fun e w' => RatAns false x y w w' e := by
  subst h
  subst h2
  have HDW := hide hW
  have HDP := hide hP
  clear hW hP
  have HCP := hide hcp
  have HCU := hide hcu
  have HM := hide hm
  clear hcp hcu hm
  have HSA : Hid ((⟨A.toArray⟩ : ByteArray).size = A.length) := hide (by rw [← bsize])
  have HSW : Hid ((⟨W.toArray⟩ : ByteArray).size = W.length) := hide (by rw [← bsize])
  have HSP : Hid ((⟨P.toArray⟩ : ByteArray).size = P.length) := hide (by rw [← bsize])
  have kr0 : (w.alloc (Obj.cells #[Value.bool false, Value.slice none 0 0, Value.bool false, Value.slice none 0 0] 42)).cell? ⟨w.heap.size, 0, none⟩ = some (Value.bool false) := by go_simp
  have fr0 : (w.alloc (Obj.cells #[Value.bool false, Value.slice none 0 0, Value.bool false, Value.slice none 0 0] 42)).frozen? ⟨w.heap.size, 0, none⟩ = false := by go_simp
  have kr1 : (w.alloc (Obj.cells #[Value.bool false, Value.slice none 0 0, Value.bool false, Value.slice none 0 0] 42)).cell? ⟨w.heap.size, 1, none⟩ = some (Value.slice none 0 0) := by go_simp
  have fr1 : (w.alloc (Obj.cells #[Value.bool false, Value.slice none 0 0, Value.bool false, Value.slice none 0 0] 42)).frozen? ⟨w.heap.size, 1, none⟩ = false := by go_simp
  have kr2 : (w.alloc (Obj.cells #[Value.bool false, Value.slice none 0 0, Value.bool false, Value.slice none 0 0] 42)).cell? ⟨w.heap.size, 2, none⟩ = some (Value.bool false) := by go_simp
  have fr2 : (w.alloc (Obj.cells #[Value.bool false, Value.slice none 0 0, Value.bool false, Value.slice none 0 0] 42)).frozen? ⟨w.heap.size, 2, none⟩ = false := by go_simp
  have kr3 : (w.alloc (Obj.cells #[Value.bool false, Value.slice none 0 0, Value.bool false, Value.slice none 0 0] 42)).cell? ⟨w.heap.size, 3, none⟩ = some (Value.slice none 0 0) := by go_simp
  have fr3 : (w.alloc (Obj.cells #[Value.bool false, Value.slice none 0 0, Value.bool false, Value.slice none 0 0] 42)).frozen? ⟨w.heap.size, 3, none⟩ = false := by go_simp
  have zr : w.heap.size < (w.alloc (Obj.cells #[Value.bool false, Value.slice none 0 0, Value.bool false, Value.slice none 0 0] 42)).heap.size := by simp only [World.size_alloc]; omega
  have HB := hide (bl_alloc (bl_refl w) (Obj.cells #[Value.bool false, Value.slice none 0 0, Value.bool false, Value.slice none 0 0] 42))
  replace HM := hide (HM.out.below HB.out)
  go_enter Tryz.func51, Tryz.ntmps51
  go_wp2_with fail
  generalize w.alloc (Obj.cells #[Value.bool false, Value.slice none 0 0, Value.bool false, Value.slice none 0 0] 42) = W0 at *
  refine (cutPlacesG s _ (by omega) HM.out).mono ?_
  rw [HCP.out]
  rintro e w1 ⟨rfl, hb⟩
  replace kr0 := (hb.cell (p := ⟨w.heap.size, 0, none⟩) zr).trans kr0
  replace fr0 := (hb.frozen (p := ⟨w.heap.size, 0, none⟩) zr).trans fr0
  replace kr1 := (hb.cell (p := ⟨w.heap.size, 1, none⟩) zr).trans kr1
  replace fr1 := (hb.frozen (p := ⟨w.heap.size, 1, none⟩) zr).trans fr1
  replace kr2 := (hb.cell (p := ⟨w.heap.size, 2, none⟩) zr).trans kr2
  replace fr2 := (hb.frozen (p := ⟨w.heap.size, 2, none⟩) zr).trans fr2
  replace kr3 := (hb.cell (p := ⟨w.heap.size, 3, none⟩) zr).trans kr3
  replace fr3 := (hb.frozen (p := ⟨w.heap.size, 3, none⟩) zr).trans fr3
  replace zr := Nat.lt_of_lt_of_le zr hb.size
  replace HM := hide (HM.out.below hb)
  replace HB := hide (bl_trans HB.out hb)
  clear hb
  go_wp2_with fail
  refine (cutI _ 46 _ (by rw [HSA.out]; omega) HM.out).mono ?_
  rw [show (⟨A.toArray⟩ : ByteArray).data.toList = A from rfl, HCU.out]
  rintro e w2 ⟨rfl, hb⟩
  replace kr0 := (hb.cell (p := ⟨w.heap.size, 0, none⟩) zr).trans kr0
  replace fr0 := (hb.frozen (p := ⟨w.heap.size, 0, none⟩) zr).trans fr0
  replace kr1 := (hb.cell (p := ⟨w.heap.size, 1, none⟩) zr).trans kr1
  replace fr1 := (hb.frozen (p := ⟨w.heap.size, 1, none⟩) zr).trans fr1
  replace kr2 := (hb.cell (p := ⟨w.heap.size, 2, none⟩) zr).trans kr2
  replace fr2 := (hb.frozen (p := ⟨w.heap.size, 2, none⟩) zr).trans fr2
  replace kr3 := (hb.cell (p := ⟨w.heap.size, 3, none⟩) zr).trans kr3
  replace fr3 := (hb.frozen (p := ⟨w.heap.size, 3, none⟩) zr).trans fr3
  replace zr := Nat.lt_of_lt_of_le zr hb.size
  replace HB := hide (bl_trans HB.out hb)
  clear hb
  clear HM
  go_wp2_with fail
  refine (allDigitsI _ _ (by rw [HSW.out]; omega)).mono ?_
  rw [HDW.out]
  rintro e w3 ⟨rfl, hb⟩
  replace kr0 := (hb.cell (p := ⟨w.heap.size, 0, none⟩) zr).trans kr0
  replace fr0 := (hb.frozen (p := ⟨w.heap.size, 0, none⟩) zr).trans fr0
  replace kr1 := (hb.cell (p := ⟨w.heap.size, 1, none⟩) zr).trans kr1
  replace fr1 := (hb.frozen (p := ⟨w.heap.size, 1, none⟩) zr).trans fr1
  replace kr2 := (hb.cell (p := ⟨w.heap.size, 2, none⟩) zr).trans kr2
  replace fr2 := (hb.frozen (p := ⟨w.heap.size, 2, none⟩) zr).trans fr2
  replace kr3 := (hb.cell (p := ⟨w.heap.size, 3, none⟩) zr).trans kr3
  replace fr3 := (hb.frozen (p := ⟨w.heap.size, 3, none⟩) zr).trans fr3
  replace zr := Nat.lt_of_lt_of_le zr hb.size
  replace HB := hide (bl_trans HB.out hb)
  clear hb
  go_wp2_with fail
  refine (allDigitsI _ _ (by rw [HSP.out]; omega)).mono ?_
  rw [HDP.out]
  rintro e w3b ⟨rfl, hb⟩
  replace kr0 := (hb.cell (p := ⟨w.heap.size, 0, none⟩) zr).trans kr0
  replace fr0 := (hb.frozen (p := ⟨w.heap.size, 0, none⟩) zr).trans fr0
  replace kr1 := (hb.cell (p := ⟨w.heap.size, 1, none⟩) zr).trans kr1
  replace fr1 := (hb.frozen (p := ⟨w.heap.size, 1, none⟩) zr).trans fr1
  replace kr2 := (hb.cell (p := ⟨w.heap.size, 2, none⟩) zr).trans kr2
  replace fr2 := (hb.frozen (p := ⟨w.heap.size, 2, none⟩) zr).trans fr2
  replace kr3 := (hb.cell (p := ⟨w.heap.size, 3, none⟩) zr).trans kr3
  replace fr3 := (hb.frozen (p := ⟨w.heap.size, 3, none⟩) zr).trans fr3
  replace zr := Nat.lt_of_lt_of_le zr hb.size
  replace HB := hide (bl_trans HB.out hb)
  clear hb
  go_wp2
  refine bodyPost_ret (v := .tuple #[.agg #[.bool false, .slice none 0 0, .bool false, .slice none 0 0], .bool false]) (by simp [results, Tryz.results51, go_sem, *]) rfl ?_
  exact ans_no (ans_f rfl) (set_four (Nat.le_refl _) HB.out _ _ _ _)

end Go.Proofs.YtkemplmhemnpbaaGreatDoor

/- The walk of readDecimal of the program at a text that it takes. -/
namespace Go.Proofs.YtkemplmhemnpbaaGreatDoor
open Go.RowKit
set_option linter.unusedVariables false

theorem app_two (A B : List UInt8) : (⟨A.toArray⟩ : ByteArray) ++ ⟨B.toArray⟩ = ⟨(A ++ B).toArray⟩ := ByteArray.ext (Array.ext' (by simp))
theorem mul_len {x y : Int} {m n : Nat} (hx : (lms x).length ≤ m) (hy : (lms y).length ≤ n) : (lms (x * y)).length ≤ m + n := by
  refine Num.limbs_len.2 ?_
  have h1 := Num.limbs_len.1 hx
  have h2 := Num.limbs_len.1 hy
  rw [Int.natAbs_mul, Nat.pow_add]
  exact Nat.mul_lt_mul'' h1 h2
set_option maxHeartbeats 8000000 in
set_option maxRecDepth 20000 in
theorem decYesP (neg : Bool) (s : ByteArray) (A W P : List UInt8) (k : Int) (ok pt : Bool) (w : World) (hs : s.size ≤ 400) (hm : Mx w) (hcp : cpS s.data.toList = (A, k, ok)) (hcu : Lib.cut A [46] = (W, P, pt)) (hA : A.length ≤ 400) (hWP : W.length + P.length ≤ 400) (n : Nat) (x X Y : Int) (h : ok = true) (hW : digOk ⟨W.toArray⟩ = true) (h2 : pt = true) (hP : digOk ⟨P.toArray⟩ = true) (hAD : digAll (W ++ P) = true) (hk : -1000 < k ∧ k < 1000) (hx : mk neg (valN (W ++ P)) = x) (hn : k - (P.length : Int) = (n : Int)) (hX : x * 10 ^ n = X) (hY : (1 : Int) = Y) :
    Calls Tryz.prog 51 #[.bool neg, .string s] w fun e w' => RatAns true X Y w w' e := by
  subst h
  subst h2
  have HDW := hide hW
  have HDP := hide hP
  have HAD := hide hAD
  have HX := hide hx
  have HXX := hide hX
  clear hW hP hAD
  have lx : (lms x).length ≤ 200 := by rw [← HX.out]; exact lms_shortN HAD.out (by rw [List.length_append]; omega)
  have l10 : (lms ((10 : Int) ^ n)).length ≤ n + 1 := ten_len n
  have lX : (lms X).length ≤ 200 + (n + 1) := by rw [← HXX.out]; exact mul_len lx l10
  have ly : (lms 1).length ≤ 40 := Num.limbs_len.2 (by decide)
  have l1 : (lms 10).length ≤ 40 := Num.limbs_len.2 (by decide)
  clear hx hX
  subst hY
  have HNN := hide hn
  have hn2 : n < 1000 := by omega
  have HFT := hide (ans_ft (t := true) (x := X) (y := 1) rfl (by decide))
  obtain ⟨p, hp⟩ : ∃ p, X / sgG X 1 = p := ⟨_, rfl⟩
  obtain ⟨q, hq⟩ : ∃ q, 1 / sgG X 1 = q := ⟨_, rfl⟩
  have HPQ := hide (And.intro hp hq)
  clear hp hq
  have HCP := hide hcp
  have HCU := hide hcu
  have HM := hide hm
  clear hcp hcu hm
  have HSA : Hid ((⟨A.toArray⟩ : ByteArray).size = A.length) := hide (by rw [← bsize])
  have HSW : Hid ((⟨W.toArray⟩ : ByteArray).size = W.length) := hide (by rw [← bsize])
  have HSP : Hid ((⟨P.toArray⟩ : ByteArray).size = P.length) := hide (by rw [← bsize])
  have kr0 : (w.alloc (Obj.cells #[Value.bool false, Value.slice none 0 0, Value.bool false, Value.slice none 0 0] 42)).cell? ⟨w.heap.size, 0, none⟩ = some (Value.bool false) := by go_simp
  have fr0 : (w.alloc (Obj.cells #[Value.bool false, Value.slice none 0 0, Value.bool false, Value.slice none 0 0] 42)).frozen? ⟨w.heap.size, 0, none⟩ = false := by go_simp
  have kr1 : (w.alloc (Obj.cells #[Value.bool false, Value.slice none 0 0, Value.bool false, Value.slice none 0 0] 42)).cell? ⟨w.heap.size, 1, none⟩ = some (Value.slice none 0 0) := by go_simp
  have fr1 : (w.alloc (Obj.cells #[Value.bool false, Value.slice none 0 0, Value.bool false, Value.slice none 0 0] 42)).frozen? ⟨w.heap.size, 1, none⟩ = false := by go_simp
  have kr2 : (w.alloc (Obj.cells #[Value.bool false, Value.slice none 0 0, Value.bool false, Value.slice none 0 0] 42)).cell? ⟨w.heap.size, 2, none⟩ = some (Value.bool false) := by go_simp
  have fr2 : (w.alloc (Obj.cells #[Value.bool false, Value.slice none 0 0, Value.bool false, Value.slice none 0 0] 42)).frozen? ⟨w.heap.size, 2, none⟩ = false := by go_simp
  have kr3 : (w.alloc (Obj.cells #[Value.bool false, Value.slice none 0 0, Value.bool false, Value.slice none 0 0] 42)).cell? ⟨w.heap.size, 3, none⟩ = some (Value.slice none 0 0) := by go_simp
  have fr3 : (w.alloc (Obj.cells #[Value.bool false, Value.slice none 0 0, Value.bool false, Value.slice none 0 0] 42)).frozen? ⟨w.heap.size, 3, none⟩ = false := by go_simp
  have zr : w.heap.size < (w.alloc (Obj.cells #[Value.bool false, Value.slice none 0 0, Value.bool false, Value.slice none 0 0] 42)).heap.size := by simp only [World.size_alloc]; omega
  have HB := hide (bl_alloc (bl_refl w) (Obj.cells #[Value.bool false, Value.slice none 0 0, Value.bool false, Value.slice none 0 0] 42))
  replace HM := hide (HM.out.below HB.out)
  go_enter Tryz.func51, Tryz.ntmps51
  go_wp2_with fail
  generalize w.alloc (Obj.cells #[Value.bool false, Value.slice none 0 0, Value.bool false, Value.slice none 0 0] 42) = W0 at *
  refine (cutPlacesG s _ (by omega) HM.out).mono ?_
  rw [HCP.out]
  rintro e w1 ⟨rfl, hb⟩
  replace kr0 := (hb.cell (p := ⟨w.heap.size, 0, none⟩) zr).trans kr0
  replace fr0 := (hb.frozen (p := ⟨w.heap.size, 0, none⟩) zr).trans fr0
  replace kr1 := (hb.cell (p := ⟨w.heap.size, 1, none⟩) zr).trans kr1
  replace fr1 := (hb.frozen (p := ⟨w.heap.size, 1, none⟩) zr).trans fr1
  replace kr2 := (hb.cell (p := ⟨w.heap.size, 2, none⟩) zr).trans kr2
  replace fr2 := (hb.frozen (p := ⟨w.heap.size, 2, none⟩) zr).trans fr2
  replace kr3 := (hb.cell (p := ⟨w.heap.size, 3, none⟩) zr).trans kr3
  replace fr3 := (hb.frozen (p := ⟨w.heap.size, 3, none⟩) zr).trans fr3
  replace zr := Nat.lt_of_lt_of_le zr hb.size
  replace HM := hide (HM.out.below hb)
  replace HB := hide (bl_trans HB.out hb)
  clear hb
  go_wp2_with fail
  refine (cutI _ 46 _ (by rw [HSA.out]; omega) HM.out).mono ?_
  rw [show (⟨A.toArray⟩ : ByteArray).data.toList = A from rfl, HCU.out]
  rintro e w2 ⟨rfl, hb⟩
  replace kr0 := (hb.cell (p := ⟨w.heap.size, 0, none⟩) zr).trans kr0
  replace fr0 := (hb.frozen (p := ⟨w.heap.size, 0, none⟩) zr).trans fr0
  replace kr1 := (hb.cell (p := ⟨w.heap.size, 1, none⟩) zr).trans kr1
  replace fr1 := (hb.frozen (p := ⟨w.heap.size, 1, none⟩) zr).trans fr1
  replace kr2 := (hb.cell (p := ⟨w.heap.size, 2, none⟩) zr).trans kr2
  replace fr2 := (hb.frozen (p := ⟨w.heap.size, 2, none⟩) zr).trans fr2
  replace kr3 := (hb.cell (p := ⟨w.heap.size, 3, none⟩) zr).trans kr3
  replace fr3 := (hb.frozen (p := ⟨w.heap.size, 3, none⟩) zr).trans fr3
  replace zr := Nat.lt_of_lt_of_le zr hb.size
  replace HB := hide (bl_trans HB.out hb)
  clear hb
  clear HM
  go_wp2_with fail
  refine (allDigitsI _ _ (by rw [HSW.out]; omega)).mono ?_
  rw [HDW.out]
  rintro e w3 ⟨rfl, hb⟩
  replace kr0 := (hb.cell (p := ⟨w.heap.size, 0, none⟩) zr).trans kr0
  replace fr0 := (hb.frozen (p := ⟨w.heap.size, 0, none⟩) zr).trans fr0
  replace kr1 := (hb.cell (p := ⟨w.heap.size, 1, none⟩) zr).trans kr1
  replace fr1 := (hb.frozen (p := ⟨w.heap.size, 1, none⟩) zr).trans fr1
  replace kr2 := (hb.cell (p := ⟨w.heap.size, 2, none⟩) zr).trans kr2
  replace fr2 := (hb.frozen (p := ⟨w.heap.size, 2, none⟩) zr).trans fr2
  replace kr3 := (hb.cell (p := ⟨w.heap.size, 3, none⟩) zr).trans kr3
  replace fr3 := (hb.frozen (p := ⟨w.heap.size, 3, none⟩) zr).trans fr3
  replace zr := Nat.lt_of_lt_of_le zr hb.size
  replace HB := hide (bl_trans HB.out hb)
  clear hb
  go_wp2_with fail
  refine (allDigitsI _ _ (by rw [HSP.out]; omega)).mono ?_
  rw [HDP.out]
  rintro e w3b ⟨rfl, hb⟩
  replace kr0 := (hb.cell (p := ⟨w.heap.size, 0, none⟩) zr).trans kr0
  replace fr0 := (hb.frozen (p := ⟨w.heap.size, 0, none⟩) zr).trans fr0
  replace kr1 := (hb.cell (p := ⟨w.heap.size, 1, none⟩) zr).trans kr1
  replace fr1 := (hb.frozen (p := ⟨w.heap.size, 1, none⟩) zr).trans fr1
  replace kr2 := (hb.cell (p := ⟨w.heap.size, 2, none⟩) zr).trans kr2
  replace fr2 := (hb.frozen (p := ⟨w.heap.size, 2, none⟩) zr).trans fr2
  replace kr3 := (hb.cell (p := ⟨w.heap.size, 3, none⟩) zr).trans kr3
  replace fr3 := (hb.frozen (p := ⟨w.heap.size, 3, none⟩) zr).trans fr3
  replace zr := Nat.lt_of_lt_of_le zr hb.size
  replace HB := hide (bl_trans HB.out hb)
  clear hb
  have HSZ : Hid ((⟨(W ++ P).toArray⟩ : ByteArray).size ≤ 400) := hide (by rw [← bsize]; show (W ++ P).length ≤ 400; rw [List.length_append]; omega)
  go_wp2_with fail
  rw [app_two]
  refine (digitLimbsI ⟨(W ++ P).toArray⟩ _ HAD.out (Nat.le_trans HSZ.out (by decide))).mono ?_
  rintro e w4 ⟨a4, n4, c4, xs4, rfl, ho4, hn4, hv4, hb⟩
  have hb4 := hb.size
  have HO4 := hide ho4
  have HV4 := hide hv4
  clear ho4 hv4
  replace kr0 := (hb.cell (p := ⟨w.heap.size, 0, none⟩) zr).trans kr0
  replace fr0 := (hb.frozen (p := ⟨w.heap.size, 0, none⟩) zr).trans fr0
  replace kr1 := (hb.cell (p := ⟨w.heap.size, 1, none⟩) zr).trans kr1
  replace fr1 := (hb.frozen (p := ⟨w.heap.size, 1, none⟩) zr).trans fr1
  replace kr2 := (hb.cell (p := ⟨w.heap.size, 2, none⟩) zr).trans kr2
  replace fr2 := (hb.frozen (p := ⟨w.heap.size, 2, none⟩) zr).trans fr2
  replace kr3 := (hb.cell (p := ⟨w.heap.size, 3, none⟩) zr).trans kr3
  replace fr3 := (hb.frozen (p := ⟨w.heap.size, 3, none⟩) zr).trans fr3
  replace zr := Nat.lt_of_lt_of_le zr hb.size
  replace HB := hide (bl_trans HB.out hb)
  clear hb
  go_wp2_with fail
  refine (bigOfI neg a4 n4 c4 xs4 _ _ HO4.out hb4).mono ?_
  rw [HV4.out, HX.out]
  rintro e w5 ⟨v5, rfl, ⟨a5, c5, rfl, ho5⟩, hb⟩
  have S5 := hide ho5.seg
  clear ho5 HO4 HV4
  replace kr0 := (hb.cell (p := ⟨w.heap.size, 0, none⟩) zr).trans kr0
  replace fr0 := (hb.frozen (p := ⟨w.heap.size, 0, none⟩) zr).trans fr0
  replace kr1 := (hb.cell (p := ⟨w.heap.size, 1, none⟩) zr).trans kr1
  replace fr1 := (hb.frozen (p := ⟨w.heap.size, 1, none⟩) zr).trans fr1
  replace kr2 := (hb.cell (p := ⟨w.heap.size, 2, none⟩) zr).trans kr2
  replace fr2 := (hb.frozen (p := ⟨w.heap.size, 2, none⟩) zr).trans fr2
  replace kr3 := (hb.cell (p := ⟨w.heap.size, 3, none⟩) zr).trans kr3
  replace fr3 := (hb.frozen (p := ⟨w.heap.size, 3, none⟩) zr).trans fr3
  replace zr := Nat.lt_of_lt_of_le zr hb.size
  replace HB := hide (bl_trans HB.out hb)
  clear hb
  go_wp2_with fail
  refine (fromI 1 _ (by decide) (by decide)).mono ?_
  rintro e w6 ⟨v6, rfl, ⟨a6, c6, rfl, ho6⟩, hb⟩
  have O6 := hide ho6
  clear ho6
  replace kr0 := (hb.cell (p := ⟨w.heap.size, 0, none⟩) zr).trans kr0
  replace fr0 := (hb.frozen (p := ⟨w.heap.size, 0, none⟩) zr).trans fr0
  replace kr1 := (hb.cell (p := ⟨w.heap.size, 1, none⟩) zr).trans kr1
  replace fr1 := (hb.frozen (p := ⟨w.heap.size, 1, none⟩) zr).trans fr1
  replace kr2 := (hb.cell (p := ⟨w.heap.size, 2, none⟩) zr).trans kr2
  replace fr2 := (hb.frozen (p := ⟨w.heap.size, 2, none⟩) zr).trans fr2
  replace kr3 := (hb.cell (p := ⟨w.heap.size, 3, none⟩) zr).trans kr3
  replace fr3 := (hb.frozen (p := ⟨w.heap.size, 3, none⟩) zr).trans fr3
  replace zr := Nat.lt_of_lt_of_le zr hb.size
  replace S5 := hide (S5.out.below hb)
  replace HB := hide (bl_trans HB.out hb)
  clear hb
  have zr6 := zr
  have kn0 : ((w6.alloc (Obj.cells #[Value.bool (sgn x), Value.slice a5 (lms x).length c5] 40)).alloc (Obj.cells #[Value.bool (sgn 1), Value.slice a6 (lms 1).length c6] 40)).cell? ⟨w6.heap.size, 0, none⟩ = some (Value.bool (sgn x)) := by go_simp
  have kn1 : ((w6.alloc (Obj.cells #[Value.bool (sgn x), Value.slice a5 (lms x).length c5] 40)).alloc (Obj.cells #[Value.bool (sgn 1), Value.slice a6 (lms 1).length c6] 40)).cell? ⟨w6.heap.size, 1, none⟩ = some (Value.slice a5 (lms x).length c5) := by go_simp
  have fn0 : ((w6.alloc (Obj.cells #[Value.bool (sgn x), Value.slice a5 (lms x).length c5] 40)).alloc (Obj.cells #[Value.bool (sgn 1), Value.slice a6 (lms 1).length c6] 40)).frozen? ⟨w6.heap.size, 0, none⟩ = false := by go_simp
  have fn1 : ((w6.alloc (Obj.cells #[Value.bool (sgn x), Value.slice a5 (lms x).length c5] 40)).alloc (Obj.cells #[Value.bool (sgn 1), Value.slice a6 (lms 1).length c6] 40)).frozen? ⟨w6.heap.size, 1, none⟩ = false := by go_simp
  have zn : w6.heap.size < ((w6.alloc (Obj.cells #[Value.bool (sgn x), Value.slice a5 (lms x).length c5] 40)).alloc (Obj.cells #[Value.bool (sgn 1), Value.slice a6 (lms 1).length c6] 40)).heap.size := by simp only [World.size_alloc]; omega
  have kd0 : ((w6.alloc (Obj.cells #[Value.bool (sgn x), Value.slice a5 (lms x).length c5] 40)).alloc (Obj.cells #[Value.bool (sgn 1), Value.slice a6 (lms 1).length c6] 40)).cell? ⟨w6.heap.size + 1, 0, none⟩ = some (Value.bool (sgn 1)) := by go_simp
  have kd1 : ((w6.alloc (Obj.cells #[Value.bool (sgn x), Value.slice a5 (lms x).length c5] 40)).alloc (Obj.cells #[Value.bool (sgn 1), Value.slice a6 (lms 1).length c6] 40)).cell? ⟨w6.heap.size + 1, 1, none⟩ = some (Value.slice a6 (lms 1).length c6) := by go_simp
  have fd0 : ((w6.alloc (Obj.cells #[Value.bool (sgn x), Value.slice a5 (lms x).length c5] 40)).alloc (Obj.cells #[Value.bool (sgn 1), Value.slice a6 (lms 1).length c6] 40)).frozen? ⟨w6.heap.size + 1, 0, none⟩ = false := by go_simp
  have fd1 : ((w6.alloc (Obj.cells #[Value.bool (sgn x), Value.slice a5 (lms x).length c5] 40)).alloc (Obj.cells #[Value.bool (sgn 1), Value.slice a6 (lms 1).length c6] 40)).frozen? ⟨w6.heap.size + 1, 1, none⟩ = false := by go_simp
  have zd : w6.heap.size + 1 < ((w6.alloc (Obj.cells #[Value.bool (sgn x), Value.slice a5 (lms x).length c5] 40)).alloc (Obj.cells #[Value.bool (sgn 1), Value.slice a6 (lms 1).length c6] 40)).heap.size := by simp only [World.size_alloc]; omega
  have hbn := bl_alloc (bl_alloc (bl_refl w6) (Obj.cells #[Value.bool (sgn x), Value.slice a5 (lms x).length c5] 40)) (Obj.cells #[Value.bool (sgn 1), Value.slice a6 (lms 1).length c6] 40)
  have HW7 := hide hbn
  replace kr0 := (hbn.cell (p := ⟨w.heap.size, 0, none⟩) zr).trans kr0
  replace fr0 := (hbn.frozen (p := ⟨w.heap.size, 0, none⟩) zr).trans fr0
  replace kr1 := (hbn.cell (p := ⟨w.heap.size, 1, none⟩) zr).trans kr1
  replace fr1 := (hbn.frozen (p := ⟨w.heap.size, 1, none⟩) zr).trans fr1
  replace kr2 := (hbn.cell (p := ⟨w.heap.size, 2, none⟩) zr).trans kr2
  replace fr2 := (hbn.frozen (p := ⟨w.heap.size, 2, none⟩) zr).trans fr2
  replace kr3 := (hbn.cell (p := ⟨w.heap.size, 3, none⟩) zr).trans kr3
  replace fr3 := (hbn.frozen (p := ⟨w.heap.size, 3, none⟩) zr).trans fr3
  replace zr := Nat.lt_of_lt_of_le zr hbn.size
  replace S5 := hide (S5.out.below hbn)
  replace HB := hide (bl_trans HB.out hbn)
  clear hbn
  have HSP2 := HSP.out
  go_upto_region 9 with fail
  generalize ((w6.alloc (Obj.cells #[Value.bool (sgn x), Value.slice a5 (lms x).length c5] 40)).alloc (Obj.cells #[Value.bool (sgn 1), Value.slice a6 (lms 1).length c6] 40)) = w7 at *
  go_region_with
    (first
      | (go_at_call 42; refine (fromI 10 _ (by decide) (by decide)).mono ?_; rintro e wA ⟨vA, rfl, ⟨aA, cA, rfl, hoA⟩, hbAr⟩; have hbA : Below w7.heap.size w7 wA := (bl_refl w7).drew.trans hbAr; have yA := hbA.size; have kn0 := (hbAr.cell (p := ⟨w6.heap.size, 0, none⟩) (by dsimp only; rw [World.size_drew]; omega)).trans kn0; have kn1 := (hbAr.cell (p := ⟨w6.heap.size, 1, none⟩) (by dsimp only; rw [World.size_drew]; omega)).trans kn1)
      | (go_at_call 84; refine (tenI (.agg #[.bool (sgn 10), .slice aA (lms 10).length cA]) n _ _ ⟨aA, cA, rfl, hoA.seg⟩ (by omega) (by omega)).mono ?_; rintro e wB ⟨vB, rfl, ⟨aB, cB, rfl, hoB⟩, hbBr⟩; have hbB : Below w7.heap.size w7 wB := bl_trans hbA hbBr; have yB := hbBr.size; have kn0 := (hbBr.cell (p := ⟨w6.heap.size, 0, none⟩) (by dsimp only; omega)).trans kn0; have kn1 := (hbBr.cell (p := ⟨w6.heap.size, 1, none⟩) (by dsimp only; omega)).trans kn1)
      | (go_at_call 85; refine (prodXY (.agg #[.bool (sgn x), .slice a5 (lms x).length c5]) (.agg #[.bool (sgn (10 ^ n)), .slice aB (lms (10 ^ n)).length cB]) x (10 ^ n) _ ⟨a5, c5, rfl, S5.out.below hbB⟩ ⟨aB, cB, rfl, hoB.seg⟩ (by omega) (by omega)).mono ?_; rw [HXX.out]; rintro e wC ⟨vC, rfl, ⟨aC, cC, rfl, hoC⟩, hbCr⟩; have hbC : Below w7.heap.size w7 wC := bl_trans hbB hbCr; have yC := hbCr.size; have kn0 := (hbCr.cell (p := ⟨w6.heap.size, 0, none⟩) (by dsimp only; omega)).trans kn0; have kn1 := (hbCr.cell (p := ⟨w6.heap.size, 1, none⟩) (by dsimp only; omega)).trans kn1; have fn0 := (hbC.frozen (p := ⟨w6.heap.size, 0, none⟩) zn).trans fn0; have fn1 := (hbC.frozen (p := ⟨w6.heap.size, 1, none⟩) zn).trans fn1))
  all_goals
    have m0 : ((wC.setCell ⟨w6.heap.size, 0, none⟩ (Value.bool (sgn X))).setCell ⟨w6.heap.size, 1, none⟩ (Value.slice aC (lms X).length cC)).cell? ⟨w6.heap.size, 0, none⟩ = some (Value.bool (sgn X)) := by go_simp
    have m1 : ((wC.setCell ⟨w6.heap.size, 0, none⟩ (Value.bool (sgn X))).setCell ⟨w6.heap.size, 1, none⟩ (Value.slice aC (lms X).length cC)).cell? ⟨w6.heap.size, 1, none⟩ = some (Value.slice aC (lms X).length cC) := by go_simp
    replace kr0 := (cel2 (w1 := wC) (N := w6.heap.size) (p := ⟨w.heap.size, 0, none⟩) (by dsimp only; omega) (Value.bool (sgn X)) (Value.slice aC (lms X).length cC)).trans ((hbC.cell (p := ⟨w.heap.size, 0, none⟩) zr).trans kr0)
    replace fr0 := (fro2 (w1 := wC) (N := w6.heap.size) (p := ⟨w.heap.size, 0, none⟩) (by dsimp only; omega) (Value.bool (sgn X)) (Value.slice aC (lms X).length cC)).trans ((hbC.frozen (p := ⟨w.heap.size, 0, none⟩) zr).trans fr0)
    replace kr1 := (cel2 (w1 := wC) (N := w6.heap.size) (p := ⟨w.heap.size, 1, none⟩) (by dsimp only; omega) (Value.bool (sgn X)) (Value.slice aC (lms X).length cC)).trans ((hbC.cell (p := ⟨w.heap.size, 1, none⟩) zr).trans kr1)
    replace fr1 := (fro2 (w1 := wC) (N := w6.heap.size) (p := ⟨w.heap.size, 1, none⟩) (by dsimp only; omega) (Value.bool (sgn X)) (Value.slice aC (lms X).length cC)).trans ((hbC.frozen (p := ⟨w.heap.size, 1, none⟩) zr).trans fr1)
    replace kr2 := (cel2 (w1 := wC) (N := w6.heap.size) (p := ⟨w.heap.size, 2, none⟩) (by dsimp only; omega) (Value.bool (sgn X)) (Value.slice aC (lms X).length cC)).trans ((hbC.cell (p := ⟨w.heap.size, 2, none⟩) zr).trans kr2)
    replace fr2 := (fro2 (w1 := wC) (N := w6.heap.size) (p := ⟨w.heap.size, 2, none⟩) (by dsimp only; omega) (Value.bool (sgn X)) (Value.slice aC (lms X).length cC)).trans ((hbC.frozen (p := ⟨w.heap.size, 2, none⟩) zr).trans fr2)
    replace kr3 := (cel2 (w1 := wC) (N := w6.heap.size) (p := ⟨w.heap.size, 3, none⟩) (by dsimp only; omega) (Value.bool (sgn X)) (Value.slice aC (lms X).length cC)).trans ((hbC.cell (p := ⟨w.heap.size, 3, none⟩) zr).trans kr3)
    replace fr3 := (fro2 (w1 := wC) (N := w6.heap.size) (p := ⟨w.heap.size, 3, none⟩) (by dsimp only; omega) (Value.bool (sgn X)) (Value.slice aC (lms X).length cC)).trans ((hbC.frozen (p := ⟨w.heap.size, 3, none⟩) zr).trans fr3)
    replace kd0 := (cel2 (w1 := wC) (N := w6.heap.size) (p := ⟨w6.heap.size + 1, 0, none⟩) (by dsimp only; omega) (Value.bool (sgn X)) (Value.slice aC (lms X).length cC)).trans ((hbC.cell (p := ⟨w6.heap.size + 1, 0, none⟩) zd).trans kd0)
    replace kd1 := (cel2 (w1 := wC) (N := w6.heap.size) (p := ⟨w6.heap.size + 1, 1, none⟩) (by dsimp only; omega) (Value.bool (sgn X)) (Value.slice aC (lms X).length cC)).trans ((hbC.cell (p := ⟨w6.heap.size + 1, 1, none⟩) zd).trans kd1)
    have SN := hide (seg_on hoC (N := w6.heap.size) (by omega) (Value.bool (sgn X)) (Value.slice aC (lms X).length cC))
    have SD := hide (seg_off O6.out (bl_trans HW7.out hbC) (Nat.le_refl _) (Value.bool (sgn X)) (Value.slice aC (lms X).length cC))
    replace HB := hide (((bl_trans HB.out hbC).setCell (p := ⟨w6.heap.size, 0, none⟩) (by dsimp only; omega) (Value.bool (sgn X))).setCell (p := ⟨w6.heap.size, 1, none⟩) (by dsimp only; omega) (Value.slice aC (lms X).length cC))
    replace zr : w.heap.size < ((wC.setCell ⟨w6.heap.size, 0, none⟩ (Value.bool (sgn X))).setCell ⟨w6.heap.size, 1, none⟩ (Value.slice aC (lms X).length cC)).heap.size := by (simp only [World.size_setCell]; omega)
    clear kn0 kn1 fn0 fn1 fd0 fd1 zd zn S5 O6 HW7 hoA hoB hoC hbA hbAr hbB hbBr hbC hbCr
    go_wp2_with fail
    generalize ((wC.setCell ⟨w6.heap.size, 0, none⟩ (Value.bool (sgn X))).setCell ⟨w6.heap.size, 1, none⟩ (Value.slice aC (lms X).length cC)) = w8 at *
    refine (shortI' X 1 aC cC a6 c6 _ SN.out SD.out (by decide) (by omega) (by omega)).mono ?_
    rw [HPQ.out.1, HPQ.out.2]
    rintro e w9 ⟨b1, e1, b2, e2, rfl, ho1, ho2, hap, hb⟩
    have zr8 := zr
    have HO1 := hide ho1
    have HO2 := hide ho2
    have HAP := hide hap
    clear ho1 ho2 hap m0 m1 kd0 kd1 SN SD
    replace kr0 := (hb.cell (p := ⟨w.heap.size, 0, none⟩) zr).trans kr0
    replace fr0 := (hb.frozen (p := ⟨w.heap.size, 0, none⟩) zr).trans fr0
    replace kr1 := (hb.cell (p := ⟨w.heap.size, 1, none⟩) zr).trans kr1
    replace fr1 := (hb.frozen (p := ⟨w.heap.size, 1, none⟩) zr).trans fr1
    replace kr2 := (hb.cell (p := ⟨w.heap.size, 2, none⟩) zr).trans kr2
    replace fr2 := (hb.frozen (p := ⟨w.heap.size, 2, none⟩) zr).trans fr2
    replace kr3 := (hb.cell (p := ⟨w.heap.size, 3, none⟩) zr).trans kr3
    replace fr3 := (hb.frozen (p := ⟨w.heap.size, 3, none⟩) zr).trans fr3
    replace zr := Nat.lt_of_lt_of_le zr hb.size
    replace HB := hide (bl_trans HB.out hb)
    clear hb
    cases hft : ftT p q with
    | false =>
      go_wp2_with fail
      refine (fitI p q b1 e1 b2 e2 _ HO1.out.seg HO2.out.seg).mono ?_
      rw [ftV_f hft, hft]
      rintro e w10 ⟨rfl, hb⟩
      replace kr0 := (hb.cell (p := ⟨w.heap.size, 0, none⟩) zr).trans kr0
      replace fr0 := (hb.frozen (p := ⟨w.heap.size, 0, none⟩) zr).trans fr0
      replace kr1 := (hb.cell (p := ⟨w.heap.size, 1, none⟩) zr).trans kr1
      replace fr1 := (hb.frozen (p := ⟨w.heap.size, 1, none⟩) zr).trans fr1
      replace kr2 := (hb.cell (p := ⟨w.heap.size, 2, none⟩) zr).trans kr2
      replace fr2 := (hb.frozen (p := ⟨w.heap.size, 2, none⟩) zr).trans fr2
      replace kr3 := (hb.cell (p := ⟨w.heap.size, 3, none⟩) zr).trans kr3
      replace fr3 := (hb.frozen (p := ⟨w.heap.size, 3, none⟩) zr).trans fr3
      replace zr := Nat.lt_of_lt_of_le zr hb.size
      replace HB := hide (bl_trans HB.out hb)
      clear hb
      go_wp2
      refine bodyPost_ret (v := .tuple #[.agg #[.bool false, .slice none 0 0, .bool false, .slice none 0 0], .bool false]) (by simp [results, Tryz.results51, go_sem, *]) rfl ?_
      exact ans_no (by rw [HFT.out, HPQ.out.1, HPQ.out.2]; exact hft) (set_four (Nat.le_refl _) HB.out _ _ _ _)
    | true =>
      go_wp2_with fail
      refine (fitI p q b1 e1 b2 e2 _ HO1.out.seg HO2.out.seg).mono ?_
      rw [ftV_t hft, hft]
      rintro e w10 ⟨rfl, hb⟩
      replace kr0 := (hb.cell (p := ⟨w.heap.size, 0, none⟩) zr).trans kr0
      replace fr0 := (hb.frozen (p := ⟨w.heap.size, 0, none⟩) zr).trans fr0
      replace kr1 := (hb.cell (p := ⟨w.heap.size, 1, none⟩) zr).trans kr1
      replace fr1 := (hb.frozen (p := ⟨w.heap.size, 1, none⟩) zr).trans fr1
      replace kr2 := (hb.cell (p := ⟨w.heap.size, 2, none⟩) zr).trans kr2
      replace fr2 := (hb.frozen (p := ⟨w.heap.size, 2, none⟩) zr).trans fr2
      replace kr3 := (hb.cell (p := ⟨w.heap.size, 3, none⟩) zr).trans kr3
      replace fr3 := (hb.frozen (p := ⟨w.heap.size, 3, none⟩) zr).trans fr3
      replace zr := Nat.lt_of_lt_of_le zr hb.size
      replace HO1 := hide (HO1.out.below hb)
      replace HO2 := hide (HO2.out.below hb)
      replace HB := hide (bl_trans HB.out hb)
      clear hb
      go_wp2
      refine bodyPost_ret (v := .tuple #[.agg #[.bool (sgn p), .slice b1 (lms p).length e1, .bool (sgn q), .slice b2 (lms q).length e2], .bool true]) (by simp [results, Tryz.results51, go_sem, *]) rfl ?_
      have h1 := own_four' (lo := w.heap.size) HO1.out (show w.heap.size < _ by omega) (by omega) (Value.bool (sgn p)) (Value.slice b1 (lms p).length e1) (Value.bool (sgn q)) (Value.slice b2 (lms q).length e2)
      have h2 := own_four' (lo := w.heap.size) HO2.out (show w.heap.size < _ by omega) (by omega) (Value.bool (sgn p)) (Value.slice b1 (lms p).length e1) (Value.bool (sgn q)) (Value.slice b2 (lms q).length e2)
      have ha := ans_yes (t := true) (x := X) (y := 1) (w := w) (a1 := b1) (a2 := b2) (c1 := e1) (c2 := e2) (by rw [HFT.out, HPQ.out.1, HPQ.out.2]; exact hft) (by rw [HPQ.out.1]; exact h1) (by rw [HPQ.out.2]; exact h2) HAP.out (set_four (Nat.le_refl _) HB.out _ _ _ _)
      rw [HPQ.out.1, HPQ.out.2] at ha
      exact ha

set_option maxHeartbeats 8000000 in
set_option maxRecDepth 20000 in
theorem decYesQ (neg : Bool) (s : ByteArray) (A W P : List UInt8) (k : Int) (ok pt : Bool) (w : World) (hs : s.size ≤ 400) (hm : Mx w) (hcp : cpS s.data.toList = (A, k, ok)) (hcu : Lib.cut A [46] = (W, P, pt)) (hA : A.length ≤ 400) (hWP : W.length + P.length ≤ 400) (n : Nat) (x X Y : Int) (h : ok = true) (hW : digOk ⟨W.toArray⟩ = true) (h2 : pt = false) (hP : P = []) (hAD : digAll (W ++ P) = true) (hk : -1000 < k ∧ k < 1000) (hx : mk neg (valN (W ++ P)) = x) (hn : k - (P.length : Int) = (n : Int)) (hX : x * 10 ^ n = X) (hY : (1 : Int) = Y) :
    Calls Tryz.prog 51 #[.bool neg, .string s] w fun e w' => RatAns true X Y w w' e := by
  subst h
  subst h2
  have HDW := hide hW
  have HDP := hide hP
  have HAD := hide hAD
  have HX := hide hx
  have HXX := hide hX
  clear hW hP hAD
  have lx : (lms x).length ≤ 200 := by rw [← HX.out]; exact lms_shortN HAD.out (by rw [List.length_append]; omega)
  have l10 : (lms ((10 : Int) ^ n)).length ≤ n + 1 := ten_len n
  have lX : (lms X).length ≤ 200 + (n + 1) := by rw [← HXX.out]; exact mul_len lx l10
  have ly : (lms 1).length ≤ 40 := Num.limbs_len.2 (by decide)
  have l1 : (lms 10).length ≤ 40 := Num.limbs_len.2 (by decide)
  clear hx hX
  subst hY
  have HNN := hide hn
  have hn2 : n < 1000 := by omega
  have HFT := hide (ans_ft (t := true) (x := X) (y := 1) rfl (by decide))
  obtain ⟨p, hp⟩ : ∃ p, X / sgG X 1 = p := ⟨_, rfl⟩
  obtain ⟨q, hq⟩ : ∃ q, 1 / sgG X 1 = q := ⟨_, rfl⟩
  have HPQ := hide (And.intro hp hq)
  clear hp hq
  have HCP := hide hcp
  have HCU := hide hcu
  have HM := hide hm
  clear hcp hcu hm
  have HSA : Hid ((⟨A.toArray⟩ : ByteArray).size = A.length) := hide (by rw [← bsize])
  have HSW : Hid ((⟨W.toArray⟩ : ByteArray).size = W.length) := hide (by rw [← bsize])
  have HSP : Hid ((⟨P.toArray⟩ : ByteArray).size = P.length) := hide (by rw [← bsize])
  have kr0 : (w.alloc (Obj.cells #[Value.bool false, Value.slice none 0 0, Value.bool false, Value.slice none 0 0] 42)).cell? ⟨w.heap.size, 0, none⟩ = some (Value.bool false) := by go_simp
  have fr0 : (w.alloc (Obj.cells #[Value.bool false, Value.slice none 0 0, Value.bool false, Value.slice none 0 0] 42)).frozen? ⟨w.heap.size, 0, none⟩ = false := by go_simp
  have kr1 : (w.alloc (Obj.cells #[Value.bool false, Value.slice none 0 0, Value.bool false, Value.slice none 0 0] 42)).cell? ⟨w.heap.size, 1, none⟩ = some (Value.slice none 0 0) := by go_simp
  have fr1 : (w.alloc (Obj.cells #[Value.bool false, Value.slice none 0 0, Value.bool false, Value.slice none 0 0] 42)).frozen? ⟨w.heap.size, 1, none⟩ = false := by go_simp
  have kr2 : (w.alloc (Obj.cells #[Value.bool false, Value.slice none 0 0, Value.bool false, Value.slice none 0 0] 42)).cell? ⟨w.heap.size, 2, none⟩ = some (Value.bool false) := by go_simp
  have fr2 : (w.alloc (Obj.cells #[Value.bool false, Value.slice none 0 0, Value.bool false, Value.slice none 0 0] 42)).frozen? ⟨w.heap.size, 2, none⟩ = false := by go_simp
  have kr3 : (w.alloc (Obj.cells #[Value.bool false, Value.slice none 0 0, Value.bool false, Value.slice none 0 0] 42)).cell? ⟨w.heap.size, 3, none⟩ = some (Value.slice none 0 0) := by go_simp
  have fr3 : (w.alloc (Obj.cells #[Value.bool false, Value.slice none 0 0, Value.bool false, Value.slice none 0 0] 42)).frozen? ⟨w.heap.size, 3, none⟩ = false := by go_simp
  have zr : w.heap.size < (w.alloc (Obj.cells #[Value.bool false, Value.slice none 0 0, Value.bool false, Value.slice none 0 0] 42)).heap.size := by simp only [World.size_alloc]; omega
  have HB := hide (bl_alloc (bl_refl w) (Obj.cells #[Value.bool false, Value.slice none 0 0, Value.bool false, Value.slice none 0 0] 42))
  replace HM := hide (HM.out.below HB.out)
  go_enter Tryz.func51, Tryz.ntmps51
  go_wp2_with fail
  generalize w.alloc (Obj.cells #[Value.bool false, Value.slice none 0 0, Value.bool false, Value.slice none 0 0] 42) = W0 at *
  refine (cutPlacesG s _ (by omega) HM.out).mono ?_
  rw [HCP.out]
  rintro e w1 ⟨rfl, hb⟩
  replace kr0 := (hb.cell (p := ⟨w.heap.size, 0, none⟩) zr).trans kr0
  replace fr0 := (hb.frozen (p := ⟨w.heap.size, 0, none⟩) zr).trans fr0
  replace kr1 := (hb.cell (p := ⟨w.heap.size, 1, none⟩) zr).trans kr1
  replace fr1 := (hb.frozen (p := ⟨w.heap.size, 1, none⟩) zr).trans fr1
  replace kr2 := (hb.cell (p := ⟨w.heap.size, 2, none⟩) zr).trans kr2
  replace fr2 := (hb.frozen (p := ⟨w.heap.size, 2, none⟩) zr).trans fr2
  replace kr3 := (hb.cell (p := ⟨w.heap.size, 3, none⟩) zr).trans kr3
  replace fr3 := (hb.frozen (p := ⟨w.heap.size, 3, none⟩) zr).trans fr3
  replace zr := Nat.lt_of_lt_of_le zr hb.size
  replace HM := hide (HM.out.below hb)
  replace HB := hide (bl_trans HB.out hb)
  clear hb
  go_wp2_with fail
  refine (cutI _ 46 _ (by rw [HSA.out]; omega) HM.out).mono ?_
  rw [show (⟨A.toArray⟩ : ByteArray).data.toList = A from rfl, HCU.out]
  rintro e w2 ⟨rfl, hb⟩
  replace kr0 := (hb.cell (p := ⟨w.heap.size, 0, none⟩) zr).trans kr0
  replace fr0 := (hb.frozen (p := ⟨w.heap.size, 0, none⟩) zr).trans fr0
  replace kr1 := (hb.cell (p := ⟨w.heap.size, 1, none⟩) zr).trans kr1
  replace fr1 := (hb.frozen (p := ⟨w.heap.size, 1, none⟩) zr).trans fr1
  replace kr2 := (hb.cell (p := ⟨w.heap.size, 2, none⟩) zr).trans kr2
  replace fr2 := (hb.frozen (p := ⟨w.heap.size, 2, none⟩) zr).trans fr2
  replace kr3 := (hb.cell (p := ⟨w.heap.size, 3, none⟩) zr).trans kr3
  replace fr3 := (hb.frozen (p := ⟨w.heap.size, 3, none⟩) zr).trans fr3
  replace zr := Nat.lt_of_lt_of_le zr hb.size
  replace HB := hide (bl_trans HB.out hb)
  clear hb
  clear HM
  go_wp2_with fail
  refine (allDigitsI _ _ (by rw [HSW.out]; omega)).mono ?_
  rw [HDW.out]
  rintro e w3 ⟨rfl, hb⟩
  replace kr0 := (hb.cell (p := ⟨w.heap.size, 0, none⟩) zr).trans kr0
  replace fr0 := (hb.frozen (p := ⟨w.heap.size, 0, none⟩) zr).trans fr0
  replace kr1 := (hb.cell (p := ⟨w.heap.size, 1, none⟩) zr).trans kr1
  replace fr1 := (hb.frozen (p := ⟨w.heap.size, 1, none⟩) zr).trans fr1
  replace kr2 := (hb.cell (p := ⟨w.heap.size, 2, none⟩) zr).trans kr2
  replace fr2 := (hb.frozen (p := ⟨w.heap.size, 2, none⟩) zr).trans fr2
  replace kr3 := (hb.cell (p := ⟨w.heap.size, 3, none⟩) zr).trans kr3
  replace fr3 := (hb.frozen (p := ⟨w.heap.size, 3, none⟩) zr).trans fr3
  replace zr := Nat.lt_of_lt_of_le zr hb.size
  replace HB := hide (bl_trans HB.out hb)
  clear hb
  have HSZ : Hid ((⟨(W ++ P).toArray⟩ : ByteArray).size ≤ 400) := hide (by rw [← bsize]; show (W ++ P).length ≤ 400; rw [List.length_append]; omega)
  go_wp2_with fail
  rw [app_two]
  refine (digitLimbsI ⟨(W ++ P).toArray⟩ _ HAD.out (Nat.le_trans HSZ.out (by decide))).mono ?_
  rintro e w4 ⟨a4, n4, c4, xs4, rfl, ho4, hn4, hv4, hb⟩
  have hb4 := hb.size
  have HO4 := hide ho4
  have HV4 := hide hv4
  clear ho4 hv4
  replace kr0 := (hb.cell (p := ⟨w.heap.size, 0, none⟩) zr).trans kr0
  replace fr0 := (hb.frozen (p := ⟨w.heap.size, 0, none⟩) zr).trans fr0
  replace kr1 := (hb.cell (p := ⟨w.heap.size, 1, none⟩) zr).trans kr1
  replace fr1 := (hb.frozen (p := ⟨w.heap.size, 1, none⟩) zr).trans fr1
  replace kr2 := (hb.cell (p := ⟨w.heap.size, 2, none⟩) zr).trans kr2
  replace fr2 := (hb.frozen (p := ⟨w.heap.size, 2, none⟩) zr).trans fr2
  replace kr3 := (hb.cell (p := ⟨w.heap.size, 3, none⟩) zr).trans kr3
  replace fr3 := (hb.frozen (p := ⟨w.heap.size, 3, none⟩) zr).trans fr3
  replace zr := Nat.lt_of_lt_of_le zr hb.size
  replace HB := hide (bl_trans HB.out hb)
  clear hb
  go_wp2_with fail
  refine (bigOfI neg a4 n4 c4 xs4 _ _ HO4.out hb4).mono ?_
  rw [HV4.out, HX.out]
  rintro e w5 ⟨v5, rfl, ⟨a5, c5, rfl, ho5⟩, hb⟩
  have S5 := hide ho5.seg
  clear ho5 HO4 HV4
  replace kr0 := (hb.cell (p := ⟨w.heap.size, 0, none⟩) zr).trans kr0
  replace fr0 := (hb.frozen (p := ⟨w.heap.size, 0, none⟩) zr).trans fr0
  replace kr1 := (hb.cell (p := ⟨w.heap.size, 1, none⟩) zr).trans kr1
  replace fr1 := (hb.frozen (p := ⟨w.heap.size, 1, none⟩) zr).trans fr1
  replace kr2 := (hb.cell (p := ⟨w.heap.size, 2, none⟩) zr).trans kr2
  replace fr2 := (hb.frozen (p := ⟨w.heap.size, 2, none⟩) zr).trans fr2
  replace kr3 := (hb.cell (p := ⟨w.heap.size, 3, none⟩) zr).trans kr3
  replace fr3 := (hb.frozen (p := ⟨w.heap.size, 3, none⟩) zr).trans fr3
  replace zr := Nat.lt_of_lt_of_le zr hb.size
  replace HB := hide (bl_trans HB.out hb)
  clear hb
  go_wp2_with fail
  refine (fromI 1 _ (by decide) (by decide)).mono ?_
  rintro e w6 ⟨v6, rfl, ⟨a6, c6, rfl, ho6⟩, hb⟩
  have O6 := hide ho6
  clear ho6
  replace kr0 := (hb.cell (p := ⟨w.heap.size, 0, none⟩) zr).trans kr0
  replace fr0 := (hb.frozen (p := ⟨w.heap.size, 0, none⟩) zr).trans fr0
  replace kr1 := (hb.cell (p := ⟨w.heap.size, 1, none⟩) zr).trans kr1
  replace fr1 := (hb.frozen (p := ⟨w.heap.size, 1, none⟩) zr).trans fr1
  replace kr2 := (hb.cell (p := ⟨w.heap.size, 2, none⟩) zr).trans kr2
  replace fr2 := (hb.frozen (p := ⟨w.heap.size, 2, none⟩) zr).trans fr2
  replace kr3 := (hb.cell (p := ⟨w.heap.size, 3, none⟩) zr).trans kr3
  replace fr3 := (hb.frozen (p := ⟨w.heap.size, 3, none⟩) zr).trans fr3
  replace zr := Nat.lt_of_lt_of_le zr hb.size
  replace S5 := hide (S5.out.below hb)
  replace HB := hide (bl_trans HB.out hb)
  clear hb
  have zr6 := zr
  have kn0 : ((w6.alloc (Obj.cells #[Value.bool (sgn x), Value.slice a5 (lms x).length c5] 40)).alloc (Obj.cells #[Value.bool (sgn 1), Value.slice a6 (lms 1).length c6] 40)).cell? ⟨w6.heap.size, 0, none⟩ = some (Value.bool (sgn x)) := by go_simp
  have kn1 : ((w6.alloc (Obj.cells #[Value.bool (sgn x), Value.slice a5 (lms x).length c5] 40)).alloc (Obj.cells #[Value.bool (sgn 1), Value.slice a6 (lms 1).length c6] 40)).cell? ⟨w6.heap.size, 1, none⟩ = some (Value.slice a5 (lms x).length c5) := by go_simp
  have fn0 : ((w6.alloc (Obj.cells #[Value.bool (sgn x), Value.slice a5 (lms x).length c5] 40)).alloc (Obj.cells #[Value.bool (sgn 1), Value.slice a6 (lms 1).length c6] 40)).frozen? ⟨w6.heap.size, 0, none⟩ = false := by go_simp
  have fn1 : ((w6.alloc (Obj.cells #[Value.bool (sgn x), Value.slice a5 (lms x).length c5] 40)).alloc (Obj.cells #[Value.bool (sgn 1), Value.slice a6 (lms 1).length c6] 40)).frozen? ⟨w6.heap.size, 1, none⟩ = false := by go_simp
  have zn : w6.heap.size < ((w6.alloc (Obj.cells #[Value.bool (sgn x), Value.slice a5 (lms x).length c5] 40)).alloc (Obj.cells #[Value.bool (sgn 1), Value.slice a6 (lms 1).length c6] 40)).heap.size := by simp only [World.size_alloc]; omega
  have kd0 : ((w6.alloc (Obj.cells #[Value.bool (sgn x), Value.slice a5 (lms x).length c5] 40)).alloc (Obj.cells #[Value.bool (sgn 1), Value.slice a6 (lms 1).length c6] 40)).cell? ⟨w6.heap.size + 1, 0, none⟩ = some (Value.bool (sgn 1)) := by go_simp
  have kd1 : ((w6.alloc (Obj.cells #[Value.bool (sgn x), Value.slice a5 (lms x).length c5] 40)).alloc (Obj.cells #[Value.bool (sgn 1), Value.slice a6 (lms 1).length c6] 40)).cell? ⟨w6.heap.size + 1, 1, none⟩ = some (Value.slice a6 (lms 1).length c6) := by go_simp
  have fd0 : ((w6.alloc (Obj.cells #[Value.bool (sgn x), Value.slice a5 (lms x).length c5] 40)).alloc (Obj.cells #[Value.bool (sgn 1), Value.slice a6 (lms 1).length c6] 40)).frozen? ⟨w6.heap.size + 1, 0, none⟩ = false := by go_simp
  have fd1 : ((w6.alloc (Obj.cells #[Value.bool (sgn x), Value.slice a5 (lms x).length c5] 40)).alloc (Obj.cells #[Value.bool (sgn 1), Value.slice a6 (lms 1).length c6] 40)).frozen? ⟨w6.heap.size + 1, 1, none⟩ = false := by go_simp
  have zd : w6.heap.size + 1 < ((w6.alloc (Obj.cells #[Value.bool (sgn x), Value.slice a5 (lms x).length c5] 40)).alloc (Obj.cells #[Value.bool (sgn 1), Value.slice a6 (lms 1).length c6] 40)).heap.size := by simp only [World.size_alloc]; omega
  have hbn := bl_alloc (bl_alloc (bl_refl w6) (Obj.cells #[Value.bool (sgn x), Value.slice a5 (lms x).length c5] 40)) (Obj.cells #[Value.bool (sgn 1), Value.slice a6 (lms 1).length c6] 40)
  have HW7 := hide hbn
  replace kr0 := (hbn.cell (p := ⟨w.heap.size, 0, none⟩) zr).trans kr0
  replace fr0 := (hbn.frozen (p := ⟨w.heap.size, 0, none⟩) zr).trans fr0
  replace kr1 := (hbn.cell (p := ⟨w.heap.size, 1, none⟩) zr).trans kr1
  replace fr1 := (hbn.frozen (p := ⟨w.heap.size, 1, none⟩) zr).trans fr1
  replace kr2 := (hbn.cell (p := ⟨w.heap.size, 2, none⟩) zr).trans kr2
  replace fr2 := (hbn.frozen (p := ⟨w.heap.size, 2, none⟩) zr).trans fr2
  replace kr3 := (hbn.cell (p := ⟨w.heap.size, 3, none⟩) zr).trans kr3
  replace fr3 := (hbn.frozen (p := ⟨w.heap.size, 3, none⟩) zr).trans fr3
  replace zr := Nat.lt_of_lt_of_le zr hbn.size
  replace S5 := hide (S5.out.below hbn)
  replace HB := hide (bl_trans HB.out hbn)
  clear hbn
  have HSP2 := HSP.out
  go_upto_region 9 with fail
  generalize ((w6.alloc (Obj.cells #[Value.bool (sgn x), Value.slice a5 (lms x).length c5] 40)).alloc (Obj.cells #[Value.bool (sgn 1), Value.slice a6 (lms 1).length c6] 40)) = w7 at *
  go_region_with
    (first
      | (go_at_call 42; refine (fromI 10 _ (by decide) (by decide)).mono ?_; rintro e wA ⟨vA, rfl, ⟨aA, cA, rfl, hoA⟩, hbAr⟩; have hbA : Below w7.heap.size w7 wA := (bl_refl w7).drew.trans hbAr; have yA := hbA.size; have kn0 := (hbAr.cell (p := ⟨w6.heap.size, 0, none⟩) (by dsimp only; rw [World.size_drew]; omega)).trans kn0; have kn1 := (hbAr.cell (p := ⟨w6.heap.size, 1, none⟩) (by dsimp only; rw [World.size_drew]; omega)).trans kn1)
      | (go_at_call 84; refine (tenI (.agg #[.bool (sgn 10), .slice aA (lms 10).length cA]) n _ _ ⟨aA, cA, rfl, hoA.seg⟩ (by omega) (by omega)).mono ?_; rintro e wB ⟨vB, rfl, ⟨aB, cB, rfl, hoB⟩, hbBr⟩; have hbB : Below w7.heap.size w7 wB := bl_trans hbA hbBr; have yB := hbBr.size; have kn0 := (hbBr.cell (p := ⟨w6.heap.size, 0, none⟩) (by dsimp only; omega)).trans kn0; have kn1 := (hbBr.cell (p := ⟨w6.heap.size, 1, none⟩) (by dsimp only; omega)).trans kn1)
      | (go_at_call 85; refine (prodXY (.agg #[.bool (sgn x), .slice a5 (lms x).length c5]) (.agg #[.bool (sgn (10 ^ n)), .slice aB (lms (10 ^ n)).length cB]) x (10 ^ n) _ ⟨a5, c5, rfl, S5.out.below hbB⟩ ⟨aB, cB, rfl, hoB.seg⟩ (by omega) (by omega)).mono ?_; rw [HXX.out]; rintro e wC ⟨vC, rfl, ⟨aC, cC, rfl, hoC⟩, hbCr⟩; have hbC : Below w7.heap.size w7 wC := bl_trans hbB hbCr; have yC := hbCr.size; have kn0 := (hbCr.cell (p := ⟨w6.heap.size, 0, none⟩) (by dsimp only; omega)).trans kn0; have kn1 := (hbCr.cell (p := ⟨w6.heap.size, 1, none⟩) (by dsimp only; omega)).trans kn1; have fn0 := (hbC.frozen (p := ⟨w6.heap.size, 0, none⟩) zn).trans fn0; have fn1 := (hbC.frozen (p := ⟨w6.heap.size, 1, none⟩) zn).trans fn1))
  all_goals
    have m0 : ((wC.setCell ⟨w6.heap.size, 0, none⟩ (Value.bool (sgn X))).setCell ⟨w6.heap.size, 1, none⟩ (Value.slice aC (lms X).length cC)).cell? ⟨w6.heap.size, 0, none⟩ = some (Value.bool (sgn X)) := by go_simp
    have m1 : ((wC.setCell ⟨w6.heap.size, 0, none⟩ (Value.bool (sgn X))).setCell ⟨w6.heap.size, 1, none⟩ (Value.slice aC (lms X).length cC)).cell? ⟨w6.heap.size, 1, none⟩ = some (Value.slice aC (lms X).length cC) := by go_simp
    replace kr0 := (cel2 (w1 := wC) (N := w6.heap.size) (p := ⟨w.heap.size, 0, none⟩) (by dsimp only; omega) (Value.bool (sgn X)) (Value.slice aC (lms X).length cC)).trans ((hbC.cell (p := ⟨w.heap.size, 0, none⟩) zr).trans kr0)
    replace fr0 := (fro2 (w1 := wC) (N := w6.heap.size) (p := ⟨w.heap.size, 0, none⟩) (by dsimp only; omega) (Value.bool (sgn X)) (Value.slice aC (lms X).length cC)).trans ((hbC.frozen (p := ⟨w.heap.size, 0, none⟩) zr).trans fr0)
    replace kr1 := (cel2 (w1 := wC) (N := w6.heap.size) (p := ⟨w.heap.size, 1, none⟩) (by dsimp only; omega) (Value.bool (sgn X)) (Value.slice aC (lms X).length cC)).trans ((hbC.cell (p := ⟨w.heap.size, 1, none⟩) zr).trans kr1)
    replace fr1 := (fro2 (w1 := wC) (N := w6.heap.size) (p := ⟨w.heap.size, 1, none⟩) (by dsimp only; omega) (Value.bool (sgn X)) (Value.slice aC (lms X).length cC)).trans ((hbC.frozen (p := ⟨w.heap.size, 1, none⟩) zr).trans fr1)
    replace kr2 := (cel2 (w1 := wC) (N := w6.heap.size) (p := ⟨w.heap.size, 2, none⟩) (by dsimp only; omega) (Value.bool (sgn X)) (Value.slice aC (lms X).length cC)).trans ((hbC.cell (p := ⟨w.heap.size, 2, none⟩) zr).trans kr2)
    replace fr2 := (fro2 (w1 := wC) (N := w6.heap.size) (p := ⟨w.heap.size, 2, none⟩) (by dsimp only; omega) (Value.bool (sgn X)) (Value.slice aC (lms X).length cC)).trans ((hbC.frozen (p := ⟨w.heap.size, 2, none⟩) zr).trans fr2)
    replace kr3 := (cel2 (w1 := wC) (N := w6.heap.size) (p := ⟨w.heap.size, 3, none⟩) (by dsimp only; omega) (Value.bool (sgn X)) (Value.slice aC (lms X).length cC)).trans ((hbC.cell (p := ⟨w.heap.size, 3, none⟩) zr).trans kr3)
    replace fr3 := (fro2 (w1 := wC) (N := w6.heap.size) (p := ⟨w.heap.size, 3, none⟩) (by dsimp only; omega) (Value.bool (sgn X)) (Value.slice aC (lms X).length cC)).trans ((hbC.frozen (p := ⟨w.heap.size, 3, none⟩) zr).trans fr3)
    replace kd0 := (cel2 (w1 := wC) (N := w6.heap.size) (p := ⟨w6.heap.size + 1, 0, none⟩) (by dsimp only; omega) (Value.bool (sgn X)) (Value.slice aC (lms X).length cC)).trans ((hbC.cell (p := ⟨w6.heap.size + 1, 0, none⟩) zd).trans kd0)
    replace kd1 := (cel2 (w1 := wC) (N := w6.heap.size) (p := ⟨w6.heap.size + 1, 1, none⟩) (by dsimp only; omega) (Value.bool (sgn X)) (Value.slice aC (lms X).length cC)).trans ((hbC.cell (p := ⟨w6.heap.size + 1, 1, none⟩) zd).trans kd1)
    have SN := hide (seg_on hoC (N := w6.heap.size) (by omega) (Value.bool (sgn X)) (Value.slice aC (lms X).length cC))
    have SD := hide (seg_off O6.out (bl_trans HW7.out hbC) (Nat.le_refl _) (Value.bool (sgn X)) (Value.slice aC (lms X).length cC))
    replace HB := hide (((bl_trans HB.out hbC).setCell (p := ⟨w6.heap.size, 0, none⟩) (by dsimp only; omega) (Value.bool (sgn X))).setCell (p := ⟨w6.heap.size, 1, none⟩) (by dsimp only; omega) (Value.slice aC (lms X).length cC))
    replace zr : w.heap.size < ((wC.setCell ⟨w6.heap.size, 0, none⟩ (Value.bool (sgn X))).setCell ⟨w6.heap.size, 1, none⟩ (Value.slice aC (lms X).length cC)).heap.size := by (simp only [World.size_setCell]; omega)
    clear kn0 kn1 fn0 fn1 fd0 fd1 zd zn S5 O6 HW7 hoA hoB hoC hbA hbAr hbB hbBr hbC hbCr
    go_wp2_with fail
    generalize ((wC.setCell ⟨w6.heap.size, 0, none⟩ (Value.bool (sgn X))).setCell ⟨w6.heap.size, 1, none⟩ (Value.slice aC (lms X).length cC)) = w8 at *
    refine (shortI' X 1 aC cC a6 c6 _ SN.out SD.out (by decide) (by omega) (by omega)).mono ?_
    rw [HPQ.out.1, HPQ.out.2]
    rintro e w9 ⟨b1, e1, b2, e2, rfl, ho1, ho2, hap, hb⟩
    have zr8 := zr
    have HO1 := hide ho1
    have HO2 := hide ho2
    have HAP := hide hap
    clear ho1 ho2 hap m0 m1 kd0 kd1 SN SD
    replace kr0 := (hb.cell (p := ⟨w.heap.size, 0, none⟩) zr).trans kr0
    replace fr0 := (hb.frozen (p := ⟨w.heap.size, 0, none⟩) zr).trans fr0
    replace kr1 := (hb.cell (p := ⟨w.heap.size, 1, none⟩) zr).trans kr1
    replace fr1 := (hb.frozen (p := ⟨w.heap.size, 1, none⟩) zr).trans fr1
    replace kr2 := (hb.cell (p := ⟨w.heap.size, 2, none⟩) zr).trans kr2
    replace fr2 := (hb.frozen (p := ⟨w.heap.size, 2, none⟩) zr).trans fr2
    replace kr3 := (hb.cell (p := ⟨w.heap.size, 3, none⟩) zr).trans kr3
    replace fr3 := (hb.frozen (p := ⟨w.heap.size, 3, none⟩) zr).trans fr3
    replace zr := Nat.lt_of_lt_of_le zr hb.size
    replace HB := hide (bl_trans HB.out hb)
    clear hb
    cases hft : ftT p q with
    | false =>
      go_wp2_with fail
      refine (fitI p q b1 e1 b2 e2 _ HO1.out.seg HO2.out.seg).mono ?_
      rw [ftV_f hft, hft]
      rintro e w10 ⟨rfl, hb⟩
      replace kr0 := (hb.cell (p := ⟨w.heap.size, 0, none⟩) zr).trans kr0
      replace fr0 := (hb.frozen (p := ⟨w.heap.size, 0, none⟩) zr).trans fr0
      replace kr1 := (hb.cell (p := ⟨w.heap.size, 1, none⟩) zr).trans kr1
      replace fr1 := (hb.frozen (p := ⟨w.heap.size, 1, none⟩) zr).trans fr1
      replace kr2 := (hb.cell (p := ⟨w.heap.size, 2, none⟩) zr).trans kr2
      replace fr2 := (hb.frozen (p := ⟨w.heap.size, 2, none⟩) zr).trans fr2
      replace kr3 := (hb.cell (p := ⟨w.heap.size, 3, none⟩) zr).trans kr3
      replace fr3 := (hb.frozen (p := ⟨w.heap.size, 3, none⟩) zr).trans fr3
      replace zr := Nat.lt_of_lt_of_le zr hb.size
      replace HB := hide (bl_trans HB.out hb)
      clear hb
      go_wp2
      refine bodyPost_ret (v := .tuple #[.agg #[.bool false, .slice none 0 0, .bool false, .slice none 0 0], .bool false]) (by simp [results, Tryz.results51, go_sem, *]) rfl ?_
      exact ans_no (by rw [HFT.out, HPQ.out.1, HPQ.out.2]; exact hft) (set_four (Nat.le_refl _) HB.out _ _ _ _)
    | true =>
      go_wp2_with fail
      refine (fitI p q b1 e1 b2 e2 _ HO1.out.seg HO2.out.seg).mono ?_
      rw [ftV_t hft, hft]
      rintro e w10 ⟨rfl, hb⟩
      replace kr0 := (hb.cell (p := ⟨w.heap.size, 0, none⟩) zr).trans kr0
      replace fr0 := (hb.frozen (p := ⟨w.heap.size, 0, none⟩) zr).trans fr0
      replace kr1 := (hb.cell (p := ⟨w.heap.size, 1, none⟩) zr).trans kr1
      replace fr1 := (hb.frozen (p := ⟨w.heap.size, 1, none⟩) zr).trans fr1
      replace kr2 := (hb.cell (p := ⟨w.heap.size, 2, none⟩) zr).trans kr2
      replace fr2 := (hb.frozen (p := ⟨w.heap.size, 2, none⟩) zr).trans fr2
      replace kr3 := (hb.cell (p := ⟨w.heap.size, 3, none⟩) zr).trans kr3
      replace fr3 := (hb.frozen (p := ⟨w.heap.size, 3, none⟩) zr).trans fr3
      replace zr := Nat.lt_of_lt_of_le zr hb.size
      replace HO1 := hide (HO1.out.below hb)
      replace HO2 := hide (HO2.out.below hb)
      replace HB := hide (bl_trans HB.out hb)
      clear hb
      go_wp2
      refine bodyPost_ret (v := .tuple #[.agg #[.bool (sgn p), .slice b1 (lms p).length e1, .bool (sgn q), .slice b2 (lms q).length e2], .bool true]) (by simp [results, Tryz.results51, go_sem, *]) rfl ?_
      have h1 := own_four' (lo := w.heap.size) HO1.out (show w.heap.size < _ by omega) (by omega) (Value.bool (sgn p)) (Value.slice b1 (lms p).length e1) (Value.bool (sgn q)) (Value.slice b2 (lms q).length e2)
      have h2 := own_four' (lo := w.heap.size) HO2.out (show w.heap.size < _ by omega) (by omega) (Value.bool (sgn p)) (Value.slice b1 (lms p).length e1) (Value.bool (sgn q)) (Value.slice b2 (lms q).length e2)
      have ha := ans_yes (t := true) (x := X) (y := 1) (w := w) (a1 := b1) (a2 := b2) (c1 := e1) (c2 := e2) (by rw [HFT.out, HPQ.out.1, HPQ.out.2]; exact hft) (by rw [HPQ.out.1]; exact h1) (by rw [HPQ.out.2]; exact h2) HAP.out (set_four (Nat.le_refl _) HB.out _ _ _ _)
      rw [HPQ.out.1, HPQ.out.2] at ha
      exact ha

end Go.Proofs.YtkemplmhemnpbaaGreatDoor

/- The walk of readDecimal of the program at a text that it takes, with places behind the point. -/
namespace Go.Proofs.YtkemplmhemnpbaaGreatDoor
open Go.RowKit
set_option linter.unusedVariables false

set_option maxHeartbeats 8000000 in
set_option maxRecDepth 20000 in
theorem decYesN (neg : Bool) (s : ByteArray) (A W P : List UInt8) (k : Int) (ok pt : Bool) (w : World) (hs : s.size ≤ 400) (hm : Mx w) (hcp : cpS s.data.toList = (A, k, ok)) (hcu : Lib.cut A [46] = (W, P, pt)) (hA : A.length ≤ 400) (hWP : W.length + P.length ≤ 400) (n : Nat) (x X Y : Int) (h : ok = true) (hW : digOk ⟨W.toArray⟩ = true) (h2 : pt = true) (hP : digOk ⟨P.toArray⟩ = true) (hAD : digAll (W ++ P) = true) (hk : -1000 < k ∧ k < 1000) (hx : mk neg (valN (W ++ P)) = x) (hn : k - (P.length : Int) = - (n : Int)) (hn0 : 0 < n) (hX : x = X) (hY : (10 : Int) ^ n = Y) :
    Calls Tryz.prog 51 #[.bool neg, .string s] w fun e w' => RatAns true X Y w w' e := by
  subst h
  subst h2
  have HDW := hide hW
  have HDP := hide hP
  have HAD := hide hAD
  have HX := hide hx
  clear hW hP hAD
  have HYY := hide hY
  subst hX
  have lx : (lms x).length ≤ 200 := by rw [← HX.out]; exact lms_shortN HAD.out (by rw [List.length_append]; omega)
  have ly : (lms Y).length ≤ n + 1 := by rw [← HYY.out]; exact ten_len n
  have ly1 : (lms 1).length ≤ 40 := Num.limbs_len.2 (by decide)
  have l1 : (lms 10).length ≤ 40 := Num.limbs_len.2 (by decide)
  have HYN : Hid (Y ≠ 0) := hide (by rw [← HYY.out]; have := Int.pow_pos (n := 10) (m := n) (by decide); omega)
  clear hx hY
  have HNN := hide hn
  have hn2 : n ≤ 1400 := by omega
  have HFT := hide (ans_ft (t := true) (x := x) (y := Y) rfl HYN.out)
  obtain ⟨p, hp⟩ : ∃ p, x / sgG x Y = p := ⟨_, rfl⟩
  obtain ⟨q, hq⟩ : ∃ q, Y / sgG x Y = q := ⟨_, rfl⟩
  have HPQ := hide (And.intro hp hq)
  clear hp hq
  have HCP := hide hcp
  have HCU := hide hcu
  have HM := hide hm
  clear hcp hcu hm
  have HSA : Hid ((⟨A.toArray⟩ : ByteArray).size = A.length) := hide (by rw [← bsize])
  have HSW : Hid ((⟨W.toArray⟩ : ByteArray).size = W.length) := hide (by rw [← bsize])
  have HSP : Hid ((⟨P.toArray⟩ : ByteArray).size = P.length) := hide (by rw [← bsize])
  have kr0 : (w.alloc (Obj.cells #[Value.bool false, Value.slice none 0 0, Value.bool false, Value.slice none 0 0] 42)).cell? ⟨w.heap.size, 0, none⟩ = some (Value.bool false) := by go_simp
  have fr0 : (w.alloc (Obj.cells #[Value.bool false, Value.slice none 0 0, Value.bool false, Value.slice none 0 0] 42)).frozen? ⟨w.heap.size, 0, none⟩ = false := by go_simp
  have kr1 : (w.alloc (Obj.cells #[Value.bool false, Value.slice none 0 0, Value.bool false, Value.slice none 0 0] 42)).cell? ⟨w.heap.size, 1, none⟩ = some (Value.slice none 0 0) := by go_simp
  have fr1 : (w.alloc (Obj.cells #[Value.bool false, Value.slice none 0 0, Value.bool false, Value.slice none 0 0] 42)).frozen? ⟨w.heap.size, 1, none⟩ = false := by go_simp
  have kr2 : (w.alloc (Obj.cells #[Value.bool false, Value.slice none 0 0, Value.bool false, Value.slice none 0 0] 42)).cell? ⟨w.heap.size, 2, none⟩ = some (Value.bool false) := by go_simp
  have fr2 : (w.alloc (Obj.cells #[Value.bool false, Value.slice none 0 0, Value.bool false, Value.slice none 0 0] 42)).frozen? ⟨w.heap.size, 2, none⟩ = false := by go_simp
  have kr3 : (w.alloc (Obj.cells #[Value.bool false, Value.slice none 0 0, Value.bool false, Value.slice none 0 0] 42)).cell? ⟨w.heap.size, 3, none⟩ = some (Value.slice none 0 0) := by go_simp
  have fr3 : (w.alloc (Obj.cells #[Value.bool false, Value.slice none 0 0, Value.bool false, Value.slice none 0 0] 42)).frozen? ⟨w.heap.size, 3, none⟩ = false := by go_simp
  have zr : w.heap.size < (w.alloc (Obj.cells #[Value.bool false, Value.slice none 0 0, Value.bool false, Value.slice none 0 0] 42)).heap.size := by simp only [World.size_alloc]; omega
  have HB := hide (bl_alloc (bl_refl w) (Obj.cells #[Value.bool false, Value.slice none 0 0, Value.bool false, Value.slice none 0 0] 42))
  replace HM := hide (HM.out.below HB.out)
  go_enter Tryz.func51, Tryz.ntmps51
  go_wp2_with fail
  generalize w.alloc (Obj.cells #[Value.bool false, Value.slice none 0 0, Value.bool false, Value.slice none 0 0] 42) = W0 at *
  refine (cutPlacesG s _ (by omega) HM.out).mono ?_
  rw [HCP.out]
  rintro e w1 ⟨rfl, hb⟩
  replace kr0 := (hb.cell (p := ⟨w.heap.size, 0, none⟩) zr).trans kr0
  replace fr0 := (hb.frozen (p := ⟨w.heap.size, 0, none⟩) zr).trans fr0
  replace kr1 := (hb.cell (p := ⟨w.heap.size, 1, none⟩) zr).trans kr1
  replace fr1 := (hb.frozen (p := ⟨w.heap.size, 1, none⟩) zr).trans fr1
  replace kr2 := (hb.cell (p := ⟨w.heap.size, 2, none⟩) zr).trans kr2
  replace fr2 := (hb.frozen (p := ⟨w.heap.size, 2, none⟩) zr).trans fr2
  replace kr3 := (hb.cell (p := ⟨w.heap.size, 3, none⟩) zr).trans kr3
  replace fr3 := (hb.frozen (p := ⟨w.heap.size, 3, none⟩) zr).trans fr3
  replace zr := Nat.lt_of_lt_of_le zr hb.size
  replace HM := hide (HM.out.below hb)
  replace HB := hide (bl_trans HB.out hb)
  clear hb
  go_wp2_with fail
  refine (cutI _ 46 _ (by rw [HSA.out]; omega) HM.out).mono ?_
  rw [show (⟨A.toArray⟩ : ByteArray).data.toList = A from rfl, HCU.out]
  rintro e w2 ⟨rfl, hb⟩
  replace kr0 := (hb.cell (p := ⟨w.heap.size, 0, none⟩) zr).trans kr0
  replace fr0 := (hb.frozen (p := ⟨w.heap.size, 0, none⟩) zr).trans fr0
  replace kr1 := (hb.cell (p := ⟨w.heap.size, 1, none⟩) zr).trans kr1
  replace fr1 := (hb.frozen (p := ⟨w.heap.size, 1, none⟩) zr).trans fr1
  replace kr2 := (hb.cell (p := ⟨w.heap.size, 2, none⟩) zr).trans kr2
  replace fr2 := (hb.frozen (p := ⟨w.heap.size, 2, none⟩) zr).trans fr2
  replace kr3 := (hb.cell (p := ⟨w.heap.size, 3, none⟩) zr).trans kr3
  replace fr3 := (hb.frozen (p := ⟨w.heap.size, 3, none⟩) zr).trans fr3
  replace zr := Nat.lt_of_lt_of_le zr hb.size
  replace HB := hide (bl_trans HB.out hb)
  clear hb
  clear HM
  go_wp2_with fail
  refine (allDigitsI _ _ (by rw [HSW.out]; omega)).mono ?_
  rw [HDW.out]
  rintro e w3 ⟨rfl, hb⟩
  replace kr0 := (hb.cell (p := ⟨w.heap.size, 0, none⟩) zr).trans kr0
  replace fr0 := (hb.frozen (p := ⟨w.heap.size, 0, none⟩) zr).trans fr0
  replace kr1 := (hb.cell (p := ⟨w.heap.size, 1, none⟩) zr).trans kr1
  replace fr1 := (hb.frozen (p := ⟨w.heap.size, 1, none⟩) zr).trans fr1
  replace kr2 := (hb.cell (p := ⟨w.heap.size, 2, none⟩) zr).trans kr2
  replace fr2 := (hb.frozen (p := ⟨w.heap.size, 2, none⟩) zr).trans fr2
  replace kr3 := (hb.cell (p := ⟨w.heap.size, 3, none⟩) zr).trans kr3
  replace fr3 := (hb.frozen (p := ⟨w.heap.size, 3, none⟩) zr).trans fr3
  replace zr := Nat.lt_of_lt_of_le zr hb.size
  replace HB := hide (bl_trans HB.out hb)
  clear hb
  go_wp2_with fail
  refine (allDigitsI _ _ (by rw [HSP.out]; omega)).mono ?_
  rw [HDP.out]
  rintro e w3b ⟨rfl, hb⟩
  replace kr0 := (hb.cell (p := ⟨w.heap.size, 0, none⟩) zr).trans kr0
  replace fr0 := (hb.frozen (p := ⟨w.heap.size, 0, none⟩) zr).trans fr0
  replace kr1 := (hb.cell (p := ⟨w.heap.size, 1, none⟩) zr).trans kr1
  replace fr1 := (hb.frozen (p := ⟨w.heap.size, 1, none⟩) zr).trans fr1
  replace kr2 := (hb.cell (p := ⟨w.heap.size, 2, none⟩) zr).trans kr2
  replace fr2 := (hb.frozen (p := ⟨w.heap.size, 2, none⟩) zr).trans fr2
  replace kr3 := (hb.cell (p := ⟨w.heap.size, 3, none⟩) zr).trans kr3
  replace fr3 := (hb.frozen (p := ⟨w.heap.size, 3, none⟩) zr).trans fr3
  replace zr := Nat.lt_of_lt_of_le zr hb.size
  replace HB := hide (bl_trans HB.out hb)
  clear hb
  have HSZ : Hid ((⟨(W ++ P).toArray⟩ : ByteArray).size ≤ 400) := hide (by rw [← bsize]; show (W ++ P).length ≤ 400; rw [List.length_append]; omega)
  go_wp2_with fail
  rw [app_two]
  refine (digitLimbsI ⟨(W ++ P).toArray⟩ _ HAD.out (Nat.le_trans HSZ.out (by decide))).mono ?_
  rintro e w4 ⟨a4, n4, c4, xs4, rfl, ho4, hn4, hv4, hb⟩
  have hb4 := hb.size
  have HO4 := hide ho4
  have HV4 := hide hv4
  clear ho4 hv4
  replace kr0 := (hb.cell (p := ⟨w.heap.size, 0, none⟩) zr).trans kr0
  replace fr0 := (hb.frozen (p := ⟨w.heap.size, 0, none⟩) zr).trans fr0
  replace kr1 := (hb.cell (p := ⟨w.heap.size, 1, none⟩) zr).trans kr1
  replace fr1 := (hb.frozen (p := ⟨w.heap.size, 1, none⟩) zr).trans fr1
  replace kr2 := (hb.cell (p := ⟨w.heap.size, 2, none⟩) zr).trans kr2
  replace fr2 := (hb.frozen (p := ⟨w.heap.size, 2, none⟩) zr).trans fr2
  replace kr3 := (hb.cell (p := ⟨w.heap.size, 3, none⟩) zr).trans kr3
  replace fr3 := (hb.frozen (p := ⟨w.heap.size, 3, none⟩) zr).trans fr3
  replace zr := Nat.lt_of_lt_of_le zr hb.size
  replace HB := hide (bl_trans HB.out hb)
  clear hb
  go_wp2_with fail
  refine (bigOfI neg a4 n4 c4 xs4 _ _ HO4.out hb4).mono ?_
  rw [HV4.out, HX.out]
  rintro e w5 ⟨v5, rfl, ⟨a5, c5, rfl, ho5⟩, hb⟩
  have O5 := hide ho5
  clear ho5 HO4 HV4
  replace kr0 := (hb.cell (p := ⟨w.heap.size, 0, none⟩) zr).trans kr0
  replace fr0 := (hb.frozen (p := ⟨w.heap.size, 0, none⟩) zr).trans fr0
  replace kr1 := (hb.cell (p := ⟨w.heap.size, 1, none⟩) zr).trans kr1
  replace fr1 := (hb.frozen (p := ⟨w.heap.size, 1, none⟩) zr).trans fr1
  replace kr2 := (hb.cell (p := ⟨w.heap.size, 2, none⟩) zr).trans kr2
  replace fr2 := (hb.frozen (p := ⟨w.heap.size, 2, none⟩) zr).trans fr2
  replace kr3 := (hb.cell (p := ⟨w.heap.size, 3, none⟩) zr).trans kr3
  replace fr3 := (hb.frozen (p := ⟨w.heap.size, 3, none⟩) zr).trans fr3
  replace zr := Nat.lt_of_lt_of_le zr hb.size
  replace HB := hide (bl_trans HB.out hb)
  clear hb
  go_wp2_with fail
  refine (fromI 1 _ (by decide) (by decide)).mono ?_
  rintro e w6 ⟨v6, rfl, ⟨a6, c6, rfl, ho6⟩, hb⟩
  have O6 := hide ho6
  clear ho6
  replace kr0 := (hb.cell (p := ⟨w.heap.size, 0, none⟩) zr).trans kr0
  replace fr0 := (hb.frozen (p := ⟨w.heap.size, 0, none⟩) zr).trans fr0
  replace kr1 := (hb.cell (p := ⟨w.heap.size, 1, none⟩) zr).trans kr1
  replace fr1 := (hb.frozen (p := ⟨w.heap.size, 1, none⟩) zr).trans fr1
  replace kr2 := (hb.cell (p := ⟨w.heap.size, 2, none⟩) zr).trans kr2
  replace fr2 := (hb.frozen (p := ⟨w.heap.size, 2, none⟩) zr).trans fr2
  replace kr3 := (hb.cell (p := ⟨w.heap.size, 3, none⟩) zr).trans kr3
  replace fr3 := (hb.frozen (p := ⟨w.heap.size, 3, none⟩) zr).trans fr3
  replace zr := Nat.lt_of_lt_of_le zr hb.size
  replace O5 := hide (O5.out.below hb)
  replace HB := hide (bl_trans HB.out hb)
  clear hb
  have zr6 := zr
  have kn0 : ((w6.alloc (Obj.cells #[Value.bool (sgn x), Value.slice a5 (lms x).length c5] 40)).alloc (Obj.cells #[Value.bool (sgn 1), Value.slice a6 (lms 1).length c6] 40)).cell? ⟨w6.heap.size, 0, none⟩ = some (Value.bool (sgn x)) := by go_simp
  have kn1 : ((w6.alloc (Obj.cells #[Value.bool (sgn x), Value.slice a5 (lms x).length c5] 40)).alloc (Obj.cells #[Value.bool (sgn 1), Value.slice a6 (lms 1).length c6] 40)).cell? ⟨w6.heap.size, 1, none⟩ = some (Value.slice a5 (lms x).length c5) := by go_simp
  have fn0 : ((w6.alloc (Obj.cells #[Value.bool (sgn x), Value.slice a5 (lms x).length c5] 40)).alloc (Obj.cells #[Value.bool (sgn 1), Value.slice a6 (lms 1).length c6] 40)).frozen? ⟨w6.heap.size, 0, none⟩ = false := by go_simp
  have fn1 : ((w6.alloc (Obj.cells #[Value.bool (sgn x), Value.slice a5 (lms x).length c5] 40)).alloc (Obj.cells #[Value.bool (sgn 1), Value.slice a6 (lms 1).length c6] 40)).frozen? ⟨w6.heap.size, 1, none⟩ = false := by go_simp
  have zn : w6.heap.size < ((w6.alloc (Obj.cells #[Value.bool (sgn x), Value.slice a5 (lms x).length c5] 40)).alloc (Obj.cells #[Value.bool (sgn 1), Value.slice a6 (lms 1).length c6] 40)).heap.size := by simp only [World.size_alloc]; omega
  have kd0 : ((w6.alloc (Obj.cells #[Value.bool (sgn x), Value.slice a5 (lms x).length c5] 40)).alloc (Obj.cells #[Value.bool (sgn 1), Value.slice a6 (lms 1).length c6] 40)).cell? ⟨w6.heap.size + 1, 0, none⟩ = some (Value.bool (sgn 1)) := by go_simp
  have kd1 : ((w6.alloc (Obj.cells #[Value.bool (sgn x), Value.slice a5 (lms x).length c5] 40)).alloc (Obj.cells #[Value.bool (sgn 1), Value.slice a6 (lms 1).length c6] 40)).cell? ⟨w6.heap.size + 1, 1, none⟩ = some (Value.slice a6 (lms 1).length c6) := by go_simp
  have fd0 : ((w6.alloc (Obj.cells #[Value.bool (sgn x), Value.slice a5 (lms x).length c5] 40)).alloc (Obj.cells #[Value.bool (sgn 1), Value.slice a6 (lms 1).length c6] 40)).frozen? ⟨w6.heap.size + 1, 0, none⟩ = false := by go_simp
  have fd1 : ((w6.alloc (Obj.cells #[Value.bool (sgn x), Value.slice a5 (lms x).length c5] 40)).alloc (Obj.cells #[Value.bool (sgn 1), Value.slice a6 (lms 1).length c6] 40)).frozen? ⟨w6.heap.size + 1, 1, none⟩ = false := by go_simp
  have zd : w6.heap.size + 1 < ((w6.alloc (Obj.cells #[Value.bool (sgn x), Value.slice a5 (lms x).length c5] 40)).alloc (Obj.cells #[Value.bool (sgn 1), Value.slice a6 (lms 1).length c6] 40)).heap.size := by simp only [World.size_alloc]; omega
  have hbn := bl_alloc (bl_alloc (bl_refl w6) (Obj.cells #[Value.bool (sgn x), Value.slice a5 (lms x).length c5] 40)) (Obj.cells #[Value.bool (sgn 1), Value.slice a6 (lms 1).length c6] 40)
  have HW7 := hide hbn
  replace kr0 := (hbn.cell (p := ⟨w.heap.size, 0, none⟩) zr).trans kr0
  replace fr0 := (hbn.frozen (p := ⟨w.heap.size, 0, none⟩) zr).trans fr0
  replace kr1 := (hbn.cell (p := ⟨w.heap.size, 1, none⟩) zr).trans kr1
  replace fr1 := (hbn.frozen (p := ⟨w.heap.size, 1, none⟩) zr).trans fr1
  replace kr2 := (hbn.cell (p := ⟨w.heap.size, 2, none⟩) zr).trans kr2
  replace fr2 := (hbn.frozen (p := ⟨w.heap.size, 2, none⟩) zr).trans fr2
  replace kr3 := (hbn.cell (p := ⟨w.heap.size, 3, none⟩) zr).trans kr3
  replace fr3 := (hbn.frozen (p := ⟨w.heap.size, 3, none⟩) zr).trans fr3
  replace zr := Nat.lt_of_lt_of_le zr hbn.size
  replace HB := hide (bl_trans HB.out hbn)
  clear hbn
  have HSP2 := HSP.out
  go_wp2_with fail
  generalize ((w6.alloc (Obj.cells #[Value.bool (sgn x), Value.slice a5 (lms x).length c5] 40)).alloc (Obj.cells #[Value.bool (sgn 1), Value.slice a6 (lms 1).length c6] 40)) = w7 at *
  refine (fromI 10 _ (by decide) (by decide)).mono ?_
  rintro e wA ⟨vA, rfl, ⟨aA, cA, rfl, hoA⟩, hbAr⟩
  have hbA : Below w7.heap.size w7 wA := hbAr
  have yA := hbA.size
  go_wp2_with fail
  refine (tenI (.agg #[.bool (sgn 10), .slice aA (lms 10).length cA]) n _ _ ⟨aA, cA, rfl, hoA.seg⟩ (by omega) (by omega)).mono ?_
  rw [HYY.out]
  rintro e wC ⟨vC, rfl, ⟨aC, cC, rfl, hoC⟩, hbCr⟩
  have hbC : Below w7.heap.size w7 wC := bl_trans hbA hbCr
  have yC := hbCr.size
  replace fd0 := (hbC.frozen (p := ⟨w6.heap.size + 1, 0, none⟩) zd).trans fd0
  replace fd1 := (hbC.frozen (p := ⟨w6.heap.size + 1, 1, none⟩) zd).trans fd1
  replace kd0 := (hbC.cell (p := ⟨w6.heap.size + 1, 0, none⟩) zd).trans kd0
  replace kd1 := (hbC.cell (p := ⟨w6.heap.size + 1, 1, none⟩) zd).trans kd1
  all_goals
    have m0 : ((wC.setCell ⟨w6.heap.size + 1, 0, none⟩ (Value.bool (sgn Y))).setCell ⟨w6.heap.size + 1, 1, none⟩ (Value.slice aC (lms Y).length cC)).cell? ⟨w6.heap.size + 1, 0, none⟩ = some (Value.bool (sgn Y)) := by go_simp
    have m1 : ((wC.setCell ⟨w6.heap.size + 1, 0, none⟩ (Value.bool (sgn Y))).setCell ⟨w6.heap.size + 1, 1, none⟩ (Value.slice aC (lms Y).length cC)).cell? ⟨w6.heap.size + 1, 1, none⟩ = some (Value.slice aC (lms Y).length cC) := by go_simp
    replace kr0 := (cel2 (w1 := wC) (N := w6.heap.size + 1) (p := ⟨w.heap.size, 0, none⟩) (by dsimp only; omega) (Value.bool (sgn Y)) (Value.slice aC (lms Y).length cC)).trans ((hbC.cell (p := ⟨w.heap.size, 0, none⟩) zr).trans kr0)
    replace fr0 := (fro2 (w1 := wC) (N := w6.heap.size + 1) (p := ⟨w.heap.size, 0, none⟩) (by dsimp only; omega) (Value.bool (sgn Y)) (Value.slice aC (lms Y).length cC)).trans ((hbC.frozen (p := ⟨w.heap.size, 0, none⟩) zr).trans fr0)
    replace kr1 := (cel2 (w1 := wC) (N := w6.heap.size + 1) (p := ⟨w.heap.size, 1, none⟩) (by dsimp only; omega) (Value.bool (sgn Y)) (Value.slice aC (lms Y).length cC)).trans ((hbC.cell (p := ⟨w.heap.size, 1, none⟩) zr).trans kr1)
    replace fr1 := (fro2 (w1 := wC) (N := w6.heap.size + 1) (p := ⟨w.heap.size, 1, none⟩) (by dsimp only; omega) (Value.bool (sgn Y)) (Value.slice aC (lms Y).length cC)).trans ((hbC.frozen (p := ⟨w.heap.size, 1, none⟩) zr).trans fr1)
    replace kr2 := (cel2 (w1 := wC) (N := w6.heap.size + 1) (p := ⟨w.heap.size, 2, none⟩) (by dsimp only; omega) (Value.bool (sgn Y)) (Value.slice aC (lms Y).length cC)).trans ((hbC.cell (p := ⟨w.heap.size, 2, none⟩) zr).trans kr2)
    replace fr2 := (fro2 (w1 := wC) (N := w6.heap.size + 1) (p := ⟨w.heap.size, 2, none⟩) (by dsimp only; omega) (Value.bool (sgn Y)) (Value.slice aC (lms Y).length cC)).trans ((hbC.frozen (p := ⟨w.heap.size, 2, none⟩) zr).trans fr2)
    replace kr3 := (cel2 (w1 := wC) (N := w6.heap.size + 1) (p := ⟨w.heap.size, 3, none⟩) (by dsimp only; omega) (Value.bool (sgn Y)) (Value.slice aC (lms Y).length cC)).trans ((hbC.cell (p := ⟨w.heap.size, 3, none⟩) zr).trans kr3)
    replace fr3 := (fro2 (w1 := wC) (N := w6.heap.size + 1) (p := ⟨w.heap.size, 3, none⟩) (by dsimp only; omega) (Value.bool (sgn Y)) (Value.slice aC (lms Y).length cC)).trans ((hbC.frozen (p := ⟨w.heap.size, 3, none⟩) zr).trans fr3)
    replace kn0 := (cel2 (w1 := wC) (N := w6.heap.size + 1) (p := ⟨w6.heap.size, 0, none⟩) (by dsimp only; omega) (Value.bool (sgn Y)) (Value.slice aC (lms Y).length cC)).trans ((hbC.cell (p := ⟨w6.heap.size, 0, none⟩) zn).trans kn0)
    replace kn1 := (cel2 (w1 := wC) (N := w6.heap.size + 1) (p := ⟨w6.heap.size, 1, none⟩) (by dsimp only; omega) (Value.bool (sgn Y)) (Value.slice aC (lms Y).length cC)).trans ((hbC.cell (p := ⟨w6.heap.size, 1, none⟩) zn).trans kn1)
    have SD := hide (seg_on hoC (N := w6.heap.size + 1) (by omega) (Value.bool (sgn Y)) (Value.slice aC (lms Y).length cC))
    have SN := hide (seg_off O5.out (bl_trans HW7.out hbC) (Nat.le_succ _) (Value.bool (sgn Y)) (Value.slice aC (lms Y).length cC))
    replace HB := hide (((bl_trans HB.out hbC).setCell (p := ⟨w6.heap.size + 1, 0, none⟩) (by dsimp only; omega) (Value.bool (sgn Y))).setCell (p := ⟨w6.heap.size + 1, 1, none⟩) (by dsimp only; omega) (Value.slice aC (lms Y).length cC))
    replace zr : w.heap.size < ((wC.setCell ⟨w6.heap.size + 1, 0, none⟩ (Value.bool (sgn Y))).setCell ⟨w6.heap.size + 1, 1, none⟩ (Value.slice aC (lms Y).length cC)).heap.size := by (simp only [World.size_setCell]; omega)
    clear fn0 fn1 zd zn O5 O6 HW7 hoA hoC hbA hbAr hbC hbCr
    go_wp2_with fail
    generalize ((wC.setCell ⟨w6.heap.size + 1, 0, none⟩ (Value.bool (sgn Y))).setCell ⟨w6.heap.size + 1, 1, none⟩ (Value.slice aC (lms Y).length cC)) = w8 at *
    refine (shortI' x Y a5 c5 aC cC _ SN.out SD.out HYN.out (by omega) (by omega)).mono ?_
    rw [HPQ.out.1, HPQ.out.2]
    rintro e w9 ⟨b1, e1, b2, e2, rfl, ho1, ho2, hap, hb⟩
    have zr8 := zr
    have HO1 := hide ho1
    have HO2 := hide ho2
    have HAP := hide hap
    clear ho1 ho2 hap m0 m1 kn0 kn1 kd0 kd1 fd0 fd1 SN SD
    replace kr0 := (hb.cell (p := ⟨w.heap.size, 0, none⟩) zr).trans kr0
    replace fr0 := (hb.frozen (p := ⟨w.heap.size, 0, none⟩) zr).trans fr0
    replace kr1 := (hb.cell (p := ⟨w.heap.size, 1, none⟩) zr).trans kr1
    replace fr1 := (hb.frozen (p := ⟨w.heap.size, 1, none⟩) zr).trans fr1
    replace kr2 := (hb.cell (p := ⟨w.heap.size, 2, none⟩) zr).trans kr2
    replace fr2 := (hb.frozen (p := ⟨w.heap.size, 2, none⟩) zr).trans fr2
    replace kr3 := (hb.cell (p := ⟨w.heap.size, 3, none⟩) zr).trans kr3
    replace fr3 := (hb.frozen (p := ⟨w.heap.size, 3, none⟩) zr).trans fr3
    replace zr := Nat.lt_of_lt_of_le zr hb.size
    replace HB := hide (bl_trans HB.out hb)
    clear hb
    cases hft : ftT p q with
    | false =>
      go_wp2_with fail
      refine (fitI p q b1 e1 b2 e2 _ HO1.out.seg HO2.out.seg).mono ?_
      rw [ftV_f hft, hft]
      rintro e w10 ⟨rfl, hb⟩
      replace kr0 := (hb.cell (p := ⟨w.heap.size, 0, none⟩) zr).trans kr0
      replace fr0 := (hb.frozen (p := ⟨w.heap.size, 0, none⟩) zr).trans fr0
      replace kr1 := (hb.cell (p := ⟨w.heap.size, 1, none⟩) zr).trans kr1
      replace fr1 := (hb.frozen (p := ⟨w.heap.size, 1, none⟩) zr).trans fr1
      replace kr2 := (hb.cell (p := ⟨w.heap.size, 2, none⟩) zr).trans kr2
      replace fr2 := (hb.frozen (p := ⟨w.heap.size, 2, none⟩) zr).trans fr2
      replace kr3 := (hb.cell (p := ⟨w.heap.size, 3, none⟩) zr).trans kr3
      replace fr3 := (hb.frozen (p := ⟨w.heap.size, 3, none⟩) zr).trans fr3
      replace zr := Nat.lt_of_lt_of_le zr hb.size
      replace HB := hide (bl_trans HB.out hb)
      clear hb
      go_wp2
      refine bodyPost_ret (v := .tuple #[.agg #[.bool false, .slice none 0 0, .bool false, .slice none 0 0], .bool false]) (by simp [results, Tryz.results51, go_sem, *]) rfl ?_
      exact ans_no (by rw [HFT.out, HPQ.out.1, HPQ.out.2]; exact hft) (set_four (Nat.le_refl _) HB.out _ _ _ _)
    | true =>
      go_wp2_with fail
      refine (fitI p q b1 e1 b2 e2 _ HO1.out.seg HO2.out.seg).mono ?_
      rw [ftV_t hft, hft]
      rintro e w10 ⟨rfl, hb⟩
      replace kr0 := (hb.cell (p := ⟨w.heap.size, 0, none⟩) zr).trans kr0
      replace fr0 := (hb.frozen (p := ⟨w.heap.size, 0, none⟩) zr).trans fr0
      replace kr1 := (hb.cell (p := ⟨w.heap.size, 1, none⟩) zr).trans kr1
      replace fr1 := (hb.frozen (p := ⟨w.heap.size, 1, none⟩) zr).trans fr1
      replace kr2 := (hb.cell (p := ⟨w.heap.size, 2, none⟩) zr).trans kr2
      replace fr2 := (hb.frozen (p := ⟨w.heap.size, 2, none⟩) zr).trans fr2
      replace kr3 := (hb.cell (p := ⟨w.heap.size, 3, none⟩) zr).trans kr3
      replace fr3 := (hb.frozen (p := ⟨w.heap.size, 3, none⟩) zr).trans fr3
      replace zr := Nat.lt_of_lt_of_le zr hb.size
      replace HO1 := hide (HO1.out.below hb)
      replace HO2 := hide (HO2.out.below hb)
      replace HB := hide (bl_trans HB.out hb)
      clear hb
      go_wp2
      refine bodyPost_ret (v := .tuple #[.agg #[.bool (sgn p), .slice b1 (lms p).length e1, .bool (sgn q), .slice b2 (lms q).length e2], .bool true]) (by simp [results, Tryz.results51, go_sem, *]) rfl ?_
      have h1 := own_four' (lo := w.heap.size) HO1.out (show w.heap.size < _ by omega) (by omega) (Value.bool (sgn p)) (Value.slice b1 (lms p).length e1) (Value.bool (sgn q)) (Value.slice b2 (lms q).length e2)
      have h2 := own_four' (lo := w.heap.size) HO2.out (show w.heap.size < _ by omega) (by omega) (Value.bool (sgn p)) (Value.slice b1 (lms p).length e1) (Value.bool (sgn q)) (Value.slice b2 (lms q).length e2)
      have ha := ans_yes (t := true) (x := x) (y := Y) (w := w) (a1 := b1) (a2 := b2) (c1 := e1) (c2 := e2) (by rw [HFT.out, HPQ.out.1, HPQ.out.2]; exact hft) (by rw [HPQ.out.1]; exact h1) (by rw [HPQ.out.2]; exact h2) HAP.out (set_four (Nat.le_refl _) HB.out _ _ _ _)
      rw [HPQ.out.1, HPQ.out.2] at ha
      exact ha

set_option maxHeartbeats 8000000 in
set_option maxRecDepth 20000 in
theorem decYesM (neg : Bool) (s : ByteArray) (A W P : List UInt8) (k : Int) (ok pt : Bool) (w : World) (hs : s.size ≤ 400) (hm : Mx w) (hcp : cpS s.data.toList = (A, k, ok)) (hcu : Lib.cut A [46] = (W, P, pt)) (hA : A.length ≤ 400) (hWP : W.length + P.length ≤ 400) (n : Nat) (x X Y : Int) (h : ok = true) (hW : digOk ⟨W.toArray⟩ = true) (h2 : pt = false) (hP : P = []) (hAD : digAll (W ++ P) = true) (hk : -1000 < k ∧ k < 1000) (hx : mk neg (valN (W ++ P)) = x) (hn : k - (P.length : Int) = - (n : Int)) (hn0 : 0 < n) (hX : x = X) (hY : (10 : Int) ^ n = Y) :
    Calls Tryz.prog 51 #[.bool neg, .string s] w fun e w' => RatAns true X Y w w' e := by
  subst h
  subst h2
  have HDW := hide hW
  have HDP := hide hP
  have HAD := hide hAD
  have HX := hide hx
  clear hW hP hAD
  have HYY := hide hY
  subst hX
  have lx : (lms x).length ≤ 200 := by rw [← HX.out]; exact lms_shortN HAD.out (by rw [List.length_append]; omega)
  have ly : (lms Y).length ≤ n + 1 := by rw [← HYY.out]; exact ten_len n
  have ly1 : (lms 1).length ≤ 40 := Num.limbs_len.2 (by decide)
  have l1 : (lms 10).length ≤ 40 := Num.limbs_len.2 (by decide)
  have HYN : Hid (Y ≠ 0) := hide (by rw [← HYY.out]; have := Int.pow_pos (n := 10) (m := n) (by decide); omega)
  clear hx hY
  have HNN := hide hn
  have hn2 : n ≤ 1400 := by omega
  have HFT := hide (ans_ft (t := true) (x := x) (y := Y) rfl HYN.out)
  obtain ⟨p, hp⟩ : ∃ p, x / sgG x Y = p := ⟨_, rfl⟩
  obtain ⟨q, hq⟩ : ∃ q, Y / sgG x Y = q := ⟨_, rfl⟩
  have HPQ := hide (And.intro hp hq)
  clear hp hq
  have HCP := hide hcp
  have HCU := hide hcu
  have HM := hide hm
  clear hcp hcu hm
  have HSA : Hid ((⟨A.toArray⟩ : ByteArray).size = A.length) := hide (by rw [← bsize])
  have HSW : Hid ((⟨W.toArray⟩ : ByteArray).size = W.length) := hide (by rw [← bsize])
  have HSP : Hid ((⟨P.toArray⟩ : ByteArray).size = P.length) := hide (by rw [← bsize])
  have kr0 : (w.alloc (Obj.cells #[Value.bool false, Value.slice none 0 0, Value.bool false, Value.slice none 0 0] 42)).cell? ⟨w.heap.size, 0, none⟩ = some (Value.bool false) := by go_simp
  have fr0 : (w.alloc (Obj.cells #[Value.bool false, Value.slice none 0 0, Value.bool false, Value.slice none 0 0] 42)).frozen? ⟨w.heap.size, 0, none⟩ = false := by go_simp
  have kr1 : (w.alloc (Obj.cells #[Value.bool false, Value.slice none 0 0, Value.bool false, Value.slice none 0 0] 42)).cell? ⟨w.heap.size, 1, none⟩ = some (Value.slice none 0 0) := by go_simp
  have fr1 : (w.alloc (Obj.cells #[Value.bool false, Value.slice none 0 0, Value.bool false, Value.slice none 0 0] 42)).frozen? ⟨w.heap.size, 1, none⟩ = false := by go_simp
  have kr2 : (w.alloc (Obj.cells #[Value.bool false, Value.slice none 0 0, Value.bool false, Value.slice none 0 0] 42)).cell? ⟨w.heap.size, 2, none⟩ = some (Value.bool false) := by go_simp
  have fr2 : (w.alloc (Obj.cells #[Value.bool false, Value.slice none 0 0, Value.bool false, Value.slice none 0 0] 42)).frozen? ⟨w.heap.size, 2, none⟩ = false := by go_simp
  have kr3 : (w.alloc (Obj.cells #[Value.bool false, Value.slice none 0 0, Value.bool false, Value.slice none 0 0] 42)).cell? ⟨w.heap.size, 3, none⟩ = some (Value.slice none 0 0) := by go_simp
  have fr3 : (w.alloc (Obj.cells #[Value.bool false, Value.slice none 0 0, Value.bool false, Value.slice none 0 0] 42)).frozen? ⟨w.heap.size, 3, none⟩ = false := by go_simp
  have zr : w.heap.size < (w.alloc (Obj.cells #[Value.bool false, Value.slice none 0 0, Value.bool false, Value.slice none 0 0] 42)).heap.size := by simp only [World.size_alloc]; omega
  have HB := hide (bl_alloc (bl_refl w) (Obj.cells #[Value.bool false, Value.slice none 0 0, Value.bool false, Value.slice none 0 0] 42))
  replace HM := hide (HM.out.below HB.out)
  go_enter Tryz.func51, Tryz.ntmps51
  go_wp2_with fail
  generalize w.alloc (Obj.cells #[Value.bool false, Value.slice none 0 0, Value.bool false, Value.slice none 0 0] 42) = W0 at *
  refine (cutPlacesG s _ (by omega) HM.out).mono ?_
  rw [HCP.out]
  rintro e w1 ⟨rfl, hb⟩
  replace kr0 := (hb.cell (p := ⟨w.heap.size, 0, none⟩) zr).trans kr0
  replace fr0 := (hb.frozen (p := ⟨w.heap.size, 0, none⟩) zr).trans fr0
  replace kr1 := (hb.cell (p := ⟨w.heap.size, 1, none⟩) zr).trans kr1
  replace fr1 := (hb.frozen (p := ⟨w.heap.size, 1, none⟩) zr).trans fr1
  replace kr2 := (hb.cell (p := ⟨w.heap.size, 2, none⟩) zr).trans kr2
  replace fr2 := (hb.frozen (p := ⟨w.heap.size, 2, none⟩) zr).trans fr2
  replace kr3 := (hb.cell (p := ⟨w.heap.size, 3, none⟩) zr).trans kr3
  replace fr3 := (hb.frozen (p := ⟨w.heap.size, 3, none⟩) zr).trans fr3
  replace zr := Nat.lt_of_lt_of_le zr hb.size
  replace HM := hide (HM.out.below hb)
  replace HB := hide (bl_trans HB.out hb)
  clear hb
  go_wp2_with fail
  refine (cutI _ 46 _ (by rw [HSA.out]; omega) HM.out).mono ?_
  rw [show (⟨A.toArray⟩ : ByteArray).data.toList = A from rfl, HCU.out]
  rintro e w2 ⟨rfl, hb⟩
  replace kr0 := (hb.cell (p := ⟨w.heap.size, 0, none⟩) zr).trans kr0
  replace fr0 := (hb.frozen (p := ⟨w.heap.size, 0, none⟩) zr).trans fr0
  replace kr1 := (hb.cell (p := ⟨w.heap.size, 1, none⟩) zr).trans kr1
  replace fr1 := (hb.frozen (p := ⟨w.heap.size, 1, none⟩) zr).trans fr1
  replace kr2 := (hb.cell (p := ⟨w.heap.size, 2, none⟩) zr).trans kr2
  replace fr2 := (hb.frozen (p := ⟨w.heap.size, 2, none⟩) zr).trans fr2
  replace kr3 := (hb.cell (p := ⟨w.heap.size, 3, none⟩) zr).trans kr3
  replace fr3 := (hb.frozen (p := ⟨w.heap.size, 3, none⟩) zr).trans fr3
  replace zr := Nat.lt_of_lt_of_le zr hb.size
  replace HB := hide (bl_trans HB.out hb)
  clear hb
  clear HM
  go_wp2_with fail
  refine (allDigitsI _ _ (by rw [HSW.out]; omega)).mono ?_
  rw [HDW.out]
  rintro e w3 ⟨rfl, hb⟩
  replace kr0 := (hb.cell (p := ⟨w.heap.size, 0, none⟩) zr).trans kr0
  replace fr0 := (hb.frozen (p := ⟨w.heap.size, 0, none⟩) zr).trans fr0
  replace kr1 := (hb.cell (p := ⟨w.heap.size, 1, none⟩) zr).trans kr1
  replace fr1 := (hb.frozen (p := ⟨w.heap.size, 1, none⟩) zr).trans fr1
  replace kr2 := (hb.cell (p := ⟨w.heap.size, 2, none⟩) zr).trans kr2
  replace fr2 := (hb.frozen (p := ⟨w.heap.size, 2, none⟩) zr).trans fr2
  replace kr3 := (hb.cell (p := ⟨w.heap.size, 3, none⟩) zr).trans kr3
  replace fr3 := (hb.frozen (p := ⟨w.heap.size, 3, none⟩) zr).trans fr3
  replace zr := Nat.lt_of_lt_of_le zr hb.size
  replace HB := hide (bl_trans HB.out hb)
  clear hb
  have HSZ : Hid ((⟨(W ++ P).toArray⟩ : ByteArray).size ≤ 400) := hide (by rw [← bsize]; show (W ++ P).length ≤ 400; rw [List.length_append]; omega)
  go_wp2_with fail
  rw [app_two]
  refine (digitLimbsI ⟨(W ++ P).toArray⟩ _ HAD.out (Nat.le_trans HSZ.out (by decide))).mono ?_
  rintro e w4 ⟨a4, n4, c4, xs4, rfl, ho4, hn4, hv4, hb⟩
  have hb4 := hb.size
  have HO4 := hide ho4
  have HV4 := hide hv4
  clear ho4 hv4
  replace kr0 := (hb.cell (p := ⟨w.heap.size, 0, none⟩) zr).trans kr0
  replace fr0 := (hb.frozen (p := ⟨w.heap.size, 0, none⟩) zr).trans fr0
  replace kr1 := (hb.cell (p := ⟨w.heap.size, 1, none⟩) zr).trans kr1
  replace fr1 := (hb.frozen (p := ⟨w.heap.size, 1, none⟩) zr).trans fr1
  replace kr2 := (hb.cell (p := ⟨w.heap.size, 2, none⟩) zr).trans kr2
  replace fr2 := (hb.frozen (p := ⟨w.heap.size, 2, none⟩) zr).trans fr2
  replace kr3 := (hb.cell (p := ⟨w.heap.size, 3, none⟩) zr).trans kr3
  replace fr3 := (hb.frozen (p := ⟨w.heap.size, 3, none⟩) zr).trans fr3
  replace zr := Nat.lt_of_lt_of_le zr hb.size
  replace HB := hide (bl_trans HB.out hb)
  clear hb
  go_wp2_with fail
  refine (bigOfI neg a4 n4 c4 xs4 _ _ HO4.out hb4).mono ?_
  rw [HV4.out, HX.out]
  rintro e w5 ⟨v5, rfl, ⟨a5, c5, rfl, ho5⟩, hb⟩
  have O5 := hide ho5
  clear ho5 HO4 HV4
  replace kr0 := (hb.cell (p := ⟨w.heap.size, 0, none⟩) zr).trans kr0
  replace fr0 := (hb.frozen (p := ⟨w.heap.size, 0, none⟩) zr).trans fr0
  replace kr1 := (hb.cell (p := ⟨w.heap.size, 1, none⟩) zr).trans kr1
  replace fr1 := (hb.frozen (p := ⟨w.heap.size, 1, none⟩) zr).trans fr1
  replace kr2 := (hb.cell (p := ⟨w.heap.size, 2, none⟩) zr).trans kr2
  replace fr2 := (hb.frozen (p := ⟨w.heap.size, 2, none⟩) zr).trans fr2
  replace kr3 := (hb.cell (p := ⟨w.heap.size, 3, none⟩) zr).trans kr3
  replace fr3 := (hb.frozen (p := ⟨w.heap.size, 3, none⟩) zr).trans fr3
  replace zr := Nat.lt_of_lt_of_le zr hb.size
  replace HB := hide (bl_trans HB.out hb)
  clear hb
  go_wp2_with fail
  refine (fromI 1 _ (by decide) (by decide)).mono ?_
  rintro e w6 ⟨v6, rfl, ⟨a6, c6, rfl, ho6⟩, hb⟩
  have O6 := hide ho6
  clear ho6
  replace kr0 := (hb.cell (p := ⟨w.heap.size, 0, none⟩) zr).trans kr0
  replace fr0 := (hb.frozen (p := ⟨w.heap.size, 0, none⟩) zr).trans fr0
  replace kr1 := (hb.cell (p := ⟨w.heap.size, 1, none⟩) zr).trans kr1
  replace fr1 := (hb.frozen (p := ⟨w.heap.size, 1, none⟩) zr).trans fr1
  replace kr2 := (hb.cell (p := ⟨w.heap.size, 2, none⟩) zr).trans kr2
  replace fr2 := (hb.frozen (p := ⟨w.heap.size, 2, none⟩) zr).trans fr2
  replace kr3 := (hb.cell (p := ⟨w.heap.size, 3, none⟩) zr).trans kr3
  replace fr3 := (hb.frozen (p := ⟨w.heap.size, 3, none⟩) zr).trans fr3
  replace zr := Nat.lt_of_lt_of_le zr hb.size
  replace O5 := hide (O5.out.below hb)
  replace HB := hide (bl_trans HB.out hb)
  clear hb
  have zr6 := zr
  have kn0 : ((w6.alloc (Obj.cells #[Value.bool (sgn x), Value.slice a5 (lms x).length c5] 40)).alloc (Obj.cells #[Value.bool (sgn 1), Value.slice a6 (lms 1).length c6] 40)).cell? ⟨w6.heap.size, 0, none⟩ = some (Value.bool (sgn x)) := by go_simp
  have kn1 : ((w6.alloc (Obj.cells #[Value.bool (sgn x), Value.slice a5 (lms x).length c5] 40)).alloc (Obj.cells #[Value.bool (sgn 1), Value.slice a6 (lms 1).length c6] 40)).cell? ⟨w6.heap.size, 1, none⟩ = some (Value.slice a5 (lms x).length c5) := by go_simp
  have fn0 : ((w6.alloc (Obj.cells #[Value.bool (sgn x), Value.slice a5 (lms x).length c5] 40)).alloc (Obj.cells #[Value.bool (sgn 1), Value.slice a6 (lms 1).length c6] 40)).frozen? ⟨w6.heap.size, 0, none⟩ = false := by go_simp
  have fn1 : ((w6.alloc (Obj.cells #[Value.bool (sgn x), Value.slice a5 (lms x).length c5] 40)).alloc (Obj.cells #[Value.bool (sgn 1), Value.slice a6 (lms 1).length c6] 40)).frozen? ⟨w6.heap.size, 1, none⟩ = false := by go_simp
  have zn : w6.heap.size < ((w6.alloc (Obj.cells #[Value.bool (sgn x), Value.slice a5 (lms x).length c5] 40)).alloc (Obj.cells #[Value.bool (sgn 1), Value.slice a6 (lms 1).length c6] 40)).heap.size := by simp only [World.size_alloc]; omega
  have kd0 : ((w6.alloc (Obj.cells #[Value.bool (sgn x), Value.slice a5 (lms x).length c5] 40)).alloc (Obj.cells #[Value.bool (sgn 1), Value.slice a6 (lms 1).length c6] 40)).cell? ⟨w6.heap.size + 1, 0, none⟩ = some (Value.bool (sgn 1)) := by go_simp
  have kd1 : ((w6.alloc (Obj.cells #[Value.bool (sgn x), Value.slice a5 (lms x).length c5] 40)).alloc (Obj.cells #[Value.bool (sgn 1), Value.slice a6 (lms 1).length c6] 40)).cell? ⟨w6.heap.size + 1, 1, none⟩ = some (Value.slice a6 (lms 1).length c6) := by go_simp
  have fd0 : ((w6.alloc (Obj.cells #[Value.bool (sgn x), Value.slice a5 (lms x).length c5] 40)).alloc (Obj.cells #[Value.bool (sgn 1), Value.slice a6 (lms 1).length c6] 40)).frozen? ⟨w6.heap.size + 1, 0, none⟩ = false := by go_simp
  have fd1 : ((w6.alloc (Obj.cells #[Value.bool (sgn x), Value.slice a5 (lms x).length c5] 40)).alloc (Obj.cells #[Value.bool (sgn 1), Value.slice a6 (lms 1).length c6] 40)).frozen? ⟨w6.heap.size + 1, 1, none⟩ = false := by go_simp
  have zd : w6.heap.size + 1 < ((w6.alloc (Obj.cells #[Value.bool (sgn x), Value.slice a5 (lms x).length c5] 40)).alloc (Obj.cells #[Value.bool (sgn 1), Value.slice a6 (lms 1).length c6] 40)).heap.size := by simp only [World.size_alloc]; omega
  have hbn := bl_alloc (bl_alloc (bl_refl w6) (Obj.cells #[Value.bool (sgn x), Value.slice a5 (lms x).length c5] 40)) (Obj.cells #[Value.bool (sgn 1), Value.slice a6 (lms 1).length c6] 40)
  have HW7 := hide hbn
  replace kr0 := (hbn.cell (p := ⟨w.heap.size, 0, none⟩) zr).trans kr0
  replace fr0 := (hbn.frozen (p := ⟨w.heap.size, 0, none⟩) zr).trans fr0
  replace kr1 := (hbn.cell (p := ⟨w.heap.size, 1, none⟩) zr).trans kr1
  replace fr1 := (hbn.frozen (p := ⟨w.heap.size, 1, none⟩) zr).trans fr1
  replace kr2 := (hbn.cell (p := ⟨w.heap.size, 2, none⟩) zr).trans kr2
  replace fr2 := (hbn.frozen (p := ⟨w.heap.size, 2, none⟩) zr).trans fr2
  replace kr3 := (hbn.cell (p := ⟨w.heap.size, 3, none⟩) zr).trans kr3
  replace fr3 := (hbn.frozen (p := ⟨w.heap.size, 3, none⟩) zr).trans fr3
  replace zr := Nat.lt_of_lt_of_le zr hbn.size
  replace HB := hide (bl_trans HB.out hbn)
  clear hbn
  have HSP2 := HSP.out
  go_wp2_with fail
  generalize ((w6.alloc (Obj.cells #[Value.bool (sgn x), Value.slice a5 (lms x).length c5] 40)).alloc (Obj.cells #[Value.bool (sgn 1), Value.slice a6 (lms 1).length c6] 40)) = w7 at *
  refine (fromI 10 _ (by decide) (by decide)).mono ?_
  rintro e wA ⟨vA, rfl, ⟨aA, cA, rfl, hoA⟩, hbAr⟩
  have hbA : Below w7.heap.size w7 wA := hbAr
  have yA := hbA.size
  go_wp2_with fail
  refine (tenI (.agg #[.bool (sgn 10), .slice aA (lms 10).length cA]) n _ _ ⟨aA, cA, rfl, hoA.seg⟩ (by omega) (by omega)).mono ?_
  rw [HYY.out]
  rintro e wC ⟨vC, rfl, ⟨aC, cC, rfl, hoC⟩, hbCr⟩
  have hbC : Below w7.heap.size w7 wC := bl_trans hbA hbCr
  have yC := hbCr.size
  replace fd0 := (hbC.frozen (p := ⟨w6.heap.size + 1, 0, none⟩) zd).trans fd0
  replace fd1 := (hbC.frozen (p := ⟨w6.heap.size + 1, 1, none⟩) zd).trans fd1
  replace kd0 := (hbC.cell (p := ⟨w6.heap.size + 1, 0, none⟩) zd).trans kd0
  replace kd1 := (hbC.cell (p := ⟨w6.heap.size + 1, 1, none⟩) zd).trans kd1
  all_goals
    have m0 : ((wC.setCell ⟨w6.heap.size + 1, 0, none⟩ (Value.bool (sgn Y))).setCell ⟨w6.heap.size + 1, 1, none⟩ (Value.slice aC (lms Y).length cC)).cell? ⟨w6.heap.size + 1, 0, none⟩ = some (Value.bool (sgn Y)) := by go_simp
    have m1 : ((wC.setCell ⟨w6.heap.size + 1, 0, none⟩ (Value.bool (sgn Y))).setCell ⟨w6.heap.size + 1, 1, none⟩ (Value.slice aC (lms Y).length cC)).cell? ⟨w6.heap.size + 1, 1, none⟩ = some (Value.slice aC (lms Y).length cC) := by go_simp
    replace kr0 := (cel2 (w1 := wC) (N := w6.heap.size + 1) (p := ⟨w.heap.size, 0, none⟩) (by dsimp only; omega) (Value.bool (sgn Y)) (Value.slice aC (lms Y).length cC)).trans ((hbC.cell (p := ⟨w.heap.size, 0, none⟩) zr).trans kr0)
    replace fr0 := (fro2 (w1 := wC) (N := w6.heap.size + 1) (p := ⟨w.heap.size, 0, none⟩) (by dsimp only; omega) (Value.bool (sgn Y)) (Value.slice aC (lms Y).length cC)).trans ((hbC.frozen (p := ⟨w.heap.size, 0, none⟩) zr).trans fr0)
    replace kr1 := (cel2 (w1 := wC) (N := w6.heap.size + 1) (p := ⟨w.heap.size, 1, none⟩) (by dsimp only; omega) (Value.bool (sgn Y)) (Value.slice aC (lms Y).length cC)).trans ((hbC.cell (p := ⟨w.heap.size, 1, none⟩) zr).trans kr1)
    replace fr1 := (fro2 (w1 := wC) (N := w6.heap.size + 1) (p := ⟨w.heap.size, 1, none⟩) (by dsimp only; omega) (Value.bool (sgn Y)) (Value.slice aC (lms Y).length cC)).trans ((hbC.frozen (p := ⟨w.heap.size, 1, none⟩) zr).trans fr1)
    replace kr2 := (cel2 (w1 := wC) (N := w6.heap.size + 1) (p := ⟨w.heap.size, 2, none⟩) (by dsimp only; omega) (Value.bool (sgn Y)) (Value.slice aC (lms Y).length cC)).trans ((hbC.cell (p := ⟨w.heap.size, 2, none⟩) zr).trans kr2)
    replace fr2 := (fro2 (w1 := wC) (N := w6.heap.size + 1) (p := ⟨w.heap.size, 2, none⟩) (by dsimp only; omega) (Value.bool (sgn Y)) (Value.slice aC (lms Y).length cC)).trans ((hbC.frozen (p := ⟨w.heap.size, 2, none⟩) zr).trans fr2)
    replace kr3 := (cel2 (w1 := wC) (N := w6.heap.size + 1) (p := ⟨w.heap.size, 3, none⟩) (by dsimp only; omega) (Value.bool (sgn Y)) (Value.slice aC (lms Y).length cC)).trans ((hbC.cell (p := ⟨w.heap.size, 3, none⟩) zr).trans kr3)
    replace fr3 := (fro2 (w1 := wC) (N := w6.heap.size + 1) (p := ⟨w.heap.size, 3, none⟩) (by dsimp only; omega) (Value.bool (sgn Y)) (Value.slice aC (lms Y).length cC)).trans ((hbC.frozen (p := ⟨w.heap.size, 3, none⟩) zr).trans fr3)
    replace kn0 := (cel2 (w1 := wC) (N := w6.heap.size + 1) (p := ⟨w6.heap.size, 0, none⟩) (by dsimp only; omega) (Value.bool (sgn Y)) (Value.slice aC (lms Y).length cC)).trans ((hbC.cell (p := ⟨w6.heap.size, 0, none⟩) zn).trans kn0)
    replace kn1 := (cel2 (w1 := wC) (N := w6.heap.size + 1) (p := ⟨w6.heap.size, 1, none⟩) (by dsimp only; omega) (Value.bool (sgn Y)) (Value.slice aC (lms Y).length cC)).trans ((hbC.cell (p := ⟨w6.heap.size, 1, none⟩) zn).trans kn1)
    have SD := hide (seg_on hoC (N := w6.heap.size + 1) (by omega) (Value.bool (sgn Y)) (Value.slice aC (lms Y).length cC))
    have SN := hide (seg_off O5.out (bl_trans HW7.out hbC) (Nat.le_succ _) (Value.bool (sgn Y)) (Value.slice aC (lms Y).length cC))
    replace HB := hide (((bl_trans HB.out hbC).setCell (p := ⟨w6.heap.size + 1, 0, none⟩) (by dsimp only; omega) (Value.bool (sgn Y))).setCell (p := ⟨w6.heap.size + 1, 1, none⟩) (by dsimp only; omega) (Value.slice aC (lms Y).length cC))
    replace zr : w.heap.size < ((wC.setCell ⟨w6.heap.size + 1, 0, none⟩ (Value.bool (sgn Y))).setCell ⟨w6.heap.size + 1, 1, none⟩ (Value.slice aC (lms Y).length cC)).heap.size := by (simp only [World.size_setCell]; omega)
    clear fn0 fn1 zd zn O5 O6 HW7 hoA hoC hbA hbAr hbC hbCr
    go_wp2_with fail
    generalize ((wC.setCell ⟨w6.heap.size + 1, 0, none⟩ (Value.bool (sgn Y))).setCell ⟨w6.heap.size + 1, 1, none⟩ (Value.slice aC (lms Y).length cC)) = w8 at *
    refine (shortI' x Y a5 c5 aC cC _ SN.out SD.out HYN.out (by omega) (by omega)).mono ?_
    rw [HPQ.out.1, HPQ.out.2]
    rintro e w9 ⟨b1, e1, b2, e2, rfl, ho1, ho2, hap, hb⟩
    have zr8 := zr
    have HO1 := hide ho1
    have HO2 := hide ho2
    have HAP := hide hap
    clear ho1 ho2 hap m0 m1 kn0 kn1 kd0 kd1 fd0 fd1 SN SD
    replace kr0 := (hb.cell (p := ⟨w.heap.size, 0, none⟩) zr).trans kr0
    replace fr0 := (hb.frozen (p := ⟨w.heap.size, 0, none⟩) zr).trans fr0
    replace kr1 := (hb.cell (p := ⟨w.heap.size, 1, none⟩) zr).trans kr1
    replace fr1 := (hb.frozen (p := ⟨w.heap.size, 1, none⟩) zr).trans fr1
    replace kr2 := (hb.cell (p := ⟨w.heap.size, 2, none⟩) zr).trans kr2
    replace fr2 := (hb.frozen (p := ⟨w.heap.size, 2, none⟩) zr).trans fr2
    replace kr3 := (hb.cell (p := ⟨w.heap.size, 3, none⟩) zr).trans kr3
    replace fr3 := (hb.frozen (p := ⟨w.heap.size, 3, none⟩) zr).trans fr3
    replace zr := Nat.lt_of_lt_of_le zr hb.size
    replace HB := hide (bl_trans HB.out hb)
    clear hb
    cases hft : ftT p q with
    | false =>
      go_wp2_with fail
      refine (fitI p q b1 e1 b2 e2 _ HO1.out.seg HO2.out.seg).mono ?_
      rw [ftV_f hft, hft]
      rintro e w10 ⟨rfl, hb⟩
      replace kr0 := (hb.cell (p := ⟨w.heap.size, 0, none⟩) zr).trans kr0
      replace fr0 := (hb.frozen (p := ⟨w.heap.size, 0, none⟩) zr).trans fr0
      replace kr1 := (hb.cell (p := ⟨w.heap.size, 1, none⟩) zr).trans kr1
      replace fr1 := (hb.frozen (p := ⟨w.heap.size, 1, none⟩) zr).trans fr1
      replace kr2 := (hb.cell (p := ⟨w.heap.size, 2, none⟩) zr).trans kr2
      replace fr2 := (hb.frozen (p := ⟨w.heap.size, 2, none⟩) zr).trans fr2
      replace kr3 := (hb.cell (p := ⟨w.heap.size, 3, none⟩) zr).trans kr3
      replace fr3 := (hb.frozen (p := ⟨w.heap.size, 3, none⟩) zr).trans fr3
      replace zr := Nat.lt_of_lt_of_le zr hb.size
      replace HB := hide (bl_trans HB.out hb)
      clear hb
      go_wp2
      refine bodyPost_ret (v := .tuple #[.agg #[.bool false, .slice none 0 0, .bool false, .slice none 0 0], .bool false]) (by simp [results, Tryz.results51, go_sem, *]) rfl ?_
      exact ans_no (by rw [HFT.out, HPQ.out.1, HPQ.out.2]; exact hft) (set_four (Nat.le_refl _) HB.out _ _ _ _)
    | true =>
      go_wp2_with fail
      refine (fitI p q b1 e1 b2 e2 _ HO1.out.seg HO2.out.seg).mono ?_
      rw [ftV_t hft, hft]
      rintro e w10 ⟨rfl, hb⟩
      replace kr0 := (hb.cell (p := ⟨w.heap.size, 0, none⟩) zr).trans kr0
      replace fr0 := (hb.frozen (p := ⟨w.heap.size, 0, none⟩) zr).trans fr0
      replace kr1 := (hb.cell (p := ⟨w.heap.size, 1, none⟩) zr).trans kr1
      replace fr1 := (hb.frozen (p := ⟨w.heap.size, 1, none⟩) zr).trans fr1
      replace kr2 := (hb.cell (p := ⟨w.heap.size, 2, none⟩) zr).trans kr2
      replace fr2 := (hb.frozen (p := ⟨w.heap.size, 2, none⟩) zr).trans fr2
      replace kr3 := (hb.cell (p := ⟨w.heap.size, 3, none⟩) zr).trans kr3
      replace fr3 := (hb.frozen (p := ⟨w.heap.size, 3, none⟩) zr).trans fr3
      replace zr := Nat.lt_of_lt_of_le zr hb.size
      replace HO1 := hide (HO1.out.below hb)
      replace HO2 := hide (HO2.out.below hb)
      replace HB := hide (bl_trans HB.out hb)
      clear hb
      go_wp2
      refine bodyPost_ret (v := .tuple #[.agg #[.bool (sgn p), .slice b1 (lms p).length e1, .bool (sgn q), .slice b2 (lms q).length e2], .bool true]) (by simp [results, Tryz.results51, go_sem, *]) rfl ?_
      have h1 := own_four' (lo := w.heap.size) HO1.out (show w.heap.size < _ by omega) (by omega) (Value.bool (sgn p)) (Value.slice b1 (lms p).length e1) (Value.bool (sgn q)) (Value.slice b2 (lms q).length e2)
      have h2 := own_four' (lo := w.heap.size) HO2.out (show w.heap.size < _ by omega) (by omega) (Value.bool (sgn p)) (Value.slice b1 (lms p).length e1) (Value.bool (sgn q)) (Value.slice b2 (lms q).length e2)
      have ha := ans_yes (t := true) (x := x) (y := Y) (w := w) (a1 := b1) (a2 := b2) (c1 := e1) (c2 := e2) (by rw [HFT.out, HPQ.out.1, HPQ.out.2]; exact hft) (by rw [HPQ.out.1]; exact h1) (by rw [HPQ.out.2]; exact h2) HAP.out (set_four (Nat.le_refl _) HB.out _ _ _ _)
      rw [HPQ.out.1, HPQ.out.2] at ha
      exact ha

end Go.Proofs.YtkemplmhemnpbaaGreatDoor

/- readDecimal of the program at any text. -/
namespace Go.Proofs.YtkemplmhemnpbaaGreatDoor
open Go.RowKit
set_option linter.unusedVariables false

/-- what is read, or nought -/
def gotN (neg : Bool) (o : Option (Nat × Nat)) : Int := mk neg (o.getD (0, 1)).1
def gotD (o : Option (Nat × Nat)) : Int := ((o.getD (0, 1)).2 : Int)
theorem mk_times (neg : Bool) (a b : Nat) : mk neg a * (b : Int) = mk neg (a * b) := by
  unfold mk
  cases neg
  · simp
  · simp [Int.neg_mul]
theorem cut_len2 (l : List UInt8) (c : UInt8) : (Lib.cut l [c]).1.length + (Lib.cut l [c]).2.1.length ≤ l.length := by
  by_cases h : c ∈ l
  · obtain ⟨a, b, rfl, ha⟩ := first h
    rw [cut_mid ha]; simp
  · rw [cut_none h]; simp
theorem cut_rest {l : List UInt8} {c : UInt8} (h : (Lib.cut l [c]).2.2 = false) : (Lib.cut l [c]).2.1 = [] := by
  by_cases hc : c ∈ l
  · obtain ⟨a, b, rfl, ha⟩ := first hc
    rw [cut_mid ha] at h; cases h
  · rw [cut_none hc]
theorem exp_small {t : List UInt8} {k : Int} (h : expV t = some k) : -1000 < k ∧ k < 1000 := by
  unfold expV at h
  split at h
  · rename_i hc
    rw [Bool.and_eq_true, decide_eq_true_eq] at hc
    have hd : digAll (Lib.trimPrefix t [45]) = true := by
      have := hc.1; unfold digL at this; rw [Bool.and_eq_true] at this; exact this.1
    have := val3 hd hc.2
    have h2 := Option.some.inj h
    split at h2 <;> omega
  · cases h
theorem cp_parts (l : List UInt8) : ∃ A k ok, cpS l = (A, k, ok) ∧ A.length ≤ l.length ∧ (-1000 < k ∧ k < 1000) ∧ decI l = if ok = true then ptI A k else none := by
  unfold cpS decI
  by_cases h : (Lib.cut l [101]).2.2 = true
  · rw [if_pos h, if_pos h]
    cases he : expV (Lib.cut l [101]).2.1 with
    | none => exact ⟨[], 0, false, rfl, Nat.zero_le _, by omega, rfl⟩
    | some k => exact ⟨_, k, true, rfl, (cut_len l 101).1, exp_small he, rfl⟩
  · rw [if_neg h, if_neg h]
    exact ⟨l, 0, true, rfl, Nat.le_refl _, by omega, rfl⟩
theorem digAll_app {a b : List UInt8} (ha : digAll a = true) (hb : digAll b = true) : digAll (a ++ b) = true := by
  rw [all_dg, List.all_append, ← all_dg, ← all_dg, ha, hb]; rfl
theorem digL_all {a : List UInt8} (h : digL a = true) : digAll a = true := by
  unfold digL at h; rw [Bool.and_eq_true] at h; exact h.1

set_option maxHeartbeats 1600000 in
theorem readDecG (neg : Bool) (s : ByteArray) (w : World) (hs : s.size ≤ 400) (hm : Mx w) :
    Calls Tryz.prog 51 #[.bool neg, .string s] w fun e w' => RatAns (decI s.data.toList).isSome (gotN neg (decI s.data.toList)) (gotD (decI s.data.toList)) w w' e := by
  obtain ⟨A, k, ok, hcp, hA, hk, hd⟩ := cp_parts s.data.toList
  rw [bsize] at hA
  obtain ⟨W, P, pt, hcu⟩ : ∃ W P pt, Lib.cut A [46] = (W, P, pt) := ⟨_, _, _, rfl⟩
  have hl : W.length + P.length ≤ 400 := by
    have h := cut_len2 A 46
    rw [hcu] at h
    exact Nat.le_trans h (by omega)
  cases ok with
  | false =>
    rw [hd, if_neg (by decide)]
    exact decNo1 neg s A W P k false pt w hs hm hcp hcu (by omega) hl _ _ rfl
  | true =>
    rw [if_pos rfl] at hd
    have hpt : ptI A k = if (digL W && (!pt || digL P)) = true then some (decV (W ++ P) (k - P.length)) else none := by
      unfold ptI; rw [hcu]
    rw [hpt] at hd
    cases hW : digL W with
    | false =>
      rw [hW] at hd
      rw [hd, Bool.false_and, if_neg (by decide)]
      exact decNo2 neg s A W P k true pt w hs hm hcp hcu (by omega) hl _ _ rfl (by rw [digOk_L]; exact hW)
    | true =>
      rw [hW, Bool.true_and] at hd
      cases pt with
      | true =>
        cases hP : digL P with
        | false =>
          rw [hP] at hd
          rw [hd, if_neg (by decide)]
          exact decNo3 neg s A W P k true true w hs hm hcp hcu (by omega) hl _ _ rfl (by rw [digOk_L]; exact hW) rfl (by rw [digOk_L]; exact hP)
        | true =>
          rw [hP, if_pos (by decide)] at hd
          rw [hd]
          have had := digAll_app (digL_all hW) (digL_all hP)
          by_cases hn : k - (P.length : Int) < 0
          · have e1 : decV (W ++ P) (k - P.length) = (valN (W ++ P), 10 ^ (-(k - (P.length : Int))).toNat) := if_pos hn
            rw [e1]
            exact decYesN neg s A W P k true true w hs hm hcp hcu (by omega) hl (-(k - (P.length : Int))).toNat _ _ _ rfl (by rw [digOk_L]; exact hW) rfl (by rw [digOk_L]; exact hP) had hk rfl (by omega) (by omega) rfl (by show _ = ((10 ^ _ : Nat) : Int); rw [Int.natCast_pow]; rfl)
          · have e1 : decV (W ++ P) (k - P.length) = (valN (W ++ P) * 10 ^ (k - (P.length : Int)).toNat, 1) := if_neg hn
            rw [e1]
            exact decYesP neg s A W P k true true w hs hm hcp hcu (by omega) hl (k - (P.length : Int)).toNat _ _ _ rfl (by rw [digOk_L]; exact hW) rfl (by rw [digOk_L]; exact hP) had hk rfl (by omega) (by show _ = mk neg (_ * _); rw [← mk_times, Int.natCast_pow]; rfl) rfl
      | false =>
        rw [if_pos (by rfl)] at hd
        have hP : P = [] := by
          have := cut_rest (l := A) (c := 46) (by rw [hcu])
          rw [hcu] at this; exact this
        rw [hd]
        have had := digAll_app (digL_all hW) (b := P) (by rw [hP]; rfl)
        by_cases hn : k - (P.length : Int) < 0
        · have e1 : decV (W ++ P) (k - P.length) = (valN (W ++ P), 10 ^ (-(k - (P.length : Int))).toNat) := if_pos hn
          rw [e1]
          exact decYesM neg s A W P k true false w hs hm hcp hcu (by omega) hl (-(k - (P.length : Int))).toNat _ _ _ rfl (by rw [digOk_L]; exact hW) rfl hP had hk rfl (by omega) (by omega) rfl (by show _ = ((10 ^ _ : Nat) : Int); rw [Int.natCast_pow]; rfl)
        · have e1 : decV (W ++ P) (k - P.length) = (valN (W ++ P) * 10 ^ (k - (P.length : Int)).toNat, 1) := if_neg hn
          rw [e1]
          exact decYesQ neg s A W P k true false w hs hm hcp hcu (by omega) hl (k - (P.length : Int)).toNat _ _ _ rfl (by rw [digOk_L]; exact hW) rfl hP had hk rfl (by omega) (by show _ = mk neg (_ * _); rw [← mk_times, Int.natCast_pow]; rfl) rfl
end Go.Proofs.YtkemplmhemnpbaaGreatDoor

/- ReadRat of the program at any text. -/
namespace Go.Proofs.YtkemplmhemnpbaaGreatDoor
open Go.RowKit
set_option linter.unusedVariables false

/-- what the program reads -/
def rrO (s : ByteArray) : Option (Nat × Nat) := if 400 < s.size then none else rrI (rdD s).data.toList
theorem ans_same {t t' : Bool} {x y x' y' : Int} {w w' : World} {e : Ending} (h : rtT t x y = false) (h' : rtT t' x' y' = false) (ha : RatAns t x y w w' e) : RatAns t' x' y' w w' e := by
  have h1 : rtN t x y = rtN t' x' y' := by unfold rtN; rw [h, h']; rfl
  have h2 : rtD t x y = rtD t' x' y' := by unfold rtD; rw [h, h']; rfl
  unfold RatAns at ha ⊢
  rw [h, h1, h2] at ha
  rw [h']
  exact ha
theorem rt_off (x y : Int) : rtT false x y = false := rfl
theorem rt_nul (t : Bool) (x : Int) : rtT t x 0 = false := by cases t <;> rfl
set_option maxHeartbeats 2000000 in
set_option maxRecDepth 20000 in
theorem readG1 (s : ByteArray) (ng : Bool) (dd N D : List UInt8) (st : Bool) (t : Bool) (x y : Int) (w : World) (hm : Mx w) (hs : s.size ≤ 400) (hg : rdNeg s = ng) (hd : rdD s = ⟨dd.toArray⟩) (hl : dd.length ≤ 400) (hc : Lib.cut dd [47] = (N, D, st)) (hst : st = false) (h1 : (decI dd).isSome = t) (h2 : gotN ng (decI dd) = x) (h3 : gotD (decI dd) = y) :
    Calls Tryz.prog 25 #[.string s] w fun e w' => RatAns t x y w w' e := by
  have HN := hide hg
  have HD := hide hd
  have hs' : ¬ (400 : Int) < (s.size : Int) := by omega
  have HSZ : Hid ((⟨dd.toArray⟩ : ByteArray).size = dd.length) := hide (by rw [← bsize])
  subst hst
  have HA := hide (And.intro h1 (And.intro h2 h3))
  clear h1 h2 h3
  have HC := hide hc
  clear hg hd hc
  have kr0 : (w.alloc (Obj.cells #[Value.bool false, Value.slice none 0 0, Value.bool false, Value.slice none 0 0] 42)).cell? ⟨w.heap.size, 0, none⟩ = some (Value.bool false) := by go_simp
  have fr0 : (w.alloc (Obj.cells #[Value.bool false, Value.slice none 0 0, Value.bool false, Value.slice none 0 0] 42)).frozen? ⟨w.heap.size, 0, none⟩ = false := by go_simp
  have kr1 : (w.alloc (Obj.cells #[Value.bool false, Value.slice none 0 0, Value.bool false, Value.slice none 0 0] 42)).cell? ⟨w.heap.size, 1, none⟩ = some (Value.slice none 0 0) := by go_simp
  have fr1 : (w.alloc (Obj.cells #[Value.bool false, Value.slice none 0 0, Value.bool false, Value.slice none 0 0] 42)).frozen? ⟨w.heap.size, 1, none⟩ = false := by go_simp
  have kr2 : (w.alloc (Obj.cells #[Value.bool false, Value.slice none 0 0, Value.bool false, Value.slice none 0 0] 42)).cell? ⟨w.heap.size, 2, none⟩ = some (Value.bool false) := by go_simp
  have fr2 : (w.alloc (Obj.cells #[Value.bool false, Value.slice none 0 0, Value.bool false, Value.slice none 0 0] 42)).frozen? ⟨w.heap.size, 2, none⟩ = false := by go_simp
  have kr3 : (w.alloc (Obj.cells #[Value.bool false, Value.slice none 0 0, Value.bool false, Value.slice none 0 0] 42)).cell? ⟨w.heap.size, 3, none⟩ = some (Value.slice none 0 0) := by go_simp
  have fr3 : (w.alloc (Obj.cells #[Value.bool false, Value.slice none 0 0, Value.bool false, Value.slice none 0 0] 42)).frozen? ⟨w.heap.size, 3, none⟩ = false := by go_simp
  have zr : w.heap.size < (w.alloc (Obj.cells #[Value.bool false, Value.slice none 0 0, Value.bool false, Value.slice none 0 0] 42)).heap.size := by simp only [World.size_alloc]; omega
  have HB := hide (bl_alloc (bl_refl w) (Obj.cells #[Value.bool false, Value.slice none 0 0, Value.bool false, Value.slice none 0 0] 42))
  have HM := hide (hm.below HB.out)
  clear hm
  go_enter Tryz.func25, Tryz.ntmps25
  go_wp2_with fail
  generalize w.alloc (Obj.cells #[Value.bool false, Value.slice none 0 0, Value.bool false, Value.slice none 0 0] 42) = W0 at *
  refine (cutPre s _ _).mono ?_
  rintro e w1 ⟨rfl, hw⟩
  subst w1
  rw [show ({ data := #[45] } : ByteArray).data.toList = [45] from rfl, show (⟨(Lib.trimPrefix s.data.toList [45]).toArray⟩ : ByteArray) = rdD s from rfl, show Lib.hasPrefix s.data.toList [45] = rdNeg s from rfl, HN.out, HD.out]
  go_wp2_with fail
  refine (cutI _ 47 _ (by rw [HSZ.out]; omega) HM.out).mono ?_
  rw [show (⟨dd.toArray⟩ : ByteArray).data.toList = dd from rfl, HC.out]
  rintro e w2 ⟨rfl, hb⟩
  replace kr0 := (hb.cell (p := ⟨w.heap.size, 0, none⟩) zr).trans kr0
  replace fr0 := (hb.frozen (p := ⟨w.heap.size, 0, none⟩) zr).trans fr0
  replace kr1 := (hb.cell (p := ⟨w.heap.size, 1, none⟩) zr).trans kr1
  replace fr1 := (hb.frozen (p := ⟨w.heap.size, 1, none⟩) zr).trans fr1
  replace kr2 := (hb.cell (p := ⟨w.heap.size, 2, none⟩) zr).trans kr2
  replace fr2 := (hb.frozen (p := ⟨w.heap.size, 2, none⟩) zr).trans fr2
  replace kr3 := (hb.cell (p := ⟨w.heap.size, 3, none⟩) zr).trans kr3
  replace fr3 := (hb.frozen (p := ⟨w.heap.size, 3, none⟩) zr).trans fr3
  replace zr := Nat.lt_of_lt_of_le zr hb.size
  replace HM := hide (HM.out.below hb)
  replace HB := hide (bl_trans HB.out hb)
  clear hb
  go_wp2_with fail
  have HQ := hide (readDecG ng ⟨dd.toArray⟩ w2 (by rw [HSZ.out]; exact hl) HM.out)
  rw [show (⟨dd.toArray⟩ : ByteArray).data.toList = dd from rfl, HA.out.1, HA.out.2.1, HA.out.2.2] at HQ
  refine HQ.out.mono ?_
  unfold RatAns
  obtain ⟨X, hX⟩ : ∃ X, rtN t x y = X := ⟨_, rfl⟩
  obtain ⟨Y, hY⟩ : ∃ Y, rtD t x y = Y := ⟨_, rfl⟩
  obtain ⟨F, hF⟩ : ∃ F, rtT t x y = F := ⟨_, rfl⟩
  rw [hX, hY, hF]
  have HXY := hide (And.intro hX (And.intro hY hF))
  clear hX hY hF
  rintro e w3 ⟨b1, e1, b2, e2, rfl, ho1, ho2, hap, hb⟩
  have zr2 := zr
  have HO1 := hide ho1
  have HO2 := hide ho2
  have HAP := hide hap
  clear ho1 ho2 hap
  replace kr0 := (hb.cell (p := ⟨w.heap.size, 0, none⟩) zr).trans kr0
  replace fr0 := (hb.frozen (p := ⟨w.heap.size, 0, none⟩) zr).trans fr0
  replace kr1 := (hb.cell (p := ⟨w.heap.size, 1, none⟩) zr).trans kr1
  replace fr1 := (hb.frozen (p := ⟨w.heap.size, 1, none⟩) zr).trans fr1
  replace kr2 := (hb.cell (p := ⟨w.heap.size, 2, none⟩) zr).trans kr2
  replace fr2 := (hb.frozen (p := ⟨w.heap.size, 2, none⟩) zr).trans fr2
  replace kr3 := (hb.cell (p := ⟨w.heap.size, 3, none⟩) zr).trans kr3
  replace fr3 := (hb.frozen (p := ⟨w.heap.size, 3, none⟩) zr).trans fr3
  replace zr := Nat.lt_of_lt_of_le zr hb.size
  replace HB := hide (bl_trans HB.out hb)
  clear hb
  go_wp2
  refine bodyPost_ret (v := .tuple #[.agg #[.bool (sgn X), .slice b1 (lms X).length e1, .bool (sgn Y), .slice b2 (lms Y).length e2], .bool F]) (by simp [results, Tryz.results25, go_sem, *]) rfl ?_
  have h1 := own_four' (lo := w.heap.size) HO1.out (show w.heap.size < _ by omega) (by omega) (Value.bool (sgn X)) (Value.slice b1 (lms X).length e1) (Value.bool (sgn Y)) (Value.slice b2 (lms Y).length e2)
  have h2 := own_four' (lo := w.heap.size) HO2.out (show w.heap.size < _ by omega) (by omega) (Value.bool (sgn X)) (Value.slice b1 (lms X).length e1) (Value.bool (sgn Y)) (Value.slice b2 (lms Y).length e2)
  show RatAns t x y w _ _
  unfold RatAns
  rw [HXY.out.1, HXY.out.2.1, HXY.out.2.2]
  exact ⟨b1, e1, b2, e2, rfl, h1, h2, HAP.out, set_four (Nat.le_refl _) HB.out _ _ _ _⟩

set_option maxHeartbeats 2000000 in
set_option maxRecDepth 20000 in
theorem readG2 (s : ByteArray) (ng : Bool) (dd N D : List UInt8) (st : Bool) (t : Bool) (x y : Int) (w : World) (hm : Mx w) (hs : s.size ≤ 400) (hg : rdNeg s = ng) (hd : rdD s = ⟨dd.toArray⟩) (hl : dd.length ≤ 400) (hc : Lib.cut dd [47] = (N, D, st)) (hst : st = true) (hN : N.length ≤ 400) (hD : D.length ≤ 400) (h1 : (digOk ⟨N.toArray⟩ && digOk ⟨D.toArray⟩) = t) (h2 : mk ng (valN N) = x) (h3 : mk false (valN D) = y) :
    Calls Tryz.prog 25 #[.string s] w fun e w' => RatAns t x y w w' e := by
  have HN := hide hg
  have HD := hide hd
  have hs' : ¬ (400 : Int) < (s.size : Int) := by omega
  have HSZ : Hid ((⟨dd.toArray⟩ : ByteArray).size = dd.length) := hide (by rw [← bsize])
  subst hst
  have HA := hide (And.intro h1 (And.intro h2 h3))
  clear h1 h2 h3
  have HC := hide hc
  clear hg hd hc
  have kr0 : (w.alloc (Obj.cells #[Value.bool false, Value.slice none 0 0, Value.bool false, Value.slice none 0 0] 42)).cell? ⟨w.heap.size, 0, none⟩ = some (Value.bool false) := by go_simp
  have fr0 : (w.alloc (Obj.cells #[Value.bool false, Value.slice none 0 0, Value.bool false, Value.slice none 0 0] 42)).frozen? ⟨w.heap.size, 0, none⟩ = false := by go_simp
  have kr1 : (w.alloc (Obj.cells #[Value.bool false, Value.slice none 0 0, Value.bool false, Value.slice none 0 0] 42)).cell? ⟨w.heap.size, 1, none⟩ = some (Value.slice none 0 0) := by go_simp
  have fr1 : (w.alloc (Obj.cells #[Value.bool false, Value.slice none 0 0, Value.bool false, Value.slice none 0 0] 42)).frozen? ⟨w.heap.size, 1, none⟩ = false := by go_simp
  have kr2 : (w.alloc (Obj.cells #[Value.bool false, Value.slice none 0 0, Value.bool false, Value.slice none 0 0] 42)).cell? ⟨w.heap.size, 2, none⟩ = some (Value.bool false) := by go_simp
  have fr2 : (w.alloc (Obj.cells #[Value.bool false, Value.slice none 0 0, Value.bool false, Value.slice none 0 0] 42)).frozen? ⟨w.heap.size, 2, none⟩ = false := by go_simp
  have kr3 : (w.alloc (Obj.cells #[Value.bool false, Value.slice none 0 0, Value.bool false, Value.slice none 0 0] 42)).cell? ⟨w.heap.size, 3, none⟩ = some (Value.slice none 0 0) := by go_simp
  have fr3 : (w.alloc (Obj.cells #[Value.bool false, Value.slice none 0 0, Value.bool false, Value.slice none 0 0] 42)).frozen? ⟨w.heap.size, 3, none⟩ = false := by go_simp
  have zr : w.heap.size < (w.alloc (Obj.cells #[Value.bool false, Value.slice none 0 0, Value.bool false, Value.slice none 0 0] 42)).heap.size := by simp only [World.size_alloc]; omega
  have HB := hide (bl_alloc (bl_refl w) (Obj.cells #[Value.bool false, Value.slice none 0 0, Value.bool false, Value.slice none 0 0] 42))
  have HM := hide (hm.below HB.out)
  clear hm
  go_enter Tryz.func25, Tryz.ntmps25
  go_wp2_with fail
  generalize w.alloc (Obj.cells #[Value.bool false, Value.slice none 0 0, Value.bool false, Value.slice none 0 0] 42) = W0 at *
  refine (cutPre s _ _).mono ?_
  rintro e w1 ⟨rfl, hw⟩
  subst w1
  rw [show ({ data := #[45] } : ByteArray).data.toList = [45] from rfl, show (⟨(Lib.trimPrefix s.data.toList [45]).toArray⟩ : ByteArray) = rdD s from rfl, show Lib.hasPrefix s.data.toList [45] = rdNeg s from rfl, HN.out, HD.out]
  go_wp2_with fail
  refine (cutI _ 47 _ (by rw [HSZ.out]; omega) HM.out).mono ?_
  rw [show (⟨dd.toArray⟩ : ByteArray).data.toList = dd from rfl, HC.out]
  rintro e w2 ⟨rfl, hb⟩
  replace kr0 := (hb.cell (p := ⟨w.heap.size, 0, none⟩) zr).trans kr0
  replace fr0 := (hb.frozen (p := ⟨w.heap.size, 0, none⟩) zr).trans fr0
  replace kr1 := (hb.cell (p := ⟨w.heap.size, 1, none⟩) zr).trans kr1
  replace fr1 := (hb.frozen (p := ⟨w.heap.size, 1, none⟩) zr).trans fr1
  replace kr2 := (hb.cell (p := ⟨w.heap.size, 2, none⟩) zr).trans kr2
  replace fr2 := (hb.frozen (p := ⟨w.heap.size, 2, none⟩) zr).trans fr2
  replace kr3 := (hb.cell (p := ⟨w.heap.size, 3, none⟩) zr).trans kr3
  replace fr3 := (hb.frozen (p := ⟨w.heap.size, 3, none⟩) zr).trans fr3
  replace zr := Nat.lt_of_lt_of_le zr hb.size
  replace HM := hide (HM.out.below hb)
  replace HB := hide (bl_trans HB.out hb)
  clear hb
  go_wp2_with fail
  refine (readQuotG ng ⟨N.toArray⟩ ⟨D.toArray⟩ x y _ (by rw [← bsize]; exact hN) (by rw [← bsize]; exact hD) HA.out.2.1 HA.out.2.2 t HA.out.1).mono ?_
  unfold RatAns
  obtain ⟨X, hX⟩ : ∃ X, rtN t x y = X := ⟨_, rfl⟩
  obtain ⟨Y, hY⟩ : ∃ Y, rtD t x y = Y := ⟨_, rfl⟩
  obtain ⟨F, hF⟩ : ∃ F, rtT t x y = F := ⟨_, rfl⟩
  rw [hX, hY, hF]
  have HXY := hide (And.intro hX (And.intro hY hF))
  clear hX hY hF
  rintro e w3 ⟨b1, e1, b2, e2, rfl, ho1, ho2, hap, hb⟩
  have zr2 := zr
  have HO1 := hide ho1
  have HO2 := hide ho2
  have HAP := hide hap
  clear ho1 ho2 hap
  replace kr0 := (hb.cell (p := ⟨w.heap.size, 0, none⟩) zr).trans kr0
  replace fr0 := (hb.frozen (p := ⟨w.heap.size, 0, none⟩) zr).trans fr0
  replace kr1 := (hb.cell (p := ⟨w.heap.size, 1, none⟩) zr).trans kr1
  replace fr1 := (hb.frozen (p := ⟨w.heap.size, 1, none⟩) zr).trans fr1
  replace kr2 := (hb.cell (p := ⟨w.heap.size, 2, none⟩) zr).trans kr2
  replace fr2 := (hb.frozen (p := ⟨w.heap.size, 2, none⟩) zr).trans fr2
  replace kr3 := (hb.cell (p := ⟨w.heap.size, 3, none⟩) zr).trans kr3
  replace fr3 := (hb.frozen (p := ⟨w.heap.size, 3, none⟩) zr).trans fr3
  replace zr := Nat.lt_of_lt_of_le zr hb.size
  replace HB := hide (bl_trans HB.out hb)
  clear hb
  go_wp2
  refine bodyPost_ret (v := .tuple #[.agg #[.bool (sgn X), .slice b1 (lms X).length e1, .bool (sgn Y), .slice b2 (lms Y).length e2], .bool F]) (by simp [results, Tryz.results25, go_sem, *]) rfl ?_
  have h1 := own_four' (lo := w.heap.size) HO1.out (show w.heap.size < _ by omega) (by omega) (Value.bool (sgn X)) (Value.slice b1 (lms X).length e1) (Value.bool (sgn Y)) (Value.slice b2 (lms Y).length e2)
  have h2 := own_four' (lo := w.heap.size) HO2.out (show w.heap.size < _ by omega) (by omega) (Value.bool (sgn X)) (Value.slice b1 (lms X).length e1) (Value.bool (sgn Y)) (Value.slice b2 (lms Y).length e2)
  show RatAns t x y w _ _
  unfold RatAns
  rw [HXY.out.1, HXY.out.2.1, HXY.out.2.2]
  exact ⟨b1, e1, b2, e2, rfl, h1, h2, HAP.out, set_four (Nat.le_refl _) HB.out _ _ _ _⟩

set_option maxHeartbeats 2000000 in
set_option maxRecDepth 20000 in
theorem readG0 (s : ByteArray) (x y : Int) (w : World) (hs : 400 < s.size) (hs2 : s.size ≤ 4611686018427387904) :
    Calls Tryz.prog 25 #[.string s] w fun e w' => RatAns false x y w w' e := by
  have hs' : (400 : Int) < (s.size : Int) := by omega
  have kr0 : (w.alloc (Obj.cells #[Value.bool false, Value.slice none 0 0, Value.bool false, Value.slice none 0 0] 42)).cell? ⟨w.heap.size, 0, none⟩ = some (Value.bool false) := by go_simp
  have fr0 : (w.alloc (Obj.cells #[Value.bool false, Value.slice none 0 0, Value.bool false, Value.slice none 0 0] 42)).frozen? ⟨w.heap.size, 0, none⟩ = false := by go_simp
  have kr1 : (w.alloc (Obj.cells #[Value.bool false, Value.slice none 0 0, Value.bool false, Value.slice none 0 0] 42)).cell? ⟨w.heap.size, 1, none⟩ = some (Value.slice none 0 0) := by go_simp
  have fr1 : (w.alloc (Obj.cells #[Value.bool false, Value.slice none 0 0, Value.bool false, Value.slice none 0 0] 42)).frozen? ⟨w.heap.size, 1, none⟩ = false := by go_simp
  have kr2 : (w.alloc (Obj.cells #[Value.bool false, Value.slice none 0 0, Value.bool false, Value.slice none 0 0] 42)).cell? ⟨w.heap.size, 2, none⟩ = some (Value.bool false) := by go_simp
  have fr2 : (w.alloc (Obj.cells #[Value.bool false, Value.slice none 0 0, Value.bool false, Value.slice none 0 0] 42)).frozen? ⟨w.heap.size, 2, none⟩ = false := by go_simp
  have kr3 : (w.alloc (Obj.cells #[Value.bool false, Value.slice none 0 0, Value.bool false, Value.slice none 0 0] 42)).cell? ⟨w.heap.size, 3, none⟩ = some (Value.slice none 0 0) := by go_simp
  have fr3 : (w.alloc (Obj.cells #[Value.bool false, Value.slice none 0 0, Value.bool false, Value.slice none 0 0] 42)).frozen? ⟨w.heap.size, 3, none⟩ = false := by go_simp
  have zr : w.heap.size < (w.alloc (Obj.cells #[Value.bool false, Value.slice none 0 0, Value.bool false, Value.slice none 0 0] 42)).heap.size := by simp only [World.size_alloc]; omega
  have HB := hide (bl_alloc (bl_refl w) (Obj.cells #[Value.bool false, Value.slice none 0 0, Value.bool false, Value.slice none 0 0] 42))
  go_enter Tryz.func25, Tryz.ntmps25
  go_wp2
  refine bodyPost_ret (v := .tuple #[.agg #[.bool false, .slice none 0 0, .bool false, .slice none 0 0], .bool false]) (by simp [results, Tryz.results25, go_sem, *]) rfl ?_
  exact ans_no rfl HB.out

theorem readRatG (s : ByteArray) (w : World) (hm : Mx w) (hs2 : s.size ≤ 4611686018427387904) :
    Calls Tryz.prog 25 #[.string s] w fun e w' => RatAns (rrO s).isSome (gotN (rdNeg s) (rrO s)) (gotD (rrO s)) w w' e := by
  by_cases hs : 400 < s.size
  · have e0 : rrO s = none := if_pos hs
    rw [e0]
    exact readG0 s _ _ w hs hs2
  · have e0 : rrO s = rrI (rdD s).data.toList := if_neg hs
    have hl : (rdD s).data.toList.length ≤ 400 := by
      have := trim_len s.data.toList
      rw [bsize] at this
      show (Lib.trimPrefix s.data.toList [45]).length ≤ 400
      omega
    have hd : rdD s = ⟨(rdD s).data.toList.toArray⟩ := by rw [Array.toArray_toList]
    rw [e0]
    generalize (rdD s).data.toList = dd at hl hd
    obtain ⟨N, D, st, hc⟩ : ∃ N D st, Lib.cut dd [47] = (N, D, st) := ⟨_, _, _, rfl⟩
    have hll := cut_len dd 47
    rw [hc] at hll
    cases st with
    | false =>
      have e1 : rrI dd = decI dd := by unfold rrI; rw [hc]; rfl
      rw [e1]
      exact readG1 s _ dd N D false _ _ _ w hm (by omega) rfl hd hl hc rfl rfl rfl rfl
    | true =>
      have e1 : rrI dd = if (digL N && (digL D && decide (valN D ≠ 0))) = true then some (valN N, valN D) else none := by unfold rrI; rw [hc]; rfl
      have key := readG2 s _ dd N D true _ _ _ w hm (by omega) rfl hd hl hc rfl (Nat.le_trans hll.1 hl) (Nat.le_trans hll.2 hl) rfl rfl rfl
      rw [digOk_L, digOk_L] at key
      rw [e1]
      by_cases h0 : valN D = 0
      · rw [decide_eq_false (by simpa using h0), Bool.and_false, Bool.and_false, if_neg (by decide)]
        refine key.mono fun e w' ha => ?_
        rw [h0] at ha
        exact ans_same (rt_nul _ _) (rt_off _ _) ha
      · rw [decide_eq_true h0, Bool.and_true]
        cases hb : (digL N && digL D) with
        | true =>
          rw [hb] at key
          rw [if_pos rfl]
          exact key
        | false =>
          rw [hb] at key
          rw [if_neg (by decide)]
          exact key.mono fun e w' ha => ans_same (rt_off _ _) (rt_off _ _) ha
end Go.Proofs.YtkemplmhemnpbaaGreatDoor
