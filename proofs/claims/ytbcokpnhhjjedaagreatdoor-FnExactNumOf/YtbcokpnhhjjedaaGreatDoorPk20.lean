/- My texts RrC, ExS, ExW, TeS, RrG, RrD, RrE, RrF, RrH, DcN, DcY, DcP, DcS, RrJ, in this order. -/
import Derived.Test.YtbcokpnhhjjedaaGreatDoorRrI
import Derived.Test.YtbcokpnhhjjedaaGreatDoorPk16
import Derived.Test.YtbcokpnhhjjedaaGreatDoorAtoR
import Derived.Test.YtbcokpnhhjjedaaGreatDoorPk10
import Derived.Test.YtbcokpnhhjjedaaGreatDoorPk15
/- The walk of cutPlaces of the program at any text: what stands ahead of an e, and the places behind it. -/
namespace Go.Proofs.YtbcokpnhhjjedaaGreatDoor
open Go.RowKit
set_option linter.unusedVariables false

theorem below_bytes (w : World) (e : TypeId) (t : ByteArray) : Below w.heap.size w (Lib.bytesWorld w e t) :=
  ⟨rfl, rfl, rfl, by rw [Lib.bytesWorld_size]; omega, fun i hi => Lib.bytesWorld_at_old w e t i hi⟩
theorem dec_from : ∀ (l : List UInt8) (acc : Nat), digAll l = true → Lib.decFrom acc l = some (l.foldl (fun a c => 10 * a + (c.toNat - 48)) acc)
  | [], acc, _ => rfl
  | c :: t, acc, h => by
    simp only [digAll, List.all_cons, Bool.and_eq_true] at h
    have hb := dig_bounds h.1
    have hv : Lib.digitVal c = some (c.toNat - 48) := by unfold Lib.digitVal; rw [if_pos hb]
    unfold Lib.decFrom
    rw [hv]
    show Lib.decFrom (acc * 10 + (c.toNat - 48)) t = _
    rw [dec_from t _ h.2, List.foldl_cons, Nat.mul_comm acc 10]
theorem atoi_dig {l : List UInt8} (h : digAll l = true) (hn : l ≠ []) : Lib.atoi l = some (valN l : Int) := by
  cases l with
  | nil => exact absurd rfl hn
  | cons c t =>
    have h' := h
    simp only [digAll, List.all_cons, Bool.and_eq_true] at h'
    have hb := dig_bounds h'.1
    have h45 : (c == 45) = false := by rw [beq_eq_false_iff_ne]; intro e; rw [e] at hb; exact absurd hb.1 (by decide)
    have h43 : (c == 43) = false := by rw [beq_eq_false_iff_ne]; intro e; rw [e] at hb; exact absurd hb.1 (by decide)
    have : Lib.decNat (c :: t) = some (valN (c :: t)) := by unfold Lib.decNat; rw [dec_from _ 0 h]; rfl
    simp only [Lib.atoi, h45, h43, this, Bool.false_eq_true, if_false, Option.map_some]
theorem digOk_L (l : List UInt8) : digOk ⟨l.toArray⟩ = digL l := by
  unfold digOk digL
  rw [show (⟨l.toArray⟩ : ByteArray).data.toList = l from rfl]
  congr 1
  have hs : (⟨l.toArray⟩ : ByteArray).size = l.length := by rw [← bsize]
  rw [hs]
  cases l <;> simp
/-- what cutPlaces tells -/
def cpS (l : List UInt8) : List UInt8 × Int × Bool :=
  if (Lib.cut l [101]).2.2 = true then (match expV (Lib.cut l [101]).2.1 with | some k => ((Lib.cut l [101]).1, k, true) | none => ([], 0, false)) else (l, 0, true)
theorem cut_len (l : List UInt8) (c : UInt8) : (Lib.cut l [c]).1.length ≤ l.length ∧ (Lib.cut l [c]).2.1.length ≤ l.length := by
  by_cases h : c ∈ l
  · obtain ⟨a, b, rfl, ha⟩ := first h
    rw [cut_mid ha]; simp; omega
  · rw [cut_none h]; simp
theorem trim_len (l : List UInt8) : (Lib.trimPrefix l [45]).length ≤ l.length := by
  unfold Lib.trimPrefix; split
  · rw [List.length_drop]; omega
  · exact Nat.le_refl _
theorem val3 {l : List UInt8} (h : digAll l = true) (hl : l.length ≤ 3) : valN l < 1000 := by
  have h1 := valN_lt l h
  have h2 : (10 : Nat) ^ l.length ≤ 10 ^ 3 := Nat.pow_le_pow_right (by decide) hl
  have h3 : (10 : Nat) ^ 3 = 1000 := by decide
  omega

set_option maxHeartbeats 2000000 in
set_option maxRecDepth 20000 in
theorem cutPlacesG (s : ByteArray) (w : World) (hs : s.size ≤ 1000) (hm : Mx w) :
    Calls Tryz.prog 40 #[.string s] w fun e w' => e = .returned (.tuple #[.string ⟨(cpS s.data.toList).1.toArray⟩, .int .i64 (cpS s.data.toList).2.1, .bool (cpS s.data.toList).2.2]) ∧ Below w.heap.size w w' := by
  have hcl := cut_len s.data.toList 101
  rw [bsize] at hcl
  cases hf : (Lib.cut s.data.toList [101]).2.2 with
  | false =>
    have HP : Hid (cpS s.data.toList = (s.data.toList, 0, true)) := hide (by unfold cpS; rw [hf]; rfl)
    have HM := hide hm
    have HC1 : Hid ((Lib.cut s.data.toList [101]).1 = s.data.toList) := hide (by
      by_cases h : (101 : UInt8) ∈ s.data.toList
      · obtain ⟨a, b, e, ha⟩ := first h
        rw [e, cut_mid ha] at hf; cases hf
      · rw [cut_none h])
    rw [HP.out, back_bytes]
    clear hm
    go_enter Tryz.func40, Tryz.ntmps40
    go_wp2_with fail
    refine (cutI s 101 _ hs HM.out).mono ?_
    rw [hf, HC1.out, back_bytes]
    rintro e w1 ⟨rfl, hb⟩
    have HB := hide hb
    clear hb
    go_wp2
    refine bodyPost_ret (v := .tuple #[.string s, .int .i64 0, .bool true]) (by simp [results, Tryz.results40, go_sem, *]) rfl ?_
    exact ⟨rfl, HB.out⟩
  | true =>
    obtain ⟨A, hA⟩ : ∃ A, (Lib.cut s.data.toList [101]).1 = A := ⟨_, rfl⟩
    obtain ⟨B, hB⟩ : ∃ B, (Lib.cut s.data.toList [101]).2.1 = B := ⟨_, rfl⟩
    have hP0 : cpS s.data.toList = match expV B with | some k => (A, k, true) | none => ([], 0, false) := by unfold cpS; rw [if_pos hf, hA, hB]
    rw [hA, hB] at hcl
    have htl := trim_len B
    obtain ⟨T, hT⟩ : ∃ T, Lib.trimPrefix B [45] = T := ⟨_, rfl⟩
    obtain ⟨g, hg⟩ : ∃ g, Lib.hasPrefix B [45] = g := ⟨_, rfl⟩
    have hE : expV B = if (digL T && decide (T.length ≤ 3)) = true then some (if g then -(valN T : Int) else (valN T : Int)) else none := by unfold expV; rw [hT, hg]
    rw [hT] at htl
    have HTS : Hid ((⟨T.toArray⟩ : ByteArray).size = T.length) := hide (by rw [← bsize])
    have HCUT : Hid ((Lib.cut s.data.toList [101]).1 = A ∧ (Lib.cut s.data.toList [101]).2.1 = B ∧ (Lib.cut s.data.toList [101]).2.2 = true) := hide ⟨hA, hB, hf⟩
    have HTG := hide (And.intro hT hg)
    have HM := hide hm
    clear hA hB hf hT hg hm
    have hts := HTS.out
    by_cases hok : (digL T && decide (T.length ≤ 3)) = true
    · rw [if_pos hok] at hE
      have HP : Hid (cpS s.data.toList = (A, (if g then -(valN T : Int) else (valN T : Int)), true)) := hide (by rw [hP0, hE])
      clear hE hP0
      rw [Bool.and_eq_true, decide_eq_true_eq] at hok
      have hd := hok.1
      unfold digL at hd
      rw [Bool.and_eq_true, decide_eq_true_eq] at hd
      have hv := val3 hd.1 hok.2
      have HAT := hide (atoi_dig hd.1 hd.2)
      have HDG : Hid (digOk ⟨T.toArray⟩ = true) := hide (by rw [digOk_L]; exact hok.1)
      have h3 : (((⟨T.toArray⟩ : ByteArray).size : Nat) : Int) ≤ 3 := by omega
      have hle := hok.2
      clear hok hd
      rw [HP.out]
      go_enter Tryz.func40, Tryz.ntmps40
      go_wp2_with fail
      refine (cutI s 101 _ hs HM.out).mono ?_
      rw [HCUT.out.1, HCUT.out.2.1, HCUT.out.2.2]
      rintro e w1 ⟨rfl, hb⟩
      have HB := hide hb
      clear hb
      go_wp2_with fail
      refine (cutPre _ _ _).mono ?_
      rw [show (⟨B.toArray⟩ : ByteArray).data.toList = B from rfl, show ({ data := #[45] } : ByteArray).data.toList = [45] from rfl, HTG.out.1, HTG.out.2]
      rintro e w2 ⟨rfl, hw⟩
      subst w2
      go_wp2_with fail
      refine (allDigitsI _ _ (by omega)).mono ?_
      rw [HDG.out]
      rintro e w3 ⟨rfl, hb⟩
      replace HB := hide (bl_trans HB.out hb)
      clear hb
      go_wp2_with fail
      refine (Tryz.strconv_Atoi ⟨T.toArray⟩ (valN T : Int) (by omega) HAT.out _).mono ?_
      rintro e w4 ⟨rfl, t, hw4⟩
      have hb : Below w3.heap.size w3 w4 := by rw [hw4]; exact below_bytes w3 5 t
      replace HB := hide (bl_trans HB.out hb)
      clear hb hw4
      cases g with
      | true =>
        go_wp2
        refine bodyPost_ret (v := .tuple #[.string ⟨A.toArray⟩, .int .i64 (-(valN T : Int)), .bool true]) (by simp [results, Tryz.results40, go_sem, *]) rfl ?_
        exact ⟨rfl, HB.out⟩
      | false =>
        go_wp2
        refine bodyPost_ret (v := .tuple #[.string ⟨A.toArray⟩, .int .i64 (valN T : Int), .bool true]) (by simp [results, Tryz.results40, go_sem, *]) rfl ?_
        exact ⟨rfl, HB.out⟩
    · rw [if_neg hok] at hE
      have HP : Hid (cpS s.data.toList = ([], 0, false)) := hide (by rw [hP0, hE])
      clear hE hP0
      have hcase : digOk ⟨T.toArray⟩ = false ∨ (digOk ⟨T.toArray⟩ = true ∧ (3 : Int) < (((⟨T.toArray⟩ : ByteArray).size : Nat) : Int)) := by
        rw [digOk_L]
        cases hd : digL T with
        | false => exact .inl rfl
        | true =>
          refine .inr ⟨rfl, ?_⟩
          rw [hd, Bool.true_and, decide_eq_true_eq] at hok
          omega
      clear hok
      rcases hcase with hc | ⟨hc, h3⟩
      all_goals
        have HDG := hide hc
        clear hc
        rw [HP.out]
        go_enter Tryz.func40, Tryz.ntmps40
        go_wp2_with fail
        refine (cutI s 101 _ hs HM.out).mono ?_
        rw [HCUT.out.1, HCUT.out.2.1, HCUT.out.2.2]
        rintro e w1 ⟨rfl, hb⟩
        have HB := hide hb
        clear hb
        go_wp2_with fail
        refine (cutPre _ _ _).mono ?_
        rw [show (⟨B.toArray⟩ : ByteArray).data.toList = B from rfl, show ({ data := #[45] } : ByteArray).data.toList = [45] from rfl, HTG.out.1, HTG.out.2]
        rintro e w2 ⟨rfl, hw⟩
        subst w2
        go_wp2_with fail
        refine (allDigitsI _ _ (by omega)).mono ?_
        rw [HDG.out]
        rintro e w3 ⟨rfl, hb⟩
        replace HB := hide (bl_trans HB.out hb)
        clear hb
        go_wp2
        refine bodyPost_ret (v := .tuple #[.string ⟨#[]⟩, .int .i64 0, .bool false]) (by simp [results, Tryz.results40, go_sem, *]) rfl ?_
        exact ⟨rfl, HB.out⟩
end Go.Proofs.YtbcokpnhhjjedaaGreatDoor

/- The walk of l03Exp: what stands behind an e. -/
namespace Go.Proofs.YtbcokpnhhjjedaaGreatDoor
open Go.RowKit
set_option linter.unusedVariables false

theorem neg_iff (s : ByteArray) (h : 0 < s.size) : rdNeg s = decide (s[0].toNat = 45) := by
  have hl : 0 < s.data.toList.length := by rw [bsize]; exact h
  have e : s.data.toList = s[0] :: s.data.toList.drop 1 := by
    have := List.drop_eq_getElem_cons (l := s.data.toList) (i := 0) hl
    rw [List.drop_zero] at this; exact this
  unfold rdNeg Lib.hasPrefix
  rw [e]
  simp only [List.isPrefixOf]
  rw [Bool.and_true, Bool.eq_iff_iff]
  simp only [beq_iff_eq, decide_eq_true_eq]
  constructor
  · intro h; rw [← h]; rfl
  · intro h; exact UInt8.toNat_inj.1 (by rw [h]; rfl)
theorem cut_pos {s : ByteArray} (h : rdNeg s = true) : rdD s = s.extract 1 s.size := by
  have hc := rd_cut s
  rw [if_pos h] at hc
  refine ByteArray.ext (Array.ext' ?_)
  have e : (s.extract 1 s.size).data.toList = s.data.toList.drop 1 := by
    rw [ByteArray.data_extract, Array.toList_extract]
    rw [List.extract_eq_take_drop]
    rw [List.take_of_length_le (by rw [List.length_drop, bsize]; omega)]
  rw [e, hc]; rfl
theorem cut_neg {s : ByteArray} (h : rdNeg s = false) : rdD s = s := by
  have hc := rd_cut s
  rw [if_neg (by rw [h]; simp)] at hc
  exact ByteArray.ext (Array.ext' hc.symm)
theorem run_all {d : ByteArray} : runN d 0 < d.size ↔ digAll d.data.toList = false := by
  unfold runN
  rw [List.drop_zero, Nat.zero_add]
  obtain ⟨a, r, he, ha, hr⟩ := parts d.data.toList
  have hl : d.size = a.length + r.length := by rw [← bsize, he, List.length_append]
  rcases hr with rfl | ⟨c, t, rfl, hc⟩
  · rw [List.append_nil] at he
    rw [he, (take_all ha).1, ha, hl]; simp
  · rw [he, (take_to ha hc t).1, hl]
    have : digAll (a ++ c :: t) = false := digAll_no (c := c) (by simp) hc
    rw [this]; simp
end Go.Proofs.YtbcokpnhhjjedaaGreatDoor

/- The walk of l03Exp: what stands behind an e, as the program's own reading says it. -/
namespace Go.Proofs.YtbcokpnhhjjedaaGreatDoor
open Go.RowKit
set_option linter.unusedVariables false

theorem exp_at {s D : ByteArray} {ng : Bool} (hD : rdD s = D) (hg : rdNeg s = ng) :
    expV s.data.toList = if (digAll D.data.toList && decide (1 ≤ D.size ∧ D.size ≤ 3)) = true then some (if ng then -(valN D.data.toList : Int) else (valN D.data.toList : Int)) else none := by
  have e : Lib.trimPrefix s.data.toList [45] = D.data.toList := by rw [← hD]; rfl
  have e2 : Lib.hasPrefix s.data.toList [45] = ng := hg
  unfold expV
  rw [e, e2]
  have hc : (digL D.data.toList && decide (D.data.toList.length ≤ 3)) = (digAll D.data.toList && decide (1 ≤ D.size ∧ D.size ≤ 3)) := by
    unfold digL
    rw [bsize, Bool.and_assoc]
    congr 1
    rw [Bool.eq_iff_iff, Bool.and_eq_true, decide_eq_true_eq, decide_eq_true_eq, decide_eq_true_eq, ← bsize]
    constructor
    · rintro ⟨h1, h2⟩
      exact ⟨by have := List.length_pos_iff.2 h1; omega, h2⟩
    · rintro ⟨h1, h2⟩
      exact ⟨fun h => by rw [h] at h1; simp at h1, h2⟩
  rw [hc]
/-- three shapes of a text: with a sign, without one, empty -/
theorem sh_three (s : ByteArray) : (rdNeg s = true ∧ (0 : Int) < s.size ∧ (∃ h : 0 < s.size, (s[0].toNat : Int) = 45) ∧ s.extract 1 s.size = rdD s ∧ (rdD s).size + 1 = s.size) ∨ (rdNeg s = false ∧ (0 : Int) < s.size ∧ (∃ h : 0 < s.size, ((s[0].toNat : Int) == 45) = false) ∧ rdD s = s) ∨ (rdNeg s = false ∧ ¬ (0 : Int) < s.size ∧ rdD s = s ∧ s.size = 0) := by
  by_cases hp : 0 < s.size
  · have hni := neg_iff s hp
    cases hg : rdNeg s with
    | true =>
      rw [hg] at hni
      refine .inl ⟨rfl, by omega, ⟨hp, by have := of_decide_eq_true hni.symm; omega⟩, (cut_pos hg).symm, ?_⟩
      rw [cut_pos hg, ByteArray.size_extract]; omega
    | false =>
      rw [hg] at hni
      exact .inr (.inl ⟨rfl, by omega, ⟨hp, by have := of_decide_eq_false hni.symm; rw [beq_eq_false_iff_ne]; omega⟩, cut_neg hg⟩)
  · have hg : rdNeg s = false := by
      have : s.data.toList = [] := by rw [← List.length_eq_zero_iff, bsize]; omega
      unfold rdNeg; rw [this]; rfl
    exact .inr (.inr ⟨hg, by omega, cut_neg hg, by omega⟩)
theorem val_small {D : ByteArray} (h : digAll D.data.toList = true) (hs : D.size ≤ 3) (k : Nat) (hk : k ≤ D.size) : valN (D.data.toList.take k) < 10 ^ k := by
  have := valN_lt _ (dig_take h k)
  rw [List.length_take, bsize, Nat.min_eq_left hk] at this
  exact this
set_option maxHeartbeats 4000000 in
set_option maxRecDepth 20000 in
theorem expN (s D : ByteArray) (w : World) (o : Option Int) (hs : s.size ≤ 400) (h0 : (0 : Int) < s.size) (h1 : 0 < s.size) (h45 : (s[0].toNat : Int) = 45) (hx : s.extract 1 s.size = D) (hz : D.size + 1 = s.size) (ho : o = if (digAll D.data.toList && decide (1 ≤ D.size ∧ D.size ≤ 3)) = true then some (if true then -(valN D.data.toList : Int) else (valN D.data.toList : Int)) else none) :
    Calls Tryz.prog 50 #[.string s] w fun e w' => e = .returned (.tuple #[.int .i64 (o.getD 0), .bool o.isSome]) ∧ w' = w := by
  have HO := hide ho
  clear ho
  have hD : D.size ≤ 400 := by omega
  go_enter Tryz.func50, Tryz.ntmps50
  go_wp2_with fail
  refine (inRd D.size 1 3 _).mono ?_
  rintro e w1 ⟨rfl, hw⟩
  subst w1
  by_cases h3 : (1 : Int) ≤ (D.size : Int) ∧ (D.size : Int) ≤ 3
  · rw [decide_eq_true h3]
    go_wp2_with fail
    refine (runS D 0 _ (Nat.zero_le _) hD).mono ?_
    rintro e w1 ⟨rfl, hw⟩
    subst w1
    cases hda : digAll D.data.toList with
    | false =>
      have hr : ((runN D 0 : Nat) : Int) < (D.size : Int) := by have := run_all.2 hda; omega
      have HN : Hid (o = none) := hide (by rw [HO.out, hda]; rfl)
      go_wp2
      go_ret2
      rw [HN.out]
      exact ⟨rfl, rfl⟩
    | true =>
      have hr : ¬ ((runN D 0 : Nat) : Int) < (D.size : Int) := by intro h; have := (run_all (d := D)).1 (by omega); rw [hda] at this; cases this
      have HY : Hid (o = some (if true then -(valN D.data.toList : Int) else (valN D.data.toList : Int))) := hide (by rw [HO.out, hda, decide_eq_true (show 1 ≤ D.size ∧ D.size ≤ 3 by omega)]; rfl)
      have HDA := hide hda
      clear hda
      generalize ((runN D 0 : Nat) : Int) = RN at *
      go_wp2
      go_loopw [5, 6] (fun n i wr => ∃ k : Nat, k ≤ D.size ∧ i = .int .i64 k ∧ n = .int .i64 (valN (D.data.toList.take k)) ∧ wr = w) (fun n i _ => D.size - (intOf i).toNat)
      case atStart => exact ⟨0, Nat.zero_le _, rfl, rfl, rfl⟩
      case round =>
        obtain ⟨k, hk, rfl, rfl, rfl⟩ := hrel
        by_cases hlt : k < D.size
        · skip
          have hlt' : (k : Int) < (D.size : Int) := by omega
          obtain ⟨hd1, hd2⟩ := dig_here' HDA.out k hlt
          have HV := hide (valN_take' D k hlt)
          have hv := val_small HDA.out (by omega) k hk
          have hv2 : (10 : Nat) ^ k ≤ 10 ^ 2 := Nat.pow_le_pow_right (by decide) (by omega)
          generalize hq : valN (D.data.toList.take k) = q at *
          have hq2 : q < 100 := by omega
          clear hv hv2 hq
          have hk0 : (0 : Int) ≤ (k : Int) := by omega
          go_wp2
          exact ⟨⟨k + 1, by omega, by go_num, by rw [HV.out]; go_num, by first | rfl | trivial⟩, by simp [intOf]; omega⟩
        · skip
          have hlt' : ¬ (k : Int) < (D.size : Int) := by omega
          have HK : Hid (D.data.toList.take k = D.data.toList) := hide (List.take_of_length_le (by rw [bsize]; omega))
          rw [HK.out]
          have hv := valN_lt D.data.toList HDA.out
          rw [bsize] at hv
          have hv2 : (10 : Nat) ^ D.size ≤ 10 ^ 3 := Nat.pow_le_pow_right (by decide) (by omega)
          generalize valN D.data.toList = q at *
          have hq3 : (q : Int) < 1000 := by omega
          clear hv hv2
          have hsz : (D.size : Int) < (s.size : Int) := by omega
          go_wp2
          go_ret2
          rw [HY.out]
          exact ⟨rfl, rfl⟩
  · rw [decide_eq_false h3]
    have HN : Hid (o = none) := hide (by rw [HO.out, decide_eq_false (show ¬ (1 ≤ D.size ∧ D.size ≤ 3) by omega), Bool.and_false]; rfl)
    go_wp2
    go_ret2
    rw [HN.out]
    exact ⟨rfl, rfl⟩

set_option maxHeartbeats 4000000 in
set_option maxRecDepth 20000 in
theorem expP (s D : ByteArray) (w : World) (o : Option Int) (hs : s.size ≤ 400) (h0 : (0 : Int) < s.size) (h1 : 0 < s.size) (h45 : ((s[0].toNat : Int) == 45) = false) (hx : s = D) (ho : o = if (digAll D.data.toList && decide (1 ≤ D.size ∧ D.size ≤ 3)) = true then some (if false then -(valN D.data.toList : Int) else (valN D.data.toList : Int)) else none) :
    Calls Tryz.prog 50 #[.string s] w fun e w' => e = .returned (.tuple #[.int .i64 (o.getD 0), .bool o.isSome]) ∧ w' = w := by
  have HO := hide ho
  clear ho
  subst hx
  have hD : s.size ≤ 400 := by omega
  go_enter Tryz.func50, Tryz.ntmps50
  go_wp2_with fail
  refine (inRd s.size 1 3 _).mono ?_
  rintro e w1 ⟨rfl, hw⟩
  subst w1
  by_cases h3 : (1 : Int) ≤ (s.size : Int) ∧ (s.size : Int) ≤ 3
  · rw [decide_eq_true h3]
    go_wp2_with fail
    refine (runS s 0 _ (Nat.zero_le _) hD).mono ?_
    rintro e w1 ⟨rfl, hw⟩
    subst w1
    cases hda : digAll s.data.toList with
    | false =>
      have hr : ((runN s 0 : Nat) : Int) < (s.size : Int) := by have := run_all.2 hda; omega
      have HN : Hid (o = none) := hide (by rw [HO.out, hda]; rfl)
      go_wp2
      go_ret2
      rw [HN.out]
      exact ⟨rfl, rfl⟩
    | true =>
      have hr : ¬ ((runN s 0 : Nat) : Int) < (s.size : Int) := by intro h; have := (run_all (d := s)).1 (by omega); rw [hda] at this; cases this
      have HY : Hid (o = some (if false then -(valN s.data.toList : Int) else (valN s.data.toList : Int))) := hide (by rw [HO.out, hda, decide_eq_true (show 1 ≤ s.size ∧ s.size ≤ 3 by omega)]; rfl)
      have HDA := hide hda
      clear hda
      generalize ((runN s 0 : Nat) : Int) = RN at *
      go_wp2
      go_loopw [5, 6] (fun n i wr => ∃ k : Nat, k ≤ s.size ∧ i = .int .i64 k ∧ n = .int .i64 (valN (s.data.toList.take k)) ∧ wr = w) (fun n i _ => s.size - (intOf i).toNat)
      case atStart => exact ⟨0, Nat.zero_le _, rfl, rfl, rfl⟩
      case round =>
        obtain ⟨k, hk, rfl, rfl, rfl⟩ := hrel
        by_cases hlt : k < s.size
        · skip
          have hlt' : (k : Int) < (s.size : Int) := by omega
          obtain ⟨hd1, hd2⟩ := dig_here' HDA.out k hlt
          have HV := hide (valN_take' s k hlt)
          have hv := val_small HDA.out (by omega) k hk
          have hv2 : (10 : Nat) ^ k ≤ 10 ^ 2 := Nat.pow_le_pow_right (by decide) (by omega)
          generalize hq : valN (s.data.toList.take k) = q at *
          have hq2 : q < 100 := by omega
          clear hv hv2 hq
          have hk0 : (0 : Int) ≤ (k : Int) := by omega
          go_wp2
          exact ⟨⟨k + 1, by omega, by go_num, by rw [HV.out]; go_num, by first | rfl | trivial⟩, by simp [intOf]; omega⟩
        · skip
          have hlt' : ¬ (k : Int) < (s.size : Int) := by omega
          have HK : Hid (s.data.toList.take k = s.data.toList) := hide (List.take_of_length_le (by rw [bsize]; omega))
          rw [HK.out]
          have hv := valN_lt s.data.toList HDA.out
          rw [bsize] at hv
          have hv2 : (10 : Nat) ^ s.size ≤ 10 ^ 3 := Nat.pow_le_pow_right (by decide) (by omega)
          generalize valN s.data.toList = q at *
          have hq3 : (q : Int) < 1000 := by omega
          clear hv hv2
          have hsz : ¬ (s.size : Int) < (s.size : Int) := by omega
          go_wp2
          go_ret2
          rw [HY.out]
          exact ⟨rfl, rfl⟩
  · rw [decide_eq_false h3]
    have HN : Hid (o = none) := hide (by rw [HO.out, decide_eq_false (show ¬ (1 ≤ s.size ∧ s.size ≤ 3) by omega), Bool.and_false]; rfl)
    go_wp2
    go_ret2
    rw [HN.out]
    exact ⟨rfl, rfl⟩

set_option maxHeartbeats 4000000 in
set_option maxRecDepth 20000 in
theorem expZ (s D : ByteArray) (w : World) (o : Option Int) (hs : s.size ≤ 400) (h0 : ¬ (0 : Int) < s.size) (hx : s = D) (ho : o = if (digAll D.data.toList && decide (1 ≤ D.size ∧ D.size ≤ 3)) = true then some (if false then -(valN D.data.toList : Int) else (valN D.data.toList : Int)) else none) :
    Calls Tryz.prog 50 #[.string s] w fun e w' => e = .returned (.tuple #[.int .i64 (o.getD 0), .bool o.isSome]) ∧ w' = w := by
  have HO := hide ho
  clear ho
  subst hx
  have hD : s.size ≤ 400 := by omega
  go_enter Tryz.func50, Tryz.ntmps50
  go_wp2_with fail
  refine (inRd s.size 1 3 _).mono ?_
  rintro e w1 ⟨rfl, hw⟩
  subst w1
  have h3 : ¬ ((1 : Int) ≤ (s.size : Int) ∧ (s.size : Int) ≤ 3) := by omega
  rw [decide_eq_false h3]
  have HN : Hid (o = none) := hide (by rw [HO.out, decide_eq_false (show ¬ (1 ≤ s.size ∧ s.size ≤ 3) by omega), Bool.and_false]; rfl)
  go_wp2
  go_ret2
  rw [HN.out]
  exact ⟨rfl, rfl⟩

theorem expS (s : ByteArray) (w : World) (hs : s.size ≤ 400) :
    Calls Tryz.prog 50 #[.string s] w fun e w' => e = .returned (.tuple #[.int .i64 ((expV s.data.toList).getD 0), .bool (expV s.data.toList).isSome]) ∧ w' = w := by
  rcases sh_three s with ⟨hg, h0, ⟨h1, h45⟩, hx, hz⟩ | ⟨hg, h0, ⟨h1, h45⟩, hx⟩ | ⟨hg, h0, hx, hz⟩
  · exact expN s (rdD s) w _ hs h0 h1 h45 hx hz (exp_at rfl hg)
  · exact expP s (rdD s) w _ hs h0 h1 h45 hx.symm (exp_at rfl hg)
  · exact expZ s (rdD s) w _ hs h0 hx.symm (exp_at rfl hg)
end Go.Proofs.YtbcokpnhhjjedaaGreatDoor

/- The walk of l03Ten: a power of ten, in new memory. -/
namespace Go.Proofs.YtbcokpnhhjjedaaGreatDoor
open Go.RowKit
set_option linter.unusedVariables false

/-- the answer's box, and a box X of a number -/
structure BxSt (w W : World) (X : Nat) (q : Int) (av : Option Addr) (cv : Nat) : Prop where
  k0 : W.cell? ⟨w.heap.size, 0, none⟩ = some (.bool false)
  k1 : W.cell? ⟨w.heap.size, 1, none⟩ = some (.slice none 0 0)
  f0 : W.frozen? ⟨w.heap.size, 0, none⟩ = false
  f1 : W.frozen? ⟨w.heap.size, 1, none⟩ = false
  x0 : W.cell? ⟨X, 0, none⟩ = some (.bool (sgn q))
  x1 : W.cell? ⟨X, 1, none⟩ = some (.slice av (lms q).length cv)
  g0 : W.frozen? ⟨X, 0, none⟩ = false
  g1 : W.frozen? ⟨X, 1, none⟩ = false
  zw : w.heap.size < X
  zX : X < W.heap.size
  own : Own W (w.heap.size + 1) av (lms q).length cv (lms q)
  bel : Below w.heap.size w W
theorem BxSt.store {w W W' : World} {X : Nat} {q r : Int} {av : Option Addr} {cv : Nat} {ar : Option Addr} {cr : Nat} (h : BxSt w W X q av cv) (hb : Below W.heap.size W W') (hN : Own W' W.heap.size ar (lms r).length cr (lms r)) :
    BxSt w ((W'.setCell ⟨X, 0, none⟩ (.bool (sgn r))).setCell ⟨X, 1, none⟩ (.slice ar (lms r).length cr)) X r ar cr := by
  have hz := h.zX
  have hw := h.zw
  have hbs := hb.size
  have c (p : Addr) (hp : p.block < W.heap.size) (hne : p.block ≠ X) : ((W'.setCell ⟨X, 0, none⟩ (.bool (sgn r))).setCell ⟨X, 1, none⟩ (.slice ar (lms r).length cr)).cell? p = W.cell? p :=
    (World.cell?_of_block ((Below.heap_setCell _ ⟨X, 1, none⟩ _ p.block hne).trans (Below.heap_setCell _ ⟨X, 0, none⟩ _ p.block hne))).trans (hb.cell hp)
  have f (p : Addr) (hp : p.block < W.heap.size) (hne : p.block ≠ X) : ((W'.setCell ⟨X, 0, none⟩ (.bool (sgn r))).setCell ⟨X, 1, none⟩ (.slice ar (lms r).length cr)).frozen? p = W.frozen? p :=
    (World.frozen?_of_block ((Below.heap_setCell _ ⟨X, 1, none⟩ _ p.block hne).trans (Below.heap_setCell _ ⟨X, 0, none⟩ _ p.block hne))).trans (hb.frozen hp)
  have v0 := (hb.cell (p := ⟨X, 0, none⟩) hz).trans h.x0
  have v1 := (hb.cell (p := ⟨X, 1, none⟩) hz).trans h.x1
  have g0 := (hb.frozen (p := ⟨X, 0, none⟩) hz).trans h.g0
  have g1 := (hb.frozen (p := ⟨X, 1, none⟩) hz).trans h.g1
  refine ⟨(c ⟨w.heap.size, 0, none⟩ (by dsimp only; omega) (by dsimp only; omega)).trans h.k0, (c ⟨w.heap.size, 1, none⟩ (by dsimp only; omega) (by dsimp only; omega)).trans h.k1,
    (f ⟨w.heap.size, 0, none⟩ (by dsimp only; omega) (by dsimp only; omega)).trans h.f0, (f ⟨w.heap.size, 1, none⟩ (by dsimp only; omega) (by dsimp only; omega)).trans h.f1, by go_simp, by go_simp, by go_simp, by go_simp, hw, by simp; omega, ?_, ?_⟩
  · exact ((hN.setCell (p := ⟨X, 0, none⟩) hz _).setCell (p := ⟨X, 1, none⟩) hz _).mono (by omega)
  · exact ((bl_trans h.bel hb).setCell (p := ⟨X, 0, none⟩) (by dsimp only; omega) _).setCell (p := ⟨X, 1, none⟩) (by dsimp only; omega) _
theorem ten_lenS {k : Nat} (m : Nat) (h : k ≤ 2 * m) : (lms (((10 : Nat) ^ k : Nat) : Int)).length ≤ m + 1 := by
  refine Num.limbs_len.2 ?_
  rw [Int.natAbs_natCast]
  have h2 : (10 : Nat) ^ k ≤ 10 ^ (2 * m) := Nat.pow_le_pow_right (by decide) h
  rw [Nat.pow_mul] at h2
  have h3 : ((10 : Nat) ^ 2) ^ m ≤ 4294967296 ^ m := Nat.pow_le_pow_left (by decide) _
  have h4 : (4294967296 : Nat) ^ m < 4294967296 ^ (m + 1) := Nat.pow_lt_pow_right (by decide) (Nat.lt_succ_self _)
  exact Nat.lt_of_le_of_lt (Nat.le_trans h2 h3) h4
set_option maxHeartbeats 4000000 in
set_option maxRecDepth 20000 in
theorem tenS (n : Nat) (w : World) (hn : n ≤ 2000) :
    Calls Tryz.prog 51 #[.int .i64 n] w fun e w' => ∃ v, e = .returned v ∧ New w' w.heap.size v ((10 : Int) ^ n) ∧ Below w.heap.size w w' := by
  have k0 : (w.alloc (Obj.cells #[Value.bool false, Value.slice none 0 0] 27)).cell? ⟨w.heap.size, 0, none⟩ = some (Value.bool false) := by go_simp
  have k1 : (w.alloc (Obj.cells #[Value.bool false, Value.slice none 0 0] 27)).cell? ⟨w.heap.size, 1, none⟩ = some (Value.slice none 0 0) := by go_simp
  have f0 : (w.alloc (Obj.cells #[Value.bool false, Value.slice none 0 0] 27)).frozen? ⟨w.heap.size, 0, none⟩ = false := by go_simp
  have f1 : (w.alloc (Obj.cells #[Value.bool false, Value.slice none 0 0] 27)).frozen? ⟨w.heap.size, 1, none⟩ = false := by go_simp
  have z1 : w.heap.size < (w.alloc (Obj.cells #[Value.bool false, Value.slice none 0 0] 27)).heap.size := by simp only [World.size_alloc]; omega
  have HB := hide (bl_alloc (bl_refl w) (Obj.cells #[Value.bool false, Value.slice none 0 0] 27))
  go_enter Tryz.func51, Tryz.ntmps51
  go_wp2_with fail
  generalize w.alloc (Obj.cells #[Value.bool false, Value.slice none 0 0] 27) = W0 at *
  refine (fromS 1 _ (by decide) (by decide)).mono ?_
  rintro e w1 ⟨v1, rfl, ⟨a1, c1, rfl, ho1⟩, hb1⟩
  have hb1s := hb1.size
  have zq : w.heap.size < w1.heap.size := Nat.lt_of_lt_of_le z1 hb1s
  have HP : Hid (BxSt w (w1.alloc (Obj.cells #[Value.bool (sgn 1), Value.slice a1 (lms 1).length c1] 27)) w1.heap.size 1 a1 c1) := hide (by
    have hbl := bl_alloc (bl_refl w1) (Obj.cells #[Value.bool (sgn 1), Value.slice a1 (lms 1).length c1] 27)
    exact ⟨(hbl.cell (p := ⟨w.heap.size, 0, none⟩) zq).trans ((hb1.cell (p := ⟨w.heap.size, 0, none⟩) z1).trans k0), (hbl.cell (p := ⟨w.heap.size, 1, none⟩) zq).trans ((hb1.cell (p := ⟨w.heap.size, 1, none⟩) z1).trans k1), (hbl.frozen (p := ⟨w.heap.size, 0, none⟩) zq).trans ((hb1.frozen (p := ⟨w.heap.size, 0, none⟩) z1).trans f0), (hbl.frozen (p := ⟨w.heap.size, 1, none⟩) zq).trans ((hb1.frozen (p := ⟨w.heap.size, 1, none⟩) z1).trans f1), by go_simp, by go_simp, by go_simp, by go_simp, zq, by simp only [World.size_alloc]; omega, (ho1.below hbl).mono (by omega), bl_trans (bl_trans HB.out hb1) hbl⟩)
  clear k0 k1 f0 f1 z1 HB ho1 hb1 hb1s zq
  go_wp2_with fail
  generalize w1.alloc (Obj.cells #[Value.bool (sgn 1), Value.slice a1 (lms 1).length c1] 27) = w2 at *
  go_wp2
  go_loopw [4] (fun i wr => ∃ (k : Nat) (av : Option Addr) (cv : Nat), k ≤ n ∧ i = .int .i64 k ∧ Hid (BxSt w wr w1.heap.size (((10 : Nat) ^ k : Nat) : Int) av cv)) (fun i _ => n - (intOf i).toNat)
  case atStart => exact ⟨0, a1, c1, Nat.zero_le _, rfl, HP⟩
  case round =>
    clear HP
    obtain ⟨k, av, cv, hk, rfl, hP⟩ := hrel
    obtain ⟨k0, k1, f0, f1, x0, x1, g0, g1, zw, zX, own, bel⟩ := hP.out
    have HO := hide own
    have HB := hide bel
    clear own bel
    by_cases hlt : k < n
    · have hlt' : (k : Int) < (n : Int) := by omega
      have hk0 : (0 : Int) ≤ (k : Int) := by omega
      have hl0 := ten_lenS (k := k) 1000 (by omega)
      obtain ⟨q1, hq1⟩ : ∃ q1, (10 : Nat) ^ (k + 1) = q1 := ⟨_, rfl⟩
      have HQ : Hid ((((10 : Nat) ^ k : Nat) : Int) * 10 = (q1 : Int)) := hide (by rw [← hq1, Nat.pow_succ]; omega)
      have HQ1 := hide hq1
      clear hq1
      generalize (10 : Nat) ^ k = q at *
      go_wp2_with fail
      go_region_with
        (first
          | (go_at_call 47; refine (fromS 10 _ (by decide) (by decide)).mono ?_; rintro e wA ⟨vA, rfl, ⟨aA, cA, rfl, hoA⟩, hbAr⟩; have hbA : Below wr.heap.size wr wA := (bl_refl wr).drew.trans hbAr; have yA := hbA.size; have x0 := (hbAr.cell (p := ⟨w1.heap.size, 0, none⟩) (by dsimp only; rw [World.size_drew]; omega)).trans x0; have x1 := (hbAr.cell (p := ⟨w1.heap.size, 1, none⟩) (by dsimp only; rw [World.size_drew]; omega)).trans x1)
          | (go_at_call 46; refine (mulS (.agg #[.bool (sgn (q : Int)), .slice av (lms (q : Int)).length cv]) (.agg #[.bool (sgn 10), .slice aA (lms 10).length cA]) (q : Int) 10 _ ⟨av, cv, rfl, HO.out.seg.below hbA⟩ ⟨aA, cA, rfl, hoA.seg⟩ (by omega) len10).mono ?_; rw [HQ.out]; rintro e wB ⟨vB, rfl, ⟨aB, cB, rfl, hoB⟩, hbBr⟩; have hbB : Below wr.heap.size wr wB := bl_trans hbA hbBr; have yB := hbBr.size; have HP8 := hide (hP.out.store hbB (hoB.mono (base' := wr.heap.size) (by omega))); have g0 := (hbB.frozen (p := ⟨w1.heap.size, 0, none⟩) zX).trans g0; have g1 := (hbB.frozen (p := ⟨w1.heap.size, 1, none⟩) zX).trans g1; have x0 := (hbBr.cell (p := ⟨w1.heap.size, 0, none⟩) (by dsimp only; omega)).trans x0; have x1 := (hbBr.cell (p := ⟨w1.heap.size, 1, none⟩) (by dsimp only; omega)).trans x1))
      all_goals go_wp2
      all_goals exact ⟨⟨k + 1, aB, cB, by omega, by go_num, hide (by rw [HQ1.out]; exact HP8.out)⟩, by simp [intOf]; omega⟩
    · have hE : k = n := by omega
      subst hE
      have hlt' : ¬ (k : Int) < (k : Int) := by omega
      have HE : Hid ((((10 : Nat) ^ k : Nat) : Int) = (10 : Int) ^ k) := hide (Int.natCast_pow 10 k)
      have HN : Hid (∀ x y, New ((wr.setCell ⟨w.heap.size, 0, none⟩ x).setCell ⟨w.heap.size, 1, none⟩ y) w.heap.size (.agg #[.bool (sgn (((10 : Nat) ^ k : Nat) : Int)), .slice av (lms (((10 : Nat) ^ k : Nat) : Int)).length cv]) (((10 : Nat) ^ k : Nat) : Int)) := hide (fun x y =>
        ⟨av, cv, rfl, ((HO.out.setCell (p := ⟨w.heap.size, 0, none⟩) (by dsimp only; omega) _).setCell (p := ⟨w.heap.size, 1, none⟩) (by dsimp only; omega) _).mono (by omega)⟩)
      generalize (10 : Nat) ^ k = q at *
      go_wp2
      refine bodyPost_ret (v := .agg #[.bool (sgn (q : Int)), .slice av (lms (q : Int)).length cv]) (by simp [results, Tryz.results51, go_sem, k0, k1]) rfl ?_
      exact ⟨_, rfl, by rw [← HE.out]; exact HN.out _ _, (HB.out.setCell (p := ⟨w.heap.size, 0, none⟩) (Nat.le_refl _) _).setCell (p := ⟨w.heap.size, 1, none⟩) (Nat.le_refl _) _⟩
end Go.Proofs.YtbcokpnhhjjedaaGreatDoor

/- The walk of readQuotient of the program at any two texts. -/
namespace Go.Proofs.YtbcokpnhhjjedaaGreatDoor
open Go.RowKit
set_option linter.unusedVariables false

theorem lms_shortN {neg : Bool} {l : List UInt8} (h : digAll l = true) (hl : l.length ≤ 400) : (lms (mk neg (valN l))).length ≤ 200 := by
  rw [mk_lms]
  refine Num.limbs_len.2 ?_
  have h1 := valN_lt l h
  have key : ∀ m : Nat, l.length ≤ 2 * m → valN l < 4294967296 ^ m := fun m hm => by
    have h2 : (10 : Nat) ^ l.length ≤ 10 ^ (2 * m) := Nat.pow_le_pow_right (by decide) hm
    rw [Nat.pow_mul] at h2
    exact Nat.lt_of_lt_of_le h1 (Nat.le_trans h2 (Nat.pow_le_pow_left (by decide) _))
  exact key 200 (by omega)

set_option maxHeartbeats 8000000 in
set_option maxRecDepth 20000 in
theorem readQuotG (neg : Bool) (N D : ByteArray) (x y : Int) (w : World) (sN : N.size ≤ 400) (sD : D.size ≤ 400) (hx : mk neg (valN N.data.toList) = x) (hy : mk false (valN D.data.toList) = y) (t : Bool) (ht : (digOk N && digOk D) = t) :
    Calls Tryz.prog 21 #[.bool neg, .string N, .string D] w fun e w' => RatAns t x y w w' e := by
  have kr0 : (w.alloc (Obj.cells #[Value.bool false, Value.slice none 0 0, Value.bool false, Value.slice none 0 0] 29)).cell? ⟨w.heap.size, 0, none⟩ = some (Value.bool false) := by go_simp
  have fr0 : (w.alloc (Obj.cells #[Value.bool false, Value.slice none 0 0, Value.bool false, Value.slice none 0 0] 29)).frozen? ⟨w.heap.size, 0, none⟩ = false := by go_simp
  have kr1 : (w.alloc (Obj.cells #[Value.bool false, Value.slice none 0 0, Value.bool false, Value.slice none 0 0] 29)).cell? ⟨w.heap.size, 1, none⟩ = some (Value.slice none 0 0) := by go_simp
  have fr1 : (w.alloc (Obj.cells #[Value.bool false, Value.slice none 0 0, Value.bool false, Value.slice none 0 0] 29)).frozen? ⟨w.heap.size, 1, none⟩ = false := by go_simp
  have kr2 : (w.alloc (Obj.cells #[Value.bool false, Value.slice none 0 0, Value.bool false, Value.slice none 0 0] 29)).cell? ⟨w.heap.size, 2, none⟩ = some (Value.bool false) := by go_simp
  have fr2 : (w.alloc (Obj.cells #[Value.bool false, Value.slice none 0 0, Value.bool false, Value.slice none 0 0] 29)).frozen? ⟨w.heap.size, 2, none⟩ = false := by go_simp
  have kr3 : (w.alloc (Obj.cells #[Value.bool false, Value.slice none 0 0, Value.bool false, Value.slice none 0 0] 29)).cell? ⟨w.heap.size, 3, none⟩ = some (Value.slice none 0 0) := by go_simp
  have fr3 : (w.alloc (Obj.cells #[Value.bool false, Value.slice none 0 0, Value.bool false, Value.slice none 0 0] 29)).frozen? ⟨w.heap.size, 3, none⟩ = false := by go_simp
  have zr : w.heap.size < (w.alloc (Obj.cells #[Value.bool false, Value.slice none 0 0, Value.bool false, Value.slice none 0 0] 29)).heap.size := by simp only [World.size_alloc]; omega
  have HB := hide (bl_alloc (bl_refl w) (Obj.cells #[Value.bool false, Value.slice none 0 0, Value.bool false, Value.slice none 0 0] 29))
  have HX := hide hx
  have HY := hide hy
  have HTT := hide ht
  clear hx hy ht
  go_enter Tryz.func21, Tryz.ntmps21
  go_wp2_with fail
  generalize w.alloc (Obj.cells #[Value.bool false, Value.slice none 0 0, Value.bool false, Value.slice none 0 0] 29) = W0 at *
  refine (allDigitsI N _ (by omega)).mono ?_
  rintro e w1 ⟨rfl, hb⟩
  replace kr0 := (hb.cell (p := ⟨w.heap.size, 0, none⟩) zr).trans kr0
  replace fr0 := (hb.frozen (p := ⟨w.heap.size, 0, none⟩) zr).trans fr0
  replace kr1 := (hb.cell (p := ⟨w.heap.size, 1, none⟩) zr).trans kr1
  replace fr1 := (hb.frozen (p := ⟨w.heap.size, 1, none⟩) zr).trans fr1
  replace kr2 := (hb.cell (p := ⟨w.heap.size, 2, none⟩) zr).trans kr2
  replace fr2 := (hb.frozen (p := ⟨w.heap.size, 2, none⟩) zr).trans fr2
  replace kr3 := (hb.cell (p := ⟨w.heap.size, 3, none⟩) zr).trans kr3
  replace fr3 := (hb.frozen (p := ⟨w.heap.size, 3, none⟩) zr).trans fr3
  replace zr := Nat.lt_of_lt_of_le zr hb.size
  replace HB := hide (bl_trans HB.out hb)
  clear hb
  cases hN : digOk N with
  | false =>
    have HA := hide (fun W (hb : Below w.heap.size w W) => ans_no (x := x) (y := y) (ans_f (t := t) (by rw [← HTT.out, hN]; rfl)) hb)
    go_wp2
    refine bodyPost_ret (v := .tuple #[.agg #[.bool false, .slice none 0 0, .bool false, .slice none 0 0], .bool false]) (by simp [results, Tryz.results21, go_sem, *]) rfl ?_
    exact HA.out _ (set_four (Nat.le_refl _) HB.out _ _ _ _)
  | true =>
    go_wp2_with fail
    refine (allDigitsI D _ (by omega)).mono ?_
    rintro e w2 ⟨rfl, hb⟩
    replace kr0 := (hb.cell (p := ⟨w.heap.size, 0, none⟩) zr).trans kr0
    replace fr0 := (hb.frozen (p := ⟨w.heap.size, 0, none⟩) zr).trans fr0
    replace kr1 := (hb.cell (p := ⟨w.heap.size, 1, none⟩) zr).trans kr1
    replace fr1 := (hb.frozen (p := ⟨w.heap.size, 1, none⟩) zr).trans fr1
    replace kr2 := (hb.cell (p := ⟨w.heap.size, 2, none⟩) zr).trans kr2
    replace fr2 := (hb.frozen (p := ⟨w.heap.size, 2, none⟩) zr).trans fr2
    replace kr3 := (hb.cell (p := ⟨w.heap.size, 3, none⟩) zr).trans kr3
    replace fr3 := (hb.frozen (p := ⟨w.heap.size, 3, none⟩) zr).trans fr3
    replace zr := Nat.lt_of_lt_of_le zr hb.size
    replace HB := hide (bl_trans HB.out hb)
    clear hb
    cases hD : digOk D with
    | false =>
      have HA := hide (fun W (hb : Below w.heap.size w W) => ans_no (x := x) (y := y) (ans_f (t := t) (by rw [← HTT.out, hN, hD]; rfl)) hb)
      go_wp2
      refine bodyPost_ret (v := .tuple #[.agg #[.bool false, .slice none 0 0, .bool false, .slice none 0 0], .bool false]) (by simp [results, Tryz.results21, go_sem, *]) rfl ?_
      exact HA.out _ (set_four (Nat.le_refl _) HB.out _ _ _ _)
    | true =>
      have HAN : Hid (digAll N.data.toList = true) := hide (by unfold digOk at hN; rw [Bool.and_eq_true] at hN; exact hN.1)
      have HAD : Hid (digAll D.data.toList = true) := hide (by unfold digOk at hD; rw [Bool.and_eq_true] at hD; exact hD.1)
      have HTR : Hid (t = true) := hide (by rw [← HTT.out, hN, hD]; rfl)
      clear hN hD
      have ly : (lms y).length ≤ 200 := by rw [← HY.out]; exact lms_shortN HAD.out (by rw [bsize]; exact sD)
      have lx : (lms x).length ≤ 200 := by rw [← HX.out, mk_lms]; have := lms_shortN (neg := false) HAN.out (by rw [bsize]; exact sN); rw [mk_lms] at this; exact this
      go_wp2_with fail
      refine (digitLimbsI D _ HAD.out (by omega)).mono ?_
      rintro e w3 ⟨a3, n3, c3, xs3, rfl, ho3, hn3, hv3, hb⟩
      have hb3 := hb.size
      have HO3 := hide ho3
      have HV3 := hide hv3
      clear ho3 hv3
      replace kr0 := (hb.cell (p := ⟨w.heap.size, 0, none⟩) zr).trans kr0
      replace fr0 := (hb.frozen (p := ⟨w.heap.size, 0, none⟩) zr).trans fr0
      replace kr1 := (hb.cell (p := ⟨w.heap.size, 1, none⟩) zr).trans kr1
      replace fr1 := (hb.frozen (p := ⟨w.heap.size, 1, none⟩) zr).trans fr1
      replace kr2 := (hb.cell (p := ⟨w.heap.size, 2, none⟩) zr).trans kr2
      replace fr2 := (hb.frozen (p := ⟨w.heap.size, 2, none⟩) zr).trans fr2
      replace kr3 := (hb.cell (p := ⟨w.heap.size, 3, none⟩) zr).trans kr3
      replace fr3 := (hb.frozen (p := ⟨w.heap.size, 3, none⟩) zr).trans fr3
      replace zr := Nat.lt_of_lt_of_le zr hb.size
      replace HB := hide (bl_trans HB.out hb)
      clear hb
      go_wp2_with fail
      refine (bigOfI false a3 n3 c3 xs3 _ _ HO3.out hb3).mono ?_
      rw [HV3.out, HY.out]
      rintro e w4 ⟨v4, rfl, ⟨a4, c4, rfl, ho4⟩, hb⟩
      have S4 := hide ho4.seg
      clear ho4 HO3 HV3
      replace kr0 := (hb.cell (p := ⟨w.heap.size, 0, none⟩) zr).trans kr0
      replace fr0 := (hb.frozen (p := ⟨w.heap.size, 0, none⟩) zr).trans fr0
      replace kr1 := (hb.cell (p := ⟨w.heap.size, 1, none⟩) zr).trans kr1
      replace fr1 := (hb.frozen (p := ⟨w.heap.size, 1, none⟩) zr).trans fr1
      replace kr2 := (hb.cell (p := ⟨w.heap.size, 2, none⟩) zr).trans kr2
      replace fr2 := (hb.frozen (p := ⟨w.heap.size, 2, none⟩) zr).trans fr2
      replace kr3 := (hb.cell (p := ⟨w.heap.size, 3, none⟩) zr).trans kr3
      replace fr3 := (hb.frozen (p := ⟨w.heap.size, 3, none⟩) zr).trans fr3
      replace zr := Nat.lt_of_lt_of_le zr hb.size
      replace HB := hide (bl_trans HB.out hb)
      clear hb
      have zr4 := zr
      have kd0 : (w4.alloc (Obj.cells #[Value.bool (sgn y), Value.slice a4 (lms y).length c4] 27)).cell? ⟨w4.heap.size, 0, none⟩ = some (Value.bool (sgn y)) := by go_simp
      have kd1 : (w4.alloc (Obj.cells #[Value.bool (sgn y), Value.slice a4 (lms y).length c4] 27)).cell? ⟨w4.heap.size, 1, none⟩ = some (Value.slice a4 (lms y).length c4) := by go_simp
      have fd0 : (w4.alloc (Obj.cells #[Value.bool (sgn y), Value.slice a4 (lms y).length c4] 27)).frozen? ⟨w4.heap.size, 0, none⟩ = false := by go_simp
      have fd1 : (w4.alloc (Obj.cells #[Value.bool (sgn y), Value.slice a4 (lms y).length c4] 27)).frozen? ⟨w4.heap.size, 1, none⟩ = false := by go_simp
      have zd : w4.heap.size < (w4.alloc (Obj.cells #[Value.bool (sgn y), Value.slice a4 (lms y).length c4] 27)).heap.size := by simp only [World.size_alloc]; omega
      have hbn := bl_alloc (bl_refl w4) (Obj.cells #[Value.bool (sgn y), Value.slice a4 (lms y).length c4] 27)
      replace kr0 := (hbn.cell (p := ⟨w.heap.size, 0, none⟩) zr).trans kr0
      replace fr0 := (hbn.frozen (p := ⟨w.heap.size, 0, none⟩) zr).trans fr0
      replace kr1 := (hbn.cell (p := ⟨w.heap.size, 1, none⟩) zr).trans kr1
      replace fr1 := (hbn.frozen (p := ⟨w.heap.size, 1, none⟩) zr).trans fr1
      replace kr2 := (hbn.cell (p := ⟨w.heap.size, 2, none⟩) zr).trans kr2
      replace fr2 := (hbn.frozen (p := ⟨w.heap.size, 2, none⟩) zr).trans fr2
      replace kr3 := (hbn.cell (p := ⟨w.heap.size, 3, none⟩) zr).trans kr3
      replace fr3 := (hbn.frozen (p := ⟨w.heap.size, 3, none⟩) zr).trans fr3
      replace zr := Nat.lt_of_lt_of_le zr hbn.size
      replace S4 := hide (S4.out.below hbn)
      replace HB := hide (bl_trans HB.out hbn)
      clear hbn
      go_wp2_with fail
      generalize w4.alloc (Obj.cells #[Value.bool (sgn y), Value.slice a4 (lms y).length c4] 27) = w5 at *
      refine (noughtI _ (sgn y) (lms y) _ ⟨a4, c4, rfl, S4.out⟩).mono ?_
      rintro e w6 ⟨rfl, hb⟩
      replace kr0 := (hb.cell (p := ⟨w.heap.size, 0, none⟩) zr).trans kr0
      replace fr0 := (hb.frozen (p := ⟨w.heap.size, 0, none⟩) zr).trans fr0
      replace kr1 := (hb.cell (p := ⟨w.heap.size, 1, none⟩) zr).trans kr1
      replace fr1 := (hb.frozen (p := ⟨w.heap.size, 1, none⟩) zr).trans fr1
      replace kr2 := (hb.cell (p := ⟨w.heap.size, 2, none⟩) zr).trans kr2
      replace fr2 := (hb.frozen (p := ⟨w.heap.size, 2, none⟩) zr).trans fr2
      replace kr3 := (hb.cell (p := ⟨w.heap.size, 3, none⟩) zr).trans kr3
      replace fr3 := (hb.frozen (p := ⟨w.heap.size, 3, none⟩) zr).trans fr3
      replace kd0 := (hb.cell (p := ⟨w4.heap.size, 0, none⟩) zd).trans kd0
      replace fd0 := (hb.frozen (p := ⟨w4.heap.size, 0, none⟩) zd).trans fd0
      replace kd1 := (hb.cell (p := ⟨w4.heap.size, 1, none⟩) zd).trans kd1
      replace fd1 := (hb.frozen (p := ⟨w4.heap.size, 1, none⟩) zd).trans fd1
      replace zd := Nat.lt_of_lt_of_le zd hb.size
      replace zr := Nat.lt_of_lt_of_le zr hb.size
      replace S4 := hide (S4.out.below hb)
      replace HB := hide (bl_trans HB.out hb)
      clear hb
      by_cases hy0 : (lms y).length = 0
      · have hyz := sgn_lms_nil hy0
        have HA := hide (fun W (hb : Below w.heap.size w W) => ans_no (x := x) (y := y) (ans_0 (t := t) hyz) hb)
        rw [decide_eq_true hy0]
        clear hyz
        go_wp2
        refine bodyPost_ret (v := .tuple #[.agg #[.bool false, .slice none 0 0, .bool false, .slice none 0 0], .bool false]) (by simp [results, Tryz.results21, go_sem, *]) rfl ?_
        exact HA.out _ (set_four (Nat.le_refl _) HB.out _ _ _ _)
      · rw [decide_eq_false hy0]
        have hyn : y ≠ 0 := fun e => hy0 (by rw [e, zero_lms]; rfl)
        have HFT := hide (ans_ft (t := t) (x := x) (y := y) HTR.out hyn)
        obtain ⟨p, hp⟩ : ∃ p, x / sgG x y = p := ⟨_, rfl⟩
        obtain ⟨q, hq⟩ : ∃ q, y / sgG x y = q := ⟨_, rfl⟩
        have HPQ := hide (And.intro hp hq)
        clear hp hq
        have hdr : w4.heap.size ≠ w.heap.size := by omega
        have HSUB := hide (fun (a : Option Addr) (c : Nat) (b : Option Addr) (d : Nat) => @ftV_t p q a b c d)
        cases hft : ftT p q with
        | false =>
          go_wp2_with fail
          go_region_held3 (fun w' => w'.cell? ⟨w4.heap.size, 0, none⟩ = some (Value.bool (sgn y)) ∧ w'.cell? ⟨w4.heap.size, 1, none⟩ = some (Value.slice a4 (lms y).length c4))
            (first | exact ⟨(by (try rw [World.cell?_drew]); first | with_reducible assumption), (by (try rw [World.cell?_drew]); first | with_reducible assumption)⟩ | exact ⟨(cel4 (p := ⟨w4.heap.size, 0, none⟩) hdr _ _ _ _).trans kd0, (cel4 (p := ⟨w4.heap.size, 1, none⟩) hdr _ _ _ _).trans kd1⟩)
            (first
              | (go_at_call 36; refine (digitLimbsI N _ HAN.out (by omega)).mono ?_; rintro e wA ⟨aA, nA, cA, xsA, rfl, hoA, hnA, hvA, hbAr⟩; have hbA : Below w6.heap.size w6 wA := (bl_refl w6).drew.trans hbAr; have yA := hbA.size; have yAr := hbAr.size; have kd0 := (hbAr.cell (p := ⟨w4.heap.size, 0, none⟩) (by dsimp only; rw [World.size_drew]; omega)).trans kd0; have kd1 := (hbAr.cell (p := ⟨w4.heap.size, 1, none⟩) (by dsimp only; rw [World.size_drew]; omega)).trans kd1)
              | (go_at_call 35; refine (bigOfI neg aA nA cA xsA _ _ hoA yAr).mono ?_; rw [hvA, HX.out]; rintro e wB ⟨vB, rfl, ⟨aB, cB, rfl, hoB⟩, hbBr⟩; have hbB : Below w6.heap.size w6 wB := bl_trans hbA hbBr; have yB := hbBr.size; have kd0 := (hbBr.cell (p := ⟨w4.heap.size, 0, none⟩) (by dsimp only; omega)).trans kd0; have kd1 := (hbBr.cell (p := ⟨w4.heap.size, 1, none⟩) (by dsimp only; omega)).trans kd1)
              | (go_at_call 38; refine (shortI' x y aB cB a4 c4 _ hoB.seg (S4.out.below hbB) hyn (by omega) (by omega)).mono ?_; rw [HPQ.out.1, HPQ.out.2]; rintro e wC ⟨b1, e1, b2, e2, rfl, ho1, ho2, hap, hbCr⟩; have hbC : Below w6.heap.size w6 wC := bl_trans hbB hbCr; have yC := hbCr.size; have kd0 := (hbCr.cell (p := ⟨w4.heap.size, 0, none⟩) (by dsimp only; omega)).trans kd0; have kd1 := (hbCr.cell (p := ⟨w4.heap.size, 1, none⟩) (by dsimp only; omega)).trans kd1)
              | (go_at_call 39; refine (fitI p q b1 e1 b2 e2 _ ho1.seg ho2.seg).mono ?_; rw [ftV_f hft, hft]; rintro e wD ⟨rfl, hbDr⟩; have hbD : Below w6.heap.size w6 wD := bl_trans hbC hbDr; have yD := hbDr.size; have kd0 := (hbDr.cell (p := ⟨w4.heap.size, 0, none⟩) (by dsimp only; omega)).trans kd0; have kd1 := (hbDr.cell (p := ⟨w4.heap.size, 1, none⟩) (by dsimp only; omega)).trans kd1; have kr0 := (hbD.cell (p := ⟨w.heap.size, 0, none⟩) zr).trans kr0; have fr0 := (hbD.frozen (p := ⟨w.heap.size, 0, none⟩) zr).trans fr0; have kr1 := (hbD.cell (p := ⟨w.heap.size, 1, none⟩) zr).trans kr1; have fr1 := (hbD.frozen (p := ⟨w.heap.size, 1, none⟩) zr).trans fr1; have kr2 := (hbD.cell (p := ⟨w.heap.size, 2, none⟩) zr).trans kr2; have fr2 := (hbD.frozen (p := ⟨w.heap.size, 2, none⟩) zr).trans fr2; have kr3 := (hbD.cell (p := ⟨w.heap.size, 3, none⟩) zr).trans kr3; have fr3 := (hbD.frozen (p := ⟨w.heap.size, 3, none⟩) zr).trans fr3; have HO1 := hide (ho1.below hbDr); have HO2 := hide (ho2.below hbDr); have HAP := hide hap))
          replace HB := hide (bl_trans HB.out hbD)
          clear hoA hoB ho1 ho2 hap hbA hbAr hbB hbBr hbC hbCr hbD hbDr
          go_wp2
          refine bodyPost_ret (v := .tuple #[.agg #[.bool false, .slice none 0 0, .bool false, .slice none 0 0], .bool false]) (by simp [results, Tryz.results21, go_sem, *]) rfl ?_
          exact ans_no (by rw [HFT.out, HPQ.out.1, HPQ.out.2]; exact hft) (set_four (Nat.le_refl _) HB.out _ _ _ _)
        | true =>
          go_wp2_with fail
          go_region_held3 (fun w' => w'.cell? ⟨w4.heap.size, 0, none⟩ = some (Value.bool (sgn y)) ∧ w'.cell? ⟨w4.heap.size, 1, none⟩ = some (Value.slice a4 (lms y).length c4))
            (first | exact ⟨(by (try rw [World.cell?_drew]); first | with_reducible assumption), (by (try rw [World.cell?_drew]); first | with_reducible assumption)⟩ | exact ⟨(cel4 (p := ⟨w4.heap.size, 0, none⟩) hdr _ _ _ _).trans kd0, (cel4 (p := ⟨w4.heap.size, 1, none⟩) hdr _ _ _ _).trans kd1⟩)
            (first
              | (go_at_call 36; refine (digitLimbsI N _ HAN.out (by omega)).mono ?_; rintro e wA ⟨aA, nA, cA, xsA, rfl, hoA, hnA, hvA, hbAr⟩; have hbA : Below w6.heap.size w6 wA := (bl_refl w6).drew.trans hbAr; have yA := hbA.size; have yAr := hbAr.size; have kd0 := (hbAr.cell (p := ⟨w4.heap.size, 0, none⟩) (by dsimp only; rw [World.size_drew]; omega)).trans kd0; have kd1 := (hbAr.cell (p := ⟨w4.heap.size, 1, none⟩) (by dsimp only; rw [World.size_drew]; omega)).trans kd1)
              | (go_at_call 35; refine (bigOfI neg aA nA cA xsA _ _ hoA yAr).mono ?_; rw [hvA, HX.out]; rintro e wB ⟨vB, rfl, ⟨aB, cB, rfl, hoB⟩, hbBr⟩; have hbB : Below w6.heap.size w6 wB := bl_trans hbA hbBr; have yB := hbBr.size; have kd0 := (hbBr.cell (p := ⟨w4.heap.size, 0, none⟩) (by dsimp only; omega)).trans kd0; have kd1 := (hbBr.cell (p := ⟨w4.heap.size, 1, none⟩) (by dsimp only; omega)).trans kd1)
              | (go_at_call 38; refine (shortI' x y aB cB a4 c4 _ hoB.seg (S4.out.below hbB) hyn (by omega) (by omega)).mono ?_; rw [HPQ.out.1, HPQ.out.2]; rintro e wC ⟨b1, e1, b2, e2, rfl, ho1, ho2, hap, hbCr⟩; have hbC : Below w6.heap.size w6 wC := bl_trans hbB hbCr; have yC := hbCr.size; have kd0 := (hbCr.cell (p := ⟨w4.heap.size, 0, none⟩) (by dsimp only; omega)).trans kd0; have kd1 := (hbCr.cell (p := ⟨w4.heap.size, 1, none⟩) (by dsimp only; omega)).trans kd1)
              | (go_at_call 39; refine (fitI p q b1 e1 b2 e2 _ ho1.seg ho2.seg).mono ?_; rw [ftV_t hft, hft]; rintro e wD ⟨rfl, hbDr⟩; have hbD : Below w6.heap.size w6 wD := bl_trans hbC hbDr; have yD := hbDr.size; have kd0 := (hbDr.cell (p := ⟨w4.heap.size, 0, none⟩) (by dsimp only; omega)).trans kd0; have kd1 := (hbDr.cell (p := ⟨w4.heap.size, 1, none⟩) (by dsimp only; omega)).trans kd1; have kr0 := (hbD.cell (p := ⟨w.heap.size, 0, none⟩) zr).trans kr0; have fr0 := (hbD.frozen (p := ⟨w.heap.size, 0, none⟩) zr).trans fr0; have kr1 := (hbD.cell (p := ⟨w.heap.size, 1, none⟩) zr).trans kr1; have fr1 := (hbD.frozen (p := ⟨w.heap.size, 1, none⟩) zr).trans fr1; have kr2 := (hbD.cell (p := ⟨w.heap.size, 2, none⟩) zr).trans kr2; have fr2 := (hbD.frozen (p := ⟨w.heap.size, 2, none⟩) zr).trans fr2; have kr3 := (hbD.cell (p := ⟨w.heap.size, 3, none⟩) zr).trans kr3; have fr3 := (hbD.frozen (p := ⟨w.heap.size, 3, none⟩) zr).trans fr3; have HO1 := hide (ho1.below hbDr); have HO2 := hide (ho2.below hbDr); have HAP := hide hap))
          replace HB := hide (bl_trans HB.out hbD)
          clear hoA hoB ho1 ho2 hap hbA hbAr hbB hbBr hbC hbCr hbD hbDr
          go_wp2
          refine bodyPost_ret (v := .tuple #[.agg #[.bool (sgn p), .slice b1 (lms p).length e1, .bool (sgn q), .slice b2 (lms q).length e2], .bool true]) (by simp [results, Tryz.results21, go_sem, *]) rfl ?_
          have h1 := own_four' (lo := w.heap.size) HO1.out (show w.heap.size < _ by omega) (by omega) (Value.bool (sgn p)) (Value.slice b1 (lms p).length e1) (Value.bool (sgn q)) (Value.slice b2 (lms q).length e2)
          have h2 := own_four' (lo := w.heap.size) HO2.out (show w.heap.size < _ by omega) (by omega) (Value.bool (sgn p)) (Value.slice b1 (lms p).length e1) (Value.bool (sgn q)) (Value.slice b2 (lms q).length e2)
          have ha := ans_yes (t := t) (x := x) (y := y) (w := w) (a1 := b1) (a2 := b2) (c1 := e1) (c2 := e2) (by rw [HFT.out, HPQ.out.1, HPQ.out.2]; exact hft) (by rw [HPQ.out.1]; exact h1) (by rw [HPQ.out.2]; exact h2) HAP.out (set_four (Nat.le_refl _) HB.out _ _ _ _)
          rw [HPQ.out.1, HPQ.out.2] at ha
          exact ha
end Go.Proofs.YtbcokpnhhjjedaaGreatDoor

/- The walk of readDecimal of the program at any text. -/
namespace Go.Proofs.YtbcokpnhhjjedaaGreatDoor
open Go.RowKit
set_option linter.unusedVariables false

theorem ten_len (j : Nat) : (lms ((10 : Int) ^ j)).length ≤ j + 1 := by
  refine Num.limbs_len.2 ?_
  rw [Int.natAbs_pow]
  have h1 : (10 : Int).natAbs ^ j ≤ 4294967296 ^ j := Nat.pow_le_pow_left (by decide) j
  have h2 : 4294967296 ^ j < 4294967296 ^ (j + 1) := Nat.pow_lt_pow_right (by decide) (by omega)
  omega
theorem tenI (v : Value) (n : Nat) (z : Int) (w : World) (h : Is w v 10) (hn : n ≤ 2000) (hz : z = (n : Int)) : Calls Tryz.prog 42 #[v, .int .i64 z] w fun e w' => ∃ v, e = .returned v ∧ New w' w.heap.size v (10 ^ n) ∧ Below w.heap.size w w' := by
  subst hz
  exact powI v 10 n w h (by omega) (fun j hj => Nat.le_trans (ten_len j) (by omega))
set_option maxHeartbeats 8000000 in
set_option maxRecDepth 20000 in
theorem decNo1 (neg : Bool) (s : ByteArray) (A W P : List UInt8) (k : Int) (ok pt : Bool) (w : World) (hs : s.size ≤ 400) (hm : Mx w) (hcp : cpS s.data.toList = (A, k, ok)) (hcu : Lib.cut A [46] = (W, P, pt)) (hA : A.length ≤ 400) (hWP : W.length + P.length ≤ 400) (x y : Int) (h : ok = false) :
    Calls Tryz.prog 22 #[.bool neg, .string s] w fun e w' => RatAns false x y w w' e := by
  subst h
  have HCP := hide hcp
  have HCU := hide hcu
  have HM := hide hm
  clear hcp hcu hm
  have HSA : Hid ((⟨A.toArray⟩ : ByteArray).size = A.length) := hide (by rw [← bsize])
  have HSW : Hid ((⟨W.toArray⟩ : ByteArray).size = W.length) := hide (by rw [← bsize])
  have HSP : Hid ((⟨P.toArray⟩ : ByteArray).size = P.length) := hide (by rw [← bsize])
  have kr0 : (w.alloc (Obj.cells #[Value.bool false, Value.slice none 0 0, Value.bool false, Value.slice none 0 0] 29)).cell? ⟨w.heap.size, 0, none⟩ = some (Value.bool false) := by go_simp
  have fr0 : (w.alloc (Obj.cells #[Value.bool false, Value.slice none 0 0, Value.bool false, Value.slice none 0 0] 29)).frozen? ⟨w.heap.size, 0, none⟩ = false := by go_simp
  have kr1 : (w.alloc (Obj.cells #[Value.bool false, Value.slice none 0 0, Value.bool false, Value.slice none 0 0] 29)).cell? ⟨w.heap.size, 1, none⟩ = some (Value.slice none 0 0) := by go_simp
  have fr1 : (w.alloc (Obj.cells #[Value.bool false, Value.slice none 0 0, Value.bool false, Value.slice none 0 0] 29)).frozen? ⟨w.heap.size, 1, none⟩ = false := by go_simp
  have kr2 : (w.alloc (Obj.cells #[Value.bool false, Value.slice none 0 0, Value.bool false, Value.slice none 0 0] 29)).cell? ⟨w.heap.size, 2, none⟩ = some (Value.bool false) := by go_simp
  have fr2 : (w.alloc (Obj.cells #[Value.bool false, Value.slice none 0 0, Value.bool false, Value.slice none 0 0] 29)).frozen? ⟨w.heap.size, 2, none⟩ = false := by go_simp
  have kr3 : (w.alloc (Obj.cells #[Value.bool false, Value.slice none 0 0, Value.bool false, Value.slice none 0 0] 29)).cell? ⟨w.heap.size, 3, none⟩ = some (Value.slice none 0 0) := by go_simp
  have fr3 : (w.alloc (Obj.cells #[Value.bool false, Value.slice none 0 0, Value.bool false, Value.slice none 0 0] 29)).frozen? ⟨w.heap.size, 3, none⟩ = false := by go_simp
  have zr : w.heap.size < (w.alloc (Obj.cells #[Value.bool false, Value.slice none 0 0, Value.bool false, Value.slice none 0 0] 29)).heap.size := by simp only [World.size_alloc]; omega
  have HB := hide (bl_alloc (bl_refl w) (Obj.cells #[Value.bool false, Value.slice none 0 0, Value.bool false, Value.slice none 0 0] 29))
  replace HM := hide (HM.out.below HB.out)
  go_enter Tryz.func22, Tryz.ntmps22
  go_wp2_with fail
  generalize w.alloc (Obj.cells #[Value.bool false, Value.slice none 0 0, Value.bool false, Value.slice none 0 0] 29) = W0 at *
  refine (cutPlacesG s _ (by omega) HM.out).mono ?_
  rw [HCP.out]
  rintro e w1 ⟨rfl, hb⟩
  replace kr0 := (hb.cell (p := ⟨w.heap.size, 0, none⟩) zr).trans kr0
  replace fr0 := (hb.frozen (p := ⟨w.heap.size, 0, none⟩) zr).trans fr0
  replace kr1 := (hb.cell (p := ⟨w.heap.size, 1, none⟩) zr).trans kr1
  replace fr1 := (hb.frozen (p := ⟨w.heap.size, 1, none⟩) zr).trans fr1
  replace kr2 := (hb.cell (p := ⟨w.heap.size, 2, none⟩) zr).trans kr2
  replace fr2 := (hb.frozen (p := ⟨w.heap.size, 2, none⟩) zr).trans fr2
  replace kr3 := (hb.cell (p := ⟨w.heap.size, 3, none⟩) zr).trans kr3
  replace fr3 := (hb.frozen (p := ⟨w.heap.size, 3, none⟩) zr).trans fr3
  replace zr := Nat.lt_of_lt_of_le zr hb.size
  replace HM := hide (HM.out.below hb)
  replace HB := hide (bl_trans HB.out hb)
  clear hb
  go_wp2_with fail
  refine (cutI _ 46 _ (by rw [HSA.out]; omega) HM.out).mono ?_
  rw [show (⟨A.toArray⟩ : ByteArray).data.toList = A from rfl, HCU.out]
  rintro e w2 ⟨rfl, hb⟩
  replace kr0 := (hb.cell (p := ⟨w.heap.size, 0, none⟩) zr).trans kr0
  replace fr0 := (hb.frozen (p := ⟨w.heap.size, 0, none⟩) zr).trans fr0
  replace kr1 := (hb.cell (p := ⟨w.heap.size, 1, none⟩) zr).trans kr1
  replace fr1 := (hb.frozen (p := ⟨w.heap.size, 1, none⟩) zr).trans fr1
  replace kr2 := (hb.cell (p := ⟨w.heap.size, 2, none⟩) zr).trans kr2
  replace fr2 := (hb.frozen (p := ⟨w.heap.size, 2, none⟩) zr).trans fr2
  replace kr3 := (hb.cell (p := ⟨w.heap.size, 3, none⟩) zr).trans kr3
  replace fr3 := (hb.frozen (p := ⟨w.heap.size, 3, none⟩) zr).trans fr3
  replace zr := Nat.lt_of_lt_of_le zr hb.size
  replace HB := hide (bl_trans HB.out hb)
  clear hb
  clear HM
  go_wp2
  refine bodyPost_ret (v := .tuple #[.agg #[.bool false, .slice none 0 0, .bool false, .slice none 0 0], .bool false]) (by simp [results, Tryz.results22, go_sem, *]) rfl ?_
  exact ans_no (ans_f rfl) (set_four (Nat.le_refl _) HB.out _ _ _ _)

set_option maxHeartbeats 8000000 in
set_option maxRecDepth 20000 in
theorem decNo2 (neg : Bool) (s : ByteArray) (A W P : List UInt8) (k : Int) (ok pt : Bool) (w : World) (hs : s.size ≤ 400) (hm : Mx w) (hcp : cpS s.data.toList = (A, k, ok)) (hcu : Lib.cut A [46] = (W, P, pt)) (hA : A.length ≤ 400) (hWP : W.length + P.length ≤ 400) (x y : Int) (h : ok = true) (hW : digOk ⟨W.toArray⟩ = false) :
    Calls Tryz.prog 22 #[.bool neg, .string s] w fun e w' => RatAns false x y w w' e := by
  subst h
  have HDW := hide hW
  clear hW
  have HCP := hide hcp
  have HCU := hide hcu
  have HM := hide hm
  clear hcp hcu hm
  have HSA : Hid ((⟨A.toArray⟩ : ByteArray).size = A.length) := hide (by rw [← bsize])
  have HSW : Hid ((⟨W.toArray⟩ : ByteArray).size = W.length) := hide (by rw [← bsize])
  have HSP : Hid ((⟨P.toArray⟩ : ByteArray).size = P.length) := hide (by rw [← bsize])
  have kr0 : (w.alloc (Obj.cells #[Value.bool false, Value.slice none 0 0, Value.bool false, Value.slice none 0 0] 29)).cell? ⟨w.heap.size, 0, none⟩ = some (Value.bool false) := by go_simp
  have fr0 : (w.alloc (Obj.cells #[Value.bool false, Value.slice none 0 0, Value.bool false, Value.slice none 0 0] 29)).frozen? ⟨w.heap.size, 0, none⟩ = false := by go_simp
  have kr1 : (w.alloc (Obj.cells #[Value.bool false, Value.slice none 0 0, Value.bool false, Value.slice none 0 0] 29)).cell? ⟨w.heap.size, 1, none⟩ = some (Value.slice none 0 0) := by go_simp
  have fr1 : (w.alloc (Obj.cells #[Value.bool false, Value.slice none 0 0, Value.bool false, Value.slice none 0 0] 29)).frozen? ⟨w.heap.size, 1, none⟩ = false := by go_simp
  have kr2 : (w.alloc (Obj.cells #[Value.bool false, Value.slice none 0 0, Value.bool false, Value.slice none 0 0] 29)).cell? ⟨w.heap.size, 2, none⟩ = some (Value.bool false) := by go_simp
  have fr2 : (w.alloc (Obj.cells #[Value.bool false, Value.slice none 0 0, Value.bool false, Value.slice none 0 0] 29)).frozen? ⟨w.heap.size, 2, none⟩ = false := by go_simp
  have kr3 : (w.alloc (Obj.cells #[Value.bool false, Value.slice none 0 0, Value.bool false, Value.slice none 0 0] 29)).cell? ⟨w.heap.size, 3, none⟩ = some (Value.slice none 0 0) := by go_simp
  have fr3 : (w.alloc (Obj.cells #[Value.bool false, Value.slice none 0 0, Value.bool false, Value.slice none 0 0] 29)).frozen? ⟨w.heap.size, 3, none⟩ = false := by go_simp
  have zr : w.heap.size < (w.alloc (Obj.cells #[Value.bool false, Value.slice none 0 0, Value.bool false, Value.slice none 0 0] 29)).heap.size := by simp only [World.size_alloc]; omega
  have HB := hide (bl_alloc (bl_refl w) (Obj.cells #[Value.bool false, Value.slice none 0 0, Value.bool false, Value.slice none 0 0] 29))
  replace HM := hide (HM.out.below HB.out)
  go_enter Tryz.func22, Tryz.ntmps22
  go_wp2_with fail
  generalize w.alloc (Obj.cells #[Value.bool false, Value.slice none 0 0, Value.bool false, Value.slice none 0 0] 29) = W0 at *
  refine (cutPlacesG s _ (by omega) HM.out).mono ?_
  rw [HCP.out]
  rintro e w1 ⟨rfl, hb⟩
  replace kr0 := (hb.cell (p := ⟨w.heap.size, 0, none⟩) zr).trans kr0
  replace fr0 := (hb.frozen (p := ⟨w.heap.size, 0, none⟩) zr).trans fr0
  replace kr1 := (hb.cell (p := ⟨w.heap.size, 1, none⟩) zr).trans kr1
  replace fr1 := (hb.frozen (p := ⟨w.heap.size, 1, none⟩) zr).trans fr1
  replace kr2 := (hb.cell (p := ⟨w.heap.size, 2, none⟩) zr).trans kr2
  replace fr2 := (hb.frozen (p := ⟨w.heap.size, 2, none⟩) zr).trans fr2
  replace kr3 := (hb.cell (p := ⟨w.heap.size, 3, none⟩) zr).trans kr3
  replace fr3 := (hb.frozen (p := ⟨w.heap.size, 3, none⟩) zr).trans fr3
  replace zr := Nat.lt_of_lt_of_le zr hb.size
  replace HM := hide (HM.out.below hb)
  replace HB := hide (bl_trans HB.out hb)
  clear hb
  go_wp2_with fail
  refine (cutI _ 46 _ (by rw [HSA.out]; omega) HM.out).mono ?_
  rw [show (⟨A.toArray⟩ : ByteArray).data.toList = A from rfl, HCU.out]
  rintro e w2 ⟨rfl, hb⟩
  replace kr0 := (hb.cell (p := ⟨w.heap.size, 0, none⟩) zr).trans kr0
  replace fr0 := (hb.frozen (p := ⟨w.heap.size, 0, none⟩) zr).trans fr0
  replace kr1 := (hb.cell (p := ⟨w.heap.size, 1, none⟩) zr).trans kr1
  replace fr1 := (hb.frozen (p := ⟨w.heap.size, 1, none⟩) zr).trans fr1
  replace kr2 := (hb.cell (p := ⟨w.heap.size, 2, none⟩) zr).trans kr2
  replace fr2 := (hb.frozen (p := ⟨w.heap.size, 2, none⟩) zr).trans fr2
  replace kr3 := (hb.cell (p := ⟨w.heap.size, 3, none⟩) zr).trans kr3
  replace fr3 := (hb.frozen (p := ⟨w.heap.size, 3, none⟩) zr).trans fr3
  replace zr := Nat.lt_of_lt_of_le zr hb.size
  replace HB := hide (bl_trans HB.out hb)
  clear hb
  clear HM
  go_wp2_with fail
  refine (allDigitsI _ _ (by rw [HSW.out]; omega)).mono ?_
  rw [HDW.out]
  rintro e w3 ⟨rfl, hb⟩
  replace kr0 := (hb.cell (p := ⟨w.heap.size, 0, none⟩) zr).trans kr0
  replace fr0 := (hb.frozen (p := ⟨w.heap.size, 0, none⟩) zr).trans fr0
  replace kr1 := (hb.cell (p := ⟨w.heap.size, 1, none⟩) zr).trans kr1
  replace fr1 := (hb.frozen (p := ⟨w.heap.size, 1, none⟩) zr).trans fr1
  replace kr2 := (hb.cell (p := ⟨w.heap.size, 2, none⟩) zr).trans kr2
  replace fr2 := (hb.frozen (p := ⟨w.heap.size, 2, none⟩) zr).trans fr2
  replace kr3 := (hb.cell (p := ⟨w.heap.size, 3, none⟩) zr).trans kr3
  replace fr3 := (hb.frozen (p := ⟨w.heap.size, 3, none⟩) zr).trans fr3
  replace zr := Nat.lt_of_lt_of_le zr hb.size
  replace HB := hide (bl_trans HB.out hb)
  clear hb
  go_wp2
  refine bodyPost_ret (v := .tuple #[.agg #[.bool false, .slice none 0 0, .bool false, .slice none 0 0], .bool false]) (by simp [results, Tryz.results22, go_sem, *]) rfl ?_
  exact ans_no (ans_f rfl) (set_four (Nat.le_refl _) HB.out _ _ _ _)

set_option maxHeartbeats 8000000 in
set_option maxRecDepth 20000 in
theorem decNo3 (neg : Bool) (s : ByteArray) (A W P : List UInt8) (k : Int) (ok pt : Bool) (w : World) (hs : s.size ≤ 400) (hm : Mx w) (hcp : cpS s.data.toList = (A, k, ok)) (hcu : Lib.cut A [46] = (W, P, pt)) (hA : A.length ≤ 400) (hWP : W.length + P.length ≤ 400) (x y : Int) (h : ok = true) (hW : digOk ⟨W.toArray⟩ = true) (h2 : pt = true) (hP : digOk ⟨P.toArray⟩ = false) :
    Calls Tryz.prog 22 #[.bool neg, .string s] w fun e w' => RatAns false x y w w' e := by
  subst h
  subst h2
  have HDW := hide hW
  have HDP := hide hP
  clear hW hP
  have HCP := hide hcp
  have HCU := hide hcu
  have HM := hide hm
  clear hcp hcu hm
  have HSA : Hid ((⟨A.toArray⟩ : ByteArray).size = A.length) := hide (by rw [← bsize])
  have HSW : Hid ((⟨W.toArray⟩ : ByteArray).size = W.length) := hide (by rw [← bsize])
  have HSP : Hid ((⟨P.toArray⟩ : ByteArray).size = P.length) := hide (by rw [← bsize])
  have kr0 : (w.alloc (Obj.cells #[Value.bool false, Value.slice none 0 0, Value.bool false, Value.slice none 0 0] 29)).cell? ⟨w.heap.size, 0, none⟩ = some (Value.bool false) := by go_simp
  have fr0 : (w.alloc (Obj.cells #[Value.bool false, Value.slice none 0 0, Value.bool false, Value.slice none 0 0] 29)).frozen? ⟨w.heap.size, 0, none⟩ = false := by go_simp
  have kr1 : (w.alloc (Obj.cells #[Value.bool false, Value.slice none 0 0, Value.bool false, Value.slice none 0 0] 29)).cell? ⟨w.heap.size, 1, none⟩ = some (Value.slice none 0 0) := by go_simp
  have fr1 : (w.alloc (Obj.cells #[Value.bool false, Value.slice none 0 0, Value.bool false, Value.slice none 0 0] 29)).frozen? ⟨w.heap.size, 1, none⟩ = false := by go_simp
  have kr2 : (w.alloc (Obj.cells #[Value.bool false, Value.slice none 0 0, Value.bool false, Value.slice none 0 0] 29)).cell? ⟨w.heap.size, 2, none⟩ = some (Value.bool false) := by go_simp
  have fr2 : (w.alloc (Obj.cells #[Value.bool false, Value.slice none 0 0, Value.bool false, Value.slice none 0 0] 29)).frozen? ⟨w.heap.size, 2, none⟩ = false := by go_simp
  have kr3 : (w.alloc (Obj.cells #[Value.bool false, Value.slice none 0 0, Value.bool false, Value.slice none 0 0] 29)).cell? ⟨w.heap.size, 3, none⟩ = some (Value.slice none 0 0) := by go_simp
  have fr3 : (w.alloc (Obj.cells #[Value.bool false, Value.slice none 0 0, Value.bool false, Value.slice none 0 0] 29)).frozen? ⟨w.heap.size, 3, none⟩ = false := by go_simp
  have zr : w.heap.size < (w.alloc (Obj.cells #[Value.bool false, Value.slice none 0 0, Value.bool false, Value.slice none 0 0] 29)).heap.size := by simp only [World.size_alloc]; omega
  have HB := hide (bl_alloc (bl_refl w) (Obj.cells #[Value.bool false, Value.slice none 0 0, Value.bool false, Value.slice none 0 0] 29))
  replace HM := hide (HM.out.below HB.out)
  go_enter Tryz.func22, Tryz.ntmps22
  go_wp2_with fail
  generalize w.alloc (Obj.cells #[Value.bool false, Value.slice none 0 0, Value.bool false, Value.slice none 0 0] 29) = W0 at *
  refine (cutPlacesG s _ (by omega) HM.out).mono ?_
  rw [HCP.out]
  rintro e w1 ⟨rfl, hb⟩
  replace kr0 := (hb.cell (p := ⟨w.heap.size, 0, none⟩) zr).trans kr0
  replace fr0 := (hb.frozen (p := ⟨w.heap.size, 0, none⟩) zr).trans fr0
  replace kr1 := (hb.cell (p := ⟨w.heap.size, 1, none⟩) zr).trans kr1
  replace fr1 := (hb.frozen (p := ⟨w.heap.size, 1, none⟩) zr).trans fr1
  replace kr2 := (hb.cell (p := ⟨w.heap.size, 2, none⟩) zr).trans kr2
  replace fr2 := (hb.frozen (p := ⟨w.heap.size, 2, none⟩) zr).trans fr2
  replace kr3 := (hb.cell (p := ⟨w.heap.size, 3, none⟩) zr).trans kr3
  replace fr3 := (hb.frozen (p := ⟨w.heap.size, 3, none⟩) zr).trans fr3
  replace zr := Nat.lt_of_lt_of_le zr hb.size
  replace HM := hide (HM.out.below hb)
  replace HB := hide (bl_trans HB.out hb)
  clear hb
  go_wp2_with fail
  refine (cutI _ 46 _ (by rw [HSA.out]; omega) HM.out).mono ?_
  rw [show (⟨A.toArray⟩ : ByteArray).data.toList = A from rfl, HCU.out]
  rintro e w2 ⟨rfl, hb⟩
  replace kr0 := (hb.cell (p := ⟨w.heap.size, 0, none⟩) zr).trans kr0
  replace fr0 := (hb.frozen (p := ⟨w.heap.size, 0, none⟩) zr).trans fr0
  replace kr1 := (hb.cell (p := ⟨w.heap.size, 1, none⟩) zr).trans kr1
  replace fr1 := (hb.frozen (p := ⟨w.heap.size, 1, none⟩) zr).trans fr1
  replace kr2 := (hb.cell (p := ⟨w.heap.size, 2, none⟩) zr).trans kr2
  replace fr2 := (hb.frozen (p := ⟨w.heap.size, 2, none⟩) zr).trans fr2
  replace kr3 := (hb.cell (p := ⟨w.heap.size, 3, none⟩) zr).trans kr3
  replace fr3 := (hb.frozen (p := ⟨w.heap.size, 3, none⟩) zr).trans fr3
  replace zr := Nat.lt_of_lt_of_le zr hb.size
  replace HB := hide (bl_trans HB.out hb)
  clear hb
  clear HM
  go_wp2_with fail
  refine (allDigitsI _ _ (by rw [HSW.out]; omega)).mono ?_
  rw [HDW.out]
  rintro e w3 ⟨rfl, hb⟩
  replace kr0 := (hb.cell (p := ⟨w.heap.size, 0, none⟩) zr).trans kr0
  replace fr0 := (hb.frozen (p := ⟨w.heap.size, 0, none⟩) zr).trans fr0
  replace kr1 := (hb.cell (p := ⟨w.heap.size, 1, none⟩) zr).trans kr1
  replace fr1 := (hb.frozen (p := ⟨w.heap.size, 1, none⟩) zr).trans fr1
  replace kr2 := (hb.cell (p := ⟨w.heap.size, 2, none⟩) zr).trans kr2
  replace fr2 := (hb.frozen (p := ⟨w.heap.size, 2, none⟩) zr).trans fr2
  replace kr3 := (hb.cell (p := ⟨w.heap.size, 3, none⟩) zr).trans kr3
  replace fr3 := (hb.frozen (p := ⟨w.heap.size, 3, none⟩) zr).trans fr3
  replace zr := Nat.lt_of_lt_of_le zr hb.size
  replace HB := hide (bl_trans HB.out hb)
  clear hb
  go_wp2_with fail
  refine (allDigitsI _ _ (by rw [HSP.out]; omega)).mono ?_
  rw [HDP.out]
  rintro e w3b ⟨rfl, hb⟩
  replace kr0 := (hb.cell (p := ⟨w.heap.size, 0, none⟩) zr).trans kr0
  replace fr0 := (hb.frozen (p := ⟨w.heap.size, 0, none⟩) zr).trans fr0
  replace kr1 := (hb.cell (p := ⟨w.heap.size, 1, none⟩) zr).trans kr1
  replace fr1 := (hb.frozen (p := ⟨w.heap.size, 1, none⟩) zr).trans fr1
  replace kr2 := (hb.cell (p := ⟨w.heap.size, 2, none⟩) zr).trans kr2
  replace fr2 := (hb.frozen (p := ⟨w.heap.size, 2, none⟩) zr).trans fr2
  replace kr3 := (hb.cell (p := ⟨w.heap.size, 3, none⟩) zr).trans kr3
  replace fr3 := (hb.frozen (p := ⟨w.heap.size, 3, none⟩) zr).trans fr3
  replace zr := Nat.lt_of_lt_of_le zr hb.size
  replace HB := hide (bl_trans HB.out hb)
  clear hb
  go_wp2
  refine bodyPost_ret (v := .tuple #[.agg #[.bool false, .slice none 0 0, .bool false, .slice none 0 0], .bool false]) (by simp [results, Tryz.results22, go_sem, *]) rfl ?_
  exact ans_no (ans_f rfl) (set_four (Nat.le_refl _) HB.out _ _ _ _)

end Go.Proofs.YtbcokpnhhjjedaaGreatDoor

/- The walk of readDecimal of the program at a text that it takes. -/
namespace Go.Proofs.YtbcokpnhhjjedaaGreatDoor
open Go.RowKit
set_option linter.unusedVariables false

theorem app_two (A B : List UInt8) : (⟨A.toArray⟩ : ByteArray) ++ ⟨B.toArray⟩ = ⟨(A ++ B).toArray⟩ := ByteArray.ext (Array.ext' (by simp))
theorem mul_len {x y : Int} {m n : Nat} (hx : (lms x).length ≤ m) (hy : (lms y).length ≤ n) : (lms (x * y)).length ≤ m + n := by
  refine Num.limbs_len.2 ?_
  have h1 := Num.limbs_len.1 hx
  have h2 := Num.limbs_len.1 hy
  rw [Int.natAbs_mul, Nat.pow_add]
  exact Nat.mul_lt_mul'' h1 h2
set_option maxHeartbeats 8000000 in
set_option maxRecDepth 20000 in
theorem decYesP (neg : Bool) (s : ByteArray) (A W P : List UInt8) (k : Int) (ok pt : Bool) (w : World) (hs : s.size ≤ 400) (hm : Mx w) (hcp : cpS s.data.toList = (A, k, ok)) (hcu : Lib.cut A [46] = (W, P, pt)) (hA : A.length ≤ 400) (hWP : W.length + P.length ≤ 400) (n : Nat) (x X Y : Int) (h : ok = true) (hW : digOk ⟨W.toArray⟩ = true) (h2 : pt = true) (hP : digOk ⟨P.toArray⟩ = true) (hAD : digAll (W ++ P) = true) (hk : -1000 < k ∧ k < 1000) (hx : mk neg (valN (W ++ P)) = x) (hn : k - (P.length : Int) = (n : Int)) (hX : x * 10 ^ n = X) (hY : (1 : Int) = Y) :
    Calls Tryz.prog 22 #[.bool neg, .string s] w fun e w' => RatAns true X Y w w' e := by
  subst h
  subst h2
  have HDW := hide hW
  have HDP := hide hP
  have HAD := hide hAD
  have HX := hide hx
  have HXX := hide hX
  clear hW hP hAD
  have lx : (lms x).length ≤ 200 := by rw [← HX.out]; exact lms_shortN HAD.out (by rw [List.length_append]; omega)
  have l10 : (lms ((10 : Int) ^ n)).length ≤ n + 1 := ten_len n
  have lX : (lms X).length ≤ 200 + (n + 1) := by rw [← HXX.out]; exact mul_len lx l10
  have ly : (lms 1).length ≤ 40 := Num.limbs_len.2 (by decide)
  have l1 : (lms 10).length ≤ 40 := Num.limbs_len.2 (by decide)
  clear hx hX
  subst hY
  have HNN := hide hn
  have hn2 : n < 1000 := by omega
  have HFT := hide (ans_ft (t := true) (x := X) (y := 1) rfl (by decide))
  obtain ⟨p, hp⟩ : ∃ p, X / sgG X 1 = p := ⟨_, rfl⟩
  obtain ⟨q, hq⟩ : ∃ q, 1 / sgG X 1 = q := ⟨_, rfl⟩
  have HPQ := hide (And.intro hp hq)
  clear hp hq
  have HCP := hide hcp
  have HCU := hide hcu
  have HM := hide hm
  clear hcp hcu hm
  have HSA : Hid ((⟨A.toArray⟩ : ByteArray).size = A.length) := hide (by rw [← bsize])
  have HSW : Hid ((⟨W.toArray⟩ : ByteArray).size = W.length) := hide (by rw [← bsize])
  have HSP : Hid ((⟨P.toArray⟩ : ByteArray).size = P.length) := hide (by rw [← bsize])
  have kr0 : (w.alloc (Obj.cells #[Value.bool false, Value.slice none 0 0, Value.bool false, Value.slice none 0 0] 29)).cell? ⟨w.heap.size, 0, none⟩ = some (Value.bool false) := by go_simp
  have fr0 : (w.alloc (Obj.cells #[Value.bool false, Value.slice none 0 0, Value.bool false, Value.slice none 0 0] 29)).frozen? ⟨w.heap.size, 0, none⟩ = false := by go_simp
  have kr1 : (w.alloc (Obj.cells #[Value.bool false, Value.slice none 0 0, Value.bool false, Value.slice none 0 0] 29)).cell? ⟨w.heap.size, 1, none⟩ = some (Value.slice none 0 0) := by go_simp
  have fr1 : (w.alloc (Obj.cells #[Value.bool false, Value.slice none 0 0, Value.bool false, Value.slice none 0 0] 29)).frozen? ⟨w.heap.size, 1, none⟩ = false := by go_simp
  have kr2 : (w.alloc (Obj.cells #[Value.bool false, Value.slice none 0 0, Value.bool false, Value.slice none 0 0] 29)).cell? ⟨w.heap.size, 2, none⟩ = some (Value.bool false) := by go_simp
  have fr2 : (w.alloc (Obj.cells #[Value.bool false, Value.slice none 0 0, Value.bool false, Value.slice none 0 0] 29)).frozen? ⟨w.heap.size, 2, none⟩ = false := by go_simp
  have kr3 : (w.alloc (Obj.cells #[Value.bool false, Value.slice none 0 0, Value.bool false, Value.slice none 0 0] 29)).cell? ⟨w.heap.size, 3, none⟩ = some (Value.slice none 0 0) := by go_simp
  have fr3 : (w.alloc (Obj.cells #[Value.bool false, Value.slice none 0 0, Value.bool false, Value.slice none 0 0] 29)).frozen? ⟨w.heap.size, 3, none⟩ = false := by go_simp
  have zr : w.heap.size < (w.alloc (Obj.cells #[Value.bool false, Value.slice none 0 0, Value.bool false, Value.slice none 0 0] 29)).heap.size := by simp only [World.size_alloc]; omega
  have HB := hide (bl_alloc (bl_refl w) (Obj.cells #[Value.bool false, Value.slice none 0 0, Value.bool false, Value.slice none 0 0] 29))
  replace HM := hide (HM.out.below HB.out)
  go_enter Tryz.func22, Tryz.ntmps22
  go_wp2_with fail
  generalize w.alloc (Obj.cells #[Value.bool false, Value.slice none 0 0, Value.bool false, Value.slice none 0 0] 29) = W0 at *
  refine (cutPlacesG s _ (by omega) HM.out).mono ?_
  rw [HCP.out]
  rintro e w1 ⟨rfl, hb⟩
  replace kr0 := (hb.cell (p := ⟨w.heap.size, 0, none⟩) zr).trans kr0
  replace fr0 := (hb.frozen (p := ⟨w.heap.size, 0, none⟩) zr).trans fr0
  replace kr1 := (hb.cell (p := ⟨w.heap.size, 1, none⟩) zr).trans kr1
  replace fr1 := (hb.frozen (p := ⟨w.heap.size, 1, none⟩) zr).trans fr1
  replace kr2 := (hb.cell (p := ⟨w.heap.size, 2, none⟩) zr).trans kr2
  replace fr2 := (hb.frozen (p := ⟨w.heap.size, 2, none⟩) zr).trans fr2
  replace kr3 := (hb.cell (p := ⟨w.heap.size, 3, none⟩) zr).trans kr3
  replace fr3 := (hb.frozen (p := ⟨w.heap.size, 3, none⟩) zr).trans fr3
  replace zr := Nat.lt_of_lt_of_le zr hb.size
  replace HM := hide (HM.out.below hb)
  replace HB := hide (bl_trans HB.out hb)
  clear hb
  go_wp2_with fail
  refine (cutI _ 46 _ (by rw [HSA.out]; omega) HM.out).mono ?_
  rw [show (⟨A.toArray⟩ : ByteArray).data.toList = A from rfl, HCU.out]
  rintro e w2 ⟨rfl, hb⟩
  replace kr0 := (hb.cell (p := ⟨w.heap.size, 0, none⟩) zr).trans kr0
  replace fr0 := (hb.frozen (p := ⟨w.heap.size, 0, none⟩) zr).trans fr0
  replace kr1 := (hb.cell (p := ⟨w.heap.size, 1, none⟩) zr).trans kr1
  replace fr1 := (hb.frozen (p := ⟨w.heap.size, 1, none⟩) zr).trans fr1
  replace kr2 := (hb.cell (p := ⟨w.heap.size, 2, none⟩) zr).trans kr2
  replace fr2 := (hb.frozen (p := ⟨w.heap.size, 2, none⟩) zr).trans fr2
  replace kr3 := (hb.cell (p := ⟨w.heap.size, 3, none⟩) zr).trans kr3
  replace fr3 := (hb.frozen (p := ⟨w.heap.size, 3, none⟩) zr).trans fr3
  replace zr := Nat.lt_of_lt_of_le zr hb.size
  replace HB := hide (bl_trans HB.out hb)
  clear hb
  clear HM
  go_wp2_with fail
  refine (allDigitsI _ _ (by rw [HSW.out]; omega)).mono ?_
  rw [HDW.out]
  rintro e w3 ⟨rfl, hb⟩
  replace kr0 := (hb.cell (p := ⟨w.heap.size, 0, none⟩) zr).trans kr0
  replace fr0 := (hb.frozen (p := ⟨w.heap.size, 0, none⟩) zr).trans fr0
  replace kr1 := (hb.cell (p := ⟨w.heap.size, 1, none⟩) zr).trans kr1
  replace fr1 := (hb.frozen (p := ⟨w.heap.size, 1, none⟩) zr).trans fr1
  replace kr2 := (hb.cell (p := ⟨w.heap.size, 2, none⟩) zr).trans kr2
  replace fr2 := (hb.frozen (p := ⟨w.heap.size, 2, none⟩) zr).trans fr2
  replace kr3 := (hb.cell (p := ⟨w.heap.size, 3, none⟩) zr).trans kr3
  replace fr3 := (hb.frozen (p := ⟨w.heap.size, 3, none⟩) zr).trans fr3
  replace zr := Nat.lt_of_lt_of_le zr hb.size
  replace HB := hide (bl_trans HB.out hb)
  clear hb
  go_wp2_with fail
  refine (allDigitsI _ _ (by rw [HSP.out]; omega)).mono ?_
  rw [HDP.out]
  rintro e w3b ⟨rfl, hb⟩
  replace kr0 := (hb.cell (p := ⟨w.heap.size, 0, none⟩) zr).trans kr0
  replace fr0 := (hb.frozen (p := ⟨w.heap.size, 0, none⟩) zr).trans fr0
  replace kr1 := (hb.cell (p := ⟨w.heap.size, 1, none⟩) zr).trans kr1
  replace fr1 := (hb.frozen (p := ⟨w.heap.size, 1, none⟩) zr).trans fr1
  replace kr2 := (hb.cell (p := ⟨w.heap.size, 2, none⟩) zr).trans kr2
  replace fr2 := (hb.frozen (p := ⟨w.heap.size, 2, none⟩) zr).trans fr2
  replace kr3 := (hb.cell (p := ⟨w.heap.size, 3, none⟩) zr).trans kr3
  replace fr3 := (hb.frozen (p := ⟨w.heap.size, 3, none⟩) zr).trans fr3
  replace zr := Nat.lt_of_lt_of_le zr hb.size
  replace HB := hide (bl_trans HB.out hb)
  clear hb
  have HSZ : Hid ((⟨(W ++ P).toArray⟩ : ByteArray).size ≤ 400) := hide (by rw [← bsize]; show (W ++ P).length ≤ 400; rw [List.length_append]; omega)
  go_wp2_with fail
  rw [app_two]
  refine (digitLimbsI ⟨(W ++ P).toArray⟩ _ HAD.out (Nat.le_trans HSZ.out (by decide))).mono ?_
  rintro e w4 ⟨a4, n4, c4, xs4, rfl, ho4, hn4, hv4, hb⟩
  have hb4 := hb.size
  have HO4 := hide ho4
  have HV4 := hide hv4
  clear ho4 hv4
  replace kr0 := (hb.cell (p := ⟨w.heap.size, 0, none⟩) zr).trans kr0
  replace fr0 := (hb.frozen (p := ⟨w.heap.size, 0, none⟩) zr).trans fr0
  replace kr1 := (hb.cell (p := ⟨w.heap.size, 1, none⟩) zr).trans kr1
  replace fr1 := (hb.frozen (p := ⟨w.heap.size, 1, none⟩) zr).trans fr1
  replace kr2 := (hb.cell (p := ⟨w.heap.size, 2, none⟩) zr).trans kr2
  replace fr2 := (hb.frozen (p := ⟨w.heap.size, 2, none⟩) zr).trans fr2
  replace kr3 := (hb.cell (p := ⟨w.heap.size, 3, none⟩) zr).trans kr3
  replace fr3 := (hb.frozen (p := ⟨w.heap.size, 3, none⟩) zr).trans fr3
  replace zr := Nat.lt_of_lt_of_le zr hb.size
  replace HB := hide (bl_trans HB.out hb)
  clear hb
  go_wp2_with fail
  refine (bigOfI neg a4 n4 c4 xs4 _ _ HO4.out hb4).mono ?_
  rw [HV4.out, HX.out]
  rintro e w5 ⟨v5, rfl, ⟨a5, c5, rfl, ho5⟩, hb⟩
  have S5 := hide ho5.seg
  clear ho5 HO4 HV4
  replace kr0 := (hb.cell (p := ⟨w.heap.size, 0, none⟩) zr).trans kr0
  replace fr0 := (hb.frozen (p := ⟨w.heap.size, 0, none⟩) zr).trans fr0
  replace kr1 := (hb.cell (p := ⟨w.heap.size, 1, none⟩) zr).trans kr1
  replace fr1 := (hb.frozen (p := ⟨w.heap.size, 1, none⟩) zr).trans fr1
  replace kr2 := (hb.cell (p := ⟨w.heap.size, 2, none⟩) zr).trans kr2
  replace fr2 := (hb.frozen (p := ⟨w.heap.size, 2, none⟩) zr).trans fr2
  replace kr3 := (hb.cell (p := ⟨w.heap.size, 3, none⟩) zr).trans kr3
  replace fr3 := (hb.frozen (p := ⟨w.heap.size, 3, none⟩) zr).trans fr3
  replace zr := Nat.lt_of_lt_of_le zr hb.size
  replace HB := hide (bl_trans HB.out hb)
  clear hb
  go_wp2_with fail
  refine (fromI 1 _ (by decide) (by decide)).mono ?_
  rintro e w6 ⟨v6, rfl, ⟨a6, c6, rfl, ho6⟩, hb⟩
  have O6 := hide ho6
  clear ho6
  replace kr0 := (hb.cell (p := ⟨w.heap.size, 0, none⟩) zr).trans kr0
  replace fr0 := (hb.frozen (p := ⟨w.heap.size, 0, none⟩) zr).trans fr0
  replace kr1 := (hb.cell (p := ⟨w.heap.size, 1, none⟩) zr).trans kr1
  replace fr1 := (hb.frozen (p := ⟨w.heap.size, 1, none⟩) zr).trans fr1
  replace kr2 := (hb.cell (p := ⟨w.heap.size, 2, none⟩) zr).trans kr2
  replace fr2 := (hb.frozen (p := ⟨w.heap.size, 2, none⟩) zr).trans fr2
  replace kr3 := (hb.cell (p := ⟨w.heap.size, 3, none⟩) zr).trans kr3
  replace fr3 := (hb.frozen (p := ⟨w.heap.size, 3, none⟩) zr).trans fr3
  replace zr := Nat.lt_of_lt_of_le zr hb.size
  replace S5 := hide (S5.out.below hb)
  replace HB := hide (bl_trans HB.out hb)
  clear hb
  have zr6 := zr
  have kn0 : ((w6.alloc (Obj.cells #[Value.bool (sgn x), Value.slice a5 (lms x).length c5] 27)).alloc (Obj.cells #[Value.bool (sgn 1), Value.slice a6 (lms 1).length c6] 27)).cell? ⟨w6.heap.size, 0, none⟩ = some (Value.bool (sgn x)) := by go_simp
  have kn1 : ((w6.alloc (Obj.cells #[Value.bool (sgn x), Value.slice a5 (lms x).length c5] 27)).alloc (Obj.cells #[Value.bool (sgn 1), Value.slice a6 (lms 1).length c6] 27)).cell? ⟨w6.heap.size, 1, none⟩ = some (Value.slice a5 (lms x).length c5) := by go_simp
  have fn0 : ((w6.alloc (Obj.cells #[Value.bool (sgn x), Value.slice a5 (lms x).length c5] 27)).alloc (Obj.cells #[Value.bool (sgn 1), Value.slice a6 (lms 1).length c6] 27)).frozen? ⟨w6.heap.size, 0, none⟩ = false := by go_simp
  have fn1 : ((w6.alloc (Obj.cells #[Value.bool (sgn x), Value.slice a5 (lms x).length c5] 27)).alloc (Obj.cells #[Value.bool (sgn 1), Value.slice a6 (lms 1).length c6] 27)).frozen? ⟨w6.heap.size, 1, none⟩ = false := by go_simp
  have zn : w6.heap.size < ((w6.alloc (Obj.cells #[Value.bool (sgn x), Value.slice a5 (lms x).length c5] 27)).alloc (Obj.cells #[Value.bool (sgn 1), Value.slice a6 (lms 1).length c6] 27)).heap.size := by simp only [World.size_alloc]; omega
  have kd0 : ((w6.alloc (Obj.cells #[Value.bool (sgn x), Value.slice a5 (lms x).length c5] 27)).alloc (Obj.cells #[Value.bool (sgn 1), Value.slice a6 (lms 1).length c6] 27)).cell? ⟨w6.heap.size + 1, 0, none⟩ = some (Value.bool (sgn 1)) := by go_simp
  have kd1 : ((w6.alloc (Obj.cells #[Value.bool (sgn x), Value.slice a5 (lms x).length c5] 27)).alloc (Obj.cells #[Value.bool (sgn 1), Value.slice a6 (lms 1).length c6] 27)).cell? ⟨w6.heap.size + 1, 1, none⟩ = some (Value.slice a6 (lms 1).length c6) := by go_simp
  have fd0 : ((w6.alloc (Obj.cells #[Value.bool (sgn x), Value.slice a5 (lms x).length c5] 27)).alloc (Obj.cells #[Value.bool (sgn 1), Value.slice a6 (lms 1).length c6] 27)).frozen? ⟨w6.heap.size + 1, 0, none⟩ = false := by go_simp
  have fd1 : ((w6.alloc (Obj.cells #[Value.bool (sgn x), Value.slice a5 (lms x).length c5] 27)).alloc (Obj.cells #[Value.bool (sgn 1), Value.slice a6 (lms 1).length c6] 27)).frozen? ⟨w6.heap.size + 1, 1, none⟩ = false := by go_simp
  have zd : w6.heap.size + 1 < ((w6.alloc (Obj.cells #[Value.bool (sgn x), Value.slice a5 (lms x).length c5] 27)).alloc (Obj.cells #[Value.bool (sgn 1), Value.slice a6 (lms 1).length c6] 27)).heap.size := by simp only [World.size_alloc]; omega
  have hbn := bl_alloc (bl_alloc (bl_refl w6) (Obj.cells #[Value.bool (sgn x), Value.slice a5 (lms x).length c5] 27)) (Obj.cells #[Value.bool (sgn 1), Value.slice a6 (lms 1).length c6] 27)
  have HW7 := hide hbn
  replace kr0 := (hbn.cell (p := ⟨w.heap.size, 0, none⟩) zr).trans kr0
  replace fr0 := (hbn.frozen (p := ⟨w.heap.size, 0, none⟩) zr).trans fr0
  replace kr1 := (hbn.cell (p := ⟨w.heap.size, 1, none⟩) zr).trans kr1
  replace fr1 := (hbn.frozen (p := ⟨w.heap.size, 1, none⟩) zr).trans fr1
  replace kr2 := (hbn.cell (p := ⟨w.heap.size, 2, none⟩) zr).trans kr2
  replace fr2 := (hbn.frozen (p := ⟨w.heap.size, 2, none⟩) zr).trans fr2
  replace kr3 := (hbn.cell (p := ⟨w.heap.size, 3, none⟩) zr).trans kr3
  replace fr3 := (hbn.frozen (p := ⟨w.heap.size, 3, none⟩) zr).trans fr3
  replace zr := Nat.lt_of_lt_of_le zr hbn.size
  replace S5 := hide (S5.out.below hbn)
  replace HB := hide (bl_trans HB.out hbn)
  clear hbn
  have HSP2 := HSP.out
  go_upto_region 9 with fail
  generalize ((w6.alloc (Obj.cells #[Value.bool (sgn x), Value.slice a5 (lms x).length c5] 27)).alloc (Obj.cells #[Value.bool (sgn 1), Value.slice a6 (lms 1).length c6] 27)) = w7 at *
  go_region_with
    (first
      | (go_at_call 41; refine (fromI 10 _ (by decide) (by decide)).mono ?_; rintro e wA ⟨vA, rfl, ⟨aA, cA, rfl, hoA⟩, hbAr⟩; have hbA : Below w7.heap.size w7 wA := (bl_refl w7).drew.trans hbAr; have yA := hbA.size; have kn0 := (hbAr.cell (p := ⟨w6.heap.size, 0, none⟩) (by dsimp only; rw [World.size_drew]; omega)).trans kn0; have kn1 := (hbAr.cell (p := ⟨w6.heap.size, 1, none⟩) (by dsimp only; rw [World.size_drew]; omega)).trans kn1)
      | (go_at_call 42; refine (tenI (.agg #[.bool (sgn 10), .slice aA (lms 10).length cA]) n _ _ ⟨aA, cA, rfl, hoA.seg⟩ (by omega) (by omega)).mono ?_; rintro e wB ⟨vB, rfl, ⟨aB, cB, rfl, hoB⟩, hbBr⟩; have hbB : Below w7.heap.size w7 wB := bl_trans hbA hbBr; have yB := hbBr.size; have kn0 := (hbBr.cell (p := ⟨w6.heap.size, 0, none⟩) (by dsimp only; omega)).trans kn0; have kn1 := (hbBr.cell (p := ⟨w6.heap.size, 1, none⟩) (by dsimp only; omega)).trans kn1)
      | (go_at_call 43; refine (prodXY (.agg #[.bool (sgn x), .slice a5 (lms x).length c5]) (.agg #[.bool (sgn (10 ^ n)), .slice aB (lms (10 ^ n)).length cB]) x (10 ^ n) _ ⟨a5, c5, rfl, S5.out.below hbB⟩ ⟨aB, cB, rfl, hoB.seg⟩ (by omega) (by omega)).mono ?_; rw [HXX.out]; rintro e wC ⟨vC, rfl, ⟨aC, cC, rfl, hoC⟩, hbCr⟩; have hbC : Below w7.heap.size w7 wC := bl_trans hbB hbCr; have yC := hbCr.size; have kn0 := (hbCr.cell (p := ⟨w6.heap.size, 0, none⟩) (by dsimp only; omega)).trans kn0; have kn1 := (hbCr.cell (p := ⟨w6.heap.size, 1, none⟩) (by dsimp only; omega)).trans kn1; have fn0 := (hbC.frozen (p := ⟨w6.heap.size, 0, none⟩) zn).trans fn0; have fn1 := (hbC.frozen (p := ⟨w6.heap.size, 1, none⟩) zn).trans fn1))
  all_goals
    have m0 : ((wC.setCell ⟨w6.heap.size, 0, none⟩ (Value.bool (sgn X))).setCell ⟨w6.heap.size, 1, none⟩ (Value.slice aC (lms X).length cC)).cell? ⟨w6.heap.size, 0, none⟩ = some (Value.bool (sgn X)) := by go_simp
    have m1 : ((wC.setCell ⟨w6.heap.size, 0, none⟩ (Value.bool (sgn X))).setCell ⟨w6.heap.size, 1, none⟩ (Value.slice aC (lms X).length cC)).cell? ⟨w6.heap.size, 1, none⟩ = some (Value.slice aC (lms X).length cC) := by go_simp
    replace kr0 := (cel2 (w1 := wC) (N := w6.heap.size) (p := ⟨w.heap.size, 0, none⟩) (by dsimp only; omega) (Value.bool (sgn X)) (Value.slice aC (lms X).length cC)).trans ((hbC.cell (p := ⟨w.heap.size, 0, none⟩) zr).trans kr0)
    replace fr0 := (fro2 (w1 := wC) (N := w6.heap.size) (p := ⟨w.heap.size, 0, none⟩) (by dsimp only; omega) (Value.bool (sgn X)) (Value.slice aC (lms X).length cC)).trans ((hbC.frozen (p := ⟨w.heap.size, 0, none⟩) zr).trans fr0)
    replace kr1 := (cel2 (w1 := wC) (N := w6.heap.size) (p := ⟨w.heap.size, 1, none⟩) (by dsimp only; omega) (Value.bool (sgn X)) (Value.slice aC (lms X).length cC)).trans ((hbC.cell (p := ⟨w.heap.size, 1, none⟩) zr).trans kr1)
    replace fr1 := (fro2 (w1 := wC) (N := w6.heap.size) (p := ⟨w.heap.size, 1, none⟩) (by dsimp only; omega) (Value.bool (sgn X)) (Value.slice aC (lms X).length cC)).trans ((hbC.frozen (p := ⟨w.heap.size, 1, none⟩) zr).trans fr1)
    replace kr2 := (cel2 (w1 := wC) (N := w6.heap.size) (p := ⟨w.heap.size, 2, none⟩) (by dsimp only; omega) (Value.bool (sgn X)) (Value.slice aC (lms X).length cC)).trans ((hbC.cell (p := ⟨w.heap.size, 2, none⟩) zr).trans kr2)
    replace fr2 := (fro2 (w1 := wC) (N := w6.heap.size) (p := ⟨w.heap.size, 2, none⟩) (by dsimp only; omega) (Value.bool (sgn X)) (Value.slice aC (lms X).length cC)).trans ((hbC.frozen (p := ⟨w.heap.size, 2, none⟩) zr).trans fr2)
    replace kr3 := (cel2 (w1 := wC) (N := w6.heap.size) (p := ⟨w.heap.size, 3, none⟩) (by dsimp only; omega) (Value.bool (sgn X)) (Value.slice aC (lms X).length cC)).trans ((hbC.cell (p := ⟨w.heap.size, 3, none⟩) zr).trans kr3)
    replace fr3 := (fro2 (w1 := wC) (N := w6.heap.size) (p := ⟨w.heap.size, 3, none⟩) (by dsimp only; omega) (Value.bool (sgn X)) (Value.slice aC (lms X).length cC)).trans ((hbC.frozen (p := ⟨w.heap.size, 3, none⟩) zr).trans fr3)
    replace kd0 := (cel2 (w1 := wC) (N := w6.heap.size) (p := ⟨w6.heap.size + 1, 0, none⟩) (by dsimp only; omega) (Value.bool (sgn X)) (Value.slice aC (lms X).length cC)).trans ((hbC.cell (p := ⟨w6.heap.size + 1, 0, none⟩) zd).trans kd0)
    replace kd1 := (cel2 (w1 := wC) (N := w6.heap.size) (p := ⟨w6.heap.size + 1, 1, none⟩) (by dsimp only; omega) (Value.bool (sgn X)) (Value.slice aC (lms X).length cC)).trans ((hbC.cell (p := ⟨w6.heap.size + 1, 1, none⟩) zd).trans kd1)
    have SN := hide (seg_on hoC (N := w6.heap.size) (by omega) (Value.bool (sgn X)) (Value.slice aC (lms X).length cC))
    have SD := hide (seg_off O6.out (bl_trans HW7.out hbC) (Nat.le_refl _) (Value.bool (sgn X)) (Value.slice aC (lms X).length cC))
    replace HB := hide (((bl_trans HB.out hbC).setCell (p := ⟨w6.heap.size, 0, none⟩) (by dsimp only; omega) (Value.bool (sgn X))).setCell (p := ⟨w6.heap.size, 1, none⟩) (by dsimp only; omega) (Value.slice aC (lms X).length cC))
    replace zr : w.heap.size < ((wC.setCell ⟨w6.heap.size, 0, none⟩ (Value.bool (sgn X))).setCell ⟨w6.heap.size, 1, none⟩ (Value.slice aC (lms X).length cC)).heap.size := by (simp only [World.size_setCell]; omega)
    clear kn0 kn1 fn0 fn1 fd0 fd1 zd zn S5 O6 HW7 hoA hoB hoC hbA hbAr hbB hbBr hbC hbCr
    go_wp2_with fail
    generalize ((wC.setCell ⟨w6.heap.size, 0, none⟩ (Value.bool (sgn X))).setCell ⟨w6.heap.size, 1, none⟩ (Value.slice aC (lms X).length cC)) = w8 at *
    refine (shortI' X 1 aC cC a6 c6 _ SN.out SD.out (by decide) (by omega) (by omega)).mono ?_
    rw [HPQ.out.1, HPQ.out.2]
    rintro e w9 ⟨b1, e1, b2, e2, rfl, ho1, ho2, hap, hb⟩
    have zr8 := zr
    have HO1 := hide ho1
    have HO2 := hide ho2
    have HAP := hide hap
    clear ho1 ho2 hap m0 m1 kd0 kd1 SN SD
    replace kr0 := (hb.cell (p := ⟨w.heap.size, 0, none⟩) zr).trans kr0
    replace fr0 := (hb.frozen (p := ⟨w.heap.size, 0, none⟩) zr).trans fr0
    replace kr1 := (hb.cell (p := ⟨w.heap.size, 1, none⟩) zr).trans kr1
    replace fr1 := (hb.frozen (p := ⟨w.heap.size, 1, none⟩) zr).trans fr1
    replace kr2 := (hb.cell (p := ⟨w.heap.size, 2, none⟩) zr).trans kr2
    replace fr2 := (hb.frozen (p := ⟨w.heap.size, 2, none⟩) zr).trans fr2
    replace kr3 := (hb.cell (p := ⟨w.heap.size, 3, none⟩) zr).trans kr3
    replace fr3 := (hb.frozen (p := ⟨w.heap.size, 3, none⟩) zr).trans fr3
    replace zr := Nat.lt_of_lt_of_le zr hb.size
    replace HB := hide (bl_trans HB.out hb)
    clear hb
    cases hft : ftT p q with
    | false =>
      go_wp2_with fail
      refine (fitI p q b1 e1 b2 e2 _ HO1.out.seg HO2.out.seg).mono ?_
      rw [ftV_f hft, hft]
      rintro e w10 ⟨rfl, hb⟩
      replace kr0 := (hb.cell (p := ⟨w.heap.size, 0, none⟩) zr).trans kr0
      replace fr0 := (hb.frozen (p := ⟨w.heap.size, 0, none⟩) zr).trans fr0
      replace kr1 := (hb.cell (p := ⟨w.heap.size, 1, none⟩) zr).trans kr1
      replace fr1 := (hb.frozen (p := ⟨w.heap.size, 1, none⟩) zr).trans fr1
      replace kr2 := (hb.cell (p := ⟨w.heap.size, 2, none⟩) zr).trans kr2
      replace fr2 := (hb.frozen (p := ⟨w.heap.size, 2, none⟩) zr).trans fr2
      replace kr3 := (hb.cell (p := ⟨w.heap.size, 3, none⟩) zr).trans kr3
      replace fr3 := (hb.frozen (p := ⟨w.heap.size, 3, none⟩) zr).trans fr3
      replace zr := Nat.lt_of_lt_of_le zr hb.size
      replace HB := hide (bl_trans HB.out hb)
      clear hb
      go_wp2
      refine bodyPost_ret (v := .tuple #[.agg #[.bool false, .slice none 0 0, .bool false, .slice none 0 0], .bool false]) (by simp [results, Tryz.results22, go_sem, *]) rfl ?_
      exact ans_no (by rw [HFT.out, HPQ.out.1, HPQ.out.2]; exact hft) (set_four (Nat.le_refl _) HB.out _ _ _ _)
    | true =>
      go_wp2_with fail
      refine (fitI p q b1 e1 b2 e2 _ HO1.out.seg HO2.out.seg).mono ?_
      rw [ftV_t hft, hft]
      rintro e w10 ⟨rfl, hb⟩
      replace kr0 := (hb.cell (p := ⟨w.heap.size, 0, none⟩) zr).trans kr0
      replace fr0 := (hb.frozen (p := ⟨w.heap.size, 0, none⟩) zr).trans fr0
      replace kr1 := (hb.cell (p := ⟨w.heap.size, 1, none⟩) zr).trans kr1
      replace fr1 := (hb.frozen (p := ⟨w.heap.size, 1, none⟩) zr).trans fr1
      replace kr2 := (hb.cell (p := ⟨w.heap.size, 2, none⟩) zr).trans kr2
      replace fr2 := (hb.frozen (p := ⟨w.heap.size, 2, none⟩) zr).trans fr2
      replace kr3 := (hb.cell (p := ⟨w.heap.size, 3, none⟩) zr).trans kr3
      replace fr3 := (hb.frozen (p := ⟨w.heap.size, 3, none⟩) zr).trans fr3
      replace zr := Nat.lt_of_lt_of_le zr hb.size
      replace HO1 := hide (HO1.out.below hb)
      replace HO2 := hide (HO2.out.below hb)
      replace HB := hide (bl_trans HB.out hb)
      clear hb
      go_wp2
      refine bodyPost_ret (v := .tuple #[.agg #[.bool (sgn p), .slice b1 (lms p).length e1, .bool (sgn q), .slice b2 (lms q).length e2], .bool true]) (by simp [results, Tryz.results22, go_sem, *]) rfl ?_
      have h1 := own_four' (lo := w.heap.size) HO1.out (show w.heap.size < _ by omega) (by omega) (Value.bool (sgn p)) (Value.slice b1 (lms p).length e1) (Value.bool (sgn q)) (Value.slice b2 (lms q).length e2)
      have h2 := own_four' (lo := w.heap.size) HO2.out (show w.heap.size < _ by omega) (by omega) (Value.bool (sgn p)) (Value.slice b1 (lms p).length e1) (Value.bool (sgn q)) (Value.slice b2 (lms q).length e2)
      have ha := ans_yes (t := true) (x := X) (y := 1) (w := w) (a1 := b1) (a2 := b2) (c1 := e1) (c2 := e2) (by rw [HFT.out, HPQ.out.1, HPQ.out.2]; exact hft) (by rw [HPQ.out.1]; exact h1) (by rw [HPQ.out.2]; exact h2) HAP.out (set_four (Nat.le_refl _) HB.out _ _ _ _)
      rw [HPQ.out.1, HPQ.out.2] at ha
      exact ha

set_option maxHeartbeats 8000000 in
set_option maxRecDepth 20000 in
theorem decYesQ (neg : Bool) (s : ByteArray) (A W P : List UInt8) (k : Int) (ok pt : Bool) (w : World) (hs : s.size ≤ 400) (hm : Mx w) (hcp : cpS s.data.toList = (A, k, ok)) (hcu : Lib.cut A [46] = (W, P, pt)) (hA : A.length ≤ 400) (hWP : W.length + P.length ≤ 400) (n : Nat) (x X Y : Int) (h : ok = true) (hW : digOk ⟨W.toArray⟩ = true) (h2 : pt = false) (hP : P = []) (hAD : digAll (W ++ P) = true) (hk : -1000 < k ∧ k < 1000) (hx : mk neg (valN (W ++ P)) = x) (hn : k - (P.length : Int) = (n : Int)) (hX : x * 10 ^ n = X) (hY : (1 : Int) = Y) :
    Calls Tryz.prog 22 #[.bool neg, .string s] w fun e w' => RatAns true X Y w w' e := by
  subst h
  subst h2
  have HDW := hide hW
  have HDP := hide hP
  have HAD := hide hAD
  have HX := hide hx
  have HXX := hide hX
  clear hW hP hAD
  have lx : (lms x).length ≤ 200 := by rw [← HX.out]; exact lms_shortN HAD.out (by rw [List.length_append]; omega)
  have l10 : (lms ((10 : Int) ^ n)).length ≤ n + 1 := ten_len n
  have lX : (lms X).length ≤ 200 + (n + 1) := by rw [← HXX.out]; exact mul_len lx l10
  have ly : (lms 1).length ≤ 40 := Num.limbs_len.2 (by decide)
  have l1 : (lms 10).length ≤ 40 := Num.limbs_len.2 (by decide)
  clear hx hX
  subst hY
  have HNN := hide hn
  have hn2 : n < 1000 := by omega
  have HFT := hide (ans_ft (t := true) (x := X) (y := 1) rfl (by decide))
  obtain ⟨p, hp⟩ : ∃ p, X / sgG X 1 = p := ⟨_, rfl⟩
  obtain ⟨q, hq⟩ : ∃ q, 1 / sgG X 1 = q := ⟨_, rfl⟩
  have HPQ := hide (And.intro hp hq)
  clear hp hq
  have HCP := hide hcp
  have HCU := hide hcu
  have HM := hide hm
  clear hcp hcu hm
  have HSA : Hid ((⟨A.toArray⟩ : ByteArray).size = A.length) := hide (by rw [← bsize])
  have HSW : Hid ((⟨W.toArray⟩ : ByteArray).size = W.length) := hide (by rw [← bsize])
  have HSP : Hid ((⟨P.toArray⟩ : ByteArray).size = P.length) := hide (by rw [← bsize])
  have kr0 : (w.alloc (Obj.cells #[Value.bool false, Value.slice none 0 0, Value.bool false, Value.slice none 0 0] 29)).cell? ⟨w.heap.size, 0, none⟩ = some (Value.bool false) := by go_simp
  have fr0 : (w.alloc (Obj.cells #[Value.bool false, Value.slice none 0 0, Value.bool false, Value.slice none 0 0] 29)).frozen? ⟨w.heap.size, 0, none⟩ = false := by go_simp
  have kr1 : (w.alloc (Obj.cells #[Value.bool false, Value.slice none 0 0, Value.bool false, Value.slice none 0 0] 29)).cell? ⟨w.heap.size, 1, none⟩ = some (Value.slice none 0 0) := by go_simp
  have fr1 : (w.alloc (Obj.cells #[Value.bool false, Value.slice none 0 0, Value.bool false, Value.slice none 0 0] 29)).frozen? ⟨w.heap.size, 1, none⟩ = false := by go_simp
  have kr2 : (w.alloc (Obj.cells #[Value.bool false, Value.slice none 0 0, Value.bool false, Value.slice none 0 0] 29)).cell? ⟨w.heap.size, 2, none⟩ = some (Value.bool false) := by go_simp
  have fr2 : (w.alloc (Obj.cells #[Value.bool false, Value.slice none 0 0, Value.bool false, Value.slice none 0 0] 29)).frozen? ⟨w.heap.size, 2, none⟩ = false := by go_simp
  have kr3 : (w.alloc (Obj.cells #[Value.bool false, Value.slice none 0 0, Value.bool false, Value.slice none 0 0] 29)).cell? ⟨w.heap.size, 3, none⟩ = some (Value.slice none 0 0) := by go_simp
  have fr3 : (w.alloc (Obj.cells #[Value.bool false, Value.slice none 0 0, Value.bool false, Value.slice none 0 0] 29)).frozen? ⟨w.heap.size, 3, none⟩ = false := by go_simp
  have zr : w.heap.size < (w.alloc (Obj.cells #[Value.bool false, Value.slice none 0 0, Value.bool false, Value.slice none 0 0] 29)).heap.size := by simp only [World.size_alloc]; omega
  have HB := hide (bl_alloc (bl_refl w) (Obj.cells #[Value.bool false, Value.slice none 0 0, Value.bool false, Value.slice none 0 0] 29))
  replace HM := hide (HM.out.below HB.out)
  go_enter Tryz.func22, Tryz.ntmps22
  go_wp2_with fail
  generalize w.alloc (Obj.cells #[Value.bool false, Value.slice none 0 0, Value.bool false, Value.slice none 0 0] 29) = W0 at *
  refine (cutPlacesG s _ (by omega) HM.out).mono ?_
  rw [HCP.out]
  rintro e w1 ⟨rfl, hb⟩
  replace kr0 := (hb.cell (p := ⟨w.heap.size, 0, none⟩) zr).trans kr0
  replace fr0 := (hb.frozen (p := ⟨w.heap.size, 0, none⟩) zr).trans fr0
  replace kr1 := (hb.cell (p := ⟨w.heap.size, 1, none⟩) zr).trans kr1
  replace fr1 := (hb.frozen (p := ⟨w.heap.size, 1, none⟩) zr).trans fr1
  replace kr2 := (hb.cell (p := ⟨w.heap.size, 2, none⟩) zr).trans kr2
  replace fr2 := (hb.frozen (p := ⟨w.heap.size, 2, none⟩) zr).trans fr2
  replace kr3 := (hb.cell (p := ⟨w.heap.size, 3, none⟩) zr).trans kr3
  replace fr3 := (hb.frozen (p := ⟨w.heap.size, 3, none⟩) zr).trans fr3
  replace zr := Nat.lt_of_lt_of_le zr hb.size
  replace HM := hide (HM.out.below hb)
  replace HB := hide (bl_trans HB.out hb)
  clear hb
  go_wp2_with fail
  refine (cutI _ 46 _ (by rw [HSA.out]; omega) HM.out).mono ?_
  rw [show (⟨A.toArray⟩ : ByteArray).data.toList = A from rfl, HCU.out]
  rintro e w2 ⟨rfl, hb⟩
  replace kr0 := (hb.cell (p := ⟨w.heap.size, 0, none⟩) zr).trans kr0
  replace fr0 := (hb.frozen (p := ⟨w.heap.size, 0, none⟩) zr).trans fr0
  replace kr1 := (hb.cell (p := ⟨w.heap.size, 1, none⟩) zr).trans kr1
  replace fr1 := (hb.frozen (p := ⟨w.heap.size, 1, none⟩) zr).trans fr1
  replace kr2 := (hb.cell (p := ⟨w.heap.size, 2, none⟩) zr).trans kr2
  replace fr2 := (hb.frozen (p := ⟨w.heap.size, 2, none⟩) zr).trans fr2
  replace kr3 := (hb.cell (p := ⟨w.heap.size, 3, none⟩) zr).trans kr3
  replace fr3 := (hb.frozen (p := ⟨w.heap.size, 3, none⟩) zr).trans fr3
  replace zr := Nat.lt_of_lt_of_le zr hb.size
  replace HB := hide (bl_trans HB.out hb)
  clear hb
  clear HM
  go_wp2_with fail
  refine (allDigitsI _ _ (by rw [HSW.out]; omega)).mono ?_
  rw [HDW.out]
  rintro e w3 ⟨rfl, hb⟩
  replace kr0 := (hb.cell (p := ⟨w.heap.size, 0, none⟩) zr).trans kr0
  replace fr0 := (hb.frozen (p := ⟨w.heap.size, 0, none⟩) zr).trans fr0
  replace kr1 := (hb.cell (p := ⟨w.heap.size, 1, none⟩) zr).trans kr1
  replace fr1 := (hb.frozen (p := ⟨w.heap.size, 1, none⟩) zr).trans fr1
  replace kr2 := (hb.cell (p := ⟨w.heap.size, 2, none⟩) zr).trans kr2
  replace fr2 := (hb.frozen (p := ⟨w.heap.size, 2, none⟩) zr).trans fr2
  replace kr3 := (hb.cell (p := ⟨w.heap.size, 3, none⟩) zr).trans kr3
  replace fr3 := (hb.frozen (p := ⟨w.heap.size, 3, none⟩) zr).trans fr3
  replace zr := Nat.lt_of_lt_of_le zr hb.size
  replace HB := hide (bl_trans HB.out hb)
  clear hb
  have HSZ : Hid ((⟨(W ++ P).toArray⟩ : ByteArray).size ≤ 400) := hide (by rw [← bsize]; show (W ++ P).length ≤ 400; rw [List.length_append]; omega)
  go_wp2_with fail
  rw [app_two]
  refine (digitLimbsI ⟨(W ++ P).toArray⟩ _ HAD.out (Nat.le_trans HSZ.out (by decide))).mono ?_
  rintro e w4 ⟨a4, n4, c4, xs4, rfl, ho4, hn4, hv4, hb⟩
  have hb4 := hb.size
  have HO4 := hide ho4
  have HV4 := hide hv4
  clear ho4 hv4
  replace kr0 := (hb.cell (p := ⟨w.heap.size, 0, none⟩) zr).trans kr0
  replace fr0 := (hb.frozen (p := ⟨w.heap.size, 0, none⟩) zr).trans fr0
  replace kr1 := (hb.cell (p := ⟨w.heap.size, 1, none⟩) zr).trans kr1
  replace fr1 := (hb.frozen (p := ⟨w.heap.size, 1, none⟩) zr).trans fr1
  replace kr2 := (hb.cell (p := ⟨w.heap.size, 2, none⟩) zr).trans kr2
  replace fr2 := (hb.frozen (p := ⟨w.heap.size, 2, none⟩) zr).trans fr2
  replace kr3 := (hb.cell (p := ⟨w.heap.size, 3, none⟩) zr).trans kr3
  replace fr3 := (hb.frozen (p := ⟨w.heap.size, 3, none⟩) zr).trans fr3
  replace zr := Nat.lt_of_lt_of_le zr hb.size
  replace HB := hide (bl_trans HB.out hb)
  clear hb
  go_wp2_with fail
  refine (bigOfI neg a4 n4 c4 xs4 _ _ HO4.out hb4).mono ?_
  rw [HV4.out, HX.out]
  rintro e w5 ⟨v5, rfl, ⟨a5, c5, rfl, ho5⟩, hb⟩
  have S5 := hide ho5.seg
  clear ho5 HO4 HV4
  replace kr0 := (hb.cell (p := ⟨w.heap.size, 0, none⟩) zr).trans kr0
  replace fr0 := (hb.frozen (p := ⟨w.heap.size, 0, none⟩) zr).trans fr0
  replace kr1 := (hb.cell (p := ⟨w.heap.size, 1, none⟩) zr).trans kr1
  replace fr1 := (hb.frozen (p := ⟨w.heap.size, 1, none⟩) zr).trans fr1
  replace kr2 := (hb.cell (p := ⟨w.heap.size, 2, none⟩) zr).trans kr2
  replace fr2 := (hb.frozen (p := ⟨w.heap.size, 2, none⟩) zr).trans fr2
  replace kr3 := (hb.cell (p := ⟨w.heap.size, 3, none⟩) zr).trans kr3
  replace fr3 := (hb.frozen (p := ⟨w.heap.size, 3, none⟩) zr).trans fr3
  replace zr := Nat.lt_of_lt_of_le zr hb.size
  replace HB := hide (bl_trans HB.out hb)
  clear hb
  go_wp2_with fail
  refine (fromI 1 _ (by decide) (by decide)).mono ?_
  rintro e w6 ⟨v6, rfl, ⟨a6, c6, rfl, ho6⟩, hb⟩
  have O6 := hide ho6
  clear ho6
  replace kr0 := (hb.cell (p := ⟨w.heap.size, 0, none⟩) zr).trans kr0
  replace fr0 := (hb.frozen (p := ⟨w.heap.size, 0, none⟩) zr).trans fr0
  replace kr1 := (hb.cell (p := ⟨w.heap.size, 1, none⟩) zr).trans kr1
  replace fr1 := (hb.frozen (p := ⟨w.heap.size, 1, none⟩) zr).trans fr1
  replace kr2 := (hb.cell (p := ⟨w.heap.size, 2, none⟩) zr).trans kr2
  replace fr2 := (hb.frozen (p := ⟨w.heap.size, 2, none⟩) zr).trans fr2
  replace kr3 := (hb.cell (p := ⟨w.heap.size, 3, none⟩) zr).trans kr3
  replace fr3 := (hb.frozen (p := ⟨w.heap.size, 3, none⟩) zr).trans fr3
  replace zr := Nat.lt_of_lt_of_le zr hb.size
  replace S5 := hide (S5.out.below hb)
  replace HB := hide (bl_trans HB.out hb)
  clear hb
  have zr6 := zr
  have kn0 : ((w6.alloc (Obj.cells #[Value.bool (sgn x), Value.slice a5 (lms x).length c5] 27)).alloc (Obj.cells #[Value.bool (sgn 1), Value.slice a6 (lms 1).length c6] 27)).cell? ⟨w6.heap.size, 0, none⟩ = some (Value.bool (sgn x)) := by go_simp
  have kn1 : ((w6.alloc (Obj.cells #[Value.bool (sgn x), Value.slice a5 (lms x).length c5] 27)).alloc (Obj.cells #[Value.bool (sgn 1), Value.slice a6 (lms 1).length c6] 27)).cell? ⟨w6.heap.size, 1, none⟩ = some (Value.slice a5 (lms x).length c5) := by go_simp
  have fn0 : ((w6.alloc (Obj.cells #[Value.bool (sgn x), Value.slice a5 (lms x).length c5] 27)).alloc (Obj.cells #[Value.bool (sgn 1), Value.slice a6 (lms 1).length c6] 27)).frozen? ⟨w6.heap.size, 0, none⟩ = false := by go_simp
  have fn1 : ((w6.alloc (Obj.cells #[Value.bool (sgn x), Value.slice a5 (lms x).length c5] 27)).alloc (Obj.cells #[Value.bool (sgn 1), Value.slice a6 (lms 1).length c6] 27)).frozen? ⟨w6.heap.size, 1, none⟩ = false := by go_simp
  have zn : w6.heap.size < ((w6.alloc (Obj.cells #[Value.bool (sgn x), Value.slice a5 (lms x).length c5] 27)).alloc (Obj.cells #[Value.bool (sgn 1), Value.slice a6 (lms 1).length c6] 27)).heap.size := by simp only [World.size_alloc]; omega
  have kd0 : ((w6.alloc (Obj.cells #[Value.bool (sgn x), Value.slice a5 (lms x).length c5] 27)).alloc (Obj.cells #[Value.bool (sgn 1), Value.slice a6 (lms 1).length c6] 27)).cell? ⟨w6.heap.size + 1, 0, none⟩ = some (Value.bool (sgn 1)) := by go_simp
  have kd1 : ((w6.alloc (Obj.cells #[Value.bool (sgn x), Value.slice a5 (lms x).length c5] 27)).alloc (Obj.cells #[Value.bool (sgn 1), Value.slice a6 (lms 1).length c6] 27)).cell? ⟨w6.heap.size + 1, 1, none⟩ = some (Value.slice a6 (lms 1).length c6) := by go_simp
  have fd0 : ((w6.alloc (Obj.cells #[Value.bool (sgn x), Value.slice a5 (lms x).length c5] 27)).alloc (Obj.cells #[Value.bool (sgn 1), Value.slice a6 (lms 1).length c6] 27)).frozen? ⟨w6.heap.size + 1, 0, none⟩ = false := by go_simp
  have fd1 : ((w6.alloc (Obj.cells #[Value.bool (sgn x), Value.slice a5 (lms x).length c5] 27)).alloc (Obj.cells #[Value.bool (sgn 1), Value.slice a6 (lms 1).length c6] 27)).frozen? ⟨w6.heap.size + 1, 1, none⟩ = false := by go_simp
  have zd : w6.heap.size + 1 < ((w6.alloc (Obj.cells #[Value.bool (sgn x), Value.slice a5 (lms x).length c5] 27)).alloc (Obj.cells #[Value.bool (sgn 1), Value.slice a6 (lms 1).length c6] 27)).heap.size := by simp only [World.size_alloc]; omega
  have hbn := bl_alloc (bl_alloc (bl_refl w6) (Obj.cells #[Value.bool (sgn x), Value.slice a5 (lms x).length c5] 27)) (Obj.cells #[Value.bool (sgn 1), Value.slice a6 (lms 1).length c6] 27)
  have HW7 := hide hbn
  replace kr0 := (hbn.cell (p := ⟨w.heap.size, 0, none⟩) zr).trans kr0
  replace fr0 := (hbn.frozen (p := ⟨w.heap.size, 0, none⟩) zr).trans fr0
  replace kr1 := (hbn.cell (p := ⟨w.heap.size, 1, none⟩) zr).trans kr1
  replace fr1 := (hbn.frozen (p := ⟨w.heap.size, 1, none⟩) zr).trans fr1
  replace kr2 := (hbn.cell (p := ⟨w.heap.size, 2, none⟩) zr).trans kr2
  replace fr2 := (hbn.frozen (p := ⟨w.heap.size, 2, none⟩) zr).trans fr2
  replace kr3 := (hbn.cell (p := ⟨w.heap.size, 3, none⟩) zr).trans kr3
  replace fr3 := (hbn.frozen (p := ⟨w.heap.size, 3, none⟩) zr).trans fr3
  replace zr := Nat.lt_of_lt_of_le zr hbn.size
  replace S5 := hide (S5.out.below hbn)
  replace HB := hide (bl_trans HB.out hbn)
  clear hbn
  have HSP2 := HSP.out
  go_upto_region 9 with fail
  generalize ((w6.alloc (Obj.cells #[Value.bool (sgn x), Value.slice a5 (lms x).length c5] 27)).alloc (Obj.cells #[Value.bool (sgn 1), Value.slice a6 (lms 1).length c6] 27)) = w7 at *
  go_region_with
    (first
      | (go_at_call 41; refine (fromI 10 _ (by decide) (by decide)).mono ?_; rintro e wA ⟨vA, rfl, ⟨aA, cA, rfl, hoA⟩, hbAr⟩; have hbA : Below w7.heap.size w7 wA := (bl_refl w7).drew.trans hbAr; have yA := hbA.size; have kn0 := (hbAr.cell (p := ⟨w6.heap.size, 0, none⟩) (by dsimp only; rw [World.size_drew]; omega)).trans kn0; have kn1 := (hbAr.cell (p := ⟨w6.heap.size, 1, none⟩) (by dsimp only; rw [World.size_drew]; omega)).trans kn1)
      | (go_at_call 42; refine (tenI (.agg #[.bool (sgn 10), .slice aA (lms 10).length cA]) n _ _ ⟨aA, cA, rfl, hoA.seg⟩ (by omega) (by omega)).mono ?_; rintro e wB ⟨vB, rfl, ⟨aB, cB, rfl, hoB⟩, hbBr⟩; have hbB : Below w7.heap.size w7 wB := bl_trans hbA hbBr; have yB := hbBr.size; have kn0 := (hbBr.cell (p := ⟨w6.heap.size, 0, none⟩) (by dsimp only; omega)).trans kn0; have kn1 := (hbBr.cell (p := ⟨w6.heap.size, 1, none⟩) (by dsimp only; omega)).trans kn1)
      | (go_at_call 43; refine (prodXY (.agg #[.bool (sgn x), .slice a5 (lms x).length c5]) (.agg #[.bool (sgn (10 ^ n)), .slice aB (lms (10 ^ n)).length cB]) x (10 ^ n) _ ⟨a5, c5, rfl, S5.out.below hbB⟩ ⟨aB, cB, rfl, hoB.seg⟩ (by omega) (by omega)).mono ?_; rw [HXX.out]; rintro e wC ⟨vC, rfl, ⟨aC, cC, rfl, hoC⟩, hbCr⟩; have hbC : Below w7.heap.size w7 wC := bl_trans hbB hbCr; have yC := hbCr.size; have kn0 := (hbCr.cell (p := ⟨w6.heap.size, 0, none⟩) (by dsimp only; omega)).trans kn0; have kn1 := (hbCr.cell (p := ⟨w6.heap.size, 1, none⟩) (by dsimp only; omega)).trans kn1; have fn0 := (hbC.frozen (p := ⟨w6.heap.size, 0, none⟩) zn).trans fn0; have fn1 := (hbC.frozen (p := ⟨w6.heap.size, 1, none⟩) zn).trans fn1))
  all_goals
    have m0 : ((wC.setCell ⟨w6.heap.size, 0, none⟩ (Value.bool (sgn X))).setCell ⟨w6.heap.size, 1, none⟩ (Value.slice aC (lms X).length cC)).cell? ⟨w6.heap.size, 0, none⟩ = some (Value.bool (sgn X)) := by go_simp
    have m1 : ((wC.setCell ⟨w6.heap.size, 0, none⟩ (Value.bool (sgn X))).setCell ⟨w6.heap.size, 1, none⟩ (Value.slice aC (lms X).length cC)).cell? ⟨w6.heap.size, 1, none⟩ = some (Value.slice aC (lms X).length cC) := by go_simp
    replace kr0 := (cel2 (w1 := wC) (N := w6.heap.size) (p := ⟨w.heap.size, 0, none⟩) (by dsimp only; omega) (Value.bool (sgn X)) (Value.slice aC (lms X).length cC)).trans ((hbC.cell (p := ⟨w.heap.size, 0, none⟩) zr).trans kr0)
    replace fr0 := (fro2 (w1 := wC) (N := w6.heap.size) (p := ⟨w.heap.size, 0, none⟩) (by dsimp only; omega) (Value.bool (sgn X)) (Value.slice aC (lms X).length cC)).trans ((hbC.frozen (p := ⟨w.heap.size, 0, none⟩) zr).trans fr0)
    replace kr1 := (cel2 (w1 := wC) (N := w6.heap.size) (p := ⟨w.heap.size, 1, none⟩) (by dsimp only; omega) (Value.bool (sgn X)) (Value.slice aC (lms X).length cC)).trans ((hbC.cell (p := ⟨w.heap.size, 1, none⟩) zr).trans kr1)
    replace fr1 := (fro2 (w1 := wC) (N := w6.heap.size) (p := ⟨w.heap.size, 1, none⟩) (by dsimp only; omega) (Value.bool (sgn X)) (Value.slice aC (lms X).length cC)).trans ((hbC.frozen (p := ⟨w.heap.size, 1, none⟩) zr).trans fr1)
    replace kr2 := (cel2 (w1 := wC) (N := w6.heap.size) (p := ⟨w.heap.size, 2, none⟩) (by dsimp only; omega) (Value.bool (sgn X)) (Value.slice aC (lms X).length cC)).trans ((hbC.cell (p := ⟨w.heap.size, 2, none⟩) zr).trans kr2)
    replace fr2 := (fro2 (w1 := wC) (N := w6.heap.size) (p := ⟨w.heap.size, 2, none⟩) (by dsimp only; omega) (Value.bool (sgn X)) (Value.slice aC (lms X).length cC)).trans ((hbC.frozen (p := ⟨w.heap.size, 2, none⟩) zr).trans fr2)
    replace kr3 := (cel2 (w1 := wC) (N := w6.heap.size) (p := ⟨w.heap.size, 3, none⟩) (by dsimp only; omega) (Value.bool (sgn X)) (Value.slice aC (lms X).length cC)).trans ((hbC.cell (p := ⟨w.heap.size, 3, none⟩) zr).trans kr3)
    replace fr3 := (fro2 (w1 := wC) (N := w6.heap.size) (p := ⟨w.heap.size, 3, none⟩) (by dsimp only; omega) (Value.bool (sgn X)) (Value.slice aC (lms X).length cC)).trans ((hbC.frozen (p := ⟨w.heap.size, 3, none⟩) zr).trans fr3)
    replace kd0 := (cel2 (w1 := wC) (N := w6.heap.size) (p := ⟨w6.heap.size + 1, 0, none⟩) (by dsimp only; omega) (Value.bool (sgn X)) (Value.slice aC (lms X).length cC)).trans ((hbC.cell (p := ⟨w6.heap.size + 1, 0, none⟩) zd).trans kd0)
    replace kd1 := (cel2 (w1 := wC) (N := w6.heap.size) (p := ⟨w6.heap.size + 1, 1, none⟩) (by dsimp only; omega) (Value.bool (sgn X)) (Value.slice aC (lms X).length cC)).trans ((hbC.cell (p := ⟨w6.heap.size + 1, 1, none⟩) zd).trans kd1)
    have SN := hide (seg_on hoC (N := w6.heap.size) (by omega) (Value.bool (sgn X)) (Value.slice aC (lms X).length cC))
    have SD := hide (seg_off O6.out (bl_trans HW7.out hbC) (Nat.le_refl _) (Value.bool (sgn X)) (Value.slice aC (lms X).length cC))
    replace HB := hide (((bl_trans HB.out hbC).setCell (p := ⟨w6.heap.size, 0, none⟩) (by dsimp only; omega) (Value.bool (sgn X))).setCell (p := ⟨w6.heap.size, 1, none⟩) (by dsimp only; omega) (Value.slice aC (lms X).length cC))
    replace zr : w.heap.size < ((wC.setCell ⟨w6.heap.size, 0, none⟩ (Value.bool (sgn X))).setCell ⟨w6.heap.size, 1, none⟩ (Value.slice aC (lms X).length cC)).heap.size := by (simp only [World.size_setCell]; omega)
    clear kn0 kn1 fn0 fn1 fd0 fd1 zd zn S5 O6 HW7 hoA hoB hoC hbA hbAr hbB hbBr hbC hbCr
    go_wp2_with fail
    generalize ((wC.setCell ⟨w6.heap.size, 0, none⟩ (Value.bool (sgn X))).setCell ⟨w6.heap.size, 1, none⟩ (Value.slice aC (lms X).length cC)) = w8 at *
    refine (shortI' X 1 aC cC a6 c6 _ SN.out SD.out (by decide) (by omega) (by omega)).mono ?_
    rw [HPQ.out.1, HPQ.out.2]
    rintro e w9 ⟨b1, e1, b2, e2, rfl, ho1, ho2, hap, hb⟩
    have zr8 := zr
    have HO1 := hide ho1
    have HO2 := hide ho2
    have HAP := hide hap
    clear ho1 ho2 hap m0 m1 kd0 kd1 SN SD
    replace kr0 := (hb.cell (p := ⟨w.heap.size, 0, none⟩) zr).trans kr0
    replace fr0 := (hb.frozen (p := ⟨w.heap.size, 0, none⟩) zr).trans fr0
    replace kr1 := (hb.cell (p := ⟨w.heap.size, 1, none⟩) zr).trans kr1
    replace fr1 := (hb.frozen (p := ⟨w.heap.size, 1, none⟩) zr).trans fr1
    replace kr2 := (hb.cell (p := ⟨w.heap.size, 2, none⟩) zr).trans kr2
    replace fr2 := (hb.frozen (p := ⟨w.heap.size, 2, none⟩) zr).trans fr2
    replace kr3 := (hb.cell (p := ⟨w.heap.size, 3, none⟩) zr).trans kr3
    replace fr3 := (hb.frozen (p := ⟨w.heap.size, 3, none⟩) zr).trans fr3
    replace zr := Nat.lt_of_lt_of_le zr hb.size
    replace HB := hide (bl_trans HB.out hb)
    clear hb
    cases hft : ftT p q with
    | false =>
      go_wp2_with fail
      refine (fitI p q b1 e1 b2 e2 _ HO1.out.seg HO2.out.seg).mono ?_
      rw [ftV_f hft, hft]
      rintro e w10 ⟨rfl, hb⟩
      replace kr0 := (hb.cell (p := ⟨w.heap.size, 0, none⟩) zr).trans kr0
      replace fr0 := (hb.frozen (p := ⟨w.heap.size, 0, none⟩) zr).trans fr0
      replace kr1 := (hb.cell (p := ⟨w.heap.size, 1, none⟩) zr).trans kr1
      replace fr1 := (hb.frozen (p := ⟨w.heap.size, 1, none⟩) zr).trans fr1
      replace kr2 := (hb.cell (p := ⟨w.heap.size, 2, none⟩) zr).trans kr2
      replace fr2 := (hb.frozen (p := ⟨w.heap.size, 2, none⟩) zr).trans fr2
      replace kr3 := (hb.cell (p := ⟨w.heap.size, 3, none⟩) zr).trans kr3
      replace fr3 := (hb.frozen (p := ⟨w.heap.size, 3, none⟩) zr).trans fr3
      replace zr := Nat.lt_of_lt_of_le zr hb.size
      replace HB := hide (bl_trans HB.out hb)
      clear hb
      go_wp2
      refine bodyPost_ret (v := .tuple #[.agg #[.bool false, .slice none 0 0, .bool false, .slice none 0 0], .bool false]) (by simp [results, Tryz.results22, go_sem, *]) rfl ?_
      exact ans_no (by rw [HFT.out, HPQ.out.1, HPQ.out.2]; exact hft) (set_four (Nat.le_refl _) HB.out _ _ _ _)
    | true =>
      go_wp2_with fail
      refine (fitI p q b1 e1 b2 e2 _ HO1.out.seg HO2.out.seg).mono ?_
      rw [ftV_t hft, hft]
      rintro e w10 ⟨rfl, hb⟩
      replace kr0 := (hb.cell (p := ⟨w.heap.size, 0, none⟩) zr).trans kr0
      replace fr0 := (hb.frozen (p := ⟨w.heap.size, 0, none⟩) zr).trans fr0
      replace kr1 := (hb.cell (p := ⟨w.heap.size, 1, none⟩) zr).trans kr1
      replace fr1 := (hb.frozen (p := ⟨w.heap.size, 1, none⟩) zr).trans fr1
      replace kr2 := (hb.cell (p := ⟨w.heap.size, 2, none⟩) zr).trans kr2
      replace fr2 := (hb.frozen (p := ⟨w.heap.size, 2, none⟩) zr).trans fr2
      replace kr3 := (hb.cell (p := ⟨w.heap.size, 3, none⟩) zr).trans kr3
      replace fr3 := (hb.frozen (p := ⟨w.heap.size, 3, none⟩) zr).trans fr3
      replace zr := Nat.lt_of_lt_of_le zr hb.size
      replace HO1 := hide (HO1.out.below hb)
      replace HO2 := hide (HO2.out.below hb)
      replace HB := hide (bl_trans HB.out hb)
      clear hb
      go_wp2
      refine bodyPost_ret (v := .tuple #[.agg #[.bool (sgn p), .slice b1 (lms p).length e1, .bool (sgn q), .slice b2 (lms q).length e2], .bool true]) (by simp [results, Tryz.results22, go_sem, *]) rfl ?_
      have h1 := own_four' (lo := w.heap.size) HO1.out (show w.heap.size < _ by omega) (by omega) (Value.bool (sgn p)) (Value.slice b1 (lms p).length e1) (Value.bool (sgn q)) (Value.slice b2 (lms q).length e2)
      have h2 := own_four' (lo := w.heap.size) HO2.out (show w.heap.size < _ by omega) (by omega) (Value.bool (sgn p)) (Value.slice b1 (lms p).length e1) (Value.bool (sgn q)) (Value.slice b2 (lms q).length e2)
      have ha := ans_yes (t := true) (x := X) (y := 1) (w := w) (a1 := b1) (a2 := b2) (c1 := e1) (c2 := e2) (by rw [HFT.out, HPQ.out.1, HPQ.out.2]; exact hft) (by rw [HPQ.out.1]; exact h1) (by rw [HPQ.out.2]; exact h2) HAP.out (set_four (Nat.le_refl _) HB.out _ _ _ _)
      rw [HPQ.out.1, HPQ.out.2] at ha
      exact ha

end Go.Proofs.YtbcokpnhhjjedaaGreatDoor

/- The walk of readDecimal of the program at a text that it takes, with places behind the point. -/
namespace Go.Proofs.YtbcokpnhhjjedaaGreatDoor
open Go.RowKit
set_option linter.unusedVariables false

set_option maxHeartbeats 8000000 in
set_option maxRecDepth 20000 in
theorem decYesN (neg : Bool) (s : ByteArray) (A W P : List UInt8) (k : Int) (ok pt : Bool) (w : World) (hs : s.size ≤ 400) (hm : Mx w) (hcp : cpS s.data.toList = (A, k, ok)) (hcu : Lib.cut A [46] = (W, P, pt)) (hA : A.length ≤ 400) (hWP : W.length + P.length ≤ 400) (n : Nat) (x X Y : Int) (h : ok = true) (hW : digOk ⟨W.toArray⟩ = true) (h2 : pt = true) (hP : digOk ⟨P.toArray⟩ = true) (hAD : digAll (W ++ P) = true) (hk : -1000 < k ∧ k < 1000) (hx : mk neg (valN (W ++ P)) = x) (hn : k - (P.length : Int) = - (n : Int)) (hn0 : 0 < n) (hX : x = X) (hY : (10 : Int) ^ n = Y) :
    Calls Tryz.prog 22 #[.bool neg, .string s] w fun e w' => RatAns true X Y w w' e := by
  subst h
  subst h2
  have HDW := hide hW
  have HDP := hide hP
  have HAD := hide hAD
  have HX := hide hx
  clear hW hP hAD
  have HYY := hide hY
  subst hX
  have lx : (lms x).length ≤ 200 := by rw [← HX.out]; exact lms_shortN HAD.out (by rw [List.length_append]; omega)
  have ly : (lms Y).length ≤ n + 1 := by rw [← HYY.out]; exact ten_len n
  have ly1 : (lms 1).length ≤ 40 := Num.limbs_len.2 (by decide)
  have l1 : (lms 10).length ≤ 40 := Num.limbs_len.2 (by decide)
  have HYN : Hid (Y ≠ 0) := hide (by rw [← HYY.out]; have := Int.pow_pos (n := 10) (m := n) (by decide); omega)
  clear hx hY
  have HNN := hide hn
  have hn2 : n ≤ 1400 := by omega
  have HFT := hide (ans_ft (t := true) (x := x) (y := Y) rfl HYN.out)
  obtain ⟨p, hp⟩ : ∃ p, x / sgG x Y = p := ⟨_, rfl⟩
  obtain ⟨q, hq⟩ : ∃ q, Y / sgG x Y = q := ⟨_, rfl⟩
  have HPQ := hide (And.intro hp hq)
  clear hp hq
  have HCP := hide hcp
  have HCU := hide hcu
  have HM := hide hm
  clear hcp hcu hm
  have HSA : Hid ((⟨A.toArray⟩ : ByteArray).size = A.length) := hide (by rw [← bsize])
  have HSW : Hid ((⟨W.toArray⟩ : ByteArray).size = W.length) := hide (by rw [← bsize])
  have HSP : Hid ((⟨P.toArray⟩ : ByteArray).size = P.length) := hide (by rw [← bsize])
  have kr0 : (w.alloc (Obj.cells #[Value.bool false, Value.slice none 0 0, Value.bool false, Value.slice none 0 0] 29)).cell? ⟨w.heap.size, 0, none⟩ = some (Value.bool false) := by go_simp
  have fr0 : (w.alloc (Obj.cells #[Value.bool false, Value.slice none 0 0, Value.bool false, Value.slice none 0 0] 29)).frozen? ⟨w.heap.size, 0, none⟩ = false := by go_simp
  have kr1 : (w.alloc (Obj.cells #[Value.bool false, Value.slice none 0 0, Value.bool false, Value.slice none 0 0] 29)).cell? ⟨w.heap.size, 1, none⟩ = some (Value.slice none 0 0) := by go_simp
  have fr1 : (w.alloc (Obj.cells #[Value.bool false, Value.slice none 0 0, Value.bool false, Value.slice none 0 0] 29)).frozen? ⟨w.heap.size, 1, none⟩ = false := by go_simp
  have kr2 : (w.alloc (Obj.cells #[Value.bool false, Value.slice none 0 0, Value.bool false, Value.slice none 0 0] 29)).cell? ⟨w.heap.size, 2, none⟩ = some (Value.bool false) := by go_simp
  have fr2 : (w.alloc (Obj.cells #[Value.bool false, Value.slice none 0 0, Value.bool false, Value.slice none 0 0] 29)).frozen? ⟨w.heap.size, 2, none⟩ = false := by go_simp
  have kr3 : (w.alloc (Obj.cells #[Value.bool false, Value.slice none 0 0, Value.bool false, Value.slice none 0 0] 29)).cell? ⟨w.heap.size, 3, none⟩ = some (Value.slice none 0 0) := by go_simp
  have fr3 : (w.alloc (Obj.cells #[Value.bool false, Value.slice none 0 0, Value.bool false, Value.slice none 0 0] 29)).frozen? ⟨w.heap.size, 3, none⟩ = false := by go_simp
  have zr : w.heap.size < (w.alloc (Obj.cells #[Value.bool false, Value.slice none 0 0, Value.bool false, Value.slice none 0 0] 29)).heap.size := by simp only [World.size_alloc]; omega
  have HB := hide (bl_alloc (bl_refl w) (Obj.cells #[Value.bool false, Value.slice none 0 0, Value.bool false, Value.slice none 0 0] 29))
  replace HM := hide (HM.out.below HB.out)
  go_enter Tryz.func22, Tryz.ntmps22
  go_wp2_with fail
  generalize w.alloc (Obj.cells #[Value.bool false, Value.slice none 0 0, Value.bool false, Value.slice none 0 0] 29) = W0 at *
  refine (cutPlacesG s _ (by omega) HM.out).mono ?_
  rw [HCP.out]
  rintro e w1 ⟨rfl, hb⟩
  replace kr0 := (hb.cell (p := ⟨w.heap.size, 0, none⟩) zr).trans kr0
  replace fr0 := (hb.frozen (p := ⟨w.heap.size, 0, none⟩) zr).trans fr0
  replace kr1 := (hb.cell (p := ⟨w.heap.size, 1, none⟩) zr).trans kr1
  replace fr1 := (hb.frozen (p := ⟨w.heap.size, 1, none⟩) zr).trans fr1
  replace kr2 := (hb.cell (p := ⟨w.heap.size, 2, none⟩) zr).trans kr2
  replace fr2 := (hb.frozen (p := ⟨w.heap.size, 2, none⟩) zr).trans fr2
  replace kr3 := (hb.cell (p := ⟨w.heap.size, 3, none⟩) zr).trans kr3
  replace fr3 := (hb.frozen (p := ⟨w.heap.size, 3, none⟩) zr).trans fr3
  replace zr := Nat.lt_of_lt_of_le zr hb.size
  replace HM := hide (HM.out.below hb)
  replace HB := hide (bl_trans HB.out hb)
  clear hb
  go_wp2_with fail
  refine (cutI _ 46 _ (by rw [HSA.out]; omega) HM.out).mono ?_
  rw [show (⟨A.toArray⟩ : ByteArray).data.toList = A from rfl, HCU.out]
  rintro e w2 ⟨rfl, hb⟩
  replace kr0 := (hb.cell (p := ⟨w.heap.size, 0, none⟩) zr).trans kr0
  replace fr0 := (hb.frozen (p := ⟨w.heap.size, 0, none⟩) zr).trans fr0
  replace kr1 := (hb.cell (p := ⟨w.heap.size, 1, none⟩) zr).trans kr1
  replace fr1 := (hb.frozen (p := ⟨w.heap.size, 1, none⟩) zr).trans fr1
  replace kr2 := (hb.cell (p := ⟨w.heap.size, 2, none⟩) zr).trans kr2
  replace fr2 := (hb.frozen (p := ⟨w.heap.size, 2, none⟩) zr).trans fr2
  replace kr3 := (hb.cell (p := ⟨w.heap.size, 3, none⟩) zr).trans kr3
  replace fr3 := (hb.frozen (p := ⟨w.heap.size, 3, none⟩) zr).trans fr3
  replace zr := Nat.lt_of_lt_of_le zr hb.size
  replace HB := hide (bl_trans HB.out hb)
  clear hb
  clear HM
  go_wp2_with fail
  refine (allDigitsI _ _ (by rw [HSW.out]; omega)).mono ?_
  rw [HDW.out]
  rintro e w3 ⟨rfl, hb⟩
  replace kr0 := (hb.cell (p := ⟨w.heap.size, 0, none⟩) zr).trans kr0
  replace fr0 := (hb.frozen (p := ⟨w.heap.size, 0, none⟩) zr).trans fr0
  replace kr1 := (hb.cell (p := ⟨w.heap.size, 1, none⟩) zr).trans kr1
  replace fr1 := (hb.frozen (p := ⟨w.heap.size, 1, none⟩) zr).trans fr1
  replace kr2 := (hb.cell (p := ⟨w.heap.size, 2, none⟩) zr).trans kr2
  replace fr2 := (hb.frozen (p := ⟨w.heap.size, 2, none⟩) zr).trans fr2
  replace kr3 := (hb.cell (p := ⟨w.heap.size, 3, none⟩) zr).trans kr3
  replace fr3 := (hb.frozen (p := ⟨w.heap.size, 3, none⟩) zr).trans fr3
  replace zr := Nat.lt_of_lt_of_le zr hb.size
  replace HB := hide (bl_trans HB.out hb)
  clear hb
  go_wp2_with fail
  refine (allDigitsI _ _ (by rw [HSP.out]; omega)).mono ?_
  rw [HDP.out]
  rintro e w3b ⟨rfl, hb⟩
  replace kr0 := (hb.cell (p := ⟨w.heap.size, 0, none⟩) zr).trans kr0
  replace fr0 := (hb.frozen (p := ⟨w.heap.size, 0, none⟩) zr).trans fr0
  replace kr1 := (hb.cell (p := ⟨w.heap.size, 1, none⟩) zr).trans kr1
  replace fr1 := (hb.frozen (p := ⟨w.heap.size, 1, none⟩) zr).trans fr1
  replace kr2 := (hb.cell (p := ⟨w.heap.size, 2, none⟩) zr).trans kr2
  replace fr2 := (hb.frozen (p := ⟨w.heap.size, 2, none⟩) zr).trans fr2
  replace kr3 := (hb.cell (p := ⟨w.heap.size, 3, none⟩) zr).trans kr3
  replace fr3 := (hb.frozen (p := ⟨w.heap.size, 3, none⟩) zr).trans fr3
  replace zr := Nat.lt_of_lt_of_le zr hb.size
  replace HB := hide (bl_trans HB.out hb)
  clear hb
  have HSZ : Hid ((⟨(W ++ P).toArray⟩ : ByteArray).size ≤ 400) := hide (by rw [← bsize]; show (W ++ P).length ≤ 400; rw [List.length_append]; omega)
  go_wp2_with fail
  rw [app_two]
  refine (digitLimbsI ⟨(W ++ P).toArray⟩ _ HAD.out (Nat.le_trans HSZ.out (by decide))).mono ?_
  rintro e w4 ⟨a4, n4, c4, xs4, rfl, ho4, hn4, hv4, hb⟩
  have hb4 := hb.size
  have HO4 := hide ho4
  have HV4 := hide hv4
  clear ho4 hv4
  replace kr0 := (hb.cell (p := ⟨w.heap.size, 0, none⟩) zr).trans kr0
  replace fr0 := (hb.frozen (p := ⟨w.heap.size, 0, none⟩) zr).trans fr0
  replace kr1 := (hb.cell (p := ⟨w.heap.size, 1, none⟩) zr).trans kr1
  replace fr1 := (hb.frozen (p := ⟨w.heap.size, 1, none⟩) zr).trans fr1
  replace kr2 := (hb.cell (p := ⟨w.heap.size, 2, none⟩) zr).trans kr2
  replace fr2 := (hb.frozen (p := ⟨w.heap.size, 2, none⟩) zr).trans fr2
  replace kr3 := (hb.cell (p := ⟨w.heap.size, 3, none⟩) zr).trans kr3
  replace fr3 := (hb.frozen (p := ⟨w.heap.size, 3, none⟩) zr).trans fr3
  replace zr := Nat.lt_of_lt_of_le zr hb.size
  replace HB := hide (bl_trans HB.out hb)
  clear hb
  go_wp2_with fail
  refine (bigOfI neg a4 n4 c4 xs4 _ _ HO4.out hb4).mono ?_
  rw [HV4.out, HX.out]
  rintro e w5 ⟨v5, rfl, ⟨a5, c5, rfl, ho5⟩, hb⟩
  have O5 := hide ho5
  clear ho5 HO4 HV4
  replace kr0 := (hb.cell (p := ⟨w.heap.size, 0, none⟩) zr).trans kr0
  replace fr0 := (hb.frozen (p := ⟨w.heap.size, 0, none⟩) zr).trans fr0
  replace kr1 := (hb.cell (p := ⟨w.heap.size, 1, none⟩) zr).trans kr1
  replace fr1 := (hb.frozen (p := ⟨w.heap.size, 1, none⟩) zr).trans fr1
  replace kr2 := (hb.cell (p := ⟨w.heap.size, 2, none⟩) zr).trans kr2
  replace fr2 := (hb.frozen (p := ⟨w.heap.size, 2, none⟩) zr).trans fr2
  replace kr3 := (hb.cell (p := ⟨w.heap.size, 3, none⟩) zr).trans kr3
  replace fr3 := (hb.frozen (p := ⟨w.heap.size, 3, none⟩) zr).trans fr3
  replace zr := Nat.lt_of_lt_of_le zr hb.size
  replace HB := hide (bl_trans HB.out hb)
  clear hb
  go_wp2_with fail
  refine (fromI 1 _ (by decide) (by decide)).mono ?_
  rintro e w6 ⟨v6, rfl, ⟨a6, c6, rfl, ho6⟩, hb⟩
  have O6 := hide ho6
  clear ho6
  replace kr0 := (hb.cell (p := ⟨w.heap.size, 0, none⟩) zr).trans kr0
  replace fr0 := (hb.frozen (p := ⟨w.heap.size, 0, none⟩) zr).trans fr0
  replace kr1 := (hb.cell (p := ⟨w.heap.size, 1, none⟩) zr).trans kr1
  replace fr1 := (hb.frozen (p := ⟨w.heap.size, 1, none⟩) zr).trans fr1
  replace kr2 := (hb.cell (p := ⟨w.heap.size, 2, none⟩) zr).trans kr2
  replace fr2 := (hb.frozen (p := ⟨w.heap.size, 2, none⟩) zr).trans fr2
  replace kr3 := (hb.cell (p := ⟨w.heap.size, 3, none⟩) zr).trans kr3
  replace fr3 := (hb.frozen (p := ⟨w.heap.size, 3, none⟩) zr).trans fr3
  replace zr := Nat.lt_of_lt_of_le zr hb.size
  replace O5 := hide (O5.out.below hb)
  replace HB := hide (bl_trans HB.out hb)
  clear hb
  have zr6 := zr
  have kn0 : ((w6.alloc (Obj.cells #[Value.bool (sgn x), Value.slice a5 (lms x).length c5] 27)).alloc (Obj.cells #[Value.bool (sgn 1), Value.slice a6 (lms 1).length c6] 27)).cell? ⟨w6.heap.size, 0, none⟩ = some (Value.bool (sgn x)) := by go_simp
  have kn1 : ((w6.alloc (Obj.cells #[Value.bool (sgn x), Value.slice a5 (lms x).length c5] 27)).alloc (Obj.cells #[Value.bool (sgn 1), Value.slice a6 (lms 1).length c6] 27)).cell? ⟨w6.heap.size, 1, none⟩ = some (Value.slice a5 (lms x).length c5) := by go_simp
  have fn0 : ((w6.alloc (Obj.cells #[Value.bool (sgn x), Value.slice a5 (lms x).length c5] 27)).alloc (Obj.cells #[Value.bool (sgn 1), Value.slice a6 (lms 1).length c6] 27)).frozen? ⟨w6.heap.size, 0, none⟩ = false := by go_simp
  have fn1 : ((w6.alloc (Obj.cells #[Value.bool (sgn x), Value.slice a5 (lms x).length c5] 27)).alloc (Obj.cells #[Value.bool (sgn 1), Value.slice a6 (lms 1).length c6] 27)).frozen? ⟨w6.heap.size, 1, none⟩ = false := by go_simp
  have zn : w6.heap.size < ((w6.alloc (Obj.cells #[Value.bool (sgn x), Value.slice a5 (lms x).length c5] 27)).alloc (Obj.cells #[Value.bool (sgn 1), Value.slice a6 (lms 1).length c6] 27)).heap.size := by simp only [World.size_alloc]; omega
  have kd0 : ((w6.alloc (Obj.cells #[Value.bool (sgn x), Value.slice a5 (lms x).length c5] 27)).alloc (Obj.cells #[Value.bool (sgn 1), Value.slice a6 (lms 1).length c6] 27)).cell? ⟨w6.heap.size + 1, 0, none⟩ = some (Value.bool (sgn 1)) := by go_simp
  have kd1 : ((w6.alloc (Obj.cells #[Value.bool (sgn x), Value.slice a5 (lms x).length c5] 27)).alloc (Obj.cells #[Value.bool (sgn 1), Value.slice a6 (lms 1).length c6] 27)).cell? ⟨w6.heap.size + 1, 1, none⟩ = some (Value.slice a6 (lms 1).length c6) := by go_simp
  have fd0 : ((w6.alloc (Obj.cells #[Value.bool (sgn x), Value.slice a5 (lms x).length c5] 27)).alloc (Obj.cells #[Value.bool (sgn 1), Value.slice a6 (lms 1).length c6] 27)).frozen? ⟨w6.heap.size + 1, 0, none⟩ = false := by go_simp
  have fd1 : ((w6.alloc (Obj.cells #[Value.bool (sgn x), Value.slice a5 (lms x).length c5] 27)).alloc (Obj.cells #[Value.bool (sgn 1), Value.slice a6 (lms 1).length c6] 27)).frozen? ⟨w6.heap.size + 1, 1, none⟩ = false := by go_simp
  have zd : w6.heap.size + 1 < ((w6.alloc (Obj.cells #[Value.bool (sgn x), Value.slice a5 (lms x).length c5] 27)).alloc (Obj.cells #[Value.bool (sgn 1), Value.slice a6 (lms 1).length c6] 27)).heap.size := by simp only [World.size_alloc]; omega
  have hbn := bl_alloc (bl_alloc (bl_refl w6) (Obj.cells #[Value.bool (sgn x), Value.slice a5 (lms x).length c5] 27)) (Obj.cells #[Value.bool (sgn 1), Value.slice a6 (lms 1).length c6] 27)
  have HW7 := hide hbn
  replace kr0 := (hbn.cell (p := ⟨w.heap.size, 0, none⟩) zr).trans kr0
  replace fr0 := (hbn.frozen (p := ⟨w.heap.size, 0, none⟩) zr).trans fr0
  replace kr1 := (hbn.cell (p := ⟨w.heap.size, 1, none⟩) zr).trans kr1
  replace fr1 := (hbn.frozen (p := ⟨w.heap.size, 1, none⟩) zr).trans fr1
  replace kr2 := (hbn.cell (p := ⟨w.heap.size, 2, none⟩) zr).trans kr2
  replace fr2 := (hbn.frozen (p := ⟨w.heap.size, 2, none⟩) zr).trans fr2
  replace kr3 := (hbn.cell (p := ⟨w.heap.size, 3, none⟩) zr).trans kr3
  replace fr3 := (hbn.frozen (p := ⟨w.heap.size, 3, none⟩) zr).trans fr3
  replace zr := Nat.lt_of_lt_of_le zr hbn.size
  replace HB := hide (bl_trans HB.out hbn)
  clear hbn
  have HSP2 := HSP.out
  go_wp2_with fail
  generalize ((w6.alloc (Obj.cells #[Value.bool (sgn x), Value.slice a5 (lms x).length c5] 27)).alloc (Obj.cells #[Value.bool (sgn 1), Value.slice a6 (lms 1).length c6] 27)) = w7 at *
  refine (fromI 10 _ (by decide) (by decide)).mono ?_
  rintro e wA ⟨vA, rfl, ⟨aA, cA, rfl, hoA⟩, hbAr⟩
  have hbA : Below w7.heap.size w7 wA := hbAr
  have yA := hbA.size
  go_wp2_with fail
  refine (tenI (.agg #[.bool (sgn 10), .slice aA (lms 10).length cA]) n _ _ ⟨aA, cA, rfl, hoA.seg⟩ (by omega) (by omega)).mono ?_
  rw [HYY.out]
  rintro e wC ⟨vC, rfl, ⟨aC, cC, rfl, hoC⟩, hbCr⟩
  have hbC : Below w7.heap.size w7 wC := bl_trans hbA hbCr
  have yC := hbCr.size
  replace fd0 := (hbC.frozen (p := ⟨w6.heap.size + 1, 0, none⟩) zd).trans fd0
  replace fd1 := (hbC.frozen (p := ⟨w6.heap.size + 1, 1, none⟩) zd).trans fd1
  replace kd0 := (hbC.cell (p := ⟨w6.heap.size + 1, 0, none⟩) zd).trans kd0
  replace kd1 := (hbC.cell (p := ⟨w6.heap.size + 1, 1, none⟩) zd).trans kd1
  all_goals
    have m0 : ((wC.setCell ⟨w6.heap.size + 1, 0, none⟩ (Value.bool (sgn Y))).setCell ⟨w6.heap.size + 1, 1, none⟩ (Value.slice aC (lms Y).length cC)).cell? ⟨w6.heap.size + 1, 0, none⟩ = some (Value.bool (sgn Y)) := by go_simp
    have m1 : ((wC.setCell ⟨w6.heap.size + 1, 0, none⟩ (Value.bool (sgn Y))).setCell ⟨w6.heap.size + 1, 1, none⟩ (Value.slice aC (lms Y).length cC)).cell? ⟨w6.heap.size + 1, 1, none⟩ = some (Value.slice aC (lms Y).length cC) := by go_simp
    replace kr0 := (cel2 (w1 := wC) (N := w6.heap.size + 1) (p := ⟨w.heap.size, 0, none⟩) (by dsimp only; omega) (Value.bool (sgn Y)) (Value.slice aC (lms Y).length cC)).trans ((hbC.cell (p := ⟨w.heap.size, 0, none⟩) zr).trans kr0)
    replace fr0 := (fro2 (w1 := wC) (N := w6.heap.size + 1) (p := ⟨w.heap.size, 0, none⟩) (by dsimp only; omega) (Value.bool (sgn Y)) (Value.slice aC (lms Y).length cC)).trans ((hbC.frozen (p := ⟨w.heap.size, 0, none⟩) zr).trans fr0)
    replace kr1 := (cel2 (w1 := wC) (N := w6.heap.size + 1) (p := ⟨w.heap.size, 1, none⟩) (by dsimp only; omega) (Value.bool (sgn Y)) (Value.slice aC (lms Y).length cC)).trans ((hbC.cell (p := ⟨w.heap.size, 1, none⟩) zr).trans kr1)
    replace fr1 := (fro2 (w1 := wC) (N := w6.heap.size + 1) (p := ⟨w.heap.size, 1, none⟩) (by dsimp only; omega) (Value.bool (sgn Y)) (Value.slice aC (lms Y).length cC)).trans ((hbC.frozen (p := ⟨w.heap.size, 1, none⟩) zr).trans fr1)
    replace kr2 := (cel2 (w1 := wC) (N := w6.heap.size + 1) (p := ⟨w.heap.size, 2, none⟩) (by dsimp only; omega) (Value.bool (sgn Y)) (Value.slice aC (lms Y).length cC)).trans ((hbC.cell (p := ⟨w.heap.size, 2, none⟩) zr).trans kr2)
    replace fr2 := (fro2 (w1 := wC) (N := w6.heap.size + 1) (p := ⟨w.heap.size, 2, none⟩) (by dsimp only; omega) (Value.bool (sgn Y)) (Value.slice aC (lms Y).length cC)).trans ((hbC.frozen (p := ⟨w.heap.size, 2, none⟩) zr).trans fr2)
    replace kr3 := (cel2 (w1 := wC) (N := w6.heap.size + 1) (p := ⟨w.heap.size, 3, none⟩) (by dsimp only; omega) (Value.bool (sgn Y)) (Value.slice aC (lms Y).length cC)).trans ((hbC.cell (p := ⟨w.heap.size, 3, none⟩) zr).trans kr3)
    replace fr3 := (fro2 (w1 := wC) (N := w6.heap.size + 1) (p := ⟨w.heap.size, 3, none⟩) (by dsimp only; omega) (Value.bool (sgn Y)) (Value.slice aC (lms Y).length cC)).trans ((hbC.frozen (p := ⟨w.heap.size, 3, none⟩) zr).trans fr3)
    replace kn0 := (cel2 (w1 := wC) (N := w6.heap.size + 1) (p := ⟨w6.heap.size, 0, none⟩) (by dsimp only; omega) (Value.bool (sgn Y)) (Value.slice aC (lms Y).length cC)).trans ((hbC.cell (p := ⟨w6.heap.size, 0, none⟩) zn).trans kn0)
    replace kn1 := (cel2 (w1 := wC) (N := w6.heap.size + 1) (p := ⟨w6.heap.size, 1, none⟩) (by dsimp only; omega) (Value.bool (sgn Y)) (Value.slice aC (lms Y).length cC)).trans ((hbC.cell (p := ⟨w6.heap.size, 1, none⟩) zn).trans kn1)
    have SD := hide (seg_on hoC (N := w6.heap.size + 1) (by omega) (Value.bool (sgn Y)) (Value.slice aC (lms Y).length cC))
    have SN := hide (seg_off O5.out (bl_trans HW7.out hbC) (Nat.le_succ _) (Value.bool (sgn Y)) (Value.slice aC (lms Y).length cC))
    replace HB := hide (((bl_trans HB.out hbC).setCell (p := ⟨w6.heap.size + 1, 0, none⟩) (by dsimp only; omega) (Value.bool (sgn Y))).setCell (p := ⟨w6.heap.size + 1, 1, none⟩) (by dsimp only; omega) (Value.slice aC (lms Y).length cC))
    replace zr : w.heap.size < ((wC.setCell ⟨w6.heap.size + 1, 0, none⟩ (Value.bool (sgn Y))).setCell ⟨w6.heap.size + 1, 1, none⟩ (Value.slice aC (lms Y).length cC)).heap.size := by (simp only [World.size_setCell]; omega)
    clear fn0 fn1 zd zn O5 O6 HW7 hoA hoC hbA hbAr hbC hbCr
    go_wp2_with fail
    generalize ((wC.setCell ⟨w6.heap.size + 1, 0, none⟩ (Value.bool (sgn Y))).setCell ⟨w6.heap.size + 1, 1, none⟩ (Value.slice aC (lms Y).length cC)) = w8 at *
    refine (shortI' x Y a5 c5 aC cC _ SN.out SD.out HYN.out (by omega) (by omega)).mono ?_
    rw [HPQ.out.1, HPQ.out.2]
    rintro e w9 ⟨b1, e1, b2, e2, rfl, ho1, ho2, hap, hb⟩
    have zr8 := zr
    have HO1 := hide ho1
    have HO2 := hide ho2
    have HAP := hide hap
    clear ho1 ho2 hap m0 m1 kn0 kn1 kd0 kd1 fd0 fd1 SN SD
    replace kr0 := (hb.cell (p := ⟨w.heap.size, 0, none⟩) zr).trans kr0
    replace fr0 := (hb.frozen (p := ⟨w.heap.size, 0, none⟩) zr).trans fr0
    replace kr1 := (hb.cell (p := ⟨w.heap.size, 1, none⟩) zr).trans kr1
    replace fr1 := (hb.frozen (p := ⟨w.heap.size, 1, none⟩) zr).trans fr1
    replace kr2 := (hb.cell (p := ⟨w.heap.size, 2, none⟩) zr).trans kr2
    replace fr2 := (hb.frozen (p := ⟨w.heap.size, 2, none⟩) zr).trans fr2
    replace kr3 := (hb.cell (p := ⟨w.heap.size, 3, none⟩) zr).trans kr3
    replace fr3 := (hb.frozen (p := ⟨w.heap.size, 3, none⟩) zr).trans fr3
    replace zr := Nat.lt_of_lt_of_le zr hb.size
    replace HB := hide (bl_trans HB.out hb)
    clear hb
    cases hft : ftT p q with
    | false =>
      go_wp2_with fail
      refine (fitI p q b1 e1 b2 e2 _ HO1.out.seg HO2.out.seg).mono ?_
      rw [ftV_f hft, hft]
      rintro e w10 ⟨rfl, hb⟩
      replace kr0 := (hb.cell (p := ⟨w.heap.size, 0, none⟩) zr).trans kr0
      replace fr0 := (hb.frozen (p := ⟨w.heap.size, 0, none⟩) zr).trans fr0
      replace kr1 := (hb.cell (p := ⟨w.heap.size, 1, none⟩) zr).trans kr1
      replace fr1 := (hb.frozen (p := ⟨w.heap.size, 1, none⟩) zr).trans fr1
      replace kr2 := (hb.cell (p := ⟨w.heap.size, 2, none⟩) zr).trans kr2
      replace fr2 := (hb.frozen (p := ⟨w.heap.size, 2, none⟩) zr).trans fr2
      replace kr3 := (hb.cell (p := ⟨w.heap.size, 3, none⟩) zr).trans kr3
      replace fr3 := (hb.frozen (p := ⟨w.heap.size, 3, none⟩) zr).trans fr3
      replace zr := Nat.lt_of_lt_of_le zr hb.size
      replace HB := hide (bl_trans HB.out hb)
      clear hb
      go_wp2
      refine bodyPost_ret (v := .tuple #[.agg #[.bool false, .slice none 0 0, .bool false, .slice none 0 0], .bool false]) (by simp [results, Tryz.results22, go_sem, *]) rfl ?_
      exact ans_no (by rw [HFT.out, HPQ.out.1, HPQ.out.2]; exact hft) (set_four (Nat.le_refl _) HB.out _ _ _ _)
    | true =>
      go_wp2_with fail
      refine (fitI p q b1 e1 b2 e2 _ HO1.out.seg HO2.out.seg).mono ?_
      rw [ftV_t hft, hft]
      rintro e w10 ⟨rfl, hb⟩
      replace kr0 := (hb.cell (p := ⟨w.heap.size, 0, none⟩) zr).trans kr0
      replace fr0 := (hb.frozen (p := ⟨w.heap.size, 0, none⟩) zr).trans fr0
      replace kr1 := (hb.cell (p := ⟨w.heap.size, 1, none⟩) zr).trans kr1
      replace fr1 := (hb.frozen (p := ⟨w.heap.size, 1, none⟩) zr).trans fr1
      replace kr2 := (hb.cell (p := ⟨w.heap.size, 2, none⟩) zr).trans kr2
      replace fr2 := (hb.frozen (p := ⟨w.heap.size, 2, none⟩) zr).trans fr2
      replace kr3 := (hb.cell (p := ⟨w.heap.size, 3, none⟩) zr).trans kr3
      replace fr3 := (hb.frozen (p := ⟨w.heap.size, 3, none⟩) zr).trans fr3
      replace zr := Nat.lt_of_lt_of_le zr hb.size
      replace HO1 := hide (HO1.out.below hb)
      replace HO2 := hide (HO2.out.below hb)
      replace HB := hide (bl_trans HB.out hb)
      clear hb
      go_wp2
      refine bodyPost_ret (v := .tuple #[.agg #[.bool (sgn p), .slice b1 (lms p).length e1, .bool (sgn q), .slice b2 (lms q).length e2], .bool true]) (by simp [results, Tryz.results22, go_sem, *]) rfl ?_
      have h1 := own_four' (lo := w.heap.size) HO1.out (show w.heap.size < _ by omega) (by omega) (Value.bool (sgn p)) (Value.slice b1 (lms p).length e1) (Value.bool (sgn q)) (Value.slice b2 (lms q).length e2)
      have h2 := own_four' (lo := w.heap.size) HO2.out (show w.heap.size < _ by omega) (by omega) (Value.bool (sgn p)) (Value.slice b1 (lms p).length e1) (Value.bool (sgn q)) (Value.slice b2 (lms q).length e2)
      have ha := ans_yes (t := true) (x := x) (y := Y) (w := w) (a1 := b1) (a2 := b2) (c1 := e1) (c2 := e2) (by rw [HFT.out, HPQ.out.1, HPQ.out.2]; exact hft) (by rw [HPQ.out.1]; exact h1) (by rw [HPQ.out.2]; exact h2) HAP.out (set_four (Nat.le_refl _) HB.out _ _ _ _)
      rw [HPQ.out.1, HPQ.out.2] at ha
      exact ha

set_option maxHeartbeats 8000000 in
set_option maxRecDepth 20000 in
theorem decYesM (neg : Bool) (s : ByteArray) (A W P : List UInt8) (k : Int) (ok pt : Bool) (w : World) (hs : s.size ≤ 400) (hm : Mx w) (hcp : cpS s.data.toList = (A, k, ok)) (hcu : Lib.cut A [46] = (W, P, pt)) (hA : A.length ≤ 400) (hWP : W.length + P.length ≤ 400) (n : Nat) (x X Y : Int) (h : ok = true) (hW : digOk ⟨W.toArray⟩ = true) (h2 : pt = false) (hP : P = []) (hAD : digAll (W ++ P) = true) (hk : -1000 < k ∧ k < 1000) (hx : mk neg (valN (W ++ P)) = x) (hn : k - (P.length : Int) = - (n : Int)) (hn0 : 0 < n) (hX : x = X) (hY : (10 : Int) ^ n = Y) :
    Calls Tryz.prog 22 #[.bool neg, .string s] w fun e w' => RatAns true X Y w w' e := by
  subst h
  subst h2
  have HDW := hide hW
  have HDP := hide hP
  have HAD := hide hAD
  have HX := hide hx
  clear hW hP hAD
  have HYY := hide hY
  subst hX
  have lx : (lms x).length ≤ 200 := by rw [← HX.out]; exact lms_shortN HAD.out (by rw [List.length_append]; omega)
  have ly : (lms Y).length ≤ n + 1 := by rw [← HYY.out]; exact ten_len n
  have ly1 : (lms 1).length ≤ 40 := Num.limbs_len.2 (by decide)
  have l1 : (lms 10).length ≤ 40 := Num.limbs_len.2 (by decide)
  have HYN : Hid (Y ≠ 0) := hide (by rw [← HYY.out]; have := Int.pow_pos (n := 10) (m := n) (by decide); omega)
  clear hx hY
  have HNN := hide hn
  have hn2 : n ≤ 1400 := by omega
  have HFT := hide (ans_ft (t := true) (x := x) (y := Y) rfl HYN.out)
  obtain ⟨p, hp⟩ : ∃ p, x / sgG x Y = p := ⟨_, rfl⟩
  obtain ⟨q, hq⟩ : ∃ q, Y / sgG x Y = q := ⟨_, rfl⟩
  have HPQ := hide (And.intro hp hq)
  clear hp hq
  have HCP := hide hcp
  have HCU := hide hcu
  have HM := hide hm
  clear hcp hcu hm
  have HSA : Hid ((⟨A.toArray⟩ : ByteArray).size = A.length) := hide (by rw [← bsize])
  have HSW : Hid ((⟨W.toArray⟩ : ByteArray).size = W.length) := hide (by rw [← bsize])
  have HSP : Hid ((⟨P.toArray⟩ : ByteArray).size = P.length) := hide (by rw [← bsize])
  have kr0 : (w.alloc (Obj.cells #[Value.bool false, Value.slice none 0 0, Value.bool false, Value.slice none 0 0] 29)).cell? ⟨w.heap.size, 0, none⟩ = some (Value.bool false) := by go_simp
  have fr0 : (w.alloc (Obj.cells #[Value.bool false, Value.slice none 0 0, Value.bool false, Value.slice none 0 0] 29)).frozen? ⟨w.heap.size, 0, none⟩ = false := by go_simp
  have kr1 : (w.alloc (Obj.cells #[Value.bool false, Value.slice none 0 0, Value.bool false, Value.slice none 0 0] 29)).cell? ⟨w.heap.size, 1, none⟩ = some (Value.slice none 0 0) := by go_simp
  have fr1 : (w.alloc (Obj.cells #[Value.bool false, Value.slice none 0 0, Value.bool false, Value.slice none 0 0] 29)).frozen? ⟨w.heap.size, 1, none⟩ = false := by go_simp
  have kr2 : (w.alloc (Obj.cells #[Value.bool false, Value.slice none 0 0, Value.bool false, Value.slice none 0 0] 29)).cell? ⟨w.heap.size, 2, none⟩ = some (Value.bool false) := by go_simp
  have fr2 : (w.alloc (Obj.cells #[Value.bool false, Value.slice none 0 0, Value.bool false, Value.slice none 0 0] 29)).frozen? ⟨w.heap.size, 2, none⟩ = false := by go_simp
  have kr3 : (w.alloc (Obj.cells #[Value.bool false, Value.slice none 0 0, Value.bool false, Value.slice none 0 0] 29)).cell? ⟨w.heap.size, 3, none⟩ = some (Value.slice none 0 0) := by go_simp
  have fr3 : (w.alloc (Obj.cells #[Value.bool false, Value.slice none 0 0, Value.bool false, Value.slice none 0 0] 29)).frozen? ⟨w.heap.size, 3, none⟩ = false := by go_simp
  have zr : w.heap.size < (w.alloc (Obj.cells #[Value.bool false, Value.slice none 0 0, Value.bool false, Value.slice none 0 0] 29)).heap.size := by simp only [World.size_alloc]; omega
  have HB := hide (bl_alloc (bl_refl w) (Obj.cells #[Value.bool false, Value.slice none 0 0, Value.bool false, Value.slice none 0 0] 29))
  replace HM := hide (HM.out.below HB.out)
  go_enter Tryz.func22, Tryz.ntmps22
  go_wp2_with fail
  generalize w.alloc (Obj.cells #[Value.bool false, Value.slice none 0 0, Value.bool false, Value.slice none 0 0] 29) = W0 at *
  refine (cutPlacesG s _ (by omega) HM.out).mono ?_
  rw [HCP.out]
  rintro e w1 ⟨rfl, hb⟩
  replace kr0 := (hb.cell (p := ⟨w.heap.size, 0, none⟩) zr).trans kr0
  replace fr0 := (hb.frozen (p := ⟨w.heap.size, 0, none⟩) zr).trans fr0
  replace kr1 := (hb.cell (p := ⟨w.heap.size, 1, none⟩) zr).trans kr1
  replace fr1 := (hb.frozen (p := ⟨w.heap.size, 1, none⟩) zr).trans fr1
  replace kr2 := (hb.cell (p := ⟨w.heap.size, 2, none⟩) zr).trans kr2
  replace fr2 := (hb.frozen (p := ⟨w.heap.size, 2, none⟩) zr).trans fr2
  replace kr3 := (hb.cell (p := ⟨w.heap.size, 3, none⟩) zr).trans kr3
  replace fr3 := (hb.frozen (p := ⟨w.heap.size, 3, none⟩) zr).trans fr3
  replace zr := Nat.lt_of_lt_of_le zr hb.size
  replace HM := hide (HM.out.below hb)
  replace HB := hide (bl_trans HB.out hb)
  clear hb
  go_wp2_with fail
  refine (cutI _ 46 _ (by rw [HSA.out]; omega) HM.out).mono ?_
  rw [show (⟨A.toArray⟩ : ByteArray).data.toList = A from rfl, HCU.out]
  rintro e w2 ⟨rfl, hb⟩
  replace kr0 := (hb.cell (p := ⟨w.heap.size, 0, none⟩) zr).trans kr0
  replace fr0 := (hb.frozen (p := ⟨w.heap.size, 0, none⟩) zr).trans fr0
  replace kr1 := (hb.cell (p := ⟨w.heap.size, 1, none⟩) zr).trans kr1
  replace fr1 := (hb.frozen (p := ⟨w.heap.size, 1, none⟩) zr).trans fr1
  replace kr2 := (hb.cell (p := ⟨w.heap.size, 2, none⟩) zr).trans kr2
  replace fr2 := (hb.frozen (p := ⟨w.heap.size, 2, none⟩) zr).trans fr2
  replace kr3 := (hb.cell (p := ⟨w.heap.size, 3, none⟩) zr).trans kr3
  replace fr3 := (hb.frozen (p := ⟨w.heap.size, 3, none⟩) zr).trans fr3
  replace zr := Nat.lt_of_lt_of_le zr hb.size
  replace HB := hide (bl_trans HB.out hb)
  clear hb
  clear HM
  go_wp2_with fail
  refine (allDigitsI _ _ (by rw [HSW.out]; omega)).mono ?_
  rw [HDW.out]
  rintro e w3 ⟨rfl, hb⟩
  replace kr0 := (hb.cell (p := ⟨w.heap.size, 0, none⟩) zr).trans kr0
  replace fr0 := (hb.frozen (p := ⟨w.heap.size, 0, none⟩) zr).trans fr0
  replace kr1 := (hb.cell (p := ⟨w.heap.size, 1, none⟩) zr).trans kr1
  replace fr1 := (hb.frozen (p := ⟨w.heap.size, 1, none⟩) zr).trans fr1
  replace kr2 := (hb.cell (p := ⟨w.heap.size, 2, none⟩) zr).trans kr2
  replace fr2 := (hb.frozen (p := ⟨w.heap.size, 2, none⟩) zr).trans fr2
  replace kr3 := (hb.cell (p := ⟨w.heap.size, 3, none⟩) zr).trans kr3
  replace fr3 := (hb.frozen (p := ⟨w.heap.size, 3, none⟩) zr).trans fr3
  replace zr := Nat.lt_of_lt_of_le zr hb.size
  replace HB := hide (bl_trans HB.out hb)
  clear hb
  have HSZ : Hid ((⟨(W ++ P).toArray⟩ : ByteArray).size ≤ 400) := hide (by rw [← bsize]; show (W ++ P).length ≤ 400; rw [List.length_append]; omega)
  go_wp2_with fail
  rw [app_two]
  refine (digitLimbsI ⟨(W ++ P).toArray⟩ _ HAD.out (Nat.le_trans HSZ.out (by decide))).mono ?_
  rintro e w4 ⟨a4, n4, c4, xs4, rfl, ho4, hn4, hv4, hb⟩
  have hb4 := hb.size
  have HO4 := hide ho4
  have HV4 := hide hv4
  clear ho4 hv4
  replace kr0 := (hb.cell (p := ⟨w.heap.size, 0, none⟩) zr).trans kr0
  replace fr0 := (hb.frozen (p := ⟨w.heap.size, 0, none⟩) zr).trans fr0
  replace kr1 := (hb.cell (p := ⟨w.heap.size, 1, none⟩) zr).trans kr1
  replace fr1 := (hb.frozen (p := ⟨w.heap.size, 1, none⟩) zr).trans fr1
  replace kr2 := (hb.cell (p := ⟨w.heap.size, 2, none⟩) zr).trans kr2
  replace fr2 := (hb.frozen (p := ⟨w.heap.size, 2, none⟩) zr).trans fr2
  replace kr3 := (hb.cell (p := ⟨w.heap.size, 3, none⟩) zr).trans kr3
  replace fr3 := (hb.frozen (p := ⟨w.heap.size, 3, none⟩) zr).trans fr3
  replace zr := Nat.lt_of_lt_of_le zr hb.size
  replace HB := hide (bl_trans HB.out hb)
  clear hb
  go_wp2_with fail
  refine (bigOfI neg a4 n4 c4 xs4 _ _ HO4.out hb4).mono ?_
  rw [HV4.out, HX.out]
  rintro e w5 ⟨v5, rfl, ⟨a5, c5, rfl, ho5⟩, hb⟩
  have O5 := hide ho5
  clear ho5 HO4 HV4
  replace kr0 := (hb.cell (p := ⟨w.heap.size, 0, none⟩) zr).trans kr0
  replace fr0 := (hb.frozen (p := ⟨w.heap.size, 0, none⟩) zr).trans fr0
  replace kr1 := (hb.cell (p := ⟨w.heap.size, 1, none⟩) zr).trans kr1
  replace fr1 := (hb.frozen (p := ⟨w.heap.size, 1, none⟩) zr).trans fr1
  replace kr2 := (hb.cell (p := ⟨w.heap.size, 2, none⟩) zr).trans kr2
  replace fr2 := (hb.frozen (p := ⟨w.heap.size, 2, none⟩) zr).trans fr2
  replace kr3 := (hb.cell (p := ⟨w.heap.size, 3, none⟩) zr).trans kr3
  replace fr3 := (hb.frozen (p := ⟨w.heap.size, 3, none⟩) zr).trans fr3
  replace zr := Nat.lt_of_lt_of_le zr hb.size
  replace HB := hide (bl_trans HB.out hb)
  clear hb
  go_wp2_with fail
  refine (fromI 1 _ (by decide) (by decide)).mono ?_
  rintro e w6 ⟨v6, rfl, ⟨a6, c6, rfl, ho6⟩, hb⟩
  have O6 := hide ho6
  clear ho6
  replace kr0 := (hb.cell (p := ⟨w.heap.size, 0, none⟩) zr).trans kr0
  replace fr0 := (hb.frozen (p := ⟨w.heap.size, 0, none⟩) zr).trans fr0
  replace kr1 := (hb.cell (p := ⟨w.heap.size, 1, none⟩) zr).trans kr1
  replace fr1 := (hb.frozen (p := ⟨w.heap.size, 1, none⟩) zr).trans fr1
  replace kr2 := (hb.cell (p := ⟨w.heap.size, 2, none⟩) zr).trans kr2
  replace fr2 := (hb.frozen (p := ⟨w.heap.size, 2, none⟩) zr).trans fr2
  replace kr3 := (hb.cell (p := ⟨w.heap.size, 3, none⟩) zr).trans kr3
  replace fr3 := (hb.frozen (p := ⟨w.heap.size, 3, none⟩) zr).trans fr3
  replace zr := Nat.lt_of_lt_of_le zr hb.size
  replace O5 := hide (O5.out.below hb)
  replace HB := hide (bl_trans HB.out hb)
  clear hb
  have zr6 := zr
  have kn0 : ((w6.alloc (Obj.cells #[Value.bool (sgn x), Value.slice a5 (lms x).length c5] 27)).alloc (Obj.cells #[Value.bool (sgn 1), Value.slice a6 (lms 1).length c6] 27)).cell? ⟨w6.heap.size, 0, none⟩ = some (Value.bool (sgn x)) := by go_simp
  have kn1 : ((w6.alloc (Obj.cells #[Value.bool (sgn x), Value.slice a5 (lms x).length c5] 27)).alloc (Obj.cells #[Value.bool (sgn 1), Value.slice a6 (lms 1).length c6] 27)).cell? ⟨w6.heap.size, 1, none⟩ = some (Value.slice a5 (lms x).length c5) := by go_simp
  have fn0 : ((w6.alloc (Obj.cells #[Value.bool (sgn x), Value.slice a5 (lms x).length c5] 27)).alloc (Obj.cells #[Value.bool (sgn 1), Value.slice a6 (lms 1).length c6] 27)).frozen? ⟨w6.heap.size, 0, none⟩ = false := by go_simp
  have fn1 : ((w6.alloc (Obj.cells #[Value.bool (sgn x), Value.slice a5 (lms x).length c5] 27)).alloc (Obj.cells #[Value.bool (sgn 1), Value.slice a6 (lms 1).length c6] 27)).frozen? ⟨w6.heap.size, 1, none⟩ = false := by go_simp
  have zn : w6.heap.size < ((w6.alloc (Obj.cells #[Value.bool (sgn x), Value.slice a5 (lms x).length c5] 27)).alloc (Obj.cells #[Value.bool (sgn 1), Value.slice a6 (lms 1).length c6] 27)).heap.size := by simp only [World.size_alloc]; omega
  have kd0 : ((w6.alloc (Obj.cells #[Value.bool (sgn x), Value.slice a5 (lms x).length c5] 27)).alloc (Obj.cells #[Value.bool (sgn 1), Value.slice a6 (lms 1).length c6] 27)).cell? ⟨w6.heap.size + 1, 0, none⟩ = some (Value.bool (sgn 1)) := by go_simp
  have kd1 : ((w6.alloc (Obj.cells #[Value.bool (sgn x), Value.slice a5 (lms x).length c5] 27)).alloc (Obj.cells #[Value.bool (sgn 1), Value.slice a6 (lms 1).length c6] 27)).cell? ⟨w6.heap.size + 1, 1, none⟩ = some (Value.slice a6 (lms 1).length c6) := by go_simp
  have fd0 : ((w6.alloc (Obj.cells #[Value.bool (sgn x), Value.slice a5 (lms x).length c5] 27)).alloc (Obj.cells #[Value.bool (sgn 1), Value.slice a6 (lms 1).length c6] 27)).frozen? ⟨w6.heap.size + 1, 0, none⟩ = false := by go_simp
  have fd1 : ((w6.alloc (Obj.cells #[Value.bool (sgn x), Value.slice a5 (lms x).length c5] 27)).alloc (Obj.cells #[Value.bool (sgn 1), Value.slice a6 (lms 1).length c6] 27)).frozen? ⟨w6.heap.size + 1, 1, none⟩ = false := by go_simp
  have zd : w6.heap.size + 1 < ((w6.alloc (Obj.cells #[Value.bool (sgn x), Value.slice a5 (lms x).length c5] 27)).alloc (Obj.cells #[Value.bool (sgn 1), Value.slice a6 (lms 1).length c6] 27)).heap.size := by simp only [World.size_alloc]; omega
  have hbn := bl_alloc (bl_alloc (bl_refl w6) (Obj.cells #[Value.bool (sgn x), Value.slice a5 (lms x).length c5] 27)) (Obj.cells #[Value.bool (sgn 1), Value.slice a6 (lms 1).length c6] 27)
  have HW7 := hide hbn
  replace kr0 := (hbn.cell (p := ⟨w.heap.size, 0, none⟩) zr).trans kr0
  replace fr0 := (hbn.frozen (p := ⟨w.heap.size, 0, none⟩) zr).trans fr0
  replace kr1 := (hbn.cell (p := ⟨w.heap.size, 1, none⟩) zr).trans kr1
  replace fr1 := (hbn.frozen (p := ⟨w.heap.size, 1, none⟩) zr).trans fr1
  replace kr2 := (hbn.cell (p := ⟨w.heap.size, 2, none⟩) zr).trans kr2
  replace fr2 := (hbn.frozen (p := ⟨w.heap.size, 2, none⟩) zr).trans fr2
  replace kr3 := (hbn.cell (p := ⟨w.heap.size, 3, none⟩) zr).trans kr3
  replace fr3 := (hbn.frozen (p := ⟨w.heap.size, 3, none⟩) zr).trans fr3
  replace zr := Nat.lt_of_lt_of_le zr hbn.size
  replace HB := hide (bl_trans HB.out hbn)
  clear hbn
  have HSP2 := HSP.out
  go_wp2_with fail
  generalize ((w6.alloc (Obj.cells #[Value.bool (sgn x), Value.slice a5 (lms x).length c5] 27)).alloc (Obj.cells #[Value.bool (sgn 1), Value.slice a6 (lms 1).length c6] 27)) = w7 at *
  refine (fromI 10 _ (by decide) (by decide)).mono ?_
  rintro e wA ⟨vA, rfl, ⟨aA, cA, rfl, hoA⟩, hbAr⟩
  have hbA : Below w7.heap.size w7 wA := hbAr
  have yA := hbA.size
  go_wp2_with fail
  refine (tenI (.agg #[.bool (sgn 10), .slice aA (lms 10).length cA]) n _ _ ⟨aA, cA, rfl, hoA.seg⟩ (by omega) (by omega)).mono ?_
  rw [HYY.out]
  rintro e wC ⟨vC, rfl, ⟨aC, cC, rfl, hoC⟩, hbCr⟩
  have hbC : Below w7.heap.size w7 wC := bl_trans hbA hbCr
  have yC := hbCr.size
  replace fd0 := (hbC.frozen (p := ⟨w6.heap.size + 1, 0, none⟩) zd).trans fd0
  replace fd1 := (hbC.frozen (p := ⟨w6.heap.size + 1, 1, none⟩) zd).trans fd1
  replace kd0 := (hbC.cell (p := ⟨w6.heap.size + 1, 0, none⟩) zd).trans kd0
  replace kd1 := (hbC.cell (p := ⟨w6.heap.size + 1, 1, none⟩) zd).trans kd1
  all_goals
    have m0 : ((wC.setCell ⟨w6.heap.size + 1, 0, none⟩ (Value.bool (sgn Y))).setCell ⟨w6.heap.size + 1, 1, none⟩ (Value.slice aC (lms Y).length cC)).cell? ⟨w6.heap.size + 1, 0, none⟩ = some (Value.bool (sgn Y)) := by go_simp
    have m1 : ((wC.setCell ⟨w6.heap.size + 1, 0, none⟩ (Value.bool (sgn Y))).setCell ⟨w6.heap.size + 1, 1, none⟩ (Value.slice aC (lms Y).length cC)).cell? ⟨w6.heap.size + 1, 1, none⟩ = some (Value.slice aC (lms Y).length cC) := by go_simp
    replace kr0 := (cel2 (w1 := wC) (N := w6.heap.size + 1) (p := ⟨w.heap.size, 0, none⟩) (by dsimp only; omega) (Value.bool (sgn Y)) (Value.slice aC (lms Y).length cC)).trans ((hbC.cell (p := ⟨w.heap.size, 0, none⟩) zr).trans kr0)
    replace fr0 := (fro2 (w1 := wC) (N := w6.heap.size + 1) (p := ⟨w.heap.size, 0, none⟩) (by dsimp only; omega) (Value.bool (sgn Y)) (Value.slice aC (lms Y).length cC)).trans ((hbC.frozen (p := ⟨w.heap.size, 0, none⟩) zr).trans fr0)
    replace kr1 := (cel2 (w1 := wC) (N := w6.heap.size + 1) (p := ⟨w.heap.size, 1, none⟩) (by dsimp only; omega) (Value.bool (sgn Y)) (Value.slice aC (lms Y).length cC)).trans ((hbC.cell (p := ⟨w.heap.size, 1, none⟩) zr).trans kr1)
    replace fr1 := (fro2 (w1 := wC) (N := w6.heap.size + 1) (p := ⟨w.heap.size, 1, none⟩) (by dsimp only; omega) (Value.bool (sgn Y)) (Value.slice aC (lms Y).length cC)).trans ((hbC.frozen (p := ⟨w.heap.size, 1, none⟩) zr).trans fr1)
    replace kr2 := (cel2 (w1 := wC) (N := w6.heap.size + 1) (p := ⟨w.heap.size, 2, none⟩) (by dsimp only; omega) (Value.bool (sgn Y)) (Value.slice aC (lms Y).length cC)).trans ((hbC.cell (p := ⟨w.heap.size, 2, none⟩) zr).trans kr2)
    replace fr2 := (fro2 (w1 := wC) (N := w6.heap.size + 1) (p := ⟨w.heap.size, 2, none⟩) (by dsimp only; omega) (Value.bool (sgn Y)) (Value.slice aC (lms Y).length cC)).trans ((hbC.frozen (p := ⟨w.heap.size, 2, none⟩) zr).trans fr2)
    replace kr3 := (cel2 (w1 := wC) (N := w6.heap.size + 1) (p := ⟨w.heap.size, 3, none⟩) (by dsimp only; omega) (Value.bool (sgn Y)) (Value.slice aC (lms Y).length cC)).trans ((hbC.cell (p := ⟨w.heap.size, 3, none⟩) zr).trans kr3)
    replace fr3 := (fro2 (w1 := wC) (N := w6.heap.size + 1) (p := ⟨w.heap.size, 3, none⟩) (by dsimp only; omega) (Value.bool (sgn Y)) (Value.slice aC (lms Y).length cC)).trans ((hbC.frozen (p := ⟨w.heap.size, 3, none⟩) zr).trans fr3)
    replace kn0 := (cel2 (w1 := wC) (N := w6.heap.size + 1) (p := ⟨w6.heap.size, 0, none⟩) (by dsimp only; omega) (Value.bool (sgn Y)) (Value.slice aC (lms Y).length cC)).trans ((hbC.cell (p := ⟨w6.heap.size, 0, none⟩) zn).trans kn0)
    replace kn1 := (cel2 (w1 := wC) (N := w6.heap.size + 1) (p := ⟨w6.heap.size, 1, none⟩) (by dsimp only; omega) (Value.bool (sgn Y)) (Value.slice aC (lms Y).length cC)).trans ((hbC.cell (p := ⟨w6.heap.size, 1, none⟩) zn).trans kn1)
    have SD := hide (seg_on hoC (N := w6.heap.size + 1) (by omega) (Value.bool (sgn Y)) (Value.slice aC (lms Y).length cC))
    have SN := hide (seg_off O5.out (bl_trans HW7.out hbC) (Nat.le_succ _) (Value.bool (sgn Y)) (Value.slice aC (lms Y).length cC))
    replace HB := hide (((bl_trans HB.out hbC).setCell (p := ⟨w6.heap.size + 1, 0, none⟩) (by dsimp only; omega) (Value.bool (sgn Y))).setCell (p := ⟨w6.heap.size + 1, 1, none⟩) (by dsimp only; omega) (Value.slice aC (lms Y).length cC))
    replace zr : w.heap.size < ((wC.setCell ⟨w6.heap.size + 1, 0, none⟩ (Value.bool (sgn Y))).setCell ⟨w6.heap.size + 1, 1, none⟩ (Value.slice aC (lms Y).length cC)).heap.size := by (simp only [World.size_setCell]; omega)
    clear fn0 fn1 zd zn O5 O6 HW7 hoA hoC hbA hbAr hbC hbCr
    go_wp2_with fail
    generalize ((wC.setCell ⟨w6.heap.size + 1, 0, none⟩ (Value.bool (sgn Y))).setCell ⟨w6.heap.size + 1, 1, none⟩ (Value.slice aC (lms Y).length cC)) = w8 at *
    refine (shortI' x Y a5 c5 aC cC _ SN.out SD.out HYN.out (by omega) (by omega)).mono ?_
    rw [HPQ.out.1, HPQ.out.2]
    rintro e w9 ⟨b1, e1, b2, e2, rfl, ho1, ho2, hap, hb⟩
    have zr8 := zr
    have HO1 := hide ho1
    have HO2 := hide ho2
    have HAP := hide hap
    clear ho1 ho2 hap m0 m1 kn0 kn1 kd0 kd1 fd0 fd1 SN SD
    replace kr0 := (hb.cell (p := ⟨w.heap.size, 0, none⟩) zr).trans kr0
    replace fr0 := (hb.frozen (p := ⟨w.heap.size, 0, none⟩) zr).trans fr0
    replace kr1 := (hb.cell (p := ⟨w.heap.size, 1, none⟩) zr).trans kr1
    replace fr1 := (hb.frozen (p := ⟨w.heap.size, 1, none⟩) zr).trans fr1
    replace kr2 := (hb.cell (p := ⟨w.heap.size, 2, none⟩) zr).trans kr2
    replace fr2 := (hb.frozen (p := ⟨w.heap.size, 2, none⟩) zr).trans fr2
    replace kr3 := (hb.cell (p := ⟨w.heap.size, 3, none⟩) zr).trans kr3
    replace fr3 := (hb.frozen (p := ⟨w.heap.size, 3, none⟩) zr).trans fr3
    replace zr := Nat.lt_of_lt_of_le zr hb.size
    replace HB := hide (bl_trans HB.out hb)
    clear hb
    cases hft : ftT p q with
    | false =>
      go_wp2_with fail
      refine (fitI p q b1 e1 b2 e2 _ HO1.out.seg HO2.out.seg).mono ?_
      rw [ftV_f hft, hft]
      rintro e w10 ⟨rfl, hb⟩
      replace kr0 := (hb.cell (p := ⟨w.heap.size, 0, none⟩) zr).trans kr0
      replace fr0 := (hb.frozen (p := ⟨w.heap.size, 0, none⟩) zr).trans fr0
      replace kr1 := (hb.cell (p := ⟨w.heap.size, 1, none⟩) zr).trans kr1
      replace fr1 := (hb.frozen (p := ⟨w.heap.size, 1, none⟩) zr).trans fr1
      replace kr2 := (hb.cell (p := ⟨w.heap.size, 2, none⟩) zr).trans kr2
      replace fr2 := (hb.frozen (p := ⟨w.heap.size, 2, none⟩) zr).trans fr2
      replace kr3 := (hb.cell (p := ⟨w.heap.size, 3, none⟩) zr).trans kr3
      replace fr3 := (hb.frozen (p := ⟨w.heap.size, 3, none⟩) zr).trans fr3
      replace zr := Nat.lt_of_lt_of_le zr hb.size
      replace HB := hide (bl_trans HB.out hb)
      clear hb
      go_wp2
      refine bodyPost_ret (v := .tuple #[.agg #[.bool false, .slice none 0 0, .bool false, .slice none 0 0], .bool false]) (by simp [results, Tryz.results22, go_sem, *]) rfl ?_
      exact ans_no (by rw [HFT.out, HPQ.out.1, HPQ.out.2]; exact hft) (set_four (Nat.le_refl _) HB.out _ _ _ _)
    | true =>
      go_wp2_with fail
      refine (fitI p q b1 e1 b2 e2 _ HO1.out.seg HO2.out.seg).mono ?_
      rw [ftV_t hft, hft]
      rintro e w10 ⟨rfl, hb⟩
      replace kr0 := (hb.cell (p := ⟨w.heap.size, 0, none⟩) zr).trans kr0
      replace fr0 := (hb.frozen (p := ⟨w.heap.size, 0, none⟩) zr).trans fr0
      replace kr1 := (hb.cell (p := ⟨w.heap.size, 1, none⟩) zr).trans kr1
      replace fr1 := (hb.frozen (p := ⟨w.heap.size, 1, none⟩) zr).trans fr1
      replace kr2 := (hb.cell (p := ⟨w.heap.size, 2, none⟩) zr).trans kr2
      replace fr2 := (hb.frozen (p := ⟨w.heap.size, 2, none⟩) zr).trans fr2
      replace kr3 := (hb.cell (p := ⟨w.heap.size, 3, none⟩) zr).trans kr3
      replace fr3 := (hb.frozen (p := ⟨w.heap.size, 3, none⟩) zr).trans fr3
      replace zr := Nat.lt_of_lt_of_le zr hb.size
      replace HO1 := hide (HO1.out.below hb)
      replace HO2 := hide (HO2.out.below hb)
      replace HB := hide (bl_trans HB.out hb)
      clear hb
      go_wp2
      refine bodyPost_ret (v := .tuple #[.agg #[.bool (sgn p), .slice b1 (lms p).length e1, .bool (sgn q), .slice b2 (lms q).length e2], .bool true]) (by simp [results, Tryz.results22, go_sem, *]) rfl ?_
      have h1 := own_four' (lo := w.heap.size) HO1.out (show w.heap.size < _ by omega) (by omega) (Value.bool (sgn p)) (Value.slice b1 (lms p).length e1) (Value.bool (sgn q)) (Value.slice b2 (lms q).length e2)
      have h2 := own_four' (lo := w.heap.size) HO2.out (show w.heap.size < _ by omega) (by omega) (Value.bool (sgn p)) (Value.slice b1 (lms p).length e1) (Value.bool (sgn q)) (Value.slice b2 (lms q).length e2)
      have ha := ans_yes (t := true) (x := x) (y := Y) (w := w) (a1 := b1) (a2 := b2) (c1 := e1) (c2 := e2) (by rw [HFT.out, HPQ.out.1, HPQ.out.2]; exact hft) (by rw [HPQ.out.1]; exact h1) (by rw [HPQ.out.2]; exact h2) HAP.out (set_four (Nat.le_refl _) HB.out _ _ _ _)
      rw [HPQ.out.1, HPQ.out.2] at ha
      exact ha

end Go.Proofs.YtbcokpnhhjjedaaGreatDoor

/- readDecimal of the program at any text. -/
namespace Go.Proofs.YtbcokpnhhjjedaaGreatDoor
open Go.RowKit
set_option linter.unusedVariables false

/-- what is read, or nought -/
def gotN (neg : Bool) (o : Option (Nat × Nat)) : Int := mk neg (o.getD (0, 1)).1
def gotD (o : Option (Nat × Nat)) : Int := ((o.getD (0, 1)).2 : Int)
theorem mk_times (neg : Bool) (a b : Nat) : mk neg a * (b : Int) = mk neg (a * b) := by
  unfold mk
  cases neg
  · simp
  · simp [Int.neg_mul]
theorem cut_len2 (l : List UInt8) (c : UInt8) : (Lib.cut l [c]).1.length + (Lib.cut l [c]).2.1.length ≤ l.length := by
  by_cases h : c ∈ l
  · obtain ⟨a, b, rfl, ha⟩ := first h
    rw [cut_mid ha]; simp
  · rw [cut_none h]; simp
theorem cut_rest {l : List UInt8} {c : UInt8} (h : (Lib.cut l [c]).2.2 = false) : (Lib.cut l [c]).2.1 = [] := by
  by_cases hc : c ∈ l
  · obtain ⟨a, b, rfl, ha⟩ := first hc
    rw [cut_mid ha] at h; cases h
  · rw [cut_none hc]
theorem exp_small {t : List UInt8} {k : Int} (h : expV t = some k) : -1000 < k ∧ k < 1000 := by
  unfold expV at h
  split at h
  · rename_i hc
    rw [Bool.and_eq_true, decide_eq_true_eq] at hc
    have hd : digAll (Lib.trimPrefix t [45]) = true := by
      have := hc.1; unfold digL at this; rw [Bool.and_eq_true] at this; exact this.1
    have := val3 hd hc.2
    have h2 := Option.some.inj h
    split at h2 <;> omega
  · cases h
theorem cp_parts (l : List UInt8) : ∃ A k ok, cpS l = (A, k, ok) ∧ A.length ≤ l.length ∧ (-1000 < k ∧ k < 1000) ∧ decI l = if ok = true then ptI A k else none := by
  unfold cpS decI
  by_cases h : (Lib.cut l [101]).2.2 = true
  · rw [if_pos h, if_pos h]
    cases he : expV (Lib.cut l [101]).2.1 with
    | none => exact ⟨[], 0, false, rfl, Nat.zero_le _, by omega, rfl⟩
    | some k => exact ⟨_, k, true, rfl, (cut_len l 101).1, exp_small he, rfl⟩
  · rw [if_neg h, if_neg h]
    exact ⟨l, 0, true, rfl, Nat.le_refl _, by omega, rfl⟩
theorem digAll_app {a b : List UInt8} (ha : digAll a = true) (hb : digAll b = true) : digAll (a ++ b) = true := by
  rw [all_dg, List.all_append, ← all_dg, ← all_dg, ha, hb]; rfl
theorem digL_all {a : List UInt8} (h : digL a = true) : digAll a = true := by
  unfold digL at h; rw [Bool.and_eq_true] at h; exact h.1

set_option maxHeartbeats 1600000 in
theorem readDecG (neg : Bool) (s : ByteArray) (w : World) (hs : s.size ≤ 400) (hm : Mx w) :
    Calls Tryz.prog 22 #[.bool neg, .string s] w fun e w' => RatAns (decI s.data.toList).isSome (gotN neg (decI s.data.toList)) (gotD (decI s.data.toList)) w w' e := by
  obtain ⟨A, k, ok, hcp, hA, hk, hd⟩ := cp_parts s.data.toList
  rw [bsize] at hA
  obtain ⟨W, P, pt, hcu⟩ : ∃ W P pt, Lib.cut A [46] = (W, P, pt) := ⟨_, _, _, rfl⟩
  have hl : W.length + P.length ≤ 400 := by
    have h := cut_len2 A 46
    rw [hcu] at h
    exact Nat.le_trans h (by omega)
  cases ok with
  | false =>
    rw [hd, if_neg (by decide)]
    exact decNo1 neg s A W P k false pt w hs hm hcp hcu (by omega) hl _ _ rfl
  | true =>
    rw [if_pos rfl] at hd
    have hpt : ptI A k = if (digL W && (!pt || digL P)) = true then some (decV (W ++ P) (k - P.length)) else none := by
      unfold ptI; rw [hcu]
    rw [hpt] at hd
    cases hW : digL W with
    | false =>
      rw [hW] at hd
      rw [hd, Bool.false_and, if_neg (by decide)]
      exact decNo2 neg s A W P k true pt w hs hm hcp hcu (by omega) hl _ _ rfl (by rw [digOk_L]; exact hW)
    | true =>
      rw [hW, Bool.true_and] at hd
      cases pt with
      | true =>
        cases hP : digL P with
        | false =>
          rw [hP] at hd
          rw [hd, if_neg (by decide)]
          exact decNo3 neg s A W P k true true w hs hm hcp hcu (by omega) hl _ _ rfl (by rw [digOk_L]; exact hW) rfl (by rw [digOk_L]; exact hP)
        | true =>
          rw [hP, if_pos (by decide)] at hd
          rw [hd]
          have had := digAll_app (digL_all hW) (digL_all hP)
          by_cases hn : k - (P.length : Int) < 0
          · have e1 : decV (W ++ P) (k - P.length) = (valN (W ++ P), 10 ^ (-(k - (P.length : Int))).toNat) := if_pos hn
            rw [e1]
            exact decYesN neg s A W P k true true w hs hm hcp hcu (by omega) hl (-(k - (P.length : Int))).toNat _ _ _ rfl (by rw [digOk_L]; exact hW) rfl (by rw [digOk_L]; exact hP) had hk rfl (by omega) (by omega) rfl (by show _ = ((10 ^ _ : Nat) : Int); rw [Int.natCast_pow]; rfl)
          · have e1 : decV (W ++ P) (k - P.length) = (valN (W ++ P) * 10 ^ (k - (P.length : Int)).toNat, 1) := if_neg hn
            rw [e1]
            exact decYesP neg s A W P k true true w hs hm hcp hcu (by omega) hl (k - (P.length : Int)).toNat _ _ _ rfl (by rw [digOk_L]; exact hW) rfl (by rw [digOk_L]; exact hP) had hk rfl (by omega) (by show _ = mk neg (_ * _); rw [← mk_times, Int.natCast_pow]; rfl) rfl
      | false =>
        rw [if_pos (by rfl)] at hd
        have hP : P = [] := by
          have := cut_rest (l := A) (c := 46) (by rw [hcu])
          rw [hcu] at this; exact this
        rw [hd]
        have had := digAll_app (digL_all hW) (b := P) (by rw [hP]; rfl)
        by_cases hn : k - (P.length : Int) < 0
        · have e1 : decV (W ++ P) (k - P.length) = (valN (W ++ P), 10 ^ (-(k - (P.length : Int))).toNat) := if_pos hn
          rw [e1]
          exact decYesM neg s A W P k true false w hs hm hcp hcu (by omega) hl (-(k - (P.length : Int))).toNat _ _ _ rfl (by rw [digOk_L]; exact hW) rfl hP had hk rfl (by omega) (by omega) rfl (by show _ = ((10 ^ _ : Nat) : Int); rw [Int.natCast_pow]; rfl)
        · have e1 : decV (W ++ P) (k - P.length) = (valN (W ++ P) * 10 ^ (k - (P.length : Int)).toNat, 1) := if_neg hn
          rw [e1]
          exact decYesQ neg s A W P k true false w hs hm hcp hcu (by omega) hl (k - (P.length : Int)).toNat _ _ _ rfl (by rw [digOk_L]; exact hW) rfl hP had hk rfl (by omega) (by show _ = mk neg (_ * _); rw [← mk_times, Int.natCast_pow]; rfl) rfl
end Go.Proofs.YtbcokpnhhjjedaaGreatDoor

/- Walks of l03Decimal: a number without a stroke, cut as the specification cuts it. -/
namespace Go.Proofs.YtbcokpnhhjjedaaGreatDoor
open Go.RowKit
set_option linter.unusedVariables false

theorem len_mulI {x y : Int} {m n : Nat} (h1 : (lms x).length ≤ m) (h2 : (lms y).length ≤ n) : (lms (x * y)).length ≤ m + n := by
  unfold lms at *
  refine Num.limbs_len.2 ?_
  rw [Int.natAbs_mul, Nat.pow_add]
  exact Nat.mul_lt_mul'' (Num.limbs_len.1 h1) (Num.limbs_len.1 h2)
/-- what is read, shortened, not yet asked whether it is right -/
def rwN (o : Option (Nat × Nat)) : Int := match o with | none => 0 | some p => (p.1 : Int) / sgG p.1 p.2
def rwD (o : Option (Nat × Nat)) : Int := match o with | none => 0 | some p => (p.2 : Int) / sgG p.1 p.2
def RawAns (o : Option (Nat × Nat)) (w w' : World) (e : Ending) : Prop :=
  ∃ b1 e1 b2 e2, e = .returned (.tuple #[.agg #[.bool (sgn (rwN o)), .slice b1 (lms (rwN o)).length e1, .bool (sgn (rwD o)), .slice b2 (lms (rwD o)).length e2], .bool o.isSome]) ∧ Own w' w.heap.size b1 (lms (rwN o)).length e1 (lms (rwN o)) ∧ Own w' w.heap.size b2 (lms (rwD o)).length e2 (lms (rwD o)) ∧ Apart b1 b2 ∧ Below w.heap.size w w'
theorem raw_no {o : Option (Nat × Nat)} {w w' : World} (h : o = none) (hb : Below w.heap.size w w') : RawAns o w w' (.returned (.tuple #[.agg #[.bool false, .slice none 0 0, .bool false, .slice none 0 0], .bool false])) := by
  subst h
  have h1 : rwN none = 0 := rfl
  have h2 : rwD none = 0 := rfl
  refine ⟨none, 0, none, 0, ?_, ?_, ?_, Apart.none _, hb⟩
  · rw [h1, h2, zero_sgn, zero_lms]; rfl
  · rw [h1, zero_lms]; exact Own.nil _ _
  · rw [h2, zero_lms]; exact Own.nil _ _
theorem raw_yes {o : Option (Nat × Nat)} {x y : Nat} {X Y : Int} {w w' : World} {a1 a2 : Option Addr} {c1 c2 : Nat} (h : o = some (x, y)) (hX : X = (x : Int)) (hY : Y = (y : Int)) (o1 : Own w' w.heap.size a1 (lms (X / sgG X Y)).length c1 (lms (X / sgG X Y))) (o2 : Own w' w.heap.size a2 (lms (Y / sgG X Y)).length c2 (lms (Y / sgG X Y))) (hap : Apart a1 a2) (hb : Below w.heap.size w w') :
    RawAns o w w' (.returned (.tuple #[.agg #[.bool (sgn (X / sgG X Y)), .slice a1 (lms (X / sgG X Y)).length c1, .bool (sgn (Y / sgG X Y)), .slice a2 (lms (Y / sgG X Y)).length c2], .bool true])) := by
  subst h hX hY
  exact ⟨a1, c1, a2, c2, rfl, o1, o2, hap, hb⟩

set_option maxHeartbeats 4000000 in
set_option maxRecDepth 20000 in
theorem decN1 (A R : ByteArray) (E m : Nat) (n : Int) (o : Option (Nat × Nat)) (w : World) (hsz : A.size + R.size ≤ 400) (hE0 : E ≤ R.size) (hn : -1000 < n ∧ n < 1000) (hR : R.toList.isEmpty = false) (hr0 : 0 < R.size) (h46 : (R[0].toNat : Int) = 46) (hE : runN R 1 = E) (hE1 : E = 1) (ho : o = none) :
    Calls Tryz.prog 29 #[.string A, .string R] w fun e w' => RawAns o w w' e := by
  have HE' := hide hE
  have HO' := hide ho
  clear hE ho
  have hE1' : (E : Int) = 1 := by omega
  have kr0 : (w.alloc (Obj.cells #[Value.bool false, Value.slice none 0 0, Value.bool false, Value.slice none 0 0] 29)).cell? ⟨w.heap.size, 0, none⟩ = some (Value.bool false) := by go_simp
  have fr0 : (w.alloc (Obj.cells #[Value.bool false, Value.slice none 0 0, Value.bool false, Value.slice none 0 0] 29)).frozen? ⟨w.heap.size, 0, none⟩ = false := by go_simp
  have kr1 : (w.alloc (Obj.cells #[Value.bool false, Value.slice none 0 0, Value.bool false, Value.slice none 0 0] 29)).cell? ⟨w.heap.size, 1, none⟩ = some (Value.slice none 0 0) := by go_simp
  have fr1 : (w.alloc (Obj.cells #[Value.bool false, Value.slice none 0 0, Value.bool false, Value.slice none 0 0] 29)).frozen? ⟨w.heap.size, 1, none⟩ = false := by go_simp
  have kr2 : (w.alloc (Obj.cells #[Value.bool false, Value.slice none 0 0, Value.bool false, Value.slice none 0 0] 29)).cell? ⟨w.heap.size, 2, none⟩ = some (Value.bool false) := by go_simp
  have fr2 : (w.alloc (Obj.cells #[Value.bool false, Value.slice none 0 0, Value.bool false, Value.slice none 0 0] 29)).frozen? ⟨w.heap.size, 2, none⟩ = false := by go_simp
  have kr3 : (w.alloc (Obj.cells #[Value.bool false, Value.slice none 0 0, Value.bool false, Value.slice none 0 0] 29)).cell? ⟨w.heap.size, 3, none⟩ = some (Value.slice none 0 0) := by go_simp
  have fr3 : (w.alloc (Obj.cells #[Value.bool false, Value.slice none 0 0, Value.bool false, Value.slice none 0 0] 29)).frozen? ⟨w.heap.size, 3, none⟩ = false := by go_simp
  have zr : w.heap.size < (w.alloc (Obj.cells #[Value.bool false, Value.slice none 0 0, Value.bool false, Value.slice none 0 0] 29)).heap.size := by simp only [World.size_alloc]; omega
  have HB := hide (bl_alloc (bl_refl w) (Obj.cells #[Value.bool false, Value.slice none 0 0, Value.bool false, Value.slice none 0 0] 29))
  go_enter Tryz.func29, Tryz.ntmps29
  go_wp2_with fail
  generalize (w.alloc (Obj.cells #[Value.bool false, Value.slice none 0 0, Value.bool false, Value.slice none 0 0] 29)) = w1 at *
  have z0 := zr
  refine (runS R 1 _ (by omega) (by omega)).mono ?_
  rw [HE'.out]
  rintro e w' ⟨rfl, hw⟩
  subst w'
  go_wp2
  refine bodyPost_ret (v := (.tuple #[.agg #[.bool false, .slice none 0 0, .bool false, .slice none 0 0], .bool false])) (by simp [results, Tryz.results29, go_sem, kr0, kr1, kr2, kr3]) rfl ?_
  exact raw_no HO'.out (set_four (Nat.le_refl _) HB.out _ _ _ _)

set_option maxHeartbeats 4000000 in
set_option maxRecDepth 20000 in
theorem decN2 (A R : ByteArray) (E m : Nat) (n : Int) (o : Option (Nat × Nat)) (w : World) (hsz : A.size + R.size ≤ 400) (hE0 : E ≤ R.size) (hn : -1000 < n ∧ n < 1000) (hq : R.toList.isEmpty = false) (hq0 : 0 < R.size) (hq1 : 0 < R.size) (h46 : ((R[0].toNat : Int) == 46) = false) (h101 : ((R[0].toNat : Int) == 101) = false) (ho : o = none) :
    Calls Tryz.prog 29 #[.string A, .string R] w fun e w' => RawAns o w w' e := by
  have HO' := hide ho
  clear ho
  have hq2 : (1 : Int) ≤ ((R.size : Nat) : Int) := by omega
  have h101b : ((R[0].toNat : Int) != 101) = true := by rw [bne_iff_ne]; exact beq_eq_false_iff_ne.1 h101
  have kr0 : (w.alloc (Obj.cells #[Value.bool false, Value.slice none 0 0, Value.bool false, Value.slice none 0 0] 29)).cell? ⟨w.heap.size, 0, none⟩ = some (Value.bool false) := by go_simp
  have fr0 : (w.alloc (Obj.cells #[Value.bool false, Value.slice none 0 0, Value.bool false, Value.slice none 0 0] 29)).frozen? ⟨w.heap.size, 0, none⟩ = false := by go_simp
  have kr1 : (w.alloc (Obj.cells #[Value.bool false, Value.slice none 0 0, Value.bool false, Value.slice none 0 0] 29)).cell? ⟨w.heap.size, 1, none⟩ = some (Value.slice none 0 0) := by go_simp
  have fr1 : (w.alloc (Obj.cells #[Value.bool false, Value.slice none 0 0, Value.bool false, Value.slice none 0 0] 29)).frozen? ⟨w.heap.size, 1, none⟩ = false := by go_simp
  have kr2 : (w.alloc (Obj.cells #[Value.bool false, Value.slice none 0 0, Value.bool false, Value.slice none 0 0] 29)).cell? ⟨w.heap.size, 2, none⟩ = some (Value.bool false) := by go_simp
  have fr2 : (w.alloc (Obj.cells #[Value.bool false, Value.slice none 0 0, Value.bool false, Value.slice none 0 0] 29)).frozen? ⟨w.heap.size, 2, none⟩ = false := by go_simp
  have kr3 : (w.alloc (Obj.cells #[Value.bool false, Value.slice none 0 0, Value.bool false, Value.slice none 0 0] 29)).cell? ⟨w.heap.size, 3, none⟩ = some (Value.slice none 0 0) := by go_simp
  have fr3 : (w.alloc (Obj.cells #[Value.bool false, Value.slice none 0 0, Value.bool false, Value.slice none 0 0] 29)).frozen? ⟨w.heap.size, 3, none⟩ = false := by go_simp
  have zr : w.heap.size < (w.alloc (Obj.cells #[Value.bool false, Value.slice none 0 0, Value.bool false, Value.slice none 0 0] 29)).heap.size := by simp only [World.size_alloc]; omega
  have HB := hide (bl_alloc (bl_refl w) (Obj.cells #[Value.bool false, Value.slice none 0 0, Value.bool false, Value.slice none 0 0] 29))
  go_enter Tryz.func29, Tryz.ntmps29
  go_wp2_with fail
  generalize (w.alloc (Obj.cells #[Value.bool false, Value.slice none 0 0, Value.bool false, Value.slice none 0 0] 29)) = w1 at *
  have z0 := zr
  refine (expS (R.extract 1 R.size) _ (by simp; omega)).mono ?_
  generalize expV (R.extract 1 R.size).data.toList = oe at *
  rintro e w' ⟨rfl, hw⟩
  subst w'
  generalize oe.getD 0 = ev at *
  generalize oe.isSome = eb at *
  go_wp2
  refine bodyPost_ret (v := (.tuple #[.agg #[.bool false, .slice none 0 0, .bool false, .slice none 0 0], .bool false])) (by simp [results, Tryz.results29, go_sem, kr0, kr1, kr2, kr3]) rfl ?_
  exact raw_no HO'.out (set_four (Nat.le_refl _) HB.out _ _ _ _)

set_option maxHeartbeats 4000000 in
set_option maxRecDepth 20000 in
theorem decN3 (A R : ByteArray) (E m : Nat) (n : Int) (o : Option (Nat × Nat)) (w : World) (hsz : A.size + R.size ≤ 400) (hE0 : E ≤ R.size) (hn : -1000 < n ∧ n < 1000) (hq : R.toList.isEmpty = false) (hq0 : 0 < R.size) (hq1 : 0 < R.size) (h46 : ((R[0].toNat : Int) == 46) = false) (h101 : (R[0].toNat : Int) = 101) (hexp : expV (R.extract 1 R.size).data.toList = none) (ho : o = none) :
    Calls Tryz.prog 29 #[.string A, .string R] w fun e w' => RawAns o w w' e := by
  have HEXP' := hide hexp
  have HO' := hide ho
  clear hexp ho
  have hq2 : (1 : Int) ≤ ((R.size : Nat) : Int) := by omega
  have h101b : ((R[0].toNat : Int) != 101) = false := by rw [h101]; rfl
  have kr0 : (w.alloc (Obj.cells #[Value.bool false, Value.slice none 0 0, Value.bool false, Value.slice none 0 0] 29)).cell? ⟨w.heap.size, 0, none⟩ = some (Value.bool false) := by go_simp
  have fr0 : (w.alloc (Obj.cells #[Value.bool false, Value.slice none 0 0, Value.bool false, Value.slice none 0 0] 29)).frozen? ⟨w.heap.size, 0, none⟩ = false := by go_simp
  have kr1 : (w.alloc (Obj.cells #[Value.bool false, Value.slice none 0 0, Value.bool false, Value.slice none 0 0] 29)).cell? ⟨w.heap.size, 1, none⟩ = some (Value.slice none 0 0) := by go_simp
  have fr1 : (w.alloc (Obj.cells #[Value.bool false, Value.slice none 0 0, Value.bool false, Value.slice none 0 0] 29)).frozen? ⟨w.heap.size, 1, none⟩ = false := by go_simp
  have kr2 : (w.alloc (Obj.cells #[Value.bool false, Value.slice none 0 0, Value.bool false, Value.slice none 0 0] 29)).cell? ⟨w.heap.size, 2, none⟩ = some (Value.bool false) := by go_simp
  have fr2 : (w.alloc (Obj.cells #[Value.bool false, Value.slice none 0 0, Value.bool false, Value.slice none 0 0] 29)).frozen? ⟨w.heap.size, 2, none⟩ = false := by go_simp
  have kr3 : (w.alloc (Obj.cells #[Value.bool false, Value.slice none 0 0, Value.bool false, Value.slice none 0 0] 29)).cell? ⟨w.heap.size, 3, none⟩ = some (Value.slice none 0 0) := by go_simp
  have fr3 : (w.alloc (Obj.cells #[Value.bool false, Value.slice none 0 0, Value.bool false, Value.slice none 0 0] 29)).frozen? ⟨w.heap.size, 3, none⟩ = false := by go_simp
  have zr : w.heap.size < (w.alloc (Obj.cells #[Value.bool false, Value.slice none 0 0, Value.bool false, Value.slice none 0 0] 29)).heap.size := by simp only [World.size_alloc]; omega
  have HB := hide (bl_alloc (bl_refl w) (Obj.cells #[Value.bool false, Value.slice none 0 0, Value.bool false, Value.slice none 0 0] 29))
  go_enter Tryz.func29, Tryz.ntmps29
  go_wp2_with fail
  generalize (w.alloc (Obj.cells #[Value.bool false, Value.slice none 0 0, Value.bool false, Value.slice none 0 0] 29)) = w1 at *
  have z0 := zr
  refine (expS (R.extract 1 R.size) _ (by simp; omega)).mono ?_
  rw [HEXP'.out]
  rintro e w' ⟨rfl, hw⟩
  subst w'
  go_wp2
  refine bodyPost_ret (v := (.tuple #[.agg #[.bool false, .slice none 0 0, .bool false, .slice none 0 0], .bool false])) (by simp [results, Tryz.results29, go_sem, kr0, kr1, kr2, kr3]) rfl ?_
  exact raw_no HO'.out (set_four (Nat.le_refl _) HB.out _ _ _ _)

set_option maxHeartbeats 4000000 in
set_option maxRecDepth 20000 in
theorem decN4 (A R : ByteArray) (E m : Nat) (n : Int) (o : Option (Nat × Nat)) (w : World) (hsz : A.size + R.size ≤ 400) (hE0 : E ≤ R.size) (hn : -1000 < n ∧ n < 1000) (hR : R.toList.isEmpty = false) (hr0 : 0 < R.size) (h46 : (R[0].toNat : Int) = 46) (hE : runN R 1 = E) (hE1 : 1 < E) (hq : (R.extract E R.size).toList.isEmpty = false) (hq0 : 0 < (R.extract E R.size).size) (hq1 : 0 < (R.size - E)) (h101 : (((R.extract E R.size)[0].toNat : Int) == 101) = false) (ho : o = none) :
    Calls Tryz.prog 29 #[.string A, .string R] w fun e w' => RawAns o w w' e := by
  have HE' := hide hE
  have HO' := hide ho
  clear hE ho
  have hE1' : ¬ (E : Int) = 1 := by omega
  have hE1b : ((E : Int) == 1) = false := by rw [beq_eq_false_iff_ne]; omega
  have hE2' : (1 : Int) ≤ (E : Int) := by omega
  have hE3' : (E : Int) ≤ (R.size : Int) := by omega
  have hq2 : (1 : Int) ≤ (((R.size - E) : Nat) : Int) := by omega
  have h101b : (((R.extract E R.size)[0].toNat : Int) != 101) = true := by rw [bne_iff_ne]; exact beq_eq_false_iff_ne.1 h101
  have kr0 : (w.alloc (Obj.cells #[Value.bool false, Value.slice none 0 0, Value.bool false, Value.slice none 0 0] 29)).cell? ⟨w.heap.size, 0, none⟩ = some (Value.bool false) := by go_simp
  have fr0 : (w.alloc (Obj.cells #[Value.bool false, Value.slice none 0 0, Value.bool false, Value.slice none 0 0] 29)).frozen? ⟨w.heap.size, 0, none⟩ = false := by go_simp
  have kr1 : (w.alloc (Obj.cells #[Value.bool false, Value.slice none 0 0, Value.bool false, Value.slice none 0 0] 29)).cell? ⟨w.heap.size, 1, none⟩ = some (Value.slice none 0 0) := by go_simp
  have fr1 : (w.alloc (Obj.cells #[Value.bool false, Value.slice none 0 0, Value.bool false, Value.slice none 0 0] 29)).frozen? ⟨w.heap.size, 1, none⟩ = false := by go_simp
  have kr2 : (w.alloc (Obj.cells #[Value.bool false, Value.slice none 0 0, Value.bool false, Value.slice none 0 0] 29)).cell? ⟨w.heap.size, 2, none⟩ = some (Value.bool false) := by go_simp
  have fr2 : (w.alloc (Obj.cells #[Value.bool false, Value.slice none 0 0, Value.bool false, Value.slice none 0 0] 29)).frozen? ⟨w.heap.size, 2, none⟩ = false := by go_simp
  have kr3 : (w.alloc (Obj.cells #[Value.bool false, Value.slice none 0 0, Value.bool false, Value.slice none 0 0] 29)).cell? ⟨w.heap.size, 3, none⟩ = some (Value.slice none 0 0) := by go_simp
  have fr3 : (w.alloc (Obj.cells #[Value.bool false, Value.slice none 0 0, Value.bool false, Value.slice none 0 0] 29)).frozen? ⟨w.heap.size, 3, none⟩ = false := by go_simp
  have zr : w.heap.size < (w.alloc (Obj.cells #[Value.bool false, Value.slice none 0 0, Value.bool false, Value.slice none 0 0] 29)).heap.size := by simp only [World.size_alloc]; omega
  have HB := hide (bl_alloc (bl_refl w) (Obj.cells #[Value.bool false, Value.slice none 0 0, Value.bool false, Value.slice none 0 0] 29))
  go_enter Tryz.func29, Tryz.ntmps29
  go_wp2_with fail
  generalize (w.alloc (Obj.cells #[Value.bool false, Value.slice none 0 0, Value.bool false, Value.slice none 0 0] 29)) = w1 at *
  have z0 := zr
  refine (runS R 1 _ (by omega) (by omega)).mono ?_
  rw [HE'.out]
  rintro e w' ⟨rfl, hw⟩
  subst w'
  go_wp2_with fail
  refine (expS ((R.extract E R.size).extract 1 (R.size - E)) _ (by simp; omega)).mono ?_
  generalize expV ((R.extract E R.size).extract 1 (R.size - E)).data.toList = oe at *
  rintro e w' ⟨rfl, hw⟩
  subst w'
  generalize oe.getD 0 = ev at *
  generalize oe.isSome = eb at *
  go_wp2
  refine bodyPost_ret (v := (.tuple #[.agg #[.bool false, .slice none 0 0, .bool false, .slice none 0 0], .bool false])) (by simp [results, Tryz.results29, go_sem, kr0, kr1, kr2, kr3]) rfl ?_
  exact raw_no HO'.out (set_four (Nat.le_refl _) HB.out _ _ _ _)

set_option maxHeartbeats 4000000 in
set_option maxRecDepth 20000 in
theorem decN5 (A R : ByteArray) (E m : Nat) (n : Int) (o : Option (Nat × Nat)) (w : World) (hsz : A.size + R.size ≤ 400) (hE0 : E ≤ R.size) (hn : -1000 < n ∧ n < 1000) (hR : R.toList.isEmpty = false) (hr0 : 0 < R.size) (h46 : (R[0].toNat : Int) = 46) (hE : runN R 1 = E) (hE1 : 1 < E) (hq : (R.extract E R.size).toList.isEmpty = false) (hq0 : 0 < (R.extract E R.size).size) (hq1 : 0 < (R.size - E)) (h101 : ((R.extract E R.size)[0].toNat : Int) = 101) (hexp : expV ((R.extract E R.size).extract 1 (R.size - E)).data.toList = none) (ho : o = none) :
    Calls Tryz.prog 29 #[.string A, .string R] w fun e w' => RawAns o w w' e := by
  have HE' := hide hE
  have HEXP' := hide hexp
  have HO' := hide ho
  clear hE hexp ho
  have hE1' : ¬ (E : Int) = 1 := by omega
  have hE1b : ((E : Int) == 1) = false := by rw [beq_eq_false_iff_ne]; omega
  have hE2' : (1 : Int) ≤ (E : Int) := by omega
  have hE3' : (E : Int) ≤ (R.size : Int) := by omega
  have hq2 : (1 : Int) ≤ (((R.size - E) : Nat) : Int) := by omega
  have h101b : (((R.extract E R.size)[0].toNat : Int) != 101) = false := by rw [h101]; rfl
  have kr0 : (w.alloc (Obj.cells #[Value.bool false, Value.slice none 0 0, Value.bool false, Value.slice none 0 0] 29)).cell? ⟨w.heap.size, 0, none⟩ = some (Value.bool false) := by go_simp
  have fr0 : (w.alloc (Obj.cells #[Value.bool false, Value.slice none 0 0, Value.bool false, Value.slice none 0 0] 29)).frozen? ⟨w.heap.size, 0, none⟩ = false := by go_simp
  have kr1 : (w.alloc (Obj.cells #[Value.bool false, Value.slice none 0 0, Value.bool false, Value.slice none 0 0] 29)).cell? ⟨w.heap.size, 1, none⟩ = some (Value.slice none 0 0) := by go_simp
  have fr1 : (w.alloc (Obj.cells #[Value.bool false, Value.slice none 0 0, Value.bool false, Value.slice none 0 0] 29)).frozen? ⟨w.heap.size, 1, none⟩ = false := by go_simp
  have kr2 : (w.alloc (Obj.cells #[Value.bool false, Value.slice none 0 0, Value.bool false, Value.slice none 0 0] 29)).cell? ⟨w.heap.size, 2, none⟩ = some (Value.bool false) := by go_simp
  have fr2 : (w.alloc (Obj.cells #[Value.bool false, Value.slice none 0 0, Value.bool false, Value.slice none 0 0] 29)).frozen? ⟨w.heap.size, 2, none⟩ = false := by go_simp
  have kr3 : (w.alloc (Obj.cells #[Value.bool false, Value.slice none 0 0, Value.bool false, Value.slice none 0 0] 29)).cell? ⟨w.heap.size, 3, none⟩ = some (Value.slice none 0 0) := by go_simp
  have fr3 : (w.alloc (Obj.cells #[Value.bool false, Value.slice none 0 0, Value.bool false, Value.slice none 0 0] 29)).frozen? ⟨w.heap.size, 3, none⟩ = false := by go_simp
  have zr : w.heap.size < (w.alloc (Obj.cells #[Value.bool false, Value.slice none 0 0, Value.bool false, Value.slice none 0 0] 29)).heap.size := by simp only [World.size_alloc]; omega
  have HB := hide (bl_alloc (bl_refl w) (Obj.cells #[Value.bool false, Value.slice none 0 0, Value.bool false, Value.slice none 0 0] 29))
  go_enter Tryz.func29, Tryz.ntmps29
  go_wp2_with fail
  generalize (w.alloc (Obj.cells #[Value.bool false, Value.slice none 0 0, Value.bool false, Value.slice none 0 0] 29)) = w1 at *
  have z0 := zr
  refine (runS R 1 _ (by omega) (by omega)).mono ?_
  rw [HE'.out]
  rintro e w' ⟨rfl, hw⟩
  subst w'
  go_wp2_with fail
  refine (expS ((R.extract E R.size).extract 1 (R.size - E)) _ (by simp; omega)).mono ?_
  rw [HEXP'.out]
  rintro e w' ⟨rfl, hw⟩
  subst w'
  go_wp2
  refine bodyPost_ret (v := (.tuple #[.agg #[.bool false, .slice none 0 0, .bool false, .slice none 0 0], .bool false])) (by simp [results, Tryz.results29, go_sem, kr0, kr1, kr2, kr3]) rfl ?_
  exact raw_no HO'.out (set_four (Nat.le_refl _) HB.out _ _ _ _)
end Go.Proofs.YtbcokpnhhjjedaaGreatDoor

/- Walks of l03Decimal at numbers without a point. -/
namespace Go.Proofs.YtbcokpnhhjjedaaGreatDoor
open Go.RowKit
set_option linter.unusedVariables false

set_option maxHeartbeats 4000000 in
set_option maxRecDepth 20000 in
theorem decY1 (A R : ByteArray) (E m : Nat) (n : Int) (o : Option (Nat × Nat)) (w : World) (hsz : A.size + R.size ≤ 400) (hE0 : E ≤ R.size) (hn : -1000 < n ∧ n < 1000) (hq : R.toList.isEmpty = true) (hda : digAll A.data.toList = true) (hd4 : A.size ≤ 400) (hm : m ≤ 2000) (ho : o = some (valN A.data.toList * 10 ^ 0, 1)) :
    Calls Tryz.prog 29 #[.string A, .string R] w fun e w' => RawAns o w w' e := by
  have HDA' := hide hda
  have HO' := hide ho
  clear hda ho
  have kr0 : (w.alloc (Obj.cells #[Value.bool false, Value.slice none 0 0, Value.bool false, Value.slice none 0 0] 29)).cell? ⟨w.heap.size, 0, none⟩ = some (Value.bool false) := by go_simp
  have fr0 : (w.alloc (Obj.cells #[Value.bool false, Value.slice none 0 0, Value.bool false, Value.slice none 0 0] 29)).frozen? ⟨w.heap.size, 0, none⟩ = false := by go_simp
  have kr1 : (w.alloc (Obj.cells #[Value.bool false, Value.slice none 0 0, Value.bool false, Value.slice none 0 0] 29)).cell? ⟨w.heap.size, 1, none⟩ = some (Value.slice none 0 0) := by go_simp
  have fr1 : (w.alloc (Obj.cells #[Value.bool false, Value.slice none 0 0, Value.bool false, Value.slice none 0 0] 29)).frozen? ⟨w.heap.size, 1, none⟩ = false := by go_simp
  have kr2 : (w.alloc (Obj.cells #[Value.bool false, Value.slice none 0 0, Value.bool false, Value.slice none 0 0] 29)).cell? ⟨w.heap.size, 2, none⟩ = some (Value.bool false) := by go_simp
  have fr2 : (w.alloc (Obj.cells #[Value.bool false, Value.slice none 0 0, Value.bool false, Value.slice none 0 0] 29)).frozen? ⟨w.heap.size, 2, none⟩ = false := by go_simp
  have kr3 : (w.alloc (Obj.cells #[Value.bool false, Value.slice none 0 0, Value.bool false, Value.slice none 0 0] 29)).cell? ⟨w.heap.size, 3, none⟩ = some (Value.slice none 0 0) := by go_simp
  have fr3 : (w.alloc (Obj.cells #[Value.bool false, Value.slice none 0 0, Value.bool false, Value.slice none 0 0] 29)).frozen? ⟨w.heap.size, 3, none⟩ = false := by go_simp
  have zr : w.heap.size < (w.alloc (Obj.cells #[Value.bool false, Value.slice none 0 0, Value.bool false, Value.slice none 0 0] 29)).heap.size := by simp only [World.size_alloc]; omega
  have HB := hide (bl_alloc (bl_refl w) (Obj.cells #[Value.bool false, Value.slice none 0 0, Value.bool false, Value.slice none 0 0] 29))
  go_enter Tryz.func29, Tryz.ntmps29
  go_wp2_with fail
  generalize (w.alloc (Obj.cells #[Value.bool false, Value.slice none 0 0, Value.bool false, Value.slice none 0 0] 29)) = w1 at *
  have z0 := zr
  refine (digitsS A _ HDA'.out hd4).mono ?_
  have hl1 : (lms (valN A.data.toList : Int)).length ≤ 200 := lms_short HDA'.out (by rw [bsize]; exact hd4)
  generalize valN A.data.toList = x at *
  rintro e w2 ⟨v1, rfl, ⟨a1, c1, rfl, ho1⟩, hb⟩
  have yw2 := hb.size
  replace kr0 := (hb.cell (p := ⟨w.heap.size, 0, none⟩) (by dsimp only; omega)).trans kr0
  replace fr0 := (hb.frozen (p := ⟨w.heap.size, 0, none⟩) (by dsimp only; omega)).trans fr0
  replace kr1 := (hb.cell (p := ⟨w.heap.size, 1, none⟩) (by dsimp only; omega)).trans kr1
  replace fr1 := (hb.frozen (p := ⟨w.heap.size, 1, none⟩) (by dsimp only; omega)).trans fr1
  replace kr2 := (hb.cell (p := ⟨w.heap.size, 2, none⟩) (by dsimp only; omega)).trans kr2
  replace fr2 := (hb.frozen (p := ⟨w.heap.size, 2, none⟩) (by dsimp only; omega)).trans fr2
  replace kr3 := (hb.cell (p := ⟨w.heap.size, 3, none⟩) (by dsimp only; omega)).trans kr3
  replace fr3 := (hb.frozen (p := ⟨w.heap.size, 3, none⟩) (by dsimp only; omega)).trans fr3
  replace zr := Nat.lt_of_lt_of_le zr hb.size
  replace HB := hide (bl_trans HB.out hb)
  clear hb
  have S1 := hide ho1.seg
  clear ho1
  go_wp2_with fail
  refine (tenS 0 _ (Nat.zero_le _)).mono ?_
  have hl2 : (lms ((10 : Int) ^ 0)).length ≤ 1001 := by have := ten_lenS (k := 0) 1000 (by omega); rw [Int.natCast_pow] at this; exact this
  have HY : Hid ((10 : Int) ^ 0 = (((10 : Nat) ^ 0 : Nat) : Int)) := hide (Int.natCast_pow 10 0).symm
  have hy0 : (10 : Int) ^ 0 ≠ 0 := Int.pow_ne_zero (by decide)
  generalize (10 : Int) ^ 0 = y at *
  rintro e w3 ⟨v2, rfl, ⟨a2, c2, rfl, ho2⟩, hb⟩
  have yw3 := hb.size
  replace kr0 := (hb.cell (p := ⟨w.heap.size, 0, none⟩) (by dsimp only; omega)).trans kr0
  replace fr0 := (hb.frozen (p := ⟨w.heap.size, 0, none⟩) (by dsimp only; omega)).trans fr0
  replace kr1 := (hb.cell (p := ⟨w.heap.size, 1, none⟩) (by dsimp only; omega)).trans kr1
  replace fr1 := (hb.frozen (p := ⟨w.heap.size, 1, none⟩) (by dsimp only; omega)).trans fr1
  replace kr2 := (hb.cell (p := ⟨w.heap.size, 2, none⟩) (by dsimp only; omega)).trans kr2
  replace fr2 := (hb.frozen (p := ⟨w.heap.size, 2, none⟩) (by dsimp only; omega)).trans fr2
  replace kr3 := (hb.cell (p := ⟨w.heap.size, 3, none⟩) (by dsimp only; omega)).trans kr3
  replace fr3 := (hb.frozen (p := ⟨w.heap.size, 3, none⟩) (by dsimp only; omega)).trans fr3
  replace S1 := hide (S1.out.below hb)
  replace zr := Nat.lt_of_lt_of_le zr hb.size
  replace HB := hide (bl_trans HB.out hb)
  clear hb
  have S2 := hide ho2.seg
  clear ho2
  go_wp2_with fail
  refine (mulS (.agg #[.bool (sgn (x : Int)), .slice a1 (lms (x : Int)).length c1]) (.agg #[.bool (sgn y), .slice a2 (lms y).length c2]) x y _ ⟨a1, c1, rfl, S1.out⟩ ⟨a2, c2, rfl, S2.out⟩ (by omega) (by omega)).mono ?_
  have hl3 : (lms ((x : Int) * y)).length ≤ 1201 := len_mulI hl1 hl2
  have HP : Hid ((x : Int) * y = ((x * 10 ^ 0 : Nat) : Int)) := hide (by rw [HY.out, Int.natCast_mul])
  generalize (x : Int) * y = p at *
  rintro e w4 ⟨v3, rfl, ⟨a3, c3, rfl, ho3⟩, hb⟩
  have yw4 := hb.size
  replace kr0 := (hb.cell (p := ⟨w.heap.size, 0, none⟩) (by dsimp only; omega)).trans kr0
  replace fr0 := (hb.frozen (p := ⟨w.heap.size, 0, none⟩) (by dsimp only; omega)).trans fr0
  replace kr1 := (hb.cell (p := ⟨w.heap.size, 1, none⟩) (by dsimp only; omega)).trans kr1
  replace fr1 := (hb.frozen (p := ⟨w.heap.size, 1, none⟩) (by dsimp only; omega)).trans fr1
  replace kr2 := (hb.cell (p := ⟨w.heap.size, 2, none⟩) (by dsimp only; omega)).trans kr2
  replace fr2 := (hb.frozen (p := ⟨w.heap.size, 2, none⟩) (by dsimp only; omega)).trans fr2
  replace kr3 := (hb.cell (p := ⟨w.heap.size, 3, none⟩) (by dsimp only; omega)).trans kr3
  replace fr3 := (hb.frozen (p := ⟨w.heap.size, 3, none⟩) (by dsimp only; omega)).trans fr3
  replace S1 := hide (S1.out.below hb)
  replace S2 := hide (S2.out.below hb)
  replace zr := Nat.lt_of_lt_of_le zr hb.size
  replace HB := hide (bl_trans HB.out hb)
  clear hb
  have S3 := hide ho3.seg
  clear ho3
  go_wp2_with fail
  refine (fromS 1 _ (by decide) (by decide)).mono ?_
  rintro e w5 ⟨v4, rfl, ⟨a4, c4, rfl, ho4⟩, hb⟩
  have yw5 := hb.size
  replace kr0 := (hb.cell (p := ⟨w.heap.size, 0, none⟩) (by dsimp only; omega)).trans kr0
  replace fr0 := (hb.frozen (p := ⟨w.heap.size, 0, none⟩) (by dsimp only; omega)).trans fr0
  replace kr1 := (hb.cell (p := ⟨w.heap.size, 1, none⟩) (by dsimp only; omega)).trans kr1
  replace fr1 := (hb.frozen (p := ⟨w.heap.size, 1, none⟩) (by dsimp only; omega)).trans fr1
  replace kr2 := (hb.cell (p := ⟨w.heap.size, 2, none⟩) (by dsimp only; omega)).trans kr2
  replace fr2 := (hb.frozen (p := ⟨w.heap.size, 2, none⟩) (by dsimp only; omega)).trans fr2
  replace kr3 := (hb.cell (p := ⟨w.heap.size, 3, none⟩) (by dsimp only; omega)).trans kr3
  replace fr3 := (hb.frozen (p := ⟨w.heap.size, 3, none⟩) (by dsimp only; omega)).trans fr3
  replace S1 := hide (S1.out.below hb)
  replace S2 := hide (S2.out.below hb)
  replace S3 := hide (S3.out.below hb)
  replace zr := Nat.lt_of_lt_of_le zr hb.size
  replace HB := hide (bl_trans HB.out hb)
  clear hb
  have S4 := hide ho4.seg
  clear ho4
  go_wp2_with fail
  refine (makeR p 1 a3 c3 a4 c4 _ S3.out S4.out (by decide) (by omega) (Nat.le_trans (Num.limbs_len.2 (show (1 : Int).natAbs < 4294967296 ^ 1 by decide)) (by decide))).mono ?_
  rintro e w6 ⟨d1, f1, d2, f2, rfl, hu1, hu2, hap, hb⟩
  have yw6 := hb.size
  replace kr0 := (hb.cell (p := ⟨w.heap.size, 0, none⟩) (by dsimp only; omega)).trans kr0
  replace fr0 := (hb.frozen (p := ⟨w.heap.size, 0, none⟩) (by dsimp only; omega)).trans fr0
  replace kr1 := (hb.cell (p := ⟨w.heap.size, 1, none⟩) (by dsimp only; omega)).trans kr1
  replace fr1 := (hb.frozen (p := ⟨w.heap.size, 1, none⟩) (by dsimp only; omega)).trans fr1
  replace kr2 := (hb.cell (p := ⟨w.heap.size, 2, none⟩) (by dsimp only; omega)).trans kr2
  replace fr2 := (hb.frozen (p := ⟨w.heap.size, 2, none⟩) (by dsimp only; omega)).trans fr2
  replace kr3 := (hb.cell (p := ⟨w.heap.size, 3, none⟩) (by dsimp only; omega)).trans kr3
  replace fr3 := (hb.frozen (p := ⟨w.heap.size, 3, none⟩) (by dsimp only; omega)).trans fr3
  replace S1 := hide (S1.out.below hb)
  replace S2 := hide (S2.out.below hb)
  replace S3 := hide (S3.out.below hb)
  replace S4 := hide (S4.out.below hb)
  replace zr := Nat.lt_of_lt_of_le zr hb.size
  replace HB := hide (bl_trans HB.out hb)
  clear hb
  have HO1 := hide hu1
  have HO2 := hide hu2
  have HAP := hide hap
  clear hu1 hu2 hap
  go_wp2
  refine bodyPost_ret (v := (.tuple #[Value.agg #[Value.bool (sgn (p / sgG p 1)), Value.slice d1 (lms (p / sgG p 1)).length f1, Value.bool (sgn (1 / sgG p 1)), Value.slice d2 (lms (1 / sgG p 1)).length f2], .bool true])) (by simp [results, Tryz.results29, go_sem, kr0, kr1, kr2, kr3]) rfl ?_
  have h1 := own_four' (lo := w.heap.size) HO1.out (show w.heap.size < _ by omega) (by omega) (Value.bool (sgn (p / sgG p 1))) (Value.slice d1 (lms (p / sgG p 1)).length f1) (Value.bool (sgn (1 / sgG p 1))) (Value.slice d2 (lms (1 / sgG p 1)).length f2)
  have h2 := own_four' (lo := w.heap.size) HO2.out (show w.heap.size < _ by omega) (by omega) (Value.bool (sgn (p / sgG p 1))) (Value.slice d1 (lms (p / sgG p 1)).length f1) (Value.bool (sgn (1 / sgG p 1))) (Value.slice d2 (lms (1 / sgG p 1)).length f2)
  exact raw_yes HO'.out HP.out rfl h1 h2 HAP.out (set_four (Nat.le_refl _) HB.out _ _ _ _)

set_option maxHeartbeats 4000000 in
set_option maxRecDepth 20000 in
theorem decY2 (A R : ByteArray) (E m : Nat) (n : Int) (o : Option (Nat × Nat)) (w : World) (hsz : A.size + R.size ≤ 400) (hE0 : E ≤ R.size) (hn : -1000 < n ∧ n < 1000) (hq : R.toList.isEmpty = false) (hq0 : 0 < R.size) (hq1 : 0 < R.size) (h46 : ((R[0].toNat : Int) == 46) = false) (h101 : (R[0].toNat : Int) = 101) (hexp : expV (R.extract 1 R.size).data.toList = some n) (hda : digAll A.data.toList = true) (hd4 : A.size ≤ 400) (hm : m ≤ 2000) (hm0 : 0 < m) (hK : n = -(m : Int)) (ho : o = some (valN A.data.toList, 10 ^ m)) :
    Calls Tryz.prog 29 #[.string A, .string R] w fun e w' => RawAns o w w' e := by
  have HEXP' := hide hexp
  have HDA' := hide hda
  have HO' := hide ho
  clear hexp hda ho
  have hq2 : (1 : Int) ≤ ((R.size : Nat) : Int) := by omega
  have h101b : ((R[0].toNat : Int) != 101) = false := by rw [h101]; rfl
  have kr0 : (w.alloc (Obj.cells #[Value.bool false, Value.slice none 0 0, Value.bool false, Value.slice none 0 0] 29)).cell? ⟨w.heap.size, 0, none⟩ = some (Value.bool false) := by go_simp
  have fr0 : (w.alloc (Obj.cells #[Value.bool false, Value.slice none 0 0, Value.bool false, Value.slice none 0 0] 29)).frozen? ⟨w.heap.size, 0, none⟩ = false := by go_simp
  have kr1 : (w.alloc (Obj.cells #[Value.bool false, Value.slice none 0 0, Value.bool false, Value.slice none 0 0] 29)).cell? ⟨w.heap.size, 1, none⟩ = some (Value.slice none 0 0) := by go_simp
  have fr1 : (w.alloc (Obj.cells #[Value.bool false, Value.slice none 0 0, Value.bool false, Value.slice none 0 0] 29)).frozen? ⟨w.heap.size, 1, none⟩ = false := by go_simp
  have kr2 : (w.alloc (Obj.cells #[Value.bool false, Value.slice none 0 0, Value.bool false, Value.slice none 0 0] 29)).cell? ⟨w.heap.size, 2, none⟩ = some (Value.bool false) := by go_simp
  have fr2 : (w.alloc (Obj.cells #[Value.bool false, Value.slice none 0 0, Value.bool false, Value.slice none 0 0] 29)).frozen? ⟨w.heap.size, 2, none⟩ = false := by go_simp
  have kr3 : (w.alloc (Obj.cells #[Value.bool false, Value.slice none 0 0, Value.bool false, Value.slice none 0 0] 29)).cell? ⟨w.heap.size, 3, none⟩ = some (Value.slice none 0 0) := by go_simp
  have fr3 : (w.alloc (Obj.cells #[Value.bool false, Value.slice none 0 0, Value.bool false, Value.slice none 0 0] 29)).frozen? ⟨w.heap.size, 3, none⟩ = false := by go_simp
  have zr : w.heap.size < (w.alloc (Obj.cells #[Value.bool false, Value.slice none 0 0, Value.bool false, Value.slice none 0 0] 29)).heap.size := by simp only [World.size_alloc]; omega
  have HB := hide (bl_alloc (bl_refl w) (Obj.cells #[Value.bool false, Value.slice none 0 0, Value.bool false, Value.slice none 0 0] 29))
  go_enter Tryz.func29, Tryz.ntmps29
  go_wp2_with fail
  generalize (w.alloc (Obj.cells #[Value.bool false, Value.slice none 0 0, Value.bool false, Value.slice none 0 0] 29)) = w1 at *
  have z0 := zr
  refine (expS (R.extract 1 R.size) _ (by simp; omega)).mono ?_
  rw [HEXP'.out]
  rintro e w' ⟨rfl, hw⟩
  subst w'
  go_wp2_with fail
  refine (digitsS A _ HDA'.out hd4).mono ?_
  have hl1 : (lms (valN A.data.toList : Int)).length ≤ 200 := lms_short HDA'.out (by rw [bsize]; exact hd4)
  generalize valN A.data.toList = x at *
  rintro e w2 ⟨v1, rfl, ⟨a1, c1, rfl, ho1⟩, hb⟩
  have yw2 := hb.size
  replace kr0 := (hb.cell (p := ⟨w.heap.size, 0, none⟩) (by dsimp only; omega)).trans kr0
  replace fr0 := (hb.frozen (p := ⟨w.heap.size, 0, none⟩) (by dsimp only; omega)).trans fr0
  replace kr1 := (hb.cell (p := ⟨w.heap.size, 1, none⟩) (by dsimp only; omega)).trans kr1
  replace fr1 := (hb.frozen (p := ⟨w.heap.size, 1, none⟩) (by dsimp only; omega)).trans fr1
  replace kr2 := (hb.cell (p := ⟨w.heap.size, 2, none⟩) (by dsimp only; omega)).trans kr2
  replace fr2 := (hb.frozen (p := ⟨w.heap.size, 2, none⟩) (by dsimp only; omega)).trans fr2
  replace kr3 := (hb.cell (p := ⟨w.heap.size, 3, none⟩) (by dsimp only; omega)).trans kr3
  replace fr3 := (hb.frozen (p := ⟨w.heap.size, 3, none⟩) (by dsimp only; omega)).trans fr3
  replace zr := Nat.lt_of_lt_of_le zr hb.size
  replace HB := hide (bl_trans HB.out hb)
  clear hb
  have S1 := hide ho1.seg
  clear ho1
  go_wp2_with fail
  refine (tenS m _ hm).mono ?_
  have hl2 : (lms ((10 : Int) ^ m)).length ≤ 1001 := by have := ten_lenS (k := m) 1000 (by omega); rw [Int.natCast_pow] at this; exact this
  have HY : Hid ((10 : Int) ^ m = (((10 : Nat) ^ m : Nat) : Int)) := hide (Int.natCast_pow 10 m).symm
  have hy0 : (10 : Int) ^ m ≠ 0 := Int.pow_ne_zero (by decide)
  generalize (10 : Int) ^ m = y at *
  rintro e w3 ⟨v2, rfl, ⟨a2, c2, rfl, ho2⟩, hb⟩
  have yw3 := hb.size
  replace kr0 := (hb.cell (p := ⟨w.heap.size, 0, none⟩) (by dsimp only; omega)).trans kr0
  replace fr0 := (hb.frozen (p := ⟨w.heap.size, 0, none⟩) (by dsimp only; omega)).trans fr0
  replace kr1 := (hb.cell (p := ⟨w.heap.size, 1, none⟩) (by dsimp only; omega)).trans kr1
  replace fr1 := (hb.frozen (p := ⟨w.heap.size, 1, none⟩) (by dsimp only; omega)).trans fr1
  replace kr2 := (hb.cell (p := ⟨w.heap.size, 2, none⟩) (by dsimp only; omega)).trans kr2
  replace fr2 := (hb.frozen (p := ⟨w.heap.size, 2, none⟩) (by dsimp only; omega)).trans fr2
  replace kr3 := (hb.cell (p := ⟨w.heap.size, 3, none⟩) (by dsimp only; omega)).trans kr3
  replace fr3 := (hb.frozen (p := ⟨w.heap.size, 3, none⟩) (by dsimp only; omega)).trans fr3
  replace S1 := hide (S1.out.below hb)
  replace zr := Nat.lt_of_lt_of_le zr hb.size
  replace HB := hide (bl_trans HB.out hb)
  clear hb
  have S2 := hide ho2.seg
  clear ho2
  go_wp2_with fail
  refine (makeR x y a1 c1 a2 c2 _ S1.out S2.out hy0 (by omega) (by omega)).mono ?_
  rintro e w4 ⟨d1, f1, d2, f2, rfl, hu1, hu2, hap, hb⟩
  have yw4 := hb.size
  replace kr0 := (hb.cell (p := ⟨w.heap.size, 0, none⟩) (by dsimp only; omega)).trans kr0
  replace fr0 := (hb.frozen (p := ⟨w.heap.size, 0, none⟩) (by dsimp only; omega)).trans fr0
  replace kr1 := (hb.cell (p := ⟨w.heap.size, 1, none⟩) (by dsimp only; omega)).trans kr1
  replace fr1 := (hb.frozen (p := ⟨w.heap.size, 1, none⟩) (by dsimp only; omega)).trans fr1
  replace kr2 := (hb.cell (p := ⟨w.heap.size, 2, none⟩) (by dsimp only; omega)).trans kr2
  replace fr2 := (hb.frozen (p := ⟨w.heap.size, 2, none⟩) (by dsimp only; omega)).trans fr2
  replace kr3 := (hb.cell (p := ⟨w.heap.size, 3, none⟩) (by dsimp only; omega)).trans kr3
  replace fr3 := (hb.frozen (p := ⟨w.heap.size, 3, none⟩) (by dsimp only; omega)).trans fr3
  replace S1 := hide (S1.out.below hb)
  replace S2 := hide (S2.out.below hb)
  replace zr := Nat.lt_of_lt_of_le zr hb.size
  replace HB := hide (bl_trans HB.out hb)
  clear hb
  have HO1 := hide hu1
  have HO2 := hide hu2
  have HAP := hide hap
  clear hu1 hu2 hap
  go_wp2
  refine bodyPost_ret (v := (.tuple #[Value.agg #[Value.bool (sgn ((x : Int) / sgG (x : Int) y)), Value.slice d1 (lms ((x : Int) / sgG (x : Int) y)).length f1, Value.bool (sgn (y / sgG (x : Int) y)), Value.slice d2 (lms (y / sgG (x : Int) y)).length f2], .bool true])) (by simp [results, Tryz.results29, go_sem, kr0, kr1, kr2, kr3]) rfl ?_
  have h1 := own_four' (lo := w.heap.size) HO1.out (show w.heap.size < _ by omega) (by omega) (Value.bool (sgn ((x : Int) / sgG (x : Int) y))) (Value.slice d1 (lms ((x : Int) / sgG (x : Int) y)).length f1) (Value.bool (sgn (y / sgG (x : Int) y))) (Value.slice d2 (lms (y / sgG (x : Int) y)).length f2)
  have h2 := own_four' (lo := w.heap.size) HO2.out (show w.heap.size < _ by omega) (by omega) (Value.bool (sgn ((x : Int) / sgG (x : Int) y))) (Value.slice d1 (lms ((x : Int) / sgG (x : Int) y)).length f1) (Value.bool (sgn (y / sgG (x : Int) y))) (Value.slice d2 (lms (y / sgG (x : Int) y)).length f2)
  exact raw_yes HO'.out rfl HY.out h1 h2 HAP.out (set_four (Nat.le_refl _) HB.out _ _ _ _)

set_option maxHeartbeats 4000000 in
set_option maxRecDepth 20000 in
theorem decY3 (A R : ByteArray) (E m : Nat) (n : Int) (o : Option (Nat × Nat)) (w : World) (hsz : A.size + R.size ≤ 400) (hE0 : E ≤ R.size) (hn : -1000 < n ∧ n < 1000) (hq : R.toList.isEmpty = false) (hq0 : 0 < R.size) (hq1 : 0 < R.size) (h46 : ((R[0].toNat : Int) == 46) = false) (h101 : (R[0].toNat : Int) = 101) (hexp : expV (R.extract 1 R.size).data.toList = some n) (hda : digAll A.data.toList = true) (hd4 : A.size ≤ 400) (hm : m ≤ 2000) (hK : n = (m : Int)) (ho : o = some (valN A.data.toList * 10 ^ m, 1)) :
    Calls Tryz.prog 29 #[.string A, .string R] w fun e w' => RawAns o w w' e := by
  have HEXP' := hide hexp
  have HDA' := hide hda
  have HO' := hide ho
  clear hexp hda ho
  have hq2 : (1 : Int) ≤ ((R.size : Nat) : Int) := by omega
  have h101b : ((R[0].toNat : Int) != 101) = false := by rw [h101]; rfl
  have kr0 : (w.alloc (Obj.cells #[Value.bool false, Value.slice none 0 0, Value.bool false, Value.slice none 0 0] 29)).cell? ⟨w.heap.size, 0, none⟩ = some (Value.bool false) := by go_simp
  have fr0 : (w.alloc (Obj.cells #[Value.bool false, Value.slice none 0 0, Value.bool false, Value.slice none 0 0] 29)).frozen? ⟨w.heap.size, 0, none⟩ = false := by go_simp
  have kr1 : (w.alloc (Obj.cells #[Value.bool false, Value.slice none 0 0, Value.bool false, Value.slice none 0 0] 29)).cell? ⟨w.heap.size, 1, none⟩ = some (Value.slice none 0 0) := by go_simp
  have fr1 : (w.alloc (Obj.cells #[Value.bool false, Value.slice none 0 0, Value.bool false, Value.slice none 0 0] 29)).frozen? ⟨w.heap.size, 1, none⟩ = false := by go_simp
  have kr2 : (w.alloc (Obj.cells #[Value.bool false, Value.slice none 0 0, Value.bool false, Value.slice none 0 0] 29)).cell? ⟨w.heap.size, 2, none⟩ = some (Value.bool false) := by go_simp
  have fr2 : (w.alloc (Obj.cells #[Value.bool false, Value.slice none 0 0, Value.bool false, Value.slice none 0 0] 29)).frozen? ⟨w.heap.size, 2, none⟩ = false := by go_simp
  have kr3 : (w.alloc (Obj.cells #[Value.bool false, Value.slice none 0 0, Value.bool false, Value.slice none 0 0] 29)).cell? ⟨w.heap.size, 3, none⟩ = some (Value.slice none 0 0) := by go_simp
  have fr3 : (w.alloc (Obj.cells #[Value.bool false, Value.slice none 0 0, Value.bool false, Value.slice none 0 0] 29)).frozen? ⟨w.heap.size, 3, none⟩ = false := by go_simp
  have zr : w.heap.size < (w.alloc (Obj.cells #[Value.bool false, Value.slice none 0 0, Value.bool false, Value.slice none 0 0] 29)).heap.size := by simp only [World.size_alloc]; omega
  have HB := hide (bl_alloc (bl_refl w) (Obj.cells #[Value.bool false, Value.slice none 0 0, Value.bool false, Value.slice none 0 0] 29))
  go_enter Tryz.func29, Tryz.ntmps29
  go_wp2_with fail
  generalize (w.alloc (Obj.cells #[Value.bool false, Value.slice none 0 0, Value.bool false, Value.slice none 0 0] 29)) = w1 at *
  have z0 := zr
  refine (expS (R.extract 1 R.size) _ (by simp; omega)).mono ?_
  rw [HEXP'.out]
  rintro e w' ⟨rfl, hw⟩
  subst w'
  go_wp2_with fail
  refine (digitsS A _ HDA'.out hd4).mono ?_
  have hl1 : (lms (valN A.data.toList : Int)).length ≤ 200 := lms_short HDA'.out (by rw [bsize]; exact hd4)
  generalize valN A.data.toList = x at *
  rintro e w2 ⟨v1, rfl, ⟨a1, c1, rfl, ho1⟩, hb⟩
  have yw2 := hb.size
  replace kr0 := (hb.cell (p := ⟨w.heap.size, 0, none⟩) (by dsimp only; omega)).trans kr0
  replace fr0 := (hb.frozen (p := ⟨w.heap.size, 0, none⟩) (by dsimp only; omega)).trans fr0
  replace kr1 := (hb.cell (p := ⟨w.heap.size, 1, none⟩) (by dsimp only; omega)).trans kr1
  replace fr1 := (hb.frozen (p := ⟨w.heap.size, 1, none⟩) (by dsimp only; omega)).trans fr1
  replace kr2 := (hb.cell (p := ⟨w.heap.size, 2, none⟩) (by dsimp only; omega)).trans kr2
  replace fr2 := (hb.frozen (p := ⟨w.heap.size, 2, none⟩) (by dsimp only; omega)).trans fr2
  replace kr3 := (hb.cell (p := ⟨w.heap.size, 3, none⟩) (by dsimp only; omega)).trans kr3
  replace fr3 := (hb.frozen (p := ⟨w.heap.size, 3, none⟩) (by dsimp only; omega)).trans fr3
  replace zr := Nat.lt_of_lt_of_le zr hb.size
  replace HB := hide (bl_trans HB.out hb)
  clear hb
  have S1 := hide ho1.seg
  clear ho1
  go_wp2_with fail
  refine (tenS m _ hm).mono ?_
  have hl2 : (lms ((10 : Int) ^ m)).length ≤ 1001 := by have := ten_lenS (k := m) 1000 (by omega); rw [Int.natCast_pow] at this; exact this
  have HY : Hid ((10 : Int) ^ m = (((10 : Nat) ^ m : Nat) : Int)) := hide (Int.natCast_pow 10 m).symm
  have hy0 : (10 : Int) ^ m ≠ 0 := Int.pow_ne_zero (by decide)
  generalize (10 : Int) ^ m = y at *
  rintro e w3 ⟨v2, rfl, ⟨a2, c2, rfl, ho2⟩, hb⟩
  have yw3 := hb.size
  replace kr0 := (hb.cell (p := ⟨w.heap.size, 0, none⟩) (by dsimp only; omega)).trans kr0
  replace fr0 := (hb.frozen (p := ⟨w.heap.size, 0, none⟩) (by dsimp only; omega)).trans fr0
  replace kr1 := (hb.cell (p := ⟨w.heap.size, 1, none⟩) (by dsimp only; omega)).trans kr1
  replace fr1 := (hb.frozen (p := ⟨w.heap.size, 1, none⟩) (by dsimp only; omega)).trans fr1
  replace kr2 := (hb.cell (p := ⟨w.heap.size, 2, none⟩) (by dsimp only; omega)).trans kr2
  replace fr2 := (hb.frozen (p := ⟨w.heap.size, 2, none⟩) (by dsimp only; omega)).trans fr2
  replace kr3 := (hb.cell (p := ⟨w.heap.size, 3, none⟩) (by dsimp only; omega)).trans kr3
  replace fr3 := (hb.frozen (p := ⟨w.heap.size, 3, none⟩) (by dsimp only; omega)).trans fr3
  replace S1 := hide (S1.out.below hb)
  replace zr := Nat.lt_of_lt_of_le zr hb.size
  replace HB := hide (bl_trans HB.out hb)
  clear hb
  have S2 := hide ho2.seg
  clear ho2
  go_wp2_with fail
  refine (mulS (.agg #[.bool (sgn (x : Int)), .slice a1 (lms (x : Int)).length c1]) (.agg #[.bool (sgn y), .slice a2 (lms y).length c2]) x y _ ⟨a1, c1, rfl, S1.out⟩ ⟨a2, c2, rfl, S2.out⟩ (by omega) (by omega)).mono ?_
  have hl3 : (lms ((x : Int) * y)).length ≤ 1201 := len_mulI hl1 hl2
  have HP : Hid ((x : Int) * y = ((x * 10 ^ m : Nat) : Int)) := hide (by rw [HY.out, Int.natCast_mul])
  generalize (x : Int) * y = p at *
  rintro e w4 ⟨v3, rfl, ⟨a3, c3, rfl, ho3⟩, hb⟩
  have yw4 := hb.size
  replace kr0 := (hb.cell (p := ⟨w.heap.size, 0, none⟩) (by dsimp only; omega)).trans kr0
  replace fr0 := (hb.frozen (p := ⟨w.heap.size, 0, none⟩) (by dsimp only; omega)).trans fr0
  replace kr1 := (hb.cell (p := ⟨w.heap.size, 1, none⟩) (by dsimp only; omega)).trans kr1
  replace fr1 := (hb.frozen (p := ⟨w.heap.size, 1, none⟩) (by dsimp only; omega)).trans fr1
  replace kr2 := (hb.cell (p := ⟨w.heap.size, 2, none⟩) (by dsimp only; omega)).trans kr2
  replace fr2 := (hb.frozen (p := ⟨w.heap.size, 2, none⟩) (by dsimp only; omega)).trans fr2
  replace kr3 := (hb.cell (p := ⟨w.heap.size, 3, none⟩) (by dsimp only; omega)).trans kr3
  replace fr3 := (hb.frozen (p := ⟨w.heap.size, 3, none⟩) (by dsimp only; omega)).trans fr3
  replace S1 := hide (S1.out.below hb)
  replace S2 := hide (S2.out.below hb)
  replace zr := Nat.lt_of_lt_of_le zr hb.size
  replace HB := hide (bl_trans HB.out hb)
  clear hb
  have S3 := hide ho3.seg
  clear ho3
  go_wp2_with fail
  refine (fromS 1 _ (by decide) (by decide)).mono ?_
  rintro e w5 ⟨v4, rfl, ⟨a4, c4, rfl, ho4⟩, hb⟩
  have yw5 := hb.size
  replace kr0 := (hb.cell (p := ⟨w.heap.size, 0, none⟩) (by dsimp only; omega)).trans kr0
  replace fr0 := (hb.frozen (p := ⟨w.heap.size, 0, none⟩) (by dsimp only; omega)).trans fr0
  replace kr1 := (hb.cell (p := ⟨w.heap.size, 1, none⟩) (by dsimp only; omega)).trans kr1
  replace fr1 := (hb.frozen (p := ⟨w.heap.size, 1, none⟩) (by dsimp only; omega)).trans fr1
  replace kr2 := (hb.cell (p := ⟨w.heap.size, 2, none⟩) (by dsimp only; omega)).trans kr2
  replace fr2 := (hb.frozen (p := ⟨w.heap.size, 2, none⟩) (by dsimp only; omega)).trans fr2
  replace kr3 := (hb.cell (p := ⟨w.heap.size, 3, none⟩) (by dsimp only; omega)).trans kr3
  replace fr3 := (hb.frozen (p := ⟨w.heap.size, 3, none⟩) (by dsimp only; omega)).trans fr3
  replace S1 := hide (S1.out.below hb)
  replace S2 := hide (S2.out.below hb)
  replace S3 := hide (S3.out.below hb)
  replace zr := Nat.lt_of_lt_of_le zr hb.size
  replace HB := hide (bl_trans HB.out hb)
  clear hb
  have S4 := hide ho4.seg
  clear ho4
  go_wp2_with fail
  refine (makeR p 1 a3 c3 a4 c4 _ S3.out S4.out (by decide) (by omega) (Nat.le_trans (Num.limbs_len.2 (show (1 : Int).natAbs < 4294967296 ^ 1 by decide)) (by decide))).mono ?_
  rintro e w6 ⟨d1, f1, d2, f2, rfl, hu1, hu2, hap, hb⟩
  have yw6 := hb.size
  replace kr0 := (hb.cell (p := ⟨w.heap.size, 0, none⟩) (by dsimp only; omega)).trans kr0
  replace fr0 := (hb.frozen (p := ⟨w.heap.size, 0, none⟩) (by dsimp only; omega)).trans fr0
  replace kr1 := (hb.cell (p := ⟨w.heap.size, 1, none⟩) (by dsimp only; omega)).trans kr1
  replace fr1 := (hb.frozen (p := ⟨w.heap.size, 1, none⟩) (by dsimp only; omega)).trans fr1
  replace kr2 := (hb.cell (p := ⟨w.heap.size, 2, none⟩) (by dsimp only; omega)).trans kr2
  replace fr2 := (hb.frozen (p := ⟨w.heap.size, 2, none⟩) (by dsimp only; omega)).trans fr2
  replace kr3 := (hb.cell (p := ⟨w.heap.size, 3, none⟩) (by dsimp only; omega)).trans kr3
  replace fr3 := (hb.frozen (p := ⟨w.heap.size, 3, none⟩) (by dsimp only; omega)).trans fr3
  replace S1 := hide (S1.out.below hb)
  replace S2 := hide (S2.out.below hb)
  replace S3 := hide (S3.out.below hb)
  replace S4 := hide (S4.out.below hb)
  replace zr := Nat.lt_of_lt_of_le zr hb.size
  replace HB := hide (bl_trans HB.out hb)
  clear hb
  have HO1 := hide hu1
  have HO2 := hide hu2
  have HAP := hide hap
  clear hu1 hu2 hap
  go_wp2
  refine bodyPost_ret (v := (.tuple #[Value.agg #[Value.bool (sgn (p / sgG p 1)), Value.slice d1 (lms (p / sgG p 1)).length f1, Value.bool (sgn (1 / sgG p 1)), Value.slice d2 (lms (1 / sgG p 1)).length f2], .bool true])) (by simp [results, Tryz.results29, go_sem, kr0, kr1, kr2, kr3]) rfl ?_
  have h1 := own_four' (lo := w.heap.size) HO1.out (show w.heap.size < _ by omega) (by omega) (Value.bool (sgn (p / sgG p 1))) (Value.slice d1 (lms (p / sgG p 1)).length f1) (Value.bool (sgn (1 / sgG p 1))) (Value.slice d2 (lms (1 / sgG p 1)).length f2)
  have h2 := own_four' (lo := w.heap.size) HO2.out (show w.heap.size < _ by omega) (by omega) (Value.bool (sgn (p / sgG p 1))) (Value.slice d1 (lms (p / sgG p 1)).length f1) (Value.bool (sgn (1 / sgG p 1))) (Value.slice d2 (lms (1 / sgG p 1)).length f2)
  exact raw_yes HO'.out HP.out rfl h1 h2 HAP.out (set_four (Nat.le_refl _) HB.out _ _ _ _)
end Go.Proofs.YtbcokpnhhjjedaaGreatDoor

/- Walks of l03Decimal at numbers with a point. -/
namespace Go.Proofs.YtbcokpnhhjjedaaGreatDoor
open Go.RowKit
set_option linter.unusedVariables false

set_option maxHeartbeats 4000000 in
set_option maxRecDepth 20000 in
theorem decY4 (A R : ByteArray) (E m : Nat) (n : Int) (o : Option (Nat × Nat)) (w : World) (hsz : A.size + R.size ≤ 400) (hE0 : E ≤ R.size) (hn : -1000 < n ∧ n < 1000) (hR : R.toList.isEmpty = false) (hr0 : 0 < R.size) (h46 : (R[0].toNat : Int) = 46) (hE : runN R 1 = E) (hE1 : 1 < E) (hq : (R.extract E R.size).toList.isEmpty = true) (hda : digAll (A ++ R.extract 1 E).data.toList = true) (hd4 : (A ++ R.extract 1 E).size ≤ 400) (hm : m ≤ 2000) (hm0 : 0 < m) (hK : 1 - (E : Int) = -(m : Int)) (ho : o = some (valN (A ++ R.extract 1 E).data.toList, 10 ^ m)) :
    Calls Tryz.prog 29 #[.string A, .string R] w fun e w' => RawAns o w w' e := by
  have HE' := hide hE
  have HDA' := hide hda
  have HO' := hide ho
  clear hE hda ho
  have hE1' : ¬ (E : Int) = 1 := by omega
  have hE1b : ((E : Int) == 1) = false := by rw [beq_eq_false_iff_ne]; omega
  have hE2' : (1 : Int) ≤ (E : Int) := by omega
  have hE3' : (E : Int) ≤ (R.size : Int) := by omega
  have kr0 : (w.alloc (Obj.cells #[Value.bool false, Value.slice none 0 0, Value.bool false, Value.slice none 0 0] 29)).cell? ⟨w.heap.size, 0, none⟩ = some (Value.bool false) := by go_simp
  have fr0 : (w.alloc (Obj.cells #[Value.bool false, Value.slice none 0 0, Value.bool false, Value.slice none 0 0] 29)).frozen? ⟨w.heap.size, 0, none⟩ = false := by go_simp
  have kr1 : (w.alloc (Obj.cells #[Value.bool false, Value.slice none 0 0, Value.bool false, Value.slice none 0 0] 29)).cell? ⟨w.heap.size, 1, none⟩ = some (Value.slice none 0 0) := by go_simp
  have fr1 : (w.alloc (Obj.cells #[Value.bool false, Value.slice none 0 0, Value.bool false, Value.slice none 0 0] 29)).frozen? ⟨w.heap.size, 1, none⟩ = false := by go_simp
  have kr2 : (w.alloc (Obj.cells #[Value.bool false, Value.slice none 0 0, Value.bool false, Value.slice none 0 0] 29)).cell? ⟨w.heap.size, 2, none⟩ = some (Value.bool false) := by go_simp
  have fr2 : (w.alloc (Obj.cells #[Value.bool false, Value.slice none 0 0, Value.bool false, Value.slice none 0 0] 29)).frozen? ⟨w.heap.size, 2, none⟩ = false := by go_simp
  have kr3 : (w.alloc (Obj.cells #[Value.bool false, Value.slice none 0 0, Value.bool false, Value.slice none 0 0] 29)).cell? ⟨w.heap.size, 3, none⟩ = some (Value.slice none 0 0) := by go_simp
  have fr3 : (w.alloc (Obj.cells #[Value.bool false, Value.slice none 0 0, Value.bool false, Value.slice none 0 0] 29)).frozen? ⟨w.heap.size, 3, none⟩ = false := by go_simp
  have zr : w.heap.size < (w.alloc (Obj.cells #[Value.bool false, Value.slice none 0 0, Value.bool false, Value.slice none 0 0] 29)).heap.size := by simp only [World.size_alloc]; omega
  have HB := hide (bl_alloc (bl_refl w) (Obj.cells #[Value.bool false, Value.slice none 0 0, Value.bool false, Value.slice none 0 0] 29))
  go_enter Tryz.func29, Tryz.ntmps29
  go_wp2_with fail
  generalize (w.alloc (Obj.cells #[Value.bool false, Value.slice none 0 0, Value.bool false, Value.slice none 0 0] 29)) = w1 at *
  have z0 := zr
  refine (runS R 1 _ (by omega) (by omega)).mono ?_
  rw [HE'.out]
  rintro e w' ⟨rfl, hw⟩
  subst w'
  go_wp2_with fail
  refine (digitsS (A ++ R.extract 1 E) _ HDA'.out hd4).mono ?_
  have hl1 : (lms (valN (A ++ R.extract 1 E).data.toList : Int)).length ≤ 200 := lms_short HDA'.out (by rw [bsize]; exact hd4)
  generalize valN (A ++ R.extract 1 E).data.toList = x at *
  rintro e w2 ⟨v1, rfl, ⟨a1, c1, rfl, ho1⟩, hb⟩
  have yw2 := hb.size
  replace kr0 := (hb.cell (p := ⟨w.heap.size, 0, none⟩) (by dsimp only; omega)).trans kr0
  replace fr0 := (hb.frozen (p := ⟨w.heap.size, 0, none⟩) (by dsimp only; omega)).trans fr0
  replace kr1 := (hb.cell (p := ⟨w.heap.size, 1, none⟩) (by dsimp only; omega)).trans kr1
  replace fr1 := (hb.frozen (p := ⟨w.heap.size, 1, none⟩) (by dsimp only; omega)).trans fr1
  replace kr2 := (hb.cell (p := ⟨w.heap.size, 2, none⟩) (by dsimp only; omega)).trans kr2
  replace fr2 := (hb.frozen (p := ⟨w.heap.size, 2, none⟩) (by dsimp only; omega)).trans fr2
  replace kr3 := (hb.cell (p := ⟨w.heap.size, 3, none⟩) (by dsimp only; omega)).trans kr3
  replace fr3 := (hb.frozen (p := ⟨w.heap.size, 3, none⟩) (by dsimp only; omega)).trans fr3
  replace zr := Nat.lt_of_lt_of_le zr hb.size
  replace HB := hide (bl_trans HB.out hb)
  clear hb
  have S1 := hide ho1.seg
  clear ho1
  go_wp2_with fail
  refine (tenS m _ hm).mono ?_
  have hl2 : (lms ((10 : Int) ^ m)).length ≤ 1001 := by have := ten_lenS (k := m) 1000 (by omega); rw [Int.natCast_pow] at this; exact this
  have HY : Hid ((10 : Int) ^ m = (((10 : Nat) ^ m : Nat) : Int)) := hide (Int.natCast_pow 10 m).symm
  have hy0 : (10 : Int) ^ m ≠ 0 := Int.pow_ne_zero (by decide)
  generalize (10 : Int) ^ m = y at *
  rintro e w3 ⟨v2, rfl, ⟨a2, c2, rfl, ho2⟩, hb⟩
  have yw3 := hb.size
  replace kr0 := (hb.cell (p := ⟨w.heap.size, 0, none⟩) (by dsimp only; omega)).trans kr0
  replace fr0 := (hb.frozen (p := ⟨w.heap.size, 0, none⟩) (by dsimp only; omega)).trans fr0
  replace kr1 := (hb.cell (p := ⟨w.heap.size, 1, none⟩) (by dsimp only; omega)).trans kr1
  replace fr1 := (hb.frozen (p := ⟨w.heap.size, 1, none⟩) (by dsimp only; omega)).trans fr1
  replace kr2 := (hb.cell (p := ⟨w.heap.size, 2, none⟩) (by dsimp only; omega)).trans kr2
  replace fr2 := (hb.frozen (p := ⟨w.heap.size, 2, none⟩) (by dsimp only; omega)).trans fr2
  replace kr3 := (hb.cell (p := ⟨w.heap.size, 3, none⟩) (by dsimp only; omega)).trans kr3
  replace fr3 := (hb.frozen (p := ⟨w.heap.size, 3, none⟩) (by dsimp only; omega)).trans fr3
  replace S1 := hide (S1.out.below hb)
  replace zr := Nat.lt_of_lt_of_le zr hb.size
  replace HB := hide (bl_trans HB.out hb)
  clear hb
  have S2 := hide ho2.seg
  clear ho2
  go_wp2_with fail
  refine (makeR x y a1 c1 a2 c2 _ S1.out S2.out hy0 (by omega) (by omega)).mono ?_
  rintro e w4 ⟨d1, f1, d2, f2, rfl, hu1, hu2, hap, hb⟩
  have yw4 := hb.size
  replace kr0 := (hb.cell (p := ⟨w.heap.size, 0, none⟩) (by dsimp only; omega)).trans kr0
  replace fr0 := (hb.frozen (p := ⟨w.heap.size, 0, none⟩) (by dsimp only; omega)).trans fr0
  replace kr1 := (hb.cell (p := ⟨w.heap.size, 1, none⟩) (by dsimp only; omega)).trans kr1
  replace fr1 := (hb.frozen (p := ⟨w.heap.size, 1, none⟩) (by dsimp only; omega)).trans fr1
  replace kr2 := (hb.cell (p := ⟨w.heap.size, 2, none⟩) (by dsimp only; omega)).trans kr2
  replace fr2 := (hb.frozen (p := ⟨w.heap.size, 2, none⟩) (by dsimp only; omega)).trans fr2
  replace kr3 := (hb.cell (p := ⟨w.heap.size, 3, none⟩) (by dsimp only; omega)).trans kr3
  replace fr3 := (hb.frozen (p := ⟨w.heap.size, 3, none⟩) (by dsimp only; omega)).trans fr3
  replace S1 := hide (S1.out.below hb)
  replace S2 := hide (S2.out.below hb)
  replace zr := Nat.lt_of_lt_of_le zr hb.size
  replace HB := hide (bl_trans HB.out hb)
  clear hb
  have HO1 := hide hu1
  have HO2 := hide hu2
  have HAP := hide hap
  clear hu1 hu2 hap
  go_wp2
  refine bodyPost_ret (v := (.tuple #[Value.agg #[Value.bool (sgn ((x : Int) / sgG (x : Int) y)), Value.slice d1 (lms ((x : Int) / sgG (x : Int) y)).length f1, Value.bool (sgn (y / sgG (x : Int) y)), Value.slice d2 (lms (y / sgG (x : Int) y)).length f2], .bool true])) (by simp [results, Tryz.results29, go_sem, kr0, kr1, kr2, kr3]) rfl ?_
  have h1 := own_four' (lo := w.heap.size) HO1.out (show w.heap.size < _ by omega) (by omega) (Value.bool (sgn ((x : Int) / sgG (x : Int) y))) (Value.slice d1 (lms ((x : Int) / sgG (x : Int) y)).length f1) (Value.bool (sgn (y / sgG (x : Int) y))) (Value.slice d2 (lms (y / sgG (x : Int) y)).length f2)
  have h2 := own_four' (lo := w.heap.size) HO2.out (show w.heap.size < _ by omega) (by omega) (Value.bool (sgn ((x : Int) / sgG (x : Int) y))) (Value.slice d1 (lms ((x : Int) / sgG (x : Int) y)).length f1) (Value.bool (sgn (y / sgG (x : Int) y))) (Value.slice d2 (lms (y / sgG (x : Int) y)).length f2)
  exact raw_yes HO'.out rfl HY.out h1 h2 HAP.out (set_four (Nat.le_refl _) HB.out _ _ _ _)

set_option maxHeartbeats 4000000 in
set_option maxRecDepth 20000 in
theorem decY5 (A R : ByteArray) (E m : Nat) (n : Int) (o : Option (Nat × Nat)) (w : World) (hsz : A.size + R.size ≤ 400) (hE0 : E ≤ R.size) (hn : -1000 < n ∧ n < 1000) (hR : R.toList.isEmpty = false) (hr0 : 0 < R.size) (h46 : (R[0].toNat : Int) = 46) (hE : runN R 1 = E) (hE1 : 1 < E) (hq : (R.extract E R.size).toList.isEmpty = false) (hq0 : 0 < (R.extract E R.size).size) (hq1 : 0 < (R.size - E)) (h101 : ((R.extract E R.size)[0].toNat : Int) = 101) (hexp : expV ((R.extract E R.size).extract 1 (R.size - E)).data.toList = some n) (hda : digAll (A ++ R.extract 1 E).data.toList = true) (hd4 : (A ++ R.extract 1 E).size ≤ 400) (hm : m ≤ 2000) (hm0 : 0 < m) (hK : 1 - (E : Int) + n = -(m : Int)) (ho : o = some (valN (A ++ R.extract 1 E).data.toList, 10 ^ m)) :
    Calls Tryz.prog 29 #[.string A, .string R] w fun e w' => RawAns o w w' e := by
  have HE' := hide hE
  have HEXP' := hide hexp
  have HDA' := hide hda
  have HO' := hide ho
  clear hE hexp hda ho
  have hE1' : ¬ (E : Int) = 1 := by omega
  have hE1b : ((E : Int) == 1) = false := by rw [beq_eq_false_iff_ne]; omega
  have hE2' : (1 : Int) ≤ (E : Int) := by omega
  have hE3' : (E : Int) ≤ (R.size : Int) := by omega
  have hq2 : (1 : Int) ≤ (((R.size - E) : Nat) : Int) := by omega
  have h101b : (((R.extract E R.size)[0].toNat : Int) != 101) = false := by rw [h101]; rfl
  have kr0 : (w.alloc (Obj.cells #[Value.bool false, Value.slice none 0 0, Value.bool false, Value.slice none 0 0] 29)).cell? ⟨w.heap.size, 0, none⟩ = some (Value.bool false) := by go_simp
  have fr0 : (w.alloc (Obj.cells #[Value.bool false, Value.slice none 0 0, Value.bool false, Value.slice none 0 0] 29)).frozen? ⟨w.heap.size, 0, none⟩ = false := by go_simp
  have kr1 : (w.alloc (Obj.cells #[Value.bool false, Value.slice none 0 0, Value.bool false, Value.slice none 0 0] 29)).cell? ⟨w.heap.size, 1, none⟩ = some (Value.slice none 0 0) := by go_simp
  have fr1 : (w.alloc (Obj.cells #[Value.bool false, Value.slice none 0 0, Value.bool false, Value.slice none 0 0] 29)).frozen? ⟨w.heap.size, 1, none⟩ = false := by go_simp
  have kr2 : (w.alloc (Obj.cells #[Value.bool false, Value.slice none 0 0, Value.bool false, Value.slice none 0 0] 29)).cell? ⟨w.heap.size, 2, none⟩ = some (Value.bool false) := by go_simp
  have fr2 : (w.alloc (Obj.cells #[Value.bool false, Value.slice none 0 0, Value.bool false, Value.slice none 0 0] 29)).frozen? ⟨w.heap.size, 2, none⟩ = false := by go_simp
  have kr3 : (w.alloc (Obj.cells #[Value.bool false, Value.slice none 0 0, Value.bool false, Value.slice none 0 0] 29)).cell? ⟨w.heap.size, 3, none⟩ = some (Value.slice none 0 0) := by go_simp
  have fr3 : (w.alloc (Obj.cells #[Value.bool false, Value.slice none 0 0, Value.bool false, Value.slice none 0 0] 29)).frozen? ⟨w.heap.size, 3, none⟩ = false := by go_simp
  have zr : w.heap.size < (w.alloc (Obj.cells #[Value.bool false, Value.slice none 0 0, Value.bool false, Value.slice none 0 0] 29)).heap.size := by simp only [World.size_alloc]; omega
  have HB := hide (bl_alloc (bl_refl w) (Obj.cells #[Value.bool false, Value.slice none 0 0, Value.bool false, Value.slice none 0 0] 29))
  go_enter Tryz.func29, Tryz.ntmps29
  go_wp2_with fail
  generalize (w.alloc (Obj.cells #[Value.bool false, Value.slice none 0 0, Value.bool false, Value.slice none 0 0] 29)) = w1 at *
  have z0 := zr
  refine (runS R 1 _ (by omega) (by omega)).mono ?_
  rw [HE'.out]
  rintro e w' ⟨rfl, hw⟩
  subst w'
  go_wp2_with fail
  refine (expS ((R.extract E R.size).extract 1 (R.size - E)) _ (by simp; omega)).mono ?_
  rw [HEXP'.out]
  rintro e w' ⟨rfl, hw⟩
  subst w'
  go_wp2_with fail
  refine (digitsS (A ++ R.extract 1 E) _ HDA'.out hd4).mono ?_
  have hl1 : (lms (valN (A ++ R.extract 1 E).data.toList : Int)).length ≤ 200 := lms_short HDA'.out (by rw [bsize]; exact hd4)
  generalize valN (A ++ R.extract 1 E).data.toList = x at *
  rintro e w2 ⟨v1, rfl, ⟨a1, c1, rfl, ho1⟩, hb⟩
  have yw2 := hb.size
  replace kr0 := (hb.cell (p := ⟨w.heap.size, 0, none⟩) (by dsimp only; omega)).trans kr0
  replace fr0 := (hb.frozen (p := ⟨w.heap.size, 0, none⟩) (by dsimp only; omega)).trans fr0
  replace kr1 := (hb.cell (p := ⟨w.heap.size, 1, none⟩) (by dsimp only; omega)).trans kr1
  replace fr1 := (hb.frozen (p := ⟨w.heap.size, 1, none⟩) (by dsimp only; omega)).trans fr1
  replace kr2 := (hb.cell (p := ⟨w.heap.size, 2, none⟩) (by dsimp only; omega)).trans kr2
  replace fr2 := (hb.frozen (p := ⟨w.heap.size, 2, none⟩) (by dsimp only; omega)).trans fr2
  replace kr3 := (hb.cell (p := ⟨w.heap.size, 3, none⟩) (by dsimp only; omega)).trans kr3
  replace fr3 := (hb.frozen (p := ⟨w.heap.size, 3, none⟩) (by dsimp only; omega)).trans fr3
  replace zr := Nat.lt_of_lt_of_le zr hb.size
  replace HB := hide (bl_trans HB.out hb)
  clear hb
  have S1 := hide ho1.seg
  clear ho1
  go_wp2_with fail
  refine (tenS m _ hm).mono ?_
  have hl2 : (lms ((10 : Int) ^ m)).length ≤ 1001 := by have := ten_lenS (k := m) 1000 (by omega); rw [Int.natCast_pow] at this; exact this
  have HY : Hid ((10 : Int) ^ m = (((10 : Nat) ^ m : Nat) : Int)) := hide (Int.natCast_pow 10 m).symm
  have hy0 : (10 : Int) ^ m ≠ 0 := Int.pow_ne_zero (by decide)
  generalize (10 : Int) ^ m = y at *
  rintro e w3 ⟨v2, rfl, ⟨a2, c2, rfl, ho2⟩, hb⟩
  have yw3 := hb.size
  replace kr0 := (hb.cell (p := ⟨w.heap.size, 0, none⟩) (by dsimp only; omega)).trans kr0
  replace fr0 := (hb.frozen (p := ⟨w.heap.size, 0, none⟩) (by dsimp only; omega)).trans fr0
  replace kr1 := (hb.cell (p := ⟨w.heap.size, 1, none⟩) (by dsimp only; omega)).trans kr1
  replace fr1 := (hb.frozen (p := ⟨w.heap.size, 1, none⟩) (by dsimp only; omega)).trans fr1
  replace kr2 := (hb.cell (p := ⟨w.heap.size, 2, none⟩) (by dsimp only; omega)).trans kr2
  replace fr2 := (hb.frozen (p := ⟨w.heap.size, 2, none⟩) (by dsimp only; omega)).trans fr2
  replace kr3 := (hb.cell (p := ⟨w.heap.size, 3, none⟩) (by dsimp only; omega)).trans kr3
  replace fr3 := (hb.frozen (p := ⟨w.heap.size, 3, none⟩) (by dsimp only; omega)).trans fr3
  replace S1 := hide (S1.out.below hb)
  replace zr := Nat.lt_of_lt_of_le zr hb.size
  replace HB := hide (bl_trans HB.out hb)
  clear hb
  have S2 := hide ho2.seg
  clear ho2
  go_wp2_with fail
  refine (makeR x y a1 c1 a2 c2 _ S1.out S2.out hy0 (by omega) (by omega)).mono ?_
  rintro e w4 ⟨d1, f1, d2, f2, rfl, hu1, hu2, hap, hb⟩
  have yw4 := hb.size
  replace kr0 := (hb.cell (p := ⟨w.heap.size, 0, none⟩) (by dsimp only; omega)).trans kr0
  replace fr0 := (hb.frozen (p := ⟨w.heap.size, 0, none⟩) (by dsimp only; omega)).trans fr0
  replace kr1 := (hb.cell (p := ⟨w.heap.size, 1, none⟩) (by dsimp only; omega)).trans kr1
  replace fr1 := (hb.frozen (p := ⟨w.heap.size, 1, none⟩) (by dsimp only; omega)).trans fr1
  replace kr2 := (hb.cell (p := ⟨w.heap.size, 2, none⟩) (by dsimp only; omega)).trans kr2
  replace fr2 := (hb.frozen (p := ⟨w.heap.size, 2, none⟩) (by dsimp only; omega)).trans fr2
  replace kr3 := (hb.cell (p := ⟨w.heap.size, 3, none⟩) (by dsimp only; omega)).trans kr3
  replace fr3 := (hb.frozen (p := ⟨w.heap.size, 3, none⟩) (by dsimp only; omega)).trans fr3
  replace S1 := hide (S1.out.below hb)
  replace S2 := hide (S2.out.below hb)
  replace zr := Nat.lt_of_lt_of_le zr hb.size
  replace HB := hide (bl_trans HB.out hb)
  clear hb
  have HO1 := hide hu1
  have HO2 := hide hu2
  have HAP := hide hap
  clear hu1 hu2 hap
  go_wp2
  refine bodyPost_ret (v := (.tuple #[Value.agg #[Value.bool (sgn ((x : Int) / sgG (x : Int) y)), Value.slice d1 (lms ((x : Int) / sgG (x : Int) y)).length f1, Value.bool (sgn (y / sgG (x : Int) y)), Value.slice d2 (lms (y / sgG (x : Int) y)).length f2], .bool true])) (by simp [results, Tryz.results29, go_sem, kr0, kr1, kr2, kr3]) rfl ?_
  have h1 := own_four' (lo := w.heap.size) HO1.out (show w.heap.size < _ by omega) (by omega) (Value.bool (sgn ((x : Int) / sgG (x : Int) y))) (Value.slice d1 (lms ((x : Int) / sgG (x : Int) y)).length f1) (Value.bool (sgn (y / sgG (x : Int) y))) (Value.slice d2 (lms (y / sgG (x : Int) y)).length f2)
  have h2 := own_four' (lo := w.heap.size) HO2.out (show w.heap.size < _ by omega) (by omega) (Value.bool (sgn ((x : Int) / sgG (x : Int) y))) (Value.slice d1 (lms ((x : Int) / sgG (x : Int) y)).length f1) (Value.bool (sgn (y / sgG (x : Int) y))) (Value.slice d2 (lms (y / sgG (x : Int) y)).length f2)
  exact raw_yes HO'.out rfl HY.out h1 h2 HAP.out (set_four (Nat.le_refl _) HB.out _ _ _ _)

set_option maxHeartbeats 4000000 in
set_option maxRecDepth 20000 in
theorem decY6 (A R : ByteArray) (E m : Nat) (n : Int) (o : Option (Nat × Nat)) (w : World) (hsz : A.size + R.size ≤ 400) (hE0 : E ≤ R.size) (hn : -1000 < n ∧ n < 1000) (hR : R.toList.isEmpty = false) (hr0 : 0 < R.size) (h46 : (R[0].toNat : Int) = 46) (hE : runN R 1 = E) (hE1 : 1 < E) (hq : (R.extract E R.size).toList.isEmpty = false) (hq0 : 0 < (R.extract E R.size).size) (hq1 : 0 < (R.size - E)) (h101 : ((R.extract E R.size)[0].toNat : Int) = 101) (hexp : expV ((R.extract E R.size).extract 1 (R.size - E)).data.toList = some n) (hda : digAll (A ++ R.extract 1 E).data.toList = true) (hd4 : (A ++ R.extract 1 E).size ≤ 400) (hm : m ≤ 2000) (hK : 1 - (E : Int) + n = (m : Int)) (ho : o = some (valN (A ++ R.extract 1 E).data.toList * 10 ^ m, 1)) :
    Calls Tryz.prog 29 #[.string A, .string R] w fun e w' => RawAns o w w' e := by
  have HE' := hide hE
  have HEXP' := hide hexp
  have HDA' := hide hda
  have HO' := hide ho
  clear hE hexp hda ho
  have hE1' : ¬ (E : Int) = 1 := by omega
  have hE1b : ((E : Int) == 1) = false := by rw [beq_eq_false_iff_ne]; omega
  have hE2' : (1 : Int) ≤ (E : Int) := by omega
  have hE3' : (E : Int) ≤ (R.size : Int) := by omega
  have hq2 : (1 : Int) ≤ (((R.size - E) : Nat) : Int) := by omega
  have h101b : (((R.extract E R.size)[0].toNat : Int) != 101) = false := by rw [h101]; rfl
  have kr0 : (w.alloc (Obj.cells #[Value.bool false, Value.slice none 0 0, Value.bool false, Value.slice none 0 0] 29)).cell? ⟨w.heap.size, 0, none⟩ = some (Value.bool false) := by go_simp
  have fr0 : (w.alloc (Obj.cells #[Value.bool false, Value.slice none 0 0, Value.bool false, Value.slice none 0 0] 29)).frozen? ⟨w.heap.size, 0, none⟩ = false := by go_simp
  have kr1 : (w.alloc (Obj.cells #[Value.bool false, Value.slice none 0 0, Value.bool false, Value.slice none 0 0] 29)).cell? ⟨w.heap.size, 1, none⟩ = some (Value.slice none 0 0) := by go_simp
  have fr1 : (w.alloc (Obj.cells #[Value.bool false, Value.slice none 0 0, Value.bool false, Value.slice none 0 0] 29)).frozen? ⟨w.heap.size, 1, none⟩ = false := by go_simp
  have kr2 : (w.alloc (Obj.cells #[Value.bool false, Value.slice none 0 0, Value.bool false, Value.slice none 0 0] 29)).cell? ⟨w.heap.size, 2, none⟩ = some (Value.bool false) := by go_simp
  have fr2 : (w.alloc (Obj.cells #[Value.bool false, Value.slice none 0 0, Value.bool false, Value.slice none 0 0] 29)).frozen? ⟨w.heap.size, 2, none⟩ = false := by go_simp
  have kr3 : (w.alloc (Obj.cells #[Value.bool false, Value.slice none 0 0, Value.bool false, Value.slice none 0 0] 29)).cell? ⟨w.heap.size, 3, none⟩ = some (Value.slice none 0 0) := by go_simp
  have fr3 : (w.alloc (Obj.cells #[Value.bool false, Value.slice none 0 0, Value.bool false, Value.slice none 0 0] 29)).frozen? ⟨w.heap.size, 3, none⟩ = false := by go_simp
  have zr : w.heap.size < (w.alloc (Obj.cells #[Value.bool false, Value.slice none 0 0, Value.bool false, Value.slice none 0 0] 29)).heap.size := by simp only [World.size_alloc]; omega
  have HB := hide (bl_alloc (bl_refl w) (Obj.cells #[Value.bool false, Value.slice none 0 0, Value.bool false, Value.slice none 0 0] 29))
  go_enter Tryz.func29, Tryz.ntmps29
  go_wp2_with fail
  generalize (w.alloc (Obj.cells #[Value.bool false, Value.slice none 0 0, Value.bool false, Value.slice none 0 0] 29)) = w1 at *
  have z0 := zr
  refine (runS R 1 _ (by omega) (by omega)).mono ?_
  rw [HE'.out]
  rintro e w' ⟨rfl, hw⟩
  subst w'
  go_wp2_with fail
  refine (expS ((R.extract E R.size).extract 1 (R.size - E)) _ (by simp; omega)).mono ?_
  rw [HEXP'.out]
  rintro e w' ⟨rfl, hw⟩
  subst w'
  go_wp2_with fail
  refine (digitsS (A ++ R.extract 1 E) _ HDA'.out hd4).mono ?_
  have hl1 : (lms (valN (A ++ R.extract 1 E).data.toList : Int)).length ≤ 200 := lms_short HDA'.out (by rw [bsize]; exact hd4)
  generalize valN (A ++ R.extract 1 E).data.toList = x at *
  rintro e w2 ⟨v1, rfl, ⟨a1, c1, rfl, ho1⟩, hb⟩
  have yw2 := hb.size
  replace kr0 := (hb.cell (p := ⟨w.heap.size, 0, none⟩) (by dsimp only; omega)).trans kr0
  replace fr0 := (hb.frozen (p := ⟨w.heap.size, 0, none⟩) (by dsimp only; omega)).trans fr0
  replace kr1 := (hb.cell (p := ⟨w.heap.size, 1, none⟩) (by dsimp only; omega)).trans kr1
  replace fr1 := (hb.frozen (p := ⟨w.heap.size, 1, none⟩) (by dsimp only; omega)).trans fr1
  replace kr2 := (hb.cell (p := ⟨w.heap.size, 2, none⟩) (by dsimp only; omega)).trans kr2
  replace fr2 := (hb.frozen (p := ⟨w.heap.size, 2, none⟩) (by dsimp only; omega)).trans fr2
  replace kr3 := (hb.cell (p := ⟨w.heap.size, 3, none⟩) (by dsimp only; omega)).trans kr3
  replace fr3 := (hb.frozen (p := ⟨w.heap.size, 3, none⟩) (by dsimp only; omega)).trans fr3
  replace zr := Nat.lt_of_lt_of_le zr hb.size
  replace HB := hide (bl_trans HB.out hb)
  clear hb
  have S1 := hide ho1.seg
  clear ho1
  go_wp2_with fail
  refine (tenS m _ hm).mono ?_
  have hl2 : (lms ((10 : Int) ^ m)).length ≤ 1001 := by have := ten_lenS (k := m) 1000 (by omega); rw [Int.natCast_pow] at this; exact this
  have HY : Hid ((10 : Int) ^ m = (((10 : Nat) ^ m : Nat) : Int)) := hide (Int.natCast_pow 10 m).symm
  have hy0 : (10 : Int) ^ m ≠ 0 := Int.pow_ne_zero (by decide)
  generalize (10 : Int) ^ m = y at *
  rintro e w3 ⟨v2, rfl, ⟨a2, c2, rfl, ho2⟩, hb⟩
  have yw3 := hb.size
  replace kr0 := (hb.cell (p := ⟨w.heap.size, 0, none⟩) (by dsimp only; omega)).trans kr0
  replace fr0 := (hb.frozen (p := ⟨w.heap.size, 0, none⟩) (by dsimp only; omega)).trans fr0
  replace kr1 := (hb.cell (p := ⟨w.heap.size, 1, none⟩) (by dsimp only; omega)).trans kr1
  replace fr1 := (hb.frozen (p := ⟨w.heap.size, 1, none⟩) (by dsimp only; omega)).trans fr1
  replace kr2 := (hb.cell (p := ⟨w.heap.size, 2, none⟩) (by dsimp only; omega)).trans kr2
  replace fr2 := (hb.frozen (p := ⟨w.heap.size, 2, none⟩) (by dsimp only; omega)).trans fr2
  replace kr3 := (hb.cell (p := ⟨w.heap.size, 3, none⟩) (by dsimp only; omega)).trans kr3
  replace fr3 := (hb.frozen (p := ⟨w.heap.size, 3, none⟩) (by dsimp only; omega)).trans fr3
  replace S1 := hide (S1.out.below hb)
  replace zr := Nat.lt_of_lt_of_le zr hb.size
  replace HB := hide (bl_trans HB.out hb)
  clear hb
  have S2 := hide ho2.seg
  clear ho2
  go_wp2_with fail
  refine (mulS (.agg #[.bool (sgn (x : Int)), .slice a1 (lms (x : Int)).length c1]) (.agg #[.bool (sgn y), .slice a2 (lms y).length c2]) x y _ ⟨a1, c1, rfl, S1.out⟩ ⟨a2, c2, rfl, S2.out⟩ (by omega) (by omega)).mono ?_
  have hl3 : (lms ((x : Int) * y)).length ≤ 1201 := len_mulI hl1 hl2
  have HP : Hid ((x : Int) * y = ((x * 10 ^ m : Nat) : Int)) := hide (by rw [HY.out, Int.natCast_mul])
  generalize (x : Int) * y = p at *
  rintro e w4 ⟨v3, rfl, ⟨a3, c3, rfl, ho3⟩, hb⟩
  have yw4 := hb.size
  replace kr0 := (hb.cell (p := ⟨w.heap.size, 0, none⟩) (by dsimp only; omega)).trans kr0
  replace fr0 := (hb.frozen (p := ⟨w.heap.size, 0, none⟩) (by dsimp only; omega)).trans fr0
  replace kr1 := (hb.cell (p := ⟨w.heap.size, 1, none⟩) (by dsimp only; omega)).trans kr1
  replace fr1 := (hb.frozen (p := ⟨w.heap.size, 1, none⟩) (by dsimp only; omega)).trans fr1
  replace kr2 := (hb.cell (p := ⟨w.heap.size, 2, none⟩) (by dsimp only; omega)).trans kr2
  replace fr2 := (hb.frozen (p := ⟨w.heap.size, 2, none⟩) (by dsimp only; omega)).trans fr2
  replace kr3 := (hb.cell (p := ⟨w.heap.size, 3, none⟩) (by dsimp only; omega)).trans kr3
  replace fr3 := (hb.frozen (p := ⟨w.heap.size, 3, none⟩) (by dsimp only; omega)).trans fr3
  replace S1 := hide (S1.out.below hb)
  replace S2 := hide (S2.out.below hb)
  replace zr := Nat.lt_of_lt_of_le zr hb.size
  replace HB := hide (bl_trans HB.out hb)
  clear hb
  have S3 := hide ho3.seg
  clear ho3
  go_wp2_with fail
  refine (fromS 1 _ (by decide) (by decide)).mono ?_
  rintro e w5 ⟨v4, rfl, ⟨a4, c4, rfl, ho4⟩, hb⟩
  have yw5 := hb.size
  replace kr0 := (hb.cell (p := ⟨w.heap.size, 0, none⟩) (by dsimp only; omega)).trans kr0
  replace fr0 := (hb.frozen (p := ⟨w.heap.size, 0, none⟩) (by dsimp only; omega)).trans fr0
  replace kr1 := (hb.cell (p := ⟨w.heap.size, 1, none⟩) (by dsimp only; omega)).trans kr1
  replace fr1 := (hb.frozen (p := ⟨w.heap.size, 1, none⟩) (by dsimp only; omega)).trans fr1
  replace kr2 := (hb.cell (p := ⟨w.heap.size, 2, none⟩) (by dsimp only; omega)).trans kr2
  replace fr2 := (hb.frozen (p := ⟨w.heap.size, 2, none⟩) (by dsimp only; omega)).trans fr2
  replace kr3 := (hb.cell (p := ⟨w.heap.size, 3, none⟩) (by dsimp only; omega)).trans kr3
  replace fr3 := (hb.frozen (p := ⟨w.heap.size, 3, none⟩) (by dsimp only; omega)).trans fr3
  replace S1 := hide (S1.out.below hb)
  replace S2 := hide (S2.out.below hb)
  replace S3 := hide (S3.out.below hb)
  replace zr := Nat.lt_of_lt_of_le zr hb.size
  replace HB := hide (bl_trans HB.out hb)
  clear hb
  have S4 := hide ho4.seg
  clear ho4
  go_wp2_with fail
  refine (makeR p 1 a3 c3 a4 c4 _ S3.out S4.out (by decide) (by omega) (Nat.le_trans (Num.limbs_len.2 (show (1 : Int).natAbs < 4294967296 ^ 1 by decide)) (by decide))).mono ?_
  rintro e w6 ⟨d1, f1, d2, f2, rfl, hu1, hu2, hap, hb⟩
  have yw6 := hb.size
  replace kr0 := (hb.cell (p := ⟨w.heap.size, 0, none⟩) (by dsimp only; omega)).trans kr0
  replace fr0 := (hb.frozen (p := ⟨w.heap.size, 0, none⟩) (by dsimp only; omega)).trans fr0
  replace kr1 := (hb.cell (p := ⟨w.heap.size, 1, none⟩) (by dsimp only; omega)).trans kr1
  replace fr1 := (hb.frozen (p := ⟨w.heap.size, 1, none⟩) (by dsimp only; omega)).trans fr1
  replace kr2 := (hb.cell (p := ⟨w.heap.size, 2, none⟩) (by dsimp only; omega)).trans kr2
  replace fr2 := (hb.frozen (p := ⟨w.heap.size, 2, none⟩) (by dsimp only; omega)).trans fr2
  replace kr3 := (hb.cell (p := ⟨w.heap.size, 3, none⟩) (by dsimp only; omega)).trans kr3
  replace fr3 := (hb.frozen (p := ⟨w.heap.size, 3, none⟩) (by dsimp only; omega)).trans fr3
  replace S1 := hide (S1.out.below hb)
  replace S2 := hide (S2.out.below hb)
  replace S3 := hide (S3.out.below hb)
  replace S4 := hide (S4.out.below hb)
  replace zr := Nat.lt_of_lt_of_le zr hb.size
  replace HB := hide (bl_trans HB.out hb)
  clear hb
  have HO1 := hide hu1
  have HO2 := hide hu2
  have HAP := hide hap
  clear hu1 hu2 hap
  go_wp2
  refine bodyPost_ret (v := (.tuple #[Value.agg #[Value.bool (sgn (p / sgG p 1)), Value.slice d1 (lms (p / sgG p 1)).length f1, Value.bool (sgn (1 / sgG p 1)), Value.slice d2 (lms (1 / sgG p 1)).length f2], .bool true])) (by simp [results, Tryz.results29, go_sem, kr0, kr1, kr2, kr3]) rfl ?_
  have h1 := own_four' (lo := w.heap.size) HO1.out (show w.heap.size < _ by omega) (by omega) (Value.bool (sgn (p / sgG p 1))) (Value.slice d1 (lms (p / sgG p 1)).length f1) (Value.bool (sgn (1 / sgG p 1))) (Value.slice d2 (lms (1 / sgG p 1)).length f2)
  have h2 := own_four' (lo := w.heap.size) HO2.out (show w.heap.size < _ by omega) (by omega) (Value.bool (sgn (p / sgG p 1))) (Value.slice d1 (lms (p / sgG p 1)).length f1) (Value.bool (sgn (1 / sgG p 1))) (Value.slice d2 (lms (1 / sgG p 1)).length f2)
  exact raw_yes HO'.out HP.out rfl h1 h2 HAP.out (set_four (Nat.le_refl _) HB.out _ _ _ _)
end Go.Proofs.YtbcokpnhhjjedaaGreatDoor

/- l03Decimal of the specification at any digits and any rest. -/
namespace Go.Proofs.YtbcokpnhhjjedaaGreatDoor
open Go.RowKit
set_option linter.unusedVariables false

theorem ext_list (s : ByteArray) (a b : Nat) : (s.extract a b).data.toList = (s.data.toList.drop a).take (b - a) := by
  rw [ByteArray.data_extract, Array.toList_extract, List.extract_eq_take_drop]
theorem ext_tail (s : ByteArray) (a : Nat) : (s.extract a s.size).data.toList = s.data.toList.drop a := by
  rw [ext_list, List.take_of_length_le]
  rw [List.length_drop, bsize]
  exact Nat.le_refl _
theorem app_list (a b : ByteArray) : (a ++ b).data.toList = a.data.toList ++ b.data.toList := by
  rw [ByteArray.data_append, Array.toList_append]
theorem tw_take (p : UInt8 → Bool) (l : List UInt8) : l.take (l.takeWhile p).length = l.takeWhile p := by
  have h := List.takeWhile_append_dropWhile (p := p) (l := l)
  have : (l.takeWhile p ++ l.dropWhile p).take (l.takeWhile p).length = l.takeWhile p := List.take_left
  rw [h] at this; exact this
theorem tw_drop (p : UInt8 → Bool) (l : List UInt8) : l.drop (l.takeWhile p).length = l.dropWhile p := by
  have h := List.takeWhile_append_dropWhile (p := p) (l := l)
  have : (l.takeWhile p ++ l.dropWhile p).drop (l.takeWhile p).length = l.dropWhile p := List.drop_left
  rw [h] at this; exact this
theorem tw_dig (l : List UInt8) : digAll (l.takeWhile dg) = true := by
  rw [all_dg]; exact List.all_takeWhile
theorem emp_of {s : ByteArray} (h : s.size = 0) : s.toList.isEmpty = true := by
  have := size_nil s
  rw [decide_eq_false (by simpa using h)] at this
  simpa using this
theorem emp_no {s : ByteArray} (h : 0 < s.size) : s.toList.isEmpty = false := by
  have := size_nil s
  rw [decide_eq_true (by omega)] at this
  simpa using this
theorem head_of (s : ByteArray) (h : 0 < s.size) : s.data.toList = s[0] :: s.data.toList.drop 1 := by
  have := drop_at s 0 h
  rw [List.drop_zero] at this; exact this
theorem b_no {c d : UInt8} (h : c ≠ d) : ((c.toNat : Int) == (d.toNat : Int)) = false := by
  rw [beq_eq_false_iff_ne]
  exact fun e => h (UInt8.toNat_inj.1 (by omega))
theorem decV_neg {ds : List UInt8} {k : Int} (h : k < 0) : decV ds k = (valN ds, 10 ^ (-k).toNat) := if_pos h
theorem decV_pos {ds : List UInt8} {k : Int} (h : ¬ k < 0) : decV ds k = (valN ds * 10 ^ k.toNat, 1) := if_neg h
theorem size_app' (a b : ByteArray) : (a ++ b).size = a.size + b.size := ByteArray.size_append
theorem size_pos {s : ByteArray} {c : UInt8} {t : List UInt8} (h : s.data.toList = c :: t) : 0 < s.size := by rw [← bsize, h]; simp
theorem get_head {s : ByteArray} {c : UInt8} {t : List UInt8} (h : s.data.toList = c :: t) (hp : 0 < s.size) : s[0] = c := by
  have := head_of s hp
  rw [h] at this
  exact (List.cons.inj this).1.symm
theorem ext_one {s : ByteArray} {c : UInt8} {t : List UInt8} (h : s.data.toList = c :: t) : (s.extract 1 s.size).data.toList = t := by
  rw [ext_tail, h]; rfl

set_option maxHeartbeats 1000000 in
theorem decimalS (A R : ByteArray) (w : World) (hda : digAll A.data.toList = true) (hsz : A.size + R.size ≤ 400) :
    Calls Tryz.prog 29 #[.string A, .string R] w fun e w' => RawAns (decS' A.data.toList R.data.toList) w w' e := by
  have n0 : (-1000 : Int) < 0 ∧ (0 : Int) < 1000 := by omega
  cases hl : R.data.toList with
  | nil =>
    have h0 : R.size = 0 := by rw [← bsize, hl]; rfl
    exact decY1 A R 0 0 0 _ w hsz (Nat.zero_le _) n0 (emp_of h0) hda (by omega) (Nat.zero_le _) rfl
  | cons c t =>
    have hp := size_pos hl
    have hc := get_head hl hp
    have he := ext_one hl
    by_cases h46 : c = 46
    · have h46i : (R[0].toNat : Int) = 46 := by rw [hc, h46]; rfl
      have hdt : R.data.toList.drop 1 = t := by rw [hl]; rfl
      have hE : runN R 1 = 1 + (t.takeWhile dg).length := by unfold runN; rw [hdt]
      have hEs := run_le (s := R) (k := 1) hp
      have hs : decS' A.data.toList (c :: t) = if t.takeWhile dg = [] then none else endS (A.data.toList ++ t.takeWhile dg) (-((t.takeWhile dg).length : Int)) (t.dropWhile dg) := by simp only [decS']; rw [if_pos h46]
      rw [hs]
      by_cases hP : t.takeWhile dg = []
      · rw [if_pos hP]
        exact decN1 A R (runN R 1) 0 0 _ w hsz hEs.2 n0 (emp_no hp) hp h46i rfl (by rw [hE, hP]; rfl) rfl
      · rw [if_neg hP]
        have hPl : 0 < (t.takeWhile dg).length := List.length_pos_iff.2 hP
        obtain ⟨E, hEe⟩ : ∃ E, runN R 1 = E := ⟨_, rfl⟩
        rw [hEe] at hE hEs
        have hPL : ((t.takeWhile dg).length : Int) = (E : Int) - 1 := by omega
        have hX : (R.extract 1 E).data.toList = t.takeWhile dg := by
          rw [ext_list, hdt, show E - 1 = (t.takeWhile dg).length by omega, tw_take]
        have hXA : (A ++ R.extract 1 E).data.toList = A.data.toList ++ t.takeWhile dg := by rw [app_list, hX]
        have hXd : digAll (A ++ R.extract 1 E).data.toList = true := by rw [hXA]; exact digAll_app hda (tw_dig t)
        have hXs : (A ++ R.extract 1 E).size ≤ 400 := by
          rw [size_app', ByteArray.size_extract]; omega
        have hY : (R.extract E R.size).data.toList = t.dropWhile dg := by
          rw [ext_tail, show E = 1 + (t.takeWhile dg).length by omega, ← List.drop_drop, hdt, tw_drop]
        have hYs : (R.extract E R.size).size = R.size - E := by rw [ByteArray.size_extract]; omega
        rw [← hXA]
        cases hr : t.dropWhile dg with
        | nil =>
          have h0 : (R.extract E R.size).size = 0 := by rw [← bsize, hY, hr]; rfl
          have hk : (-((t.takeWhile dg).length : Int)) < 0 := by omega
          show Calls _ _ _ _ fun e w' => RawAns (some (decV _ _)) w w' e
          rw [decV_neg hk]
          exact decY4 A R E (- -((t.takeWhile dg).length : Int)).toNat 0 _ w hsz hEs.2 n0 (emp_no hp) hp h46i hEe (by omega) (emp_of h0) hXd hXs (by omega) (by omega) (by omega) rfl
        | cons c2 t2 =>
          rw [hr] at hY
          have hp2 := size_pos hY
          have hc2 := get_head hY hp2
          have he2 : ((R.extract E R.size).extract 1 (R.size - E)).data.toList = t2 := by rw [← hYs]; exact ext_one hY
          have hq1 : 0 < R.size - E := by omega
          by_cases h101 : c2 = 101
          · have h101i : ((R.extract E R.size)[0].toNat : Int) = 101 := by rw [hc2, h101]; rfl
            have hs2 : endS (A ++ R.extract 1 E).data.toList (-((t.takeWhile dg).length : Int)) (c2 :: t2) = (expV t2).bind fun n => some (decV (A ++ R.extract 1 E).data.toList (-((t.takeWhile dg).length : Int) + n)) := by simp only [endS]; rw [if_pos h101]
            rw [hs2]
            cases hx : expV t2 with
            | none => exact decN5 A R E 0 0 _ w hsz hEs.2 n0 (emp_no hp) hp h46i hEe (by omega) (emp_no hp2) hp2 hq1 h101i (by rw [he2]; exact hx) rfl
            | some n =>
              have hn := exp_small hx
              show Calls _ _ _ _ fun e w' => RawAns (some (decV _ _)) w w' e
              by_cases hk : -((t.takeWhile dg).length : Int) + n < 0
              · rw [decV_neg hk]
                exact decY5 A R E (-(-((t.takeWhile dg).length : Int) + n)).toNat n _ w hsz hEs.2 hn (emp_no hp) hp h46i hEe (by omega) (emp_no hp2) hp2 hq1 h101i (by rw [he2]; exact hx) hXd hXs (by omega) (by omega) (by omega) rfl
              · rw [decV_pos hk]
                exact decY6 A R E (-((t.takeWhile dg).length : Int) + n).toNat n _ w hsz hEs.2 hn (emp_no hp) hp h46i hEe (by omega) (emp_no hp2) hp2 hq1 h101i (by rw [he2]; exact hx) hXd hXs (by omega) (by omega) rfl
          · have hs2 : endS (A ++ R.extract 1 E).data.toList (-((t.takeWhile dg).length : Int)) (c2 :: t2) = none := by simp only [endS]; rw [if_neg h101]
            rw [hs2]
            exact decN4 A R E 0 0 _ w hsz hEs.2 n0 (emp_no hp) hp h46i hEe (by omega) (emp_no hp2) hp2 hq1 (by rw [hc2]; exact b_no (d := 101) h101) rfl
    · have h46i : ((R[0].toNat : Int) == 46) = false := by rw [hc]; exact b_no (d := 46) h46
      have hs : decS' A.data.toList (c :: t) = endS A.data.toList 0 (c :: t) := by simp only [decS']; rw [if_neg h46]
      rw [hs]
      by_cases h101 : c = 101
      · have h101i : (R[0].toNat : Int) = 101 := by rw [hc, h101]; rfl
        have hs2 : endS A.data.toList 0 (c :: t) = (expV t).bind fun n => some (decV A.data.toList (0 + n)) := by simp only [endS]; rw [if_pos h101]
        rw [hs2]
        cases hx : expV t with
        | none => exact decN3 A R 0 0 0 _ w hsz (Nat.zero_le _) n0 (emp_no hp) hp hp h46i h101i (by rw [he]; exact hx) rfl
        | some n =>
          have hn := exp_small hx
          show Calls _ _ _ _ fun e w' => RawAns (some (decV _ _)) w w' e
          rw [Int.zero_add]
          by_cases hk : n < 0
          · rw [decV_neg hk]
            exact decY2 A R 0 (-n).toNat n _ w hsz (Nat.zero_le _) hn (emp_no hp) hp hp h46i h101i (by rw [he]; exact hx) hda (by omega) (by omega) (by omega) (by omega) rfl
          · rw [decV_pos hk]
            exact decY3 A R 0 n.toNat n _ w hsz (Nat.zero_le _) hn (emp_no hp) hp hp h46i h101i (by rw [he]; exact hx) hda (by omega) (by omega) (by omega) rfl
      · have hs2 : endS A.data.toList 0 (c :: t) = none := by simp only [endS]; rw [if_neg h101]
        rw [hs2]
        exact decN2 A R 0 0 0 _ w hsz (Nat.zero_le _) n0 (emp_no hp) hp hp h46i (by rw [hc]; exact b_no (d := 101) h101) rfl
end Go.Proofs.YtbcokpnhhjjedaaGreatDoor

/- ReadRat of the program at any text. -/
namespace Go.Proofs.YtbcokpnhhjjedaaGreatDoor
open Go.RowKit
set_option linter.unusedVariables false

/-- what the program reads -/
def rrO (s : ByteArray) : Option (Nat × Nat) := if 400 < s.size then none else rrI (rdD s).data.toList
theorem ans_same {t t' : Bool} {x y x' y' : Int} {w w' : World} {e : Ending} (h : rtT t x y = false) (h' : rtT t' x' y' = false) (ha : RatAns t x y w w' e) : RatAns t' x' y' w w' e := by
  have h1 : rtN t x y = rtN t' x' y' := by unfold rtN; rw [h, h']; rfl
  have h2 : rtD t x y = rtD t' x' y' := by unfold rtD; rw [h, h']; rfl
  unfold RatAns at ha ⊢
  rw [h, h1, h2] at ha
  rw [h']
  exact ha
theorem rt_off (x y : Int) : rtT false x y = false := rfl
theorem rt_nul (t : Bool) (x : Int) : rtT t x 0 = false := by cases t <;> rfl
set_option maxHeartbeats 2000000 in
set_option maxRecDepth 20000 in
theorem readG1 (s : ByteArray) (ng : Bool) (dd N D : List UInt8) (st : Bool) (t : Bool) (x y : Int) (w : World) (hm : Mx w) (hs : s.size ≤ 400) (hg : rdNeg s = ng) (hd : rdD s = ⟨dd.toArray⟩) (hl : dd.length ≤ 400) (hc : Lib.cut dd [47] = (N, D, st)) (hst : st = false) (h1 : (decI dd).isSome = t) (h2 : gotN ng (decI dd) = x) (h3 : gotD (decI dd) = y) :
    Calls Tryz.prog 12 #[.string s] w fun e w' => RatAns t x y w w' e := by
  have HN := hide hg
  have HD := hide hd
  have hs' : ¬ (400 : Int) < (s.size : Int) := by omega
  have HSZ : Hid ((⟨dd.toArray⟩ : ByteArray).size = dd.length) := hide (by rw [← bsize])
  subst hst
  have HA := hide (And.intro h1 (And.intro h2 h3))
  clear h1 h2 h3
  have HC := hide hc
  clear hg hd hc
  have kr0 : (w.alloc (Obj.cells #[Value.bool false, Value.slice none 0 0, Value.bool false, Value.slice none 0 0] 29)).cell? ⟨w.heap.size, 0, none⟩ = some (Value.bool false) := by go_simp
  have fr0 : (w.alloc (Obj.cells #[Value.bool false, Value.slice none 0 0, Value.bool false, Value.slice none 0 0] 29)).frozen? ⟨w.heap.size, 0, none⟩ = false := by go_simp
  have kr1 : (w.alloc (Obj.cells #[Value.bool false, Value.slice none 0 0, Value.bool false, Value.slice none 0 0] 29)).cell? ⟨w.heap.size, 1, none⟩ = some (Value.slice none 0 0) := by go_simp
  have fr1 : (w.alloc (Obj.cells #[Value.bool false, Value.slice none 0 0, Value.bool false, Value.slice none 0 0] 29)).frozen? ⟨w.heap.size, 1, none⟩ = false := by go_simp
  have kr2 : (w.alloc (Obj.cells #[Value.bool false, Value.slice none 0 0, Value.bool false, Value.slice none 0 0] 29)).cell? ⟨w.heap.size, 2, none⟩ = some (Value.bool false) := by go_simp
  have fr2 : (w.alloc (Obj.cells #[Value.bool false, Value.slice none 0 0, Value.bool false, Value.slice none 0 0] 29)).frozen? ⟨w.heap.size, 2, none⟩ = false := by go_simp
  have kr3 : (w.alloc (Obj.cells #[Value.bool false, Value.slice none 0 0, Value.bool false, Value.slice none 0 0] 29)).cell? ⟨w.heap.size, 3, none⟩ = some (Value.slice none 0 0) := by go_simp
  have fr3 : (w.alloc (Obj.cells #[Value.bool false, Value.slice none 0 0, Value.bool false, Value.slice none 0 0] 29)).frozen? ⟨w.heap.size, 3, none⟩ = false := by go_simp
  have zr : w.heap.size < (w.alloc (Obj.cells #[Value.bool false, Value.slice none 0 0, Value.bool false, Value.slice none 0 0] 29)).heap.size := by simp only [World.size_alloc]; omega
  have HB := hide (bl_alloc (bl_refl w) (Obj.cells #[Value.bool false, Value.slice none 0 0, Value.bool false, Value.slice none 0 0] 29))
  have HM := hide (hm.below HB.out)
  clear hm
  go_enter Tryz.func12, Tryz.ntmps12
  go_wp2_with fail
  generalize w.alloc (Obj.cells #[Value.bool false, Value.slice none 0 0, Value.bool false, Value.slice none 0 0] 29) = W0 at *
  refine (cutPre s _ _).mono ?_
  rintro e w1 ⟨rfl, hw⟩
  subst w1
  rw [show ({ data := #[45] } : ByteArray).data.toList = [45] from rfl, show (⟨(Lib.trimPrefix s.data.toList [45]).toArray⟩ : ByteArray) = rdD s from rfl, show Lib.hasPrefix s.data.toList [45] = rdNeg s from rfl, HN.out, HD.out]
  go_wp2_with fail
  refine (cutI _ 47 _ (by rw [HSZ.out]; omega) HM.out).mono ?_
  rw [show (⟨dd.toArray⟩ : ByteArray).data.toList = dd from rfl, HC.out]
  rintro e w2 ⟨rfl, hb⟩
  replace kr0 := (hb.cell (p := ⟨w.heap.size, 0, none⟩) zr).trans kr0
  replace fr0 := (hb.frozen (p := ⟨w.heap.size, 0, none⟩) zr).trans fr0
  replace kr1 := (hb.cell (p := ⟨w.heap.size, 1, none⟩) zr).trans kr1
  replace fr1 := (hb.frozen (p := ⟨w.heap.size, 1, none⟩) zr).trans fr1
  replace kr2 := (hb.cell (p := ⟨w.heap.size, 2, none⟩) zr).trans kr2
  replace fr2 := (hb.frozen (p := ⟨w.heap.size, 2, none⟩) zr).trans fr2
  replace kr3 := (hb.cell (p := ⟨w.heap.size, 3, none⟩) zr).trans kr3
  replace fr3 := (hb.frozen (p := ⟨w.heap.size, 3, none⟩) zr).trans fr3
  replace zr := Nat.lt_of_lt_of_le zr hb.size
  replace HM := hide (HM.out.below hb)
  replace HB := hide (bl_trans HB.out hb)
  clear hb
  go_wp2_with fail
  have HQ := hide (readDecG ng ⟨dd.toArray⟩ w2 (by rw [HSZ.out]; exact hl) HM.out)
  rw [show (⟨dd.toArray⟩ : ByteArray).data.toList = dd from rfl, HA.out.1, HA.out.2.1, HA.out.2.2] at HQ
  refine HQ.out.mono ?_
  unfold RatAns
  obtain ⟨X, hX⟩ : ∃ X, rtN t x y = X := ⟨_, rfl⟩
  obtain ⟨Y, hY⟩ : ∃ Y, rtD t x y = Y := ⟨_, rfl⟩
  obtain ⟨F, hF⟩ : ∃ F, rtT t x y = F := ⟨_, rfl⟩
  rw [hX, hY, hF]
  have HXY := hide (And.intro hX (And.intro hY hF))
  clear hX hY hF
  rintro e w3 ⟨b1, e1, b2, e2, rfl, ho1, ho2, hap, hb⟩
  have zr2 := zr
  have HO1 := hide ho1
  have HO2 := hide ho2
  have HAP := hide hap
  clear ho1 ho2 hap
  replace kr0 := (hb.cell (p := ⟨w.heap.size, 0, none⟩) zr).trans kr0
  replace fr0 := (hb.frozen (p := ⟨w.heap.size, 0, none⟩) zr).trans fr0
  replace kr1 := (hb.cell (p := ⟨w.heap.size, 1, none⟩) zr).trans kr1
  replace fr1 := (hb.frozen (p := ⟨w.heap.size, 1, none⟩) zr).trans fr1
  replace kr2 := (hb.cell (p := ⟨w.heap.size, 2, none⟩) zr).trans kr2
  replace fr2 := (hb.frozen (p := ⟨w.heap.size, 2, none⟩) zr).trans fr2
  replace kr3 := (hb.cell (p := ⟨w.heap.size, 3, none⟩) zr).trans kr3
  replace fr3 := (hb.frozen (p := ⟨w.heap.size, 3, none⟩) zr).trans fr3
  replace zr := Nat.lt_of_lt_of_le zr hb.size
  replace HB := hide (bl_trans HB.out hb)
  clear hb
  go_wp2
  refine bodyPost_ret (v := .tuple #[.agg #[.bool (sgn X), .slice b1 (lms X).length e1, .bool (sgn Y), .slice b2 (lms Y).length e2], .bool F]) (by simp [results, Tryz.results12, go_sem, *]) rfl ?_
  have h1 := own_four' (lo := w.heap.size) HO1.out (show w.heap.size < _ by omega) (by omega) (Value.bool (sgn X)) (Value.slice b1 (lms X).length e1) (Value.bool (sgn Y)) (Value.slice b2 (lms Y).length e2)
  have h2 := own_four' (lo := w.heap.size) HO2.out (show w.heap.size < _ by omega) (by omega) (Value.bool (sgn X)) (Value.slice b1 (lms X).length e1) (Value.bool (sgn Y)) (Value.slice b2 (lms Y).length e2)
  show RatAns t x y w _ _
  unfold RatAns
  rw [HXY.out.1, HXY.out.2.1, HXY.out.2.2]
  exact ⟨b1, e1, b2, e2, rfl, h1, h2, HAP.out, set_four (Nat.le_refl _) HB.out _ _ _ _⟩

set_option maxHeartbeats 2000000 in
set_option maxRecDepth 20000 in
theorem readG2 (s : ByteArray) (ng : Bool) (dd N D : List UInt8) (st : Bool) (t : Bool) (x y : Int) (w : World) (hm : Mx w) (hs : s.size ≤ 400) (hg : rdNeg s = ng) (hd : rdD s = ⟨dd.toArray⟩) (hl : dd.length ≤ 400) (hc : Lib.cut dd [47] = (N, D, st)) (hst : st = true) (hN : N.length ≤ 400) (hD : D.length ≤ 400) (h1 : (digOk ⟨N.toArray⟩ && digOk ⟨D.toArray⟩) = t) (h2 : mk ng (valN N) = x) (h3 : mk false (valN D) = y) :
    Calls Tryz.prog 12 #[.string s] w fun e w' => RatAns t x y w w' e := by
  have HN := hide hg
  have HD := hide hd
  have hs' : ¬ (400 : Int) < (s.size : Int) := by omega
  have HSZ : Hid ((⟨dd.toArray⟩ : ByteArray).size = dd.length) := hide (by rw [← bsize])
  subst hst
  have HA := hide (And.intro h1 (And.intro h2 h3))
  clear h1 h2 h3
  have HC := hide hc
  clear hg hd hc
  have kr0 : (w.alloc (Obj.cells #[Value.bool false, Value.slice none 0 0, Value.bool false, Value.slice none 0 0] 29)).cell? ⟨w.heap.size, 0, none⟩ = some (Value.bool false) := by go_simp
  have fr0 : (w.alloc (Obj.cells #[Value.bool false, Value.slice none 0 0, Value.bool false, Value.slice none 0 0] 29)).frozen? ⟨w.heap.size, 0, none⟩ = false := by go_simp
  have kr1 : (w.alloc (Obj.cells #[Value.bool false, Value.slice none 0 0, Value.bool false, Value.slice none 0 0] 29)).cell? ⟨w.heap.size, 1, none⟩ = some (Value.slice none 0 0) := by go_simp
  have fr1 : (w.alloc (Obj.cells #[Value.bool false, Value.slice none 0 0, Value.bool false, Value.slice none 0 0] 29)).frozen? ⟨w.heap.size, 1, none⟩ = false := by go_simp
  have kr2 : (w.alloc (Obj.cells #[Value.bool false, Value.slice none 0 0, Value.bool false, Value.slice none 0 0] 29)).cell? ⟨w.heap.size, 2, none⟩ = some (Value.bool false) := by go_simp
  have fr2 : (w.alloc (Obj.cells #[Value.bool false, Value.slice none 0 0, Value.bool false, Value.slice none 0 0] 29)).frozen? ⟨w.heap.size, 2, none⟩ = false := by go_simp
  have kr3 : (w.alloc (Obj.cells #[Value.bool false, Value.slice none 0 0, Value.bool false, Value.slice none 0 0] 29)).cell? ⟨w.heap.size, 3, none⟩ = some (Value.slice none 0 0) := by go_simp
  have fr3 : (w.alloc (Obj.cells #[Value.bool false, Value.slice none 0 0, Value.bool false, Value.slice none 0 0] 29)).frozen? ⟨w.heap.size, 3, none⟩ = false := by go_simp
  have zr : w.heap.size < (w.alloc (Obj.cells #[Value.bool false, Value.slice none 0 0, Value.bool false, Value.slice none 0 0] 29)).heap.size := by simp only [World.size_alloc]; omega
  have HB := hide (bl_alloc (bl_refl w) (Obj.cells #[Value.bool false, Value.slice none 0 0, Value.bool false, Value.slice none 0 0] 29))
  have HM := hide (hm.below HB.out)
  clear hm
  go_enter Tryz.func12, Tryz.ntmps12
  go_wp2_with fail
  generalize w.alloc (Obj.cells #[Value.bool false, Value.slice none 0 0, Value.bool false, Value.slice none 0 0] 29) = W0 at *
  refine (cutPre s _ _).mono ?_
  rintro e w1 ⟨rfl, hw⟩
  subst w1
  rw [show ({ data := #[45] } : ByteArray).data.toList = [45] from rfl, show (⟨(Lib.trimPrefix s.data.toList [45]).toArray⟩ : ByteArray) = rdD s from rfl, show Lib.hasPrefix s.data.toList [45] = rdNeg s from rfl, HN.out, HD.out]
  go_wp2_with fail
  refine (cutI _ 47 _ (by rw [HSZ.out]; omega) HM.out).mono ?_
  rw [show (⟨dd.toArray⟩ : ByteArray).data.toList = dd from rfl, HC.out]
  rintro e w2 ⟨rfl, hb⟩
  replace kr0 := (hb.cell (p := ⟨w.heap.size, 0, none⟩) zr).trans kr0
  replace fr0 := (hb.frozen (p := ⟨w.heap.size, 0, none⟩) zr).trans fr0
  replace kr1 := (hb.cell (p := ⟨w.heap.size, 1, none⟩) zr).trans kr1
  replace fr1 := (hb.frozen (p := ⟨w.heap.size, 1, none⟩) zr).trans fr1
  replace kr2 := (hb.cell (p := ⟨w.heap.size, 2, none⟩) zr).trans kr2
  replace fr2 := (hb.frozen (p := ⟨w.heap.size, 2, none⟩) zr).trans fr2
  replace kr3 := (hb.cell (p := ⟨w.heap.size, 3, none⟩) zr).trans kr3
  replace fr3 := (hb.frozen (p := ⟨w.heap.size, 3, none⟩) zr).trans fr3
  replace zr := Nat.lt_of_lt_of_le zr hb.size
  replace HM := hide (HM.out.below hb)
  replace HB := hide (bl_trans HB.out hb)
  clear hb
  go_wp2_with fail
  refine (readQuotG ng ⟨N.toArray⟩ ⟨D.toArray⟩ x y _ (by rw [← bsize]; exact hN) (by rw [← bsize]; exact hD) HA.out.2.1 HA.out.2.2 t HA.out.1).mono ?_
  unfold RatAns
  obtain ⟨X, hX⟩ : ∃ X, rtN t x y = X := ⟨_, rfl⟩
  obtain ⟨Y, hY⟩ : ∃ Y, rtD t x y = Y := ⟨_, rfl⟩
  obtain ⟨F, hF⟩ : ∃ F, rtT t x y = F := ⟨_, rfl⟩
  rw [hX, hY, hF]
  have HXY := hide (And.intro hX (And.intro hY hF))
  clear hX hY hF
  rintro e w3 ⟨b1, e1, b2, e2, rfl, ho1, ho2, hap, hb⟩
  have zr2 := zr
  have HO1 := hide ho1
  have HO2 := hide ho2
  have HAP := hide hap
  clear ho1 ho2 hap
  replace kr0 := (hb.cell (p := ⟨w.heap.size, 0, none⟩) zr).trans kr0
  replace fr0 := (hb.frozen (p := ⟨w.heap.size, 0, none⟩) zr).trans fr0
  replace kr1 := (hb.cell (p := ⟨w.heap.size, 1, none⟩) zr).trans kr1
  replace fr1 := (hb.frozen (p := ⟨w.heap.size, 1, none⟩) zr).trans fr1
  replace kr2 := (hb.cell (p := ⟨w.heap.size, 2, none⟩) zr).trans kr2
  replace fr2 := (hb.frozen (p := ⟨w.heap.size, 2, none⟩) zr).trans fr2
  replace kr3 := (hb.cell (p := ⟨w.heap.size, 3, none⟩) zr).trans kr3
  replace fr3 := (hb.frozen (p := ⟨w.heap.size, 3, none⟩) zr).trans fr3
  replace zr := Nat.lt_of_lt_of_le zr hb.size
  replace HB := hide (bl_trans HB.out hb)
  clear hb
  go_wp2
  refine bodyPost_ret (v := .tuple #[.agg #[.bool (sgn X), .slice b1 (lms X).length e1, .bool (sgn Y), .slice b2 (lms Y).length e2], .bool F]) (by simp [results, Tryz.results12, go_sem, *]) rfl ?_
  have h1 := own_four' (lo := w.heap.size) HO1.out (show w.heap.size < _ by omega) (by omega) (Value.bool (sgn X)) (Value.slice b1 (lms X).length e1) (Value.bool (sgn Y)) (Value.slice b2 (lms Y).length e2)
  have h2 := own_four' (lo := w.heap.size) HO2.out (show w.heap.size < _ by omega) (by omega) (Value.bool (sgn X)) (Value.slice b1 (lms X).length e1) (Value.bool (sgn Y)) (Value.slice b2 (lms Y).length e2)
  show RatAns t x y w _ _
  unfold RatAns
  rw [HXY.out.1, HXY.out.2.1, HXY.out.2.2]
  exact ⟨b1, e1, b2, e2, rfl, h1, h2, HAP.out, set_four (Nat.le_refl _) HB.out _ _ _ _⟩

set_option maxHeartbeats 2000000 in
set_option maxRecDepth 20000 in
theorem readG0 (s : ByteArray) (x y : Int) (w : World) (hs : 400 < s.size) (hs2 : s.size ≤ 4611686018427387904) :
    Calls Tryz.prog 12 #[.string s] w fun e w' => RatAns false x y w w' e := by
  have hs' : (400 : Int) < (s.size : Int) := by omega
  have kr0 : (w.alloc (Obj.cells #[Value.bool false, Value.slice none 0 0, Value.bool false, Value.slice none 0 0] 29)).cell? ⟨w.heap.size, 0, none⟩ = some (Value.bool false) := by go_simp
  have fr0 : (w.alloc (Obj.cells #[Value.bool false, Value.slice none 0 0, Value.bool false, Value.slice none 0 0] 29)).frozen? ⟨w.heap.size, 0, none⟩ = false := by go_simp
  have kr1 : (w.alloc (Obj.cells #[Value.bool false, Value.slice none 0 0, Value.bool false, Value.slice none 0 0] 29)).cell? ⟨w.heap.size, 1, none⟩ = some (Value.slice none 0 0) := by go_simp
  have fr1 : (w.alloc (Obj.cells #[Value.bool false, Value.slice none 0 0, Value.bool false, Value.slice none 0 0] 29)).frozen? ⟨w.heap.size, 1, none⟩ = false := by go_simp
  have kr2 : (w.alloc (Obj.cells #[Value.bool false, Value.slice none 0 0, Value.bool false, Value.slice none 0 0] 29)).cell? ⟨w.heap.size, 2, none⟩ = some (Value.bool false) := by go_simp
  have fr2 : (w.alloc (Obj.cells #[Value.bool false, Value.slice none 0 0, Value.bool false, Value.slice none 0 0] 29)).frozen? ⟨w.heap.size, 2, none⟩ = false := by go_simp
  have kr3 : (w.alloc (Obj.cells #[Value.bool false, Value.slice none 0 0, Value.bool false, Value.slice none 0 0] 29)).cell? ⟨w.heap.size, 3, none⟩ = some (Value.slice none 0 0) := by go_simp
  have fr3 : (w.alloc (Obj.cells #[Value.bool false, Value.slice none 0 0, Value.bool false, Value.slice none 0 0] 29)).frozen? ⟨w.heap.size, 3, none⟩ = false := by go_simp
  have zr : w.heap.size < (w.alloc (Obj.cells #[Value.bool false, Value.slice none 0 0, Value.bool false, Value.slice none 0 0] 29)).heap.size := by simp only [World.size_alloc]; omega
  have HB := hide (bl_alloc (bl_refl w) (Obj.cells #[Value.bool false, Value.slice none 0 0, Value.bool false, Value.slice none 0 0] 29))
  go_enter Tryz.func12, Tryz.ntmps12
  go_wp2
  refine bodyPost_ret (v := .tuple #[.agg #[.bool false, .slice none 0 0, .bool false, .slice none 0 0], .bool false]) (by simp [results, Tryz.results12, go_sem, *]) rfl ?_
  exact ans_no rfl HB.out

theorem readRatG (s : ByteArray) (w : World) (hm : Mx w) (hs2 : s.size ≤ 4611686018427387904) :
    Calls Tryz.prog 12 #[.string s] w fun e w' => RatAns (rrO s).isSome (gotN (rdNeg s) (rrO s)) (gotD (rrO s)) w w' e := by
  by_cases hs : 400 < s.size
  · have e0 : rrO s = none := if_pos hs
    rw [e0]
    exact readG0 s _ _ w hs hs2
  · have e0 : rrO s = rrI (rdD s).data.toList := if_neg hs
    have hl : (rdD s).data.toList.length ≤ 400 := by
      have := trim_len s.data.toList
      rw [bsize] at this
      show (Lib.trimPrefix s.data.toList [45]).length ≤ 400
      omega
    have hd : rdD s = ⟨(rdD s).data.toList.toArray⟩ := by rw [Array.toArray_toList]
    rw [e0]
    generalize (rdD s).data.toList = dd at hl hd
    obtain ⟨N, D, st, hc⟩ : ∃ N D st, Lib.cut dd [47] = (N, D, st) := ⟨_, _, _, rfl⟩
    have hll := cut_len dd 47
    rw [hc] at hll
    cases st with
    | false =>
      have e1 : rrI dd = decI dd := by unfold rrI; rw [hc]; rfl
      rw [e1]
      exact readG1 s _ dd N D false _ _ _ w hm (by omega) rfl hd hl hc rfl rfl rfl rfl
    | true =>
      have e1 : rrI dd = if (digL N && (digL D && decide (valN D ≠ 0))) = true then some (valN N, valN D) else none := by unfold rrI; rw [hc]; rfl
      have key := readG2 s _ dd N D true _ _ _ w hm (by omega) rfl hd hl hc rfl (Nat.le_trans hll.1 hl) (Nat.le_trans hll.2 hl) rfl rfl rfl
      rw [digOk_L, digOk_L] at key
      rw [e1]
      by_cases h0 : valN D = 0
      · rw [decide_eq_false (by simpa using h0), Bool.and_false, Bool.and_false, if_neg (by decide)]
        refine key.mono fun e w' ha => ?_
        rw [h0] at ha
        exact ans_same (rt_nul _ _) (rt_off _ _) ha
      · rw [decide_eq_true h0, Bool.and_true]
        cases hb : (digL N && digL D) with
        | true =>
          rw [hb] at key
          rw [if_pos rfl]
          exact key
        | false =>
          rw [hb] at key
          rw [if_neg (by decide)]
          exact key.mono fun e w' ha => ans_same (rt_off _ _) (rt_off _ _) ha
end Go.Proofs.YtbcokpnhhjjedaaGreatDoor
