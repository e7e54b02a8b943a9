/- My texts RdC, RdL, RdK, in this order. -/
import Derived.Test.YtkemplmhemnpbaaGreatDoorRdI
import Derived.Test.YtkemplmhemnpbaaGreatDoorPk03
import Derived.Test.YtkemplmhemnpbaaGreatDoorPk08
import Derived.Lib.Strings
import Derived.Lib.Slices
import Derived.Lib.Walk
/- The walks of strings.CutPrefix, and what a numeral says. -/
namespace Go.Proofs.YtkemplmhemnpbaaGreatDoor
open Go.RowKit
set_option linter.unusedVariables false

set_option maxHeartbeats 1000000 in
theorem cutPre (s p : ByteArray) (w : World) :
    Calls Tryz.prog 49 #[.string s, .string p] w fun e w' => e = .returned (.tuple #[.string ⟨(Lib.trimPrefix s.data.toList p.data.toList).toArray⟩, .bool (Lib.hasPrefix s.data.toList p.data.toList)]) ∧ w' = w := by
  go_enter Tryz.func49, Tryz.ntmps49
  go_wp2
  · have h2 : (!((s.extract 0 p.size).toList == p.toList)) = true := by assumption
    have h3 : (decide (p.size ≤ s.size) && ((s.extract 0 p.size).toList == p.toList)) = false := by
      have : ((s.extract 0 p.size).toList == p.toList) = false := by simpa using h2
      rw [this]
      simp
    go_ret2
    refine ⟨?_, rfl⟩
    rw [Lib.trimPrefix_miss s p h3, ← Lib.hasPrefix_raw, h3]
    rfl
  · have h1 : p.size ≤ s.size := by assumption
    have h2 : (!((s.extract 0 p.size).toList == p.toList)) = false := by assumption
    have h2' : ((s.extract 0 p.size).toList == p.toList) = true := by simpa using h2
    go_ret2
    refine ⟨?_, rfl⟩
    rw [Lib.trimPrefix_hit s p h1 h2', ← Lib.hasPrefix_raw, h2', decide_eq_true h1]
    rfl
  · have h1 : ¬ p.size ≤ s.size := by assumption
    have h3 : (decide (p.size ≤ s.size) && ((s.extract 0 p.size).toList == p.toList)) = false := by simp [h1]
    go_ret2
    refine ⟨?_, rfl⟩
    rw [Lib.trimPrefix_miss s p h3, ← Lib.hasPrefix_raw, h3]
    rfl

/-- what stands behind a minus, or all; whether there is one -/
def rdNeg (s : ByteArray) : Bool := Lib.hasPrefix s.data.toList [45]
def rdD (s : ByteArray) : ByteArray := ⟨(Lib.trimPrefix s.data.toList [45]).toArray⟩
/-- the number that is read -/
def rdV (s : ByteArray) : Int := mk (rdNeg s) (valN (rdD s).data.toList)
/-- a nought stands ahead -/
def rdLead (s : ByteArray) : Bool := decide ((rdD s).data.toList.head? = some 48) && !(s.data.toList == [48])
def rdOk (s : ByteArray) : Bool := decide (s.size ≤ 400) && (digOk (rdD s) && !rdLead s)
def rdZ (s : ByteArray) : Int := if rdOk s then fitZ (rdV s) else 0
def rdF (s : ByteArray) : Bool := rdOk s && fits (rdV s)
theorem rd_no {s : ByteArray} (h : rdOk s = false) : rdZ s = 0 ∧ rdF s = false := by unfold rdZ rdF; rw [h]; exact ⟨rfl, rfl⟩
theorem rd_yes {s : ByteArray} (h : rdOk s = true) : rdZ s = fitZ (rdV s) ∧ rdF s = fits (rdV s) := by unfold rdZ rdF; rw [h]; exact ⟨rfl, Bool.true_and _⟩
theorem rdD_size (s : ByteArray) : (rdD s).size ≤ s.size := by
  have : (rdD s).size = (Lib.trimPrefix s.data.toList [45]).length := by rw [← bsize]; rfl
  rw [this, ← bsize s]
  unfold Lib.trimPrefix; split
  · rw [List.length_drop]; omega
  · exact Nat.le_refl _
end Go.Proofs.YtkemplmhemnpbaaGreatDoor

/- Plain facts on numerals read: a text is its number's numeral just where it is digits behind a minus or none, with no nought ahead. -/
namespace Go.Proofs.YtkemplmhemnpbaaGreatDoor
open Go.RowKit
set_option linter.unusedVariables false

theorem rd_cut (s : ByteArray) : s.data.toList = if rdNeg s then 45 :: (rdD s).data.toList else (rdD s).data.toList := by
  have e : (rdD s).data.toList = Lib.trimPrefix s.data.toList [45] := rfl
  unfold rdNeg
  rw [e]
  unfold Lib.trimPrefix
  cases h : Lib.hasPrefix s.data.toList [45] with
  | false => simp
  | true =>
    simp only [if_true]
    unfold Lib.hasPrefix at h
    cases hl : s.data.toList with
    | nil => rw [hl] at h; simp at h
    | cons c t =>
      rw [hl] at h
      simp at h
      simp [h]
theorem lead_iff (d : List UInt8) (h : d ≠ []) : noLead d = true ↔ (decide (d.head? = some 48) && !(d == [48])) = false := by
  cases d with
  | nil => exact absurd rfl h
  | cons c t =>
    cases t with
    | nil =>
      simp only [noLead, List.head?_cons, Option.some.injEq, true_iff]
      by_cases hc : c = 48
      · subst hc; rfl
      · rw [decide_eq_false hc]; rfl
    | cons b r =>
      simp only [noLead, List.head?_cons, Option.some.injEq, bne_iff_ne, ne_eq]
      have e : ((c :: b :: r) == [48]) = false := by simp
      rw [e]
      by_cases hc : c = 48
      · simp [hc]
      · simp [hc]
theorem text_iff {s : ByteArray} (hd : digAll (rdD s).data.toList = true) (hn : (rdD s).data.toList ≠ []) : (itB (rdV s)).data.toList = s.data.toList ↔ rdLead s = false := by
  have hc := rd_cut s
  have hv := dec_val _ hd
  have hp := (val_digits _ hd).2.1
  rw [valI_N _ hd] at hp
  unfold rdV rdLead
  generalize (rdD s).data.toList = d at *
  cases h : rdNeg s with
  | false =>
    rw [h, if_neg (by simp)] at hc
    have e : itB (mk false (valN d)) = itB (valN d : Int) := rfl
    rw [e, it_pos (by simp [sgn]), Int.natAbs_natCast, hc, hv]
    exact lead_iff d hn
  | true =>
    rw [h, if_pos rfl] at hc
    rw [hc]
    have e0 : ((45 :: d : List UInt8) == [48]) = false := by simp
    rw [e0, Bool.not_false, Bool.and_true]
    have em : mk true (valN d) = -(valN d : Int) := rfl
    rw [em]
    by_cases hz : valN d = 0
    · have hh : d.head? = some 48 := Classical.byContradiction fun hc => by
        have := hp hc hn
        omega
      rw [hh, hz]
      have e1 : (itB (-((0 : Nat) : Int))).data.toList = [48] := by rw [show (-((0 : Nat) : Int)) = 0 from rfl, it_zero]
      rw [e1]; simp
    · have e1 : (itB (-(valN d : Int))).data.toList = 45 :: Lib.decDigits (valN d) := by
        rw [it_neg (by simp [sgn]; omega)]; simp
      rw [e1]
      simp only [List.cons.injEq, true_and]
      rw [hv]
      cases d with
      | nil => exact absurd rfl hn
      | cons c t =>
        cases t with
        | nil =>
          simp only [noLead, List.head?_cons, Option.some.injEq, true_iff, decide_eq_false_iff_not]
          intro hc; subst hc; exact hz rfl
        | cons b r => simp [noLead]
end Go.Proofs.YtkemplmhemnpbaaGreatDoor

/- A number comes back from its numeral. -/
namespace Go.Proofs.YtkemplmhemnpbaaGreatDoor
open Go.RowKit
set_option linter.unusedVariables false

theorem dig_of (m : Nat) : (UInt8.ofNat (48 + m % 10)).toNat = 48 + m % 10 := by
  rw [UInt8.toNat_ofNat']; omega
theorem dec_digs (m : Nat) : digAll (Lib.decDigits m) = true := by
  induction m using Nat.strongRecOn with
  | ind m ih =>
    have hd (c : UInt8) (h1 : 48 ≤ c.toNat) (h2 : c.toNat ≤ 57) : digitB (c.toNat : Int) = true := by
      simp only [digitB, Bool.and_eq_true, decide_eq_true_eq]; omega
    by_cases h : m < 10
    · rw [Lib.decDigits_one h]
      have := dig_of m
      rw [Nat.mod_eq_of_lt h] at this
      simp only [digAll, List.all_cons, List.all_nil, Bool.and_true]
      exact hd _ (by omega) (by omega)
    · rw [TxN.dec_step h]
      have := ih (m / 10) (by omega)
      have e := dig_of m
      simp only [digAll, List.all_append, List.all_cons, List.all_nil, Bool.and_true, Bool.and_eq_true] at *
      exact ⟨this, hd _ (by omega) (by omega)⟩
theorem val_dec (m : Nat) : valN (Lib.decDigits m) = m := by
  induction m using Nat.strongRecOn with
  | ind m ih =>
    by_cases h : m < 10
    · rw [Lib.decDigits_one h]
      have := dig_of m
      rw [Nat.mod_eq_of_lt h] at this
      show 10 * 0 + ((UInt8.ofNat (48 + m)).toNat - 48) = m
      omega
    · rw [TxN.dec_step h, valN_snoc, ih (m / 10) (by omega), dig_of]; omega
theorem dec_len78 {n k m : Nat} (hk : k = 8 * m) (hm : 0 < m) (h : n < 4294967296 ^ k) : (Lib.decDigits n).length ≤ 78 * m := by
  obtain ⟨j, hj⟩ : ∃ j, 78 * m = j + 1 := ⟨78 * m - 1, by omega⟩
  rw [hj]
  refine TxN.dec_len_le j n ?_
  rw [← hj, Nat.pow_mul]
  subst hk
  rw [Nat.pow_mul] at h
  exact Nat.lt_of_lt_of_le h (Nat.pow_le_pow_left (by decide) m)
theorem dec_ne (m : Nat) : Lib.decDigits m ≠ [] := fun e => by
  have := TxN.dec_pos m
  rw [e] at this; simp at this
theorem rd_parts (z : Int) : rdNeg (itB z) = sgn z ∧ (rdD (itB z)).data.toList = Lib.decDigits z.natAbs := by
  have hc := rd_cut (itB z)
  cases hg : sgn z with
  | true =>
    have e := it_neg hg
    have hn : rdNeg (itB z) = true := by unfold rdNeg Lib.hasPrefix; rw [e]; simp
    rw [hn, if_pos rfl, e] at hc
    exact ⟨hn, (List.cons.inj hc).2.symm⟩
  | false =>
    have e := it_pos hg
    have hn : rdNeg (itB z) = false := by
      unfold rdNeg Lib.hasPrefix; rw [e]
      have hd := dec_digs z.natAbs
      cases hl : Lib.decDigits z.natAbs with
      | nil => rfl
      | cons c t =>
        rw [hl] at hd
        simp only [digAll, List.all_cons, Bool.and_eq_true] at hd
        have := dig_bounds hd.1
        simp only [List.isPrefixOf]
        have hne : (45 == c) = false := by
          rw [beq_eq_false_iff_ne]; intro e; rw [← e] at this; exact absurd this.1 (by decide)
        rw [hne]; rfl
    rw [hn, if_neg (by simp), e] at hc
    exact ⟨hn, hc.symm⟩
theorem rd_back {z : Int} (h : fits z = true) : rdZ (itB z) = z ∧ rdF (itB z) = true := by
  obtain ⟨h1, h2⟩ := rd_parts z
  have hv : rdV (itB z) = z := by unfold rdV; rw [h1, h2, val_dec, mk_self]
  have hd : digAll (rdD (itB z)).data.toList = true := by rw [h2]; exact dec_digs _
  have hne : (rdD (itB z)).data.toList ≠ [] := by rw [h2]; exact dec_ne _
  have hl : rdLead (itB z) = false := (text_iff hd hne).1 (by rw [hv])
  have hlen := dec_len78 (k := 40) (m := 5) rfl (by decide) (of_decide_eq_true h)
  have hsz : (itB z).size ≤ 400 := by
    rw [← bsize]
    cases hg : sgn z with
    | true => rw [it_neg hg, List.length_cons]; omega
    | false => rw [it_pos hg]; omega
  have hsd : (rdD (itB z)).size ≠ 0 := fun e => hne (List.eq_nil_of_length_eq_zero (by rw [bsize]; exact e))
  have hok : rdOk (itB z) = true := by
    unfold rdOk digOk
    rw [decide_eq_true hsz, hd, decide_eq_true hsd, hl]; rfl
  rw [(rd_yes hok).1, (rd_yes hok).2, hv, fitZ, h]; exact ⟨rfl, rfl⟩
end Go.Proofs.YtkemplmhemnpbaaGreatDoor
