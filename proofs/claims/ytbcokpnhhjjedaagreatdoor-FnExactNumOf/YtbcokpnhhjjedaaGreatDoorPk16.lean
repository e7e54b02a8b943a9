/- My texts RrN, RrP, RnS, in this order. -/
import Derived.Test.YtbcokpnhhjjedaaGreatDoorPk10
import Derived.Test.YtbcokpnhhjjedaaGreatDoorTxC
import Derived.Test.YtbcokpnhhjjedaaGreatDoorPk01
import Derived.Test.YtbcokpnhhjjedaaGreatDoorTx
import Derived.Test.YtbcokpnhhjjedaaGreatDoorPk14
import Derived.Test.YtbcokpnhhjjedaaGreatDoorPk15
import Derived.Test.YtbcokpnhhjjedaaGreatDoorPk02
import Derived.Test.YtbcokpnhhjjedaaGreatDoorBits
import Derived.Test.YtbcokpnhhjjedaaGreatDoorPk13
import Derived.Test.YtbcokpnhhjjedaaGreatDoorPk03
import Derived.Test.YtbcokpnhhjjedaaGreatDoorPk04
import Derived.Lib.IndexMore
import Derived.Test.YtbcokpnhhjjedaaGreatDoorRdSz
/- Plain facts on texts cut at a byte, and on a fraction's text. -/
namespace Go.Proofs.YtbcokpnhhjjedaaGreatDoor
open Go.RowKit
set_option linter.unusedVariables false

theorem idx_none (c : UInt8) : ∀ l : List UInt8, c ∉ l → Lib.index l [c] = -1
  | [], _ => rfl
  | b :: l, h => by
    have hb : c ≠ b := fun e => h (by rw [e]; exact List.mem_cons_self)
    have hl := idx_none c l (fun hm => h (List.mem_cons_of_mem _ hm))
    unfold Lib.index
    rw [hl]
    simp [List.isPrefixOf, hb]
theorem idx_mid (c : UInt8) : ∀ a b : List UInt8, c ∉ a → Lib.index (a ++ c :: b) [c] = a.length
  | [], b, _ => by show Lib.index (c :: b) [c] = _; unfold Lib.index; simp [List.isPrefixOf]
  | x :: a, b, h => by
    have hx : c ≠ x := fun e => h (by rw [e]; exact List.mem_cons_self)
    have hl := idx_mid c a b (fun hm => h (List.mem_cons_of_mem _ hm))
    show Lib.index (x :: (a ++ c :: b)) [c] = _
    unfold Lib.index
    rw [hl]
    have : ((a.length : Int) == -1) = false := by rw [beq_eq_false_iff_ne]; omega
    simp [List.isPrefixOf, hx, this]
theorem cut_none {c : UInt8} {l : List UInt8} (h : c ∉ l) : Lib.cut l [c] = (l, [], false) := by
  unfold Lib.cut; rw [idx_none c l h, if_neg (by omega)]
theorem cut_mid {c : UInt8} {a b : List UInt8} (h : c ∉ a) : Lib.cut (a ++ c :: b) [c] = (a, b, true) := by
  unfold Lib.cut; rw [idx_mid c a b h, if_pos (by omega)]
  simp
end Go.Proofs.YtbcokpnhhjjedaaGreatDoor

/- Plain facts on a fraction's text: to cut it at a stroke, an e and a point says what reading its digits from the left says; nothing of the program stands here. -/
namespace Go.Proofs.YtbcokpnhhjjedaaGreatDoor
open Go
set_option linter.unusedVariables false

def dg (c : UInt8) : Bool := digitB (c.toNat : Int)
theorem all_dg (l : List UInt8) : digAll l = l.all dg := rfl
/-- digits alone, and one at least -/
def digL (l : List UInt8) : Bool := digAll l && decide (l ≠ [])
/-- what stands behind an e -/
def expV (t : List UInt8) : Option Int :=
  if (digL (Lib.trimPrefix t [45]) && decide ((Lib.trimPrefix t [45]).length ≤ 3)) = true then some (if Lib.hasPrefix t [45] then -(valN (Lib.trimPrefix t [45]) : Int) else (valN (Lib.trimPrefix t [45]) : Int)) else none
/-- digits, and as many places -/
def decV (ds : List UInt8) (k : Int) : Nat × Nat := if k < 0 then (valN ds, 10 ^ (-k).toNat) else (valN ds * 10 ^ k.toNat, 1)
/-- a number cut at its point -/
def ptI (num : List UInt8) (k : Int) : Option (Nat × Nat) :=
  if (digL (Lib.cut num [46]).1 && (!(Lib.cut num [46]).2.2 || digL (Lib.cut num [46]).2.1)) = true then some (decV ((Lib.cut num [46]).1 ++ (Lib.cut num [46]).2.1) (k - (Lib.cut num [46]).2.1.length)) else none
/-- one without a stroke, cut at its e -/
def decI (l : List UInt8) : Option (Nat × Nat) :=
  if (Lib.cut l [101]).2.2 = true then (expV (Lib.cut l [101]).2.1).bind (ptI (Lib.cut l [101]).1) else ptI l 0
/-- as the program reads -/
def rrI (l : List UInt8) : Option (Nat × Nat) :=
  if (Lib.cut l [47]).2.2 = true then
    (if (digL (Lib.cut l [47]).1 && (digL (Lib.cut l [47]).2.1 && decide (valN (Lib.cut l [47]).2.1 ≠ 0))) = true then some (valN (Lib.cut l [47]).1, valN (Lib.cut l [47]).2.1) else none)
  else decI l
/-- as the specification reads -/
def endS (ds : List UInt8) (k : Int) : List UInt8 → Option (Nat × Nat)
  | [] => some (decV ds k)
  | c :: t => if c = 101 then (expV t).bind fun n => some (decV ds (k + n)) else none
def decS' (ds : List UInt8) : List UInt8 → Option (Nat × Nat)
  | [] => endS ds 0 []
  | c :: t => if c = 46 then (if t.takeWhile dg = [] then none else endS (ds ++ t.takeWhile dg) (-((t.takeWhile dg).length : Int)) (t.dropWhile dg)) else endS ds 0 (c :: t)
def readS' (w : List UInt8) : List UInt8 → Option (Nat × Nat)
  | [] => decS' w []
  | c :: t => if c = 47 then (if (digAll t && decide (valN t ≠ 0)) = true then some (valN w, valN t) else none) else decS' w (c :: t)
def rrS (l : List UInt8) : Option (Nat × Nat) := if l.takeWhile dg = [] then none else readS' (l.takeWhile dg) (l.dropWhile dg)

theorem first {c : UInt8} : ∀ {l : List UInt8}, c ∈ l → ∃ a b, l = a ++ c :: b ∧ c ∉ a
  | [], h => by cases h
  | x :: l, h => by
    by_cases e : x = c
    · exact ⟨[], l, by rw [e]; rfl, by simp⟩
    · have hm : c ∈ l := by
        cases h with
        | head => exact absurd rfl e
        | tail _ h => exact h
      obtain ⟨a, b, rfl, ha⟩ := first hm
      exact ⟨x :: a, b, rfl, fun h => by
        cases h with
        | head => exact e rfl
        | tail _ h => exact ha h⟩
theorem digL_no {l : List UInt8} {c : UInt8} (hm : c ∈ l) (hc : dg c = false) : digL l = false := by
  unfold digL
  have : digAll l = false := by
    rw [all_dg, Bool.eq_false_iff]
    intro h
    have := List.all_eq_true.1 h c hm
    rw [hc] at this; cases this
  rw [this]; rfl
theorem digAll_no {l : List UInt8} {c : UInt8} (hm : c ∈ l) (hc : dg c = false) : digAll l = false := by
  rw [all_dg, Bool.eq_false_iff]
  intro h
  have := List.all_eq_true.1 h c hm
  rw [hc] at this; cases this
theorem exp_no {t : List UInt8} {c : UInt8} (hm : c ∈ t) (hc : dg c = false) (h45 : c ≠ 45) : expV t = none := by
  unfold expV
  have hm' : c ∈ Lib.trimPrefix t [45] := by
    unfold Lib.trimPrefix
    split
    · rename_i hp
      unfold Lib.hasPrefix at hp
      cases t with
      | nil => cases hm
      | cons x t =>
        simp [List.isPrefixOf] at hp
        cases hm with
        | head => exact absurd hp.symm h45
        | tail _ h => show c ∈ t; exact h
    · exact hm
  rw [digL_no hm' hc]; simp
theorem cut_app {c : UInt8} {w : List UInt8} (hw : c ∉ w) (r : List UInt8) : Lib.cut (w ++ r) [c] = (w ++ (Lib.cut r [c]).1, (Lib.cut r [c]).2.1, (Lib.cut r [c]).2.2) := by
  by_cases h : c ∈ r
  · obtain ⟨a, b, rfl, ha⟩ := first h
    rw [cut_mid ha, ← List.append_assoc, cut_mid (by simp [hw, ha])]
  · rw [cut_none h, cut_none (by simp [hw, h])]
theorem tw_nil (p : UInt8 → Bool) : ∀ l : List UInt8, (∀ x ∈ l, p x = true) → l.takeWhile p = l ∧ l.dropWhile p = []
  | [], _ => ⟨rfl, rfl⟩
  | x :: l, h => by
    have hx := h x List.mem_cons_self
    obtain ⟨h1, h2⟩ := tw_nil p l (fun y hy => h y (List.mem_cons_of_mem _ hy))
    exact ⟨by rw [List.takeWhile_cons, hx, h1]; rfl, by rw [List.dropWhile_cons, hx, h2]; rfl⟩
theorem tw_to (p : UInt8 → Bool) : ∀ (a : List UInt8) (c : UInt8) (b : List UInt8), (∀ x ∈ a, p x = true) → p c = false → (a ++ c :: b).takeWhile p = a ∧ (a ++ c :: b).dropWhile p = c :: b
  | [], c, b, _, hc => ⟨by show (c :: b).takeWhile p = []; rw [List.takeWhile_cons, hc]; rfl, by show (c :: b).dropWhile p = _; rw [List.dropWhile_cons, hc]; rfl⟩
  | x :: a, c, b, h, hc => by
    have hx := h x List.mem_cons_self
    obtain ⟨h1, h2⟩ := tw_to p a c b (fun y hy => h y (List.mem_cons_of_mem _ hy)) hc
    exact ⟨by show (x :: (a ++ c :: b)).takeWhile p = _; rw [List.takeWhile_cons, hx, h1]; rfl, by show (x :: (a ++ c :: b)).dropWhile p = _; rw [List.dropWhile_cons, hx, h2]; rfl⟩
theorem take_all {l : List UInt8} (h : digAll l = true) : l.takeWhile dg = l ∧ l.dropWhile dg = [] := tw_nil dg l (List.all_eq_true.1 h)
theorem take_to {a : List UInt8} (h : digAll a = true) {c : UInt8} (hc : dg c = false) (b : List UInt8) : (a ++ c :: b).takeWhile dg = a ∧ (a ++ c :: b).dropWhile dg = c :: b := tw_to dg a c b (List.all_eq_true.1 h) hc
/-- a list is digits, and what begins with none -/
theorem parts : ∀ l : List UInt8, ∃ w r, l = w ++ r ∧ digAll w = true ∧ (r = [] ∨ ∃ c t, r = c :: t ∧ dg c = false)
  | [] => ⟨[], [], rfl, rfl, .inl rfl⟩
  | x :: l => by
    cases hx : dg x with
    | false => exact ⟨[], x :: l, rfl, rfl, .inr ⟨x, l, rfl, hx⟩⟩
    | true =>
      obtain ⟨w, r, rfl, hw, hr⟩ := parts l
      exact ⟨x :: w, r, rfl, by rw [all_dg, List.all_cons, hx, ← all_dg, hw]; rfl, hr⟩
theorem not_dig {w : List UInt8} (hw : digAll w = true) {c : UInt8} (hc : dg c = false) : c ∉ w := fun hm => by
  have := List.all_eq_true.1 hw c hm
  change dg c = true at this
  rw [hc] at this; cases this
theorem dg47 : dg 47 = false := by decide
theorem dg46 : dg 46 = false := by decide
theorem dg101 : dg 101 = false := by decide
theorem digL_iff {w : List UInt8} (hw : digAll w = true) : digL w = decide (w ≠ []) := by unfold digL; rw [hw, Bool.true_and]
theorem rrS_at {w r : List UInt8} (hw : digAll w = true) (hr : r = [] ∨ ∃ c t, r = c :: t ∧ dg c = false) : rrS (w ++ r) = if w = [] then none else readS' w r := by
  unfold rrS
  rcases hr with rfl | ⟨c, t, rfl, hc⟩
  · rw [List.append_nil, (take_all hw).1, (take_all hw).2]
  · rw [(take_to hw hc t).1, (take_to hw hc t).2]
/-- a number without an e and a stroke behind it, cut at its point -/
theorem pt_at {w t : List UInt8} (hw : digAll w = true) (k : Int) : ptI (w ++ 46 :: t) k = if (decide (w ≠ []) && digL t) = true then some (decV (w ++ t) (k - t.length)) else none := by
  unfold ptI
  rw [cut_mid (not_dig hw dg46)]
  simp only [Bool.not_true, Bool.false_or]
  rw [digL_iff hw]
theorem pt_none {w : List UInt8} (hw : digAll w = true) (k : Int) : ptI w k = if w = [] then none else some (decV w k) := by
  unfold ptI
  rw [cut_none (not_dig hw dg46)]
  simp only [Bool.not_false, Bool.true_or, Bool.and_true, List.append_nil]
  rw [digL_iff hw]
  by_cases h : w = []
  · simp [h]
  · simp [h]
theorem pt_bad {w t : List UInt8} (hw : digAll w = true) {c : UInt8} (hc : dg c = false) (h46 : c ≠ 46) (k : Int) : ptI (w ++ c :: t) k = none := by
  unfold ptI
  have : digL (Lib.cut (w ++ c :: t) [46]).1 = false := by
    rw [cut_app (not_dig hw dg46)]
    refine digL_no (c := c) ?_ hc
    have e : c :: t = [c] ++ t := rfl
    rw [e, cut_app (by simpa using Ne.symm h46)]
    simp
  rw [this]; simp
/-- one without a stroke -/
theorem dec_eq {w r : List UInt8} (hw : digAll w = true) (hr : r = [] ∨ ∃ c t, r = c :: t ∧ dg c = false) : decI (w ++ r) = if w = [] then none else decS' w r := by
  unfold decI
  rw [cut_app (not_dig hw dg101)]
  rcases hr with rfl | ⟨c, t, rfl, hc⟩
  · rw [cut_none (c := 101) (l := []) (by simp)]
    simp only [List.append_nil, Bool.false_eq_true, if_false]
    rw [pt_none hw]
    rfl
  by_cases h46 : c = 46
  · subst h46
    by_cases hm : 101 ∈ t
    · obtain ⟨a, b, rfl, ha⟩ := first hm
      have e : (46 :: (a ++ 101 :: b) : List UInt8) = (46 :: a) ++ 101 :: b := rfl
      rw [e, cut_mid (by simp [ha])]
      simp only [if_true]
      have hp (k : Int) := pt_at (w := w) (t := a) hw k
      show (expV b).bind (ptI (w ++ 46 :: a)) = if w = [] then none else decS' w (46 :: (a ++ 101 :: b))
      have hs : decS' w (46 :: (a ++ 101 :: b)) = (if (a ++ 101 :: b).takeWhile dg = [] then none else endS (w ++ (a ++ 101 :: b).takeWhile dg) (-(((a ++ 101 :: b).takeWhile dg).length : Int)) ((a ++ 101 :: b).dropWhile dg)) := by
        unfold decS'; simp
      rw [hs]
      cases hda : digAll a with
      | true =>
        rw [(take_to hda dg101 b).1, (take_to hda dg101 b).2]
        have he (k : Int) : endS (w ++ a) k (101 :: b) = (expV b).bind fun n => some (decV (w ++ a) (k + n)) := by unfold endS; simp
        rw [he]
        have hf : (fun k => ptI (w ++ 46 :: a) k) = fun k => if (decide (w ≠ []) && digL a) = true then some (decV (w ++ a) (k - a.length)) else none := funext hp
        have hf' : ptI (w ++ 46 :: a) = fun k => if (decide (w ≠ []) && digL a) = true then some (decV (w ++ a) (k - a.length)) else none := hf
        rw [hf', digL_iff hda]
        by_cases h1 : w = []
        · cases expV b <;> simp [h1]
        · by_cases h2 : a = []
          · cases expV b <;> simp [h1, h2]
          · cases expV b with
            | none => simp [h1, h2]
            | some n =>
              simp only [h1, h2, ne_eq, not_false_eq_true, decide_true, Bool.and_true, if_true, if_false, Option.bind_some]
              rw [Int.add_comm, Int.sub_eq_add_neg]
      | false =>
        have hn : (expV b).bind (ptI (w ++ 46 :: a)) = none := by
          have : ptI (w ++ 46 :: a) = fun _ => none := funext fun k => by
            rw [hp k]
            have : digL a = false := by unfold digL; rw [hda]; rfl
            rw [this]; simp
          rw [this]; cases expV b <;> rfl
        rw [hn]
        obtain ⟨w2, r2, rfl, hw2, hr2⟩ := parts a
        rcases hr2 with rfl | ⟨c2, t2, rfl, hc2⟩
        · rw [List.append_nil] at hda; rw [hda] at hw2; cases hw2
        · have hne : c2 ≠ 101 := fun e => ha (by rw [e]; simp)
          have e2 : (w2 ++ c2 :: t2) ++ 101 :: b = w2 ++ c2 :: (t2 ++ 101 :: b) := by simp
          rw [e2, (take_to hw2 hc2 _).1, (take_to hw2 hc2 _).2]
          have : endS (w ++ w2) (-(w2.length : Int)) (c2 :: (t2 ++ 101 :: b)) = none := by simp only [endS]; rw [if_neg hne]
          rw [this]; simp
    · rw [cut_none (c := 101) (l := 46 :: t) (by simp [hm])]
      simp only [Bool.false_eq_true, if_false]
      rw [pt_at hw]
      have hs : decS' w (46 :: t) = (if t.takeWhile dg = [] then none else endS (w ++ t.takeWhile dg) (-((t.takeWhile dg).length : Int)) (t.dropWhile dg)) := by
        unfold decS'; simp
      rw [hs]
      obtain ⟨w2, r2, rfl, hw2, hr2⟩ := parts t
      rcases hr2 with rfl | ⟨c2, t2, rfl, hc2⟩
      · rw [List.append_nil, (take_all hw2).1, (take_all hw2).2, digL_iff hw2]
        by_cases h1 : w = []
        · simp [h1]
        · by_cases h2 : w2 = []
          · simp [h1, h2]
          · simp [h1, h2, endS]
      · have hne : c2 ≠ 101 := fun e => hm (by rw [e]; simp)
        rw [(take_to hw2 hc2 _).1, (take_to hw2 hc2 _).2]
        have : endS (w ++ w2) (-(w2.length : Int)) (c2 :: t2) = none := by simp only [endS]; rw [if_neg hne]
        rw [this, digL_no (l := w2 ++ c2 :: t2) (c := c2) (by simp) hc2]; simp
  · have hs : decS' w (c :: t) = endS w 0 (c :: t) := by simp only [decS']; rw [if_neg h46]
    rw [hs]
    by_cases h101 : c = 101
    · subst h101
      have e : (101 :: t : List UInt8) = [] ++ 101 :: t := rfl
      rw [e, cut_mid (by simp)]
      simp only [if_true, List.append_nil]
      have hf : ptI w = fun k => if w = [] then none else some (decV w k) := funext (pt_none hw)
      rw [hf]
      have : endS w 0 ([] ++ 101 :: t) = (expV t).bind fun n => some (decV w (0 + n)) := by show endS w 0 (101 :: t) = _; unfold endS; simp
      rw [this]
      by_cases h1 : w = []
      · cases expV t <;> simp [h1]
      · cases expV t <;> simp [h1]
    · have he : endS w 0 (c :: t) = none := by simp only [endS]; rw [if_neg h101]
      rw [he]
      have e : c :: t = [c] ++ t := rfl
      rw [e, cut_app (by simpa using Ne.symm h101)]
      by_cases hm : (Lib.cut t [101]).2.2 = true
      · rw [if_pos hm]
        have : ptI (w ++ ([c] ++ (Lib.cut t [101]).1)) = fun _ => none := funext fun k => pt_bad hw hc h46 k
        rw [this]
        cases expV (Lib.cut t [101]).2.1 <;> simp
      · rw [if_neg hm]
        have : ptI (w ++ ([c] ++ t)) 0 = none := pt_bad hw hc h46 0
        rw [this]; simp
theorem endS_no (ds : List UInt8) (k : Int) : ∀ r : List UInt8, 47 ∈ r → endS ds k r = none
  | [], h => by cases h
  | c :: t, h => by
    simp only [endS]
    by_cases hc : c = 101
    · have hm : (47 : UInt8) ∈ t := by
        rcases List.mem_cons.1 h with h | h
        · rw [hc] at h; exact absurd h (by decide)
        · exact h
      rw [if_pos hc, exp_no hm dg47 (by decide)]; rfl
    · rw [if_neg hc]
theorem decS_no (ds : List UInt8) : ∀ r : List UInt8, 47 ∈ r → decS' ds r = none
  | [], h => by cases h
  | c :: t, h => by
    simp only [decS']
    by_cases hc : c = 46
    · rw [if_pos hc]
      have hm : (47 : UInt8) ∈ t := by
        rcases List.mem_cons.1 h with h | h
        · rw [hc] at h; exact absurd h (by decide)
        · exact h
      obtain ⟨w2, r2, rfl, hw2, hr2⟩ := parts t
      have hm2 : (47 : UInt8) ∈ r2 := by
        rcases List.mem_append.1 hm with h | h
        · exact absurd h (not_dig hw2 dg47)
        · exact h
      rcases hr2 with rfl | ⟨c2, t2, rfl, hc2⟩
      · cases hm2
      · rw [(take_to hw2 hc2 t2).1, (take_to hw2 hc2 t2).2, endS_no _ _ _ hm2]; simp
    · rw [if_neg hc]; exact endS_no ds 0 (c :: t) h
/-- both readings say the same -/
theorem rr_eq (l : List UInt8) : rrI l = rrS l := by
  obtain ⟨w, r, rfl, hw, hr⟩ := parts l
  rw [rrS_at hw hr]
  unfold rrI
  rw [cut_app (not_dig hw dg47)]
  have hd := dec_eq hw hr
  rcases hr with rfl | ⟨c, t, rfl, hc⟩
  · rw [cut_none (c := 47) (l := []) (by simp)]
    simp only [Bool.false_eq_true, if_false]
    rw [hd]; rfl
  by_cases h47 : c = 47
  · subst h47
    have e : (47 :: t : List UInt8) = [] ++ 47 :: t := rfl
    rw [e, cut_mid (by simp)]
    simp only [if_true, List.append_nil]
    have hs : readS' w ([] ++ 47 :: t) = (if (digAll t && decide (valN t ≠ 0)) = true then some (valN w, valN t) else none) := by show readS' w (47 :: t) = _; unfold readS'; simp
    rw [hs, digL_iff hw]
    by_cases h1 : w = []
    · simp [h1]
    · have ht : (digL t && decide (valN t ≠ 0)) = (digAll t && decide (valN t ≠ 0)) := by
        unfold digL
        cases t with
        | nil => rfl
        | cons x t => simp
      rw [ht]; simp [h1]
  · have hs : readS' w (c :: t) = decS' w (c :: t) := by simp only [readS']; rw [if_neg h47]
    rw [hs]
    by_cases hm : 47 ∈ t
    · obtain ⟨a, b, rfl, ha⟩ := first hm
      have e : (c :: (a ++ 47 :: b) : List UInt8) = (c :: a) ++ 47 :: b := rfl
      rw [e, cut_mid (by simp [ha, Ne.symm h47])]
      simp only [if_true]
      rw [digL_no (l := w ++ (c :: a)) (c := c) (by simp) hc]
      simp only [Bool.false_and, Bool.false_eq_true, if_false]
      have : decS' w ((c :: a) ++ 47 :: b) = none := decS_no w (c :: (a ++ 47 :: b)) (by simp)
      rw [this]; simp
    · rw [cut_none (c := 47) (l := c :: t) (by simp [hm, Ne.symm h47])]
      simp only [Bool.false_eq_true, if_false]
      exact hd
end Go.Proofs.YtbcokpnhhjjedaaGreatDoor

/- The walk of l03Run: the place behind the digits from a place on. -/
namespace Go.Proofs.YtbcokpnhhjjedaaGreatDoor
open Go.RowKit
set_option linter.unusedVariables false

def runN (s : ByteArray) (k : Nat) : Nat := k + ((s.data.toList.drop k).takeWhile dg).length
theorem drop_at (s : ByteArray) (k : Nat) (h : k < s.size) : s.data.toList.drop k = s[k] :: s.data.toList.drop (k + 1) :=
  List.drop_eq_getElem_cons (l := s.data.toList) (i := k) (by rw [bsize]; exact h)
theorem run_on {s : ByteArray} {k : Nat} (h : k < s.size) (hd : digitB (s[k].toNat : Int) = true) : runN s k = runN s (k + 1) := by
  unfold runN
  rw [drop_at s k h, List.takeWhile_cons, if_pos (show dg s[k] = true from hd), List.length_cons]
  omega
theorem run_off {s : ByteArray} {k : Nat} (h : k < s.size) (hd : digitB (s[k].toNat : Int) = false) : runN s k = k := by
  unfold runN
  rw [drop_at s k h, List.takeWhile_cons, if_neg (by rw [show dg s[k] = false from hd]; decide)]
  rfl
theorem run_end {s : ByteArray} {k : Nat} (h : ¬ k < s.size) : runN s k = k := by
  unfold runN
  rw [List.drop_of_length_le (by rw [bsize]; omega)]
  rfl
theorem run_le {s : ByteArray} {k : Nat} (h : k ≤ s.size) : k ≤ runN s k ∧ runN s k ≤ s.size := by
  unfold runN
  have h1 : ((s.data.toList.drop k).takeWhile dg).length ≤ (s.data.toList.drop k).length := (List.takeWhile_sublist dg).length_le
  rw [List.length_drop, bsize] at h1
  omega

set_option maxHeartbeats 1000000 in
set_option maxRecDepth 20000 in
theorem runS (s : ByteArray) (i : Nat) (w : World) (hi : i ≤ s.size) (hs : s.size ≤ 400) :
    Calls Tryz.prog 26 #[.string s, .int .i64 i] w fun e w' => e = .returned (.int .i64 (runN s i)) ∧ w' = w := by
  go_enter Tryz.func26, Tryz.ntmps26
  go_wp2
  go_loopw [1] (fun v wr => ∃ k : Nat, k ≤ s.size ∧ v = .int .i64 k ∧ wr = w ∧ Hid (runN s k = runN s i)) (fun v _ => s.size - (intOf v).toNat)
  case atStart => exact ⟨i, hi, rfl, rfl, hide rfl⟩
  case round =>
    obtain ⟨k, hk, rfl, rfl, HR⟩ := hrel
    by_cases hlt : k < s.size
    · have hlt' : (k : Int) < (s.size : Int) := by omega
      have hk0 : (0 : Int) ≤ (k : Int) := by omega
      go_wp2_with fail
      refine (digRd s[k].toNat _ (by have := s[k].toNat_lt; omega)).mono ?_
      cases hd : digitB (s[k].toNat : Int) with
      | true =>
        have HN := hide (run_on hlt hd)
        rintro e w1 ⟨rfl, hw⟩
        subst w1
        go_wp2
        exact ⟨⟨k + 1, by omega, by go_num, trivial, hide (by rw [← HN.out]; exact HR.out)⟩, by simp [intOf]; omega⟩
      | false =>
        have HN := hide (run_off hlt hd)
        rintro e w1 ⟨rfl, hw⟩
        subst w1
        go_wp2
        go_ret
        exact ⟨by rw [← HR.out, HN.out]; rfl, rfl⟩
    · have hlt' : ¬ (k : Int) < (s.size : Int) := by omega
      have HN := hide (run_end hlt)
      go_wp2
      go_ret
      exact ⟨by rw [← HR.out, HN.out]; rfl, rfl⟩
end Go.Proofs.YtbcokpnhhjjedaaGreatDoor
