/- Plain facts on decimal numerals read: the number of a list of digits, and which lists are numerals; nothing of the program stands here. -/
import Derived.Lib.ItoaNum
namespace Go.Proofs.YteeifaleneneeaaGreatDoor
open Go

def digitB (c : Int) : Bool := decide (48 ≤ c) && decide (c ≤ 57)
theorem digit_high (c : Int) (h : 128 ≤ c) : digitB c = false := by
  rw [Bool.eq_false_iff]; simp [digitB]; omega
def valI (l : List UInt8) : Int := l.foldl (fun a c => 10 * a + ((c.toNat : Int) - 48)) 0

theorem val_snoc (l : List UInt8) (c : UInt8) : valI (l ++ [c]) = 10 * valI l + ((c.toNat : Int) - 48) := by simp [valI, List.foldl_append]

theorem rev_ind {P : List UInt8 → Prop} (h0 : P []) (h1 : ∀ l c, P l → P (l ++ [c])) (l : List UInt8) : P l := by
  rw [← List.reverse_reverse l]
  induction l.reverse with
  | nil => exact h0
  | cons c r ih => rw [List.reverse_cons]; exact h1 _ _ ih

/-- the first byte is no nought, or there is but one -/
def noLead (l : List UInt8) : Bool := match l with | [] => false | [_] => true | c :: _ :: _ => c != 48

def digAll (l : List UInt8) : Bool := l.all fun c => digitB (c.toNat : Int)

theorem dig_bounds {c : UInt8} (h : digitB (c.toNat : Int) = true) : 48 ≤ c.toNat ∧ c.toNat ≤ 57 := by
  simp [digitB] at h; omega

theorem head_pos (v : Nat) (h : 1 ≤ v) : (Lib.decDigits v).head? ≠ some 48 := by
  induction v using Nat.strongRecOn with
  | ind v ih =>
    by_cases h10 : v < 10
    · rw [Lib.decDigits_one h10]
      simp only [List.head?_cons, ne_eq, Option.some.injEq]
      intro e
      have := congrArg UInt8.toNat e
      simp at this; omega
    · have := ih (v / 10) (by omega) (by omega)
      rw [Lib.decDigits, dif_neg h10]
      cases hd : Lib.decDigits (v / 10) with
      | nil => have hl := Lib.decDigits_length (v / 10); rw [hd] at hl; have := Lib.nDigits_pos (v / 10); simp at hl; omega
      | cons a r => rw [hd] at this; simpa using this

theorem val_digits (l : List UInt8) : digAll l = true → 0 ≤ valI l ∧ (l.head? ≠ some 48 → l ≠ [] → 1 ≤ valI l) ∧ (noLead l = true → Lib.decDigits (valI l).toNat = l) := by
  induction l using rev_ind with
  | h0 => intro _; simp [valI, noLead]
  | h1 l c ih =>
    intro h
    simp only [digAll, List.all_append, Bool.and_eq_true, List.all_cons, List.all_nil, Bool.and_true] at h
    obtain ⟨hl, hc⟩ := h
    obtain ⟨i0, i1, i2⟩ := ih hl
    have hb := dig_bounds hc
    rw [val_snoc]
    cases l with
    | nil =>
      have e0 : valI [] = 0 := rfl
      rw [e0]
      refine ⟨by omega, ?_, ?_⟩
      · intro hh _
        simp only [List.nil_append, List.head?_cons, ne_eq, Option.some.injEq] at hh
        have : c.toNat ≠ 48 := fun e => hh (UInt8.toNat_inj.1 (by simpa using e))
        omega
      · intro _
        have e1 : (10 * 0 + ((c.toNat : Int) - 48)).toNat = c.toNat - 48 := by omega
        rw [e1, Lib.decDigits_one (by omega)]
        have e2 : 48 + (c.toNat - 48) = c.toNat := by omega
        rw [e2]; simp
    | cons a r =>
      refine ⟨by omega, ?_, ?_⟩
      · intro hh _
        have := i1 (by simpa using hh) (by simp)
        omega
      · intro hn
        have ha : a ≠ 48 := by
          cases r with
          | nil => simpa [noLead] using hn
          | cons b r => simpa [noLead] using hn
        have hv := i1 (by simpa using ha) (by simp)
        have hd := i2 (by cases r with
          | nil => rfl
          | cons b r => simpa [noLead] using ha)
        have e1 : (10 * valI (a :: r) + ((c.toNat : Int) - 48)).toNat = 10 * (valI (a :: r)).toNat + (c.toNat - 48) := by omega
        rw [e1, Lib.decDigits, dif_neg (by omega)]
        have e2 : (10 * (valI (a :: r)).toNat + (c.toNat - 48)) / 10 = (valI (a :: r)).toNat := by omega
        have e3 : 48 + (10 * (valI (a :: r)).toNat + (c.toNat - 48)) % 10 = c.toNat := by omega
        rw [e2, e3, hd]; simp

theorem val_lead (l : List UInt8) (hd : digAll l = true) (hn : noLead l = false) : Lib.decDigits (valI l).toNat ≠ l := by
  intro e
  cases l with
  | nil =>
    have := congrArg List.length e
    rw [Lib.decDigits_length] at this
    have := Lib.nDigits_pos (valI []).toNat
    simp_all
  | cons a r =>
    cases r with
    | nil => simp [noLead] at hn
    | cons b r =>
      have ha : a = 48 := by simpa [noLead] using hn
      by_cases hv : 1 ≤ (valI (a :: b :: r)).toNat
      · have := head_pos _ hv
        rw [e] at this; simp [ha] at this
      · have e0 : (valI (a :: b :: r)).toNat = 0 := by omega
        rw [e0, Lib.decDigits_one (by decide)] at e
        simp at e


/-- the number of a list of digits -/
def valN (l : List UInt8) : Nat := l.foldl (fun a c => 10 * a + (c.toNat - 48)) 0
theorem valN_snoc (l : List UInt8) (c : UInt8) : valN (l ++ [c]) = 10 * valN l + (c.toNat - 48) := by simp [valN, List.foldl_append]
theorem valI_N (l : List UInt8) (h : digAll l = true) : valI l = (valN l : Int) := by
  induction l using rev_ind with
  | h0 => rfl
  | h1 l c ih =>
    simp only [digAll, List.all_append, Bool.and_eq_true, List.all_cons, List.all_nil, Bool.and_true] at h
    have hb := dig_bounds h.2
    rw [val_snoc, valN_snoc, ih h.1]; omega
theorem valN_lt (l : List UInt8) (h : digAll l = true) : valN l < 10 ^ l.length := by
  induction l using rev_ind with
  | h0 => simp [valN]
  | h1 l c ih =>
    simp only [digAll, List.all_append, Bool.and_eq_true, List.all_cons, List.all_nil, Bool.and_true] at h
    have hb := dig_bounds h.2
    have := ih h.1
    rw [valN_snoc, List.length_append, List.length_singleton, Nat.pow_succ]; omega
theorem dec_val (l : List UInt8) (h : digAll l = true) : Lib.decDigits (valN l) = l ↔ noLead l = true := by
  have e : (valI l).toNat = valN l := by rw [valI_N l h]; simp
  constructor
  · intro hd
    cases hn : noLead l with
    | true => rfl
    | false => have := val_lead l h hn; rw [e] at this; exact absurd hd this
  · intro hn
    have := (val_digits l h).2.2 hn
    rw [e] at this; exact this
end Go.Proofs.YteeifaleneneeaaGreatDoor
