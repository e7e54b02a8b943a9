/- The walks of the specification's DecText and of the program's ReadDec, at this seat's numbers. -/
import Derived.Test.YthjglbimkfajlaaDoorChecked
import Derived.WalkKit
import Derived.WalkLawsBesides
import Derived.WalkSpells
import Derived.Deep.QuietTactic
import Derived.BigQuiet
import Derived.Lib.Strings
import Derived.Lib.ItoaNum
import Derived.Lib.ItoaLen
import Derived.Laws.RangeAny
namespace Go.Proofs.YthjglbimkfajlaaDoor
open Go.RowKit
set_option linter.unusedVariables false

theorem hide {p : Prop} (h : p) : Hid p := h

theorem ret_int {k : IntKind} {a b : Int} (h : a = b) : Ending.returned (.int k a) = .returned (.int k b) := by rw [h]

theorem drew2 (w : World) (a b : Nat) : ∃ m, (w.drewN a).drewN b = w.drewN m := ⟨a + b, by simp⟩

theorem drew3 (w : World) (a b c : Nat) : ∃ m, ((w.drewN a).drewN b).drewN c = w.drewN m := ⟨a + b + c, by simp⟩

theorem ret_bool {a b : Bool} (h : a = b) : Ending.returned (.bool a) = .returned (.bool b) := by rw [h]

def digitB (c : Int) : Bool := decide (48 ≤ c) && decide (c ≤ 57)

theorem digitI (c : Int) (w : World) :
    Calls Tryd.prog 13 #[.int .i32 c] w fun e w' => e = .returned (.bool (digitB c)) ∧ w' = w := by
  go_enter Tryd.func13, Tryd.ntmps13
  go_wp2
  all_goals go_ret
  all_goals exact ⟨ret_bool (by rw [Bool.eq_iff_iff]; simp [digitB]; try omega), rfl⟩

theorem digit_high (c : Int) (h : 128 ≤ c) : digitB c = false := by
  rw [Bool.eq_false_iff]; simp [digitB]; omega

/-- the digits of a number without its sign, none of nought -/
def digs (m : Int) : List UInt8 := if m = 0 then [] else Lib.decDigits m.natAbs

theorem digs_step (m : Int) (h : m ≠ 0) : digs (m.tdiv 10) ++ [UInt8.ofNat (48 + m.natAbs % 10)] = digs m := by
  unfold digs
  rw [if_neg h]
  have e : (m.tdiv 10).natAbs = m.natAbs / 10 := Int.natAbs_tdiv ..
  by_cases h10 : m.natAbs < 10
  · rw [if_pos (by omega), Lib.decDigits_one h10, Nat.mod_eq_of_lt h10]; rfl
  · rw [if_neg (by omega), e]
    conv => rhs; rw [Lib.decDigits, dif_neg h10]

theorem digs_len (m : Int) (h0 : -9223372036854775808 ≤ m) (h1 : m ≤ 9223372036854775807) : (digs m).length ≤ 20 := by
  unfold digs
  split
  · simp
  · rw [Lib.decDigits_length]; exact Lib.nDigits_le20 _ (by omega)

theorem ret_str {a b : ByteArray} (h : a.data.toList = b.data.toList) : Ending.returned (.string a) = .returned (.string b) := by
  have : a = b := ByteArray.ext (Array.ext' h)
  rw [this]

/-- the text of a number -/
def decB (n : Int) : ByteArray := ⟨(Lib.itoa n).toArray⟩

theorem dec_zero : decB 0 = ⟨#[48]⟩ := by
  unfold decB Lib.itoa; rw [if_neg (by omega), Lib.decDigits_one (by decide)]; rfl

theorem dec_pos (n : Int) (h : 0 < n) : (decB n).data.toList = digs n := by
  unfold decB Lib.itoa digs; rw [if_neg (by omega), if_neg (by omega)]
  have : n.toNat = n.natAbs := by omega
  simp [this]

theorem dec_neg (n : Int) (h : n < 0) : (decB n).data.toList = 45 :: digs n := by
  unfold decB Lib.itoa digs; rw [if_pos h, if_neg (by omega)]

theorem dig_fin : ∀ d : Fin 10, (({ data := #[48, 49, 50, 51, 52, 53, 54, 55, 56, 57] } : ByteArray).extract d.val (d.val + 1)).data.toList = [UInt8.ofNat (48 + d.val)] := by decide +kernel

theorem dig_one (c x y : Int) (hx : x = (c.natAbs % 10 : Nat)) (hy : y = x + 1) :
    (({ data := #[48, 49, 50, 51, 52, 53, 54, 55, 56, 57] } : ByteArray).extract x.toNat y.toNat).data.toList = [UInt8.ofNat (48 + c.natAbs % 10)] := by
  have h := dig_fin ⟨c.natAbs % 10, Nat.mod_lt _ (by omega)⟩
  have e1 : x.toNat = c.natAbs % 10 := by omega
  have e2 : y.toNat = c.natAbs % 10 + 1 := by omega
  rw [e1, e2]; exact h

theorem dec_close (n c c' : Int) (t D : ByteArray) (hdl : (digs n).length ≤ 20) (hr : digs c ++ t.data.toList = digs n) (hc : c ≠ 0)
    (hc0 : -9223372036854775808 ≤ c) (hc1 : c ≤ 9223372036854775807) (hc' : c' = c.tdiv 10) (hD : D.data.toList = [UInt8.ofNat (48 + c.natAbs % 10)]) :
    (∃ (t1 : ByteArray) (c1 : Int), Value.string (D ++ t) = .string t1 ∧ Value.int .i64 c' = .int .i64 c1 ∧ -9223372036854775808 ≤ c1 ∧ c1 ≤ 9223372036854775807 ∧ t1.size ≤ 20 ∧ Hid (digs c1 ++ t1.data.toList = digs n))
      ∧ (intOf (Value.int .i64 c')).natAbs < (intOf (Value.int .i64 c)).natAbs := by
  subst hc'
  have hqa : (c.tdiv 10).natAbs = c.natAbs / 10 := Int.natAbs_tdiv ..
  have e : digs (c.tdiv 10) ++ (D ++ t).data.toList = digs n := by
    rw [← hr, ← digs_step c hc]; simp [hD]
  have hl := congrArg List.length e
  simp only [List.length_append] at hl
  have hsz : (D ++ t).size = (D ++ t).data.toList.length := by simp only [Array.length_toList]; rfl
  refine ⟨⟨D ++ t, c.tdiv 10, rfl, rfl, by omega, by omega, by omega, e⟩, ?_⟩
  simp only [intOf]; omega

set_option maxHeartbeats 400000 in
theorem decS (n : Int) (w : World) (h0 : -9223372036854775808 ≤ n) (h1 : n ≤ 9223372036854775807) :
    Calls Tryd.prog 8 #[.int .i64 n] w fun e w' => e = .returned (.string (decB n)) ∧ w' = w := by
  by_cases hz : n = 0
  · subst hz
    have HZ := hide dec_zero
    go_enter Tryd.func8, Tryd.ntmps8
    go_wp2
    go_ret
    exact ⟨ret_str (congrArg (fun b => b.data.toList) HZ.out.symm), rfl⟩
  have hne : (n == 0) = false := by simp only [beq_eq_false_iff_ne]; exact hz
  have hdl := digs_len n h0 h1
  go_enter Tryd.func8, Tryd.ntmps8
  go_wp2
  go_loop [3, 4, 5] (fun o m _ => ∃ (t : ByteArray) (c : Int), o = .string t ∧ m = .int .i64 c ∧ -9223372036854775808 ≤ c ∧ c ≤ 9223372036854775807 ∧ t.size ≤ 20 ∧ Hid (digs c ++ t.data.toList = digs n)) (fun _ m _ => (intOf m).natAbs)
  case atStart => exact ⟨⟨#[]⟩, n, rfl, rfl, h0, h1, by decide, hide (by simp)⟩
  case round =>
    obtain ⟨t, c, rfl, rfl, hc0, hc1, ht, hr⟩ := hrel
    by_cases hc : c = 0
    · subst hc
      have hr' : t.data.toList = digs n := by have := hr.out; simpa [digs] using this
      by_cases hneg : n < 0
      · have HF : Hid (decB n = ⟨#[45]⟩ ++ t) := hide (ByteArray.ext (Array.ext' (by rw [dec_neg n hneg, ← hr']; simp)))
        clear hr hr'
        go_wp2
        go_ret
        exact ⟨ret_str (congrArg (fun b => b.data.toList) HF.out.symm), rfl⟩
      · have HF : Hid (decB n = t) := hide (ByteArray.ext (Array.ext' (by rw [dec_pos n (by omega), ← hr'])))
        clear hr hr'
        go_wp2
        go_ret
        exact ⟨ret_str (congrArg (fun b => b.data.toList) HF.out.symm), rfl⟩
    · have hcn : (c != 0) = true := by rw [bne_iff_ne]; exact hc
      have hra : (c.tmod 10).natAbs = c.natAbs % 10 := Int.natAbs_tmod ..
      by_cases hneg : c < 0
      · have hm1 : -9 ≤ c.tmod 10 := by omega
        have hm2 : c.tmod 10 ≤ 0 := by
          have h1 := Int.tmod_nonneg 10 (show 0 ≤ -c by omega)
          rw [Int.neg_tmod] at h1; omega
        have HRA := hide hra
        clear hra
        by_cases hm : c.tmod 10 < 0
        · go_wp2
          exact dec_close n c _ t _ hdl hr.out hc hc0 hc1 rfl (dig_one c _ _ (by have := HRA.out; omega) (by omega))
        · go_wp2
          exact dec_close n c _ t _ hdl hr.out hc hc0 hc1 rfl (dig_one c _ _ (by have := HRA.out; omega) (by omega))
      · have hm1 : c % 10 ≤ 9 := by omega
        have hm2 : 0 ≤ c % 10 := by omega
        have HRA := hide hra
        clear hra
        go_wp2
        exact dec_close n c _ t _ hdl hr.out hc hc0 hc1 (Int.tdiv_eq_ediv_of_nonneg (by omega)).symm (dig_one c _ _ (by omega) (by omega))

def valI (l : List UInt8) : Int := l.foldl (fun a c => 10 * a + ((c.toNat : Int) - 48)) 0

theorem val_snoc (l : List UInt8) (c : UInt8) : valI (l ++ [c]) = 10 * valI l + ((c.toNat : Int) - 48) := by simp [valI, List.foldl_append]

theorem rev_ind {P : List UInt8 → Prop} (h0 : P []) (h1 : ∀ l c, P l → P (l ++ [c])) (l : List UInt8) : P l := by
  rw [← List.reverse_reverse l]
  induction l.reverse with
  | nil => exact h0
  | cons c r ih => rw [List.reverse_cons]; exact h1 _ _ ih

theorem val_bound (l : List UInt8) : -(23 * 10 ^ l.length : Nat) + 23 ≤ valI l ∧ valI l ≤ (23 * 10 ^ l.length : Nat) - 23 := by
  induction l using rev_ind with
  | h0 => simp [valI]
  | h1 l c ih =>
    have hc := c.toNat_lt
    rw [val_snoc, List.length_append, List.length_singleton, Nat.pow_succ]
    generalize 10 ^ l.length = p at *
    omega

theorem val_bound9 (l : List UInt8) (h : l.length ≤ 9) : -23000000000 ≤ valI l ∧ valI l ≤ 23000000000 := by
  have := val_bound l
  have hp : 10 ^ l.length ≤ 10 ^ 9 := Nat.pow_le_pow_right (by decide) h
  have e : (10 : Nat) ^ 9 = 1000000000 := by decide
  rw [e] at hp
  generalize 10 ^ l.length = p at *
  omega

/-- the first byte is no nought, or there is but one -/
def noLead (l : List UInt8) : Bool := match l with | [] => false | [_] => true | c :: _ :: _ => c != 48

def digAll (l : List UInt8) : Bool := l.all fun c => digitB (c.toNat : Int)

theorem dig_bounds {c : UInt8} (h : digitB (c.toNat : Int) = true) : 48 ≤ c.toNat ∧ c.toNat ≤ 57 := by
  simp [digitB] at h; omega

theorem head_pos (v : Nat) (h : 1 ≤ v) : (Lib.decDigits v).head? ≠ some 48 := by
  induction v using Nat.strongRecOn with
  | ind v ih =>
    by_cases h10 : v < 10
    · rw [Lib.decDigits_one h10]
      simp only [List.head?_cons, ne_eq, Option.some.injEq]
      intro e
      have := congrArg UInt8.toNat e
      simp at this; omega
    · have := ih (v / 10) (by omega) (by omega)
      rw [Lib.decDigits, dif_neg h10]
      cases hd : Lib.decDigits (v / 10) with
      | nil => have hl := Lib.decDigits_length (v / 10); rw [hd] at hl; have := Lib.nDigits_pos (v / 10); simp at hl; omega
      | cons a r => rw [hd] at this; simpa using this

theorem val_digits (l : List UInt8) : digAll l = true → 0 ≤ valI l ∧ (l.head? ≠ some 48 → l ≠ [] → 1 ≤ valI l) ∧ (noLead l = true → Lib.decDigits (valI l).toNat = l) := by
  induction l using rev_ind with
  | h0 => intro _; simp [valI, noLead]
  | h1 l c ih =>
    intro h
    simp only [digAll, List.all_append, Bool.and_eq_true, List.all_cons, List.all_nil, Bool.and_true] at h
    obtain ⟨hl, hc⟩ := h
    obtain ⟨i0, i1, i2⟩ := ih hl
    have hb := dig_bounds hc
    rw [val_snoc]
    cases l with
    | nil =>
      have e0 : valI [] = 0 := rfl
      rw [e0]
      refine ⟨by omega, ?_, ?_⟩
      · intro hh _
        simp only [List.nil_append, List.head?_cons, ne_eq, Option.some.injEq] at hh
        have : c.toNat ≠ 48 := fun e => hh (UInt8.toNat_inj.1 (by simpa using e))
        omega
      · intro _
        have e1 : (10 * 0 + ((c.toNat : Int) - 48)).toNat = c.toNat - 48 := by omega
        rw [e1, Lib.decDigits_one (by omega)]
        have e2 : 48 + (c.toNat - 48) = c.toNat := by omega
        rw [e2]; simp
    | cons a r =>
      refine ⟨by omega, ?_, ?_⟩
      · intro hh _
        have := i1 (by simpa using hh) (by simp)
        omega
      · intro hn
        have ha : a ≠ 48 := by
          cases r with
          | nil => simpa [noLead] using hn
          | cons b r => simpa [noLead] using hn
        have hv := i1 (by simpa using ha) (by simp)
        have hd := i2 (by cases r with
          | nil => rfl
          | cons b r => simpa [noLead] using ha)
        have e1 : (10 * valI (a :: r) + ((c.toNat : Int) - 48)).toNat = 10 * (valI (a :: r)).toNat + (c.toNat - 48) := by omega
        rw [e1, Lib.decDigits, dif_neg (by omega)]
        have e2 : (10 * (valI (a :: r)).toNat + (c.toNat - 48)) / 10 = (valI (a :: r)).toNat := by omega
        have e3 : 48 + (10 * (valI (a :: r)).toNat + (c.toNat - 48)) % 10 = c.toNat := by omega
        rw [e2, e3, hd]; simp

theorem val_lead (l : List UInt8) (hd : digAll l = true) (hn : noLead l = false) : Lib.decDigits (valI l).toNat ≠ l := by
  intro e
  cases l with
  | nil =>
    have := congrArg List.length e
    rw [Lib.decDigits_length] at this
    have := Lib.nDigits_pos (valI []).toNat
    simp_all
  | cons a r =>
    cases r with
    | nil => simp [noLead] at hn
    | cons b r =>
      have ha : a = 48 := by simpa [noLead] using hn
      by_cases hv : 1 ≤ (valI (a :: b :: r)).toNat
      · have := head_pos _ hv
        rw [e] at this; simp [ha] at this
      · have e0 : (valI (a :: b :: r)).toNat = 0 := by omega
        rw [e0, Lib.decDigits_one (by decide)] at e
        simp at e

def readB (s : ByteArray) : Int := if s.size ≤ 9 ∧ noLead s.data.toList = true ∧ digAll s.data.toList = true then valI s.data.toList else -1

def digFrom (s : ByteArray) (k : Nat) : Bool := digAll (s.data.toList.drop k)

theorem dig_end (s : ByteArray) (k : Nat) (h : s.size ≤ k) : digFrom s k = true := by
  have : s.data.toList.drop k = [] := List.drop_eq_nil_of_le (by simpa using h)
  rw [digFrom, this]; rfl

theorem dig_step (s : ByteArray) (k : Nat) (h : k < s.size) : digFrom s k = (digitB (s[k].toNat : Int) && digFrom s (k + 1)) := by
  rw [digFrom, List.drop_eq_getElem_cons (by simpa using h)]; rfl

def valTo (s : ByteArray) (k : Nat) : Int := valI (s.data.toList.take k)

theorem val_step (s : ByteArray) (k : Nat) (h : k < s.size) : valTo s (k + 1) = 10 * valTo s k + ((s[k].toNat : Int) - 48) := by
  unfold valTo
  rw [List.take_succ_eq_append_getElem (by simpa using h), val_snoc]; rfl

theorem val_end (s : ByteArray) (k : Nat) (h : s.size ≤ k) : valTo s k = valI s.data.toList := by
  unfold valTo; rw [List.take_of_length_le (by simpa using h)]

theorem valTo_bound (s : ByteArray) (k : Nat) (h : s.size ≤ 9) : -23000000000 ≤ valTo s k ∧ valTo s k ≤ 23000000000 :=
  val_bound9 _ (by have h1 := List.length_take_le k s.data.toList; have h2 : s.data.toList.length = s.size := by simp
                   have h3 := List.length_take_le' k s.data.toList; omega)

theorem noLead_one (s : ByteArray) (h : s.size = 1) : noLead s.data.toList = true := by
  have h2 : s.data.toList.length = 1 := by simpa using h
  match hl : s.data.toList, h2 with
  | [_], _ => rfl

theorem noLead_more (s : ByteArray) (h : 1 < s.size) : noLead s.data.toList = ((s[0].toNat : Int) != 48) := by
  have e : s.data.toList = s[0] :: s.data.toList.drop 1 := by
    have := List.drop_eq_getElem_cons (l := s.data.toList) (i := 0) (by simpa using (show 0 < s.size by omega))
    rw [List.drop_zero] at this; exact this
  have h2 : (s.data.toList.drop 1).length = s.size - 1 := by simp
  rw [e]
  match hl : s.data.toList.drop 1, h2 with
  | [], h2 => simp at h2; omega
  | b :: r, _ =>
    simp only [noLead]
    rw [Bool.eq_iff_iff]; simp only [bne_iff_ne, ne_eq]
    constructor
    · intro hn e; exact hn (UInt8.toNat_inj.1 (by simp; omega))
    · intro hn e; exact hn (by rw [e]; rfl)

set_option maxHeartbeats 400000 in
theorem readI (s : ByteArray) (w : World) (hs : s.size ≤ 140737488355328) :
    Calls Tryd.prog 9 #[.string s] w fun e w' => e = .returned (.int .i64 (readB s)) ∧ Below w.heap.size w w' := by
  by_cases h0 : (s.size : Int) < 1
  · have HR : Hid (-1 = readB s) := hide (by
      have : s.data.toList = [] := List.eq_nil_of_length_eq_zero (by have : s.data.toList.length = s.size := by simp
                                                                     omega)
      simp [readB, this, noLead])
    go_enter Tryd.func9, Tryd.ntmps9
    go_wp2
    all_goals go_ret
    all_goals exact ⟨ret_int HR.out, Below.refl _ _⟩
  by_cases h9 : (9 : Int) < (s.size : Int)
  · have HR : Hid (-1 = readB s) := hide (by unfold readB; rw [if_neg (by omega)])
    go_enter Tryd.func9, Tryd.ntmps9
    go_wp2
    all_goals go_ret
    all_goals exact ⟨ret_int HR.out, Below.refl _ _⟩
  have hp : 0 < s.size := by omega
  by_cases hz : (1 : Int) < (s.size : Int) ∧ (s[0].toNat : Int) = 48
  · obtain ⟨h1, hz⟩ := hz
    have hnl := noLead_more s (by omega)
    have HR : Hid (-1 = readB s) := hide (by unfold readB; rw [hnl]; simp [hz])
    have hze : ((s[0].toNat : Int) == 48) = true := by simp [hz]
    clear hz hnl
    go_enter Tryd.func9, Tryd.ntmps9
    go_wp2
    all_goals go_ret
    all_goals exact ⟨ret_int HR.out, Below.refl _ _⟩
  have hnl : noLead s.data.toList = true := by
    by_cases h1 : 1 < s.size
    · rw [noLead_more s h1, bne_iff_ne]; intro e; exact hz ⟨by omega, e⟩
    · exact noLead_one s (by omega)
  have HF : Hid (readB s = if digFrom s 0 = true then valI s.data.toList else -1) := hide (by
    unfold readB digFrom
    simp only [hnl, List.drop_zero, true_and]
    have : s.size ≤ 9 := by omega
    simp [this])
  clear hnl
  have hze : (1 : Int) < (s.size : Int) → ((s[0].toNat : Int) == 48) = false := fun h1 => by
    simp only [beq_eq_false_iff_ne]; intro e; exact hz ⟨h1, e⟩
  clear hz
  by_cases h1 : (1 : Int) < (s.size : Int)
  all_goals
    first | (have hz1 := hze h1; clear hze) | clear hze
    go_enter Tryd.func9, Tryd.ntmps9
    go_wp2
    go_loopw [3, 5] (fun n _ wr => ∃ k : Nat, k ≤ s.size ∧ n = .int .i64 (valTo s k) ∧ wr = w.iter s k ∧ Hid (readB s = if digFrom s k = true then valI s.data.toList else -1)) (fun _ _ wr => s.size - wr.iterPos w.heap.size)
    case atStart => exact ⟨0, Nat.zero_le _, rfl, rfl, HF⟩
    case round =>
      clear HF
      obtain ⟨k, hk, rfl, rfl, hr⟩ := hrel
      have hb : Below w.heap.size w (w.iter s k) := (Below.refl _ _).alloc (Nat.le_refl _) _
      by_cases hlt : k < s.size
      · have hst := dig_step s k hlt
        obtain ⟨hv1, hv2⟩ := valTo_bound s k (by omega)
        have hvs := val_step s k hlt
        by_cases hasc : s[k].toNat < 128
        · have hnx : ∀ ty, (Instr.next (.pointer (some ⟨w.heap.size, 0, none⟩)) true ty).run Tryd.prog (w.iter s k) = _ := fun ty => run_next_ascii w s k ty hlt hasc
          cases hdg : digitB (s[k].toNat : Int) with
          | true =>
            have HR : Hid (readB s = if digFrom s (k + 1) = true then valI s.data.toList else -1) := hide (by rw [hr.out, hst, hdg]; simp)
            have HV := hide hvs
            have hbd := dig_bounds hdg
            have hbd1 : (48 : Int) ≤ (s[k].toNat : Int) := by omega
            have hbd2 : (s[k].toNat : Int) ≤ 57 := by omega
            have HDG := hide hdg
            clear hr hst hvs hdg hbd
            go_wp2_with (first
              | (go_at_call 13; refine (digitI _ _).mono ?_; rw [HDG.out]; rintro e w1 ⟨rfl, hw⟩; subst w1))
            exact ⟨⟨k + 1, by omega, by rw [HV.out, Int.mul_comm], rfl, HR⟩, by simp; omega⟩
          | false =>
            have HR : Hid (-1 = readB s) := hide (by rw [hr.out, hst, hdg]; simp)
            have HDG := hide hdg
            clear hr hst hvs hdg
            go_wp2_with (first
              | (go_at_call 13; refine (digitI _ _).mono ?_; rw [HDG.out]; rintro e w1 ⟨rfl, hw⟩; subst w1))
            go_ret
            exact ⟨ret_int HR.out, (Below.refl _ _).alloc (Nat.le_refl _) _⟩
        · have hnx : ∀ ty, (Instr.next (.pointer (some ⟨w.heap.size, 0, none⟩)) true ty).run Tryd.prog (w.iter s k) = _ := fun ty => run_next_any w s k ty hlt
          obtain ⟨hd1, hd2⟩ := decode_high s k hlt (by omega)
          have hd3 := decode_le s k
          generalize (Utf8.decode s k).1 = r at *
          generalize (Utf8.decode s k).2 = wd at *
          have HR : Hid (-1 = readB s) := hide (by rw [hr.out, hst, digit_high _ (by omega)]; simp)
          have HDG : Hid (digitB (r : Int) = false) := hide (digit_high _ (by omega))
          clear hr hst hvs
          go_wp2_with (first
            | (go_at_call 13; refine (digitI _ _).mono ?_; rw [HDG.out]; rintro e w1 ⟨rfl, hw⟩; subst w1))
          go_ret
          exact ⟨ret_int HR.out, (Below.refl _ _).alloc (Nat.le_refl _) _⟩
      · have hnx : ∀ ty, (Instr.next (.pointer (some ⟨w.heap.size, 0, none⟩)) true ty).run Tryd.prog (w.iter s k) = _ := fun ty => run_next_end w s k ty hlt
        have HR : Hid (valTo s k = readB s) := hide (by rw [hr.out, dig_end s k (by omega), val_end s k (by omega)]; simp)
        clear hr
        go_wp2
        go_ret
        exact ⟨ret_int HR.out, hb⟩

end Go.Proofs.YthjglbimkfajlaaDoor
