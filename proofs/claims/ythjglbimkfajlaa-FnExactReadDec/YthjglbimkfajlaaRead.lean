/- The walks of the two ReadDec: each tells the number of a text of one to nine digits without a needless nought ahead, and -1 of any other text; nothing old in memory turns. -/
import Derived.Test.YthjglbimkfajlaaChecked
import Derived.Test.YthjglbimkfajlaaReadP
import Derived.WalkKit
import Derived.WalkLawsBesides
import Derived.WalkSpells
import Derived.Deep.QuietTactic
import Derived.BigQuiet
import Derived.Lib.Strings
import Derived.Laws.RangeAny
namespace Go.Proofs.Ythjglbimkfajlaa
open Go.RowKit
set_option linter.unusedVariables false

def readB (s : ByteArray) : Int := if s.size ≤ 9 ∧ noLead s.data.toList = true ∧ digAll s.data.toList = true then valI s.data.toList else -1
def digFrom (s : ByteArray) (k : Nat) : Bool := digAll (s.data.toList.drop k)
theorem dig_end (s : ByteArray) (k : Nat) (h : s.size ≤ k) : digFrom s k = true := by
  have : s.data.toList.drop k = [] := List.drop_eq_nil_of_le (by simpa using h)
  rw [digFrom, this]; rfl
theorem dig_step (s : ByteArray) (k : Nat) (h : k < s.size) : digFrom s k = (digitB (s[k].toNat : Int) && digFrom s (k + 1)) := by
  rw [digFrom, List.drop_eq_getElem_cons (by simpa using h)]; rfl
def valTo (s : ByteArray) (k : Nat) : Int := valI (s.data.toList.take k)
theorem val_step (s : ByteArray) (k : Nat) (h : k < s.size) : valTo s (k + 1) = 10 * valTo s k + ((s[k].toNat : Int) - 48) := by
  unfold valTo
  rw [List.take_succ_eq_append_getElem (by simpa using h), val_snoc]; rfl
theorem val_end (s : ByteArray) (k : Nat) (h : s.size ≤ k) : valTo s k = valI s.data.toList := by
  unfold valTo; rw [List.take_of_length_le (by simpa using h)]
theorem valTo_bound (s : ByteArray) (k : Nat) (h : s.size ≤ 9) : -23000000000 ≤ valTo s k ∧ valTo s k ≤ 23000000000 :=
  val_bound9 _ (by have h1 := List.length_take_le k s.data.toList; have h2 : s.data.toList.length = s.size := by simp
                   have h3 := List.length_take_le' k s.data.toList; omega)
theorem noLead_one (s : ByteArray) (h : s.size = 1) : noLead s.data.toList = true := by
  have h2 : s.data.toList.length = 1 := by simpa using h
  match hl : s.data.toList, h2 with
  | [_], _ => rfl
theorem noLead_more (s : ByteArray) (h : 1 < s.size) : noLead s.data.toList = ((s[0].toNat : Int) != 48) := by
  have e : s.data.toList = s[0] :: s.data.toList.drop 1 := by
    have := List.drop_eq_getElem_cons (l := s.data.toList) (i := 0) (by simpa using (show 0 < s.size by omega))
    rw [List.drop_zero] at this; exact this
  have h2 : (s.data.toList.drop 1).length = s.size - 1 := by simp
  rw [e]
  match hl : s.data.toList.drop 1, h2 with
  | [], h2 => simp at h2; omega
  | b :: r, _ =>
    simp only [noLead]
    rw [Bool.eq_iff_iff]; simp only [bne_iff_ne, ne_eq]
    constructor
    · intro hn e; exact hn (UInt8.toNat_inj.1 (by simp; omega))
    · intro hn e; exact hn (by rw [e]; rfl)

set_option maxHeartbeats 400000 in
theorem readI (s : ByteArray) (w : World) (hs : s.size ≤ 140737488355328) :
    Calls Try.prog 25 #[.string s] w fun e w' => e = .returned (.int .i64 (readB s)) ∧ Below w.heap.size w w' := by
  by_cases h0 : (s.size : Int) < 1
  · have HR : Hid (-1 = readB s) := hide (by
      have : s.data.toList = [] := List.eq_nil_of_length_eq_zero (by have : s.data.toList.length = s.size := by simp
                                                                     omega)
      simp [readB, this, noLead])
    go_enter Try.func25, Try.ntmps25
    go_wp2
    all_goals go_ret
    all_goals exact ⟨ret_int HR.out, Below.refl _ _⟩
  by_cases h9 : (9 : Int) < (s.size : Int)
  · have HR : Hid (-1 = readB s) := hide (by unfold readB; rw [if_neg (by omega)])
    go_enter Try.func25, Try.ntmps25
    go_wp2
    all_goals go_ret
    all_goals exact ⟨ret_int HR.out, Below.refl _ _⟩
  have hp : 0 < s.size := by omega
  by_cases hz : (1 : Int) < (s.size : Int) ∧ (s[0].toNat : Int) = 48
  · obtain ⟨h1, hz⟩ := hz
    have hnl := noLead_more s (by omega)
    have HR : Hid (-1 = readB s) := hide (by unfold readB; rw [hnl]; simp [hz])
    have hze : ((s[0].toNat : Int) == 48) = true := by simp [hz]
    clear hz hnl
    go_enter Try.func25, Try.ntmps25
    go_wp2
    all_goals go_ret
    all_goals exact ⟨ret_int HR.out, Below.refl _ _⟩
  have hnl : noLead s.data.toList = true := by
    by_cases h1 : 1 < s.size
    · rw [noLead_more s h1, bne_iff_ne]; intro e; exact hz ⟨by omega, e⟩
    · exact noLead_one s (by omega)
  have HF : Hid (readB s = if digFrom s 0 = true then valI s.data.toList else -1) := hide (by
    unfold readB digFrom
    simp only [hnl, List.drop_zero, true_and]
    have : s.size ≤ 9 := by omega
    simp [this])
  clear hnl
  have hze : (1 : Int) < (s.size : Int) → ((s[0].toNat : Int) == 48) = false := fun h1 => by
    simp only [beq_eq_false_iff_ne]; intro e; exact hz ⟨h1, e⟩
  clear hz
  by_cases h1 : (1 : Int) < (s.size : Int)
  all_goals
    first | (have hz1 := hze h1; clear hze) | clear hze
    go_enter Try.func25, Try.ntmps25
    go_wp2
    go_loopw [3, 5] (fun n _ wr => ∃ k : Nat, k ≤ s.size ∧ n = .int .i64 (valTo s k) ∧ wr = w.iter s k ∧ Hid (readB s = if digFrom s k = true then valI s.data.toList else -1)) (fun _ _ wr => s.size - wr.iterPos w.heap.size)
    case atStart => exact ⟨0, Nat.zero_le _, rfl, rfl, HF⟩
    case round =>
      clear HF
      obtain ⟨k, hk, rfl, rfl, hr⟩ := hrel
      have hb : Below w.heap.size w (w.iter s k) := (Below.refl _ _).alloc (Nat.le_refl _) _
      by_cases hlt : k < s.size
      · have hst := dig_step s k hlt
        obtain ⟨hv1, hv2⟩ := valTo_bound s k (by omega)
        have hvs := val_step s k hlt
        by_cases hasc : s[k].toNat < 128
        · have hnx : ∀ ty, (Instr.next (.pointer (some ⟨w.heap.size, 0, none⟩)) true ty).run Try.prog (w.iter s k) = _ := fun ty => run_next_ascii w s k ty hlt hasc
          cases hdg : digitB (s[k].toNat : Int) with
          | true =>
            have HR : Hid (readB s = if digFrom s (k + 1) = true then valI s.data.toList else -1) := hide (by rw [hr.out, hst, hdg]; simp)
            have HV := hide hvs
            have hbd := dig_bounds hdg
            have hbd1 : (48 : Int) ≤ (s[k].toNat : Int) := by omega
            have hbd2 : (s[k].toNat : Int) ≤ 57 := by omega
            have HDG := hide hdg
            clear hr hst hvs hdg hbd
            go_wp2_with (first
              | (go_at_call 49; refine (digitI _ _).mono ?_; rw [HDG.out]; rintro e w1 ⟨rfl, hw⟩; subst w1))
            exact ⟨⟨k + 1, by omega, by rw [HV.out, Int.mul_comm], rfl, HR⟩, by simp; omega⟩
          | false =>
            have HR : Hid (-1 = readB s) := hide (by rw [hr.out, hst, hdg]; simp)
            have HDG := hide hdg
            clear hr hst hvs hdg
            go_wp2_with (first
              | (go_at_call 49; refine (digitI _ _).mono ?_; rw [HDG.out]; rintro e w1 ⟨rfl, hw⟩; subst w1))
            go_ret
            exact ⟨ret_int HR.out, (Below.refl _ _).alloc (Nat.le_refl _) _⟩
        · have hnx : ∀ ty, (Instr.next (.pointer (some ⟨w.heap.size, 0, none⟩)) true ty).run Try.prog (w.iter s k) = _ := fun ty => run_next_any w s k ty hlt
          obtain ⟨hd1, hd2⟩ := decode_high s k hlt (by omega)
          have hd3 := decode_le s k
          generalize (Utf8.decode s k).1 = r at *
          generalize (Utf8.decode s k).2 = wd at *
          have HR : Hid (-1 = readB s) := hide (by rw [hr.out, hst, digit_high _ (by omega)]; simp)
          have HDG : Hid (digitB (r : Int) = false) := hide (digit_high _ (by omega))
          clear hr hst hvs
          go_wp2_with (first
            | (go_at_call 49; refine (digitI _ _).mono ?_; rw [HDG.out]; rintro e w1 ⟨rfl, hw⟩; subst w1))
          go_ret
          exact ⟨ret_int HR.out, (Below.refl _ _).alloc (Nat.le_refl _) _⟩
      · have hnx : ∀ ty, (Instr.next (.pointer (some ⟨w.heap.size, 0, none⟩)) true ty).run Try.prog (w.iter s k) = _ := fun ty => run_next_end w s k ty hlt
        have HR : Hid (valTo s k = readB s) := hide (by rw [hr.out, dig_end s k (by omega), val_end s k (by omega)]; simp)
        clear hr
        go_wp2
        go_ret
        exact ⟨ret_int HR.out, hb⟩

set_option maxHeartbeats 400000 in
theorem readS (s : ByteArray) (w : World) (hs : s.size ≤ 140737488355328) :
    Calls Try.prog 24 #[.string s] w fun e w' => e = .returned (.int .i64 (readB s)) ∧ ∃ n, w' = w.drewN n := by
  have HF : Hid (s.size ≤ 9 → digFrom s 0 = digAll s.data.toList) := hide (fun _ => by unfold digFrom; rw [List.drop_zero])
  go_enter Try.func24, Try.ntmps24
  go_wp2
  go_loopw [3, 4] (fun n i wr => ∃ k : Nat, k ≤ s.size ∧ (k = 0 ∨ s.size ≤ 9) ∧ n = .int .i64 (valTo s k) ∧ i = .int .i64 k ∧ Hid (digAll s.data.toList = digFrom s k) ∧ ∃ n, wr = w.drewN n) (fun _ i _ => s.size - (intOf i).toNat)
  case atStart => exact ⟨0, Nat.zero_le _, .inl rfl, rfl, rfl, hide (by unfold digFrom; rw [List.drop_zero]), 0, rfl⟩
  case round =>
    clear HF
    obtain ⟨k, hk, hk9, rfl, rfl, hr, n, rfl⟩ := hrel
    have HK9 := hide hk9
    clear hk9
    by_cases hlt : k < s.size
    · have hst := dig_step s k hlt
      have hbk := s[k].toNat_lt
      cases hdg : digitB (s[k].toNat : Int) with
      | true =>
        have HDG := hide hdg
        by_cases h9 : (9 : Int) < (s.size : Int)
        · have HR : Hid (-1 = readB s) := hide (by unfold readB; rw [if_neg (by omega)])
          clear hr hst hdg
          go_wp2_with (first
            | (go_at_call 47; refine (digitS _ _ (by omega) (by omega)).mono ?_; rw [HDG.out]; rintro e w1 ⟨rfl, hw⟩; subst w1))
          go_ret
          exact ⟨ret_int HR.out, n, rfl⟩
        · have HR : Hid (digAll s.data.toList = digFrom s (k + 1)) := hide (by rw [hr.out, hst, hdg]; rfl)
          obtain ⟨hv1, hv2⟩ := valTo_bound s k (by omega)
          have HV := hide (val_step s k hlt)
          clear hr hst hdg
          go_wp2_with (first
            | (go_at_call 47; refine (digitS _ _ (by omega) (by omega)).mono ?_; rw [HDG.out]; rintro e w1 ⟨rfl, hw⟩; subst w1))
          exact ⟨⟨k + 1, by omega, .inr (by omega), by rw [HV.out]; congr 1; omega, by go_num, HR, n, rfl⟩, by simp [intOf]; omega⟩
      | false =>
        have HR : Hid (-1 = readB s) := hide (by unfold readB; rw [hr.out, hst, hdg]; simp)
        have HDG := hide hdg
        clear hr hst hdg
        go_wp2_with (first
          | (go_at_call 47; refine (digitS _ _ (by omega) (by omega)).mono ?_; rw [HDG.out]; rintro e w1 ⟨rfl, hw⟩; subst w1))
        go_ret
        exact ⟨ret_int HR.out, n, rfl⟩
    · have hda : digAll s.data.toList = true := by rw [hr.out, dig_end s k (by omega)]
      have HE := hide (val_end s k (by omega))
      by_cases he : s.size = 0
      · have hem : s.toList.isEmpty = true := by
          rw [Lib.toList_data, List.isEmpty_iff]; exact List.eq_nil_of_length_eq_zero (by simpa using he)
        have HR : Hid (-1 = readB s) := hide (by
          have : s.data.toList = [] := List.eq_nil_of_length_eq_zero (by simpa using he)
          simp [readB, this, noLead])
        clear hr hda he
        go_wp2
        go_ret
        exact ⟨ret_int HR.out, n, rfl⟩
      · have hem : s.toList.isEmpty = false := by
          rw [Lib.toList_data]
          cases hl : s.data.toList with
          | nil => have : s.data.toList.length = s.size := by simp
                   rw [hl] at this; simp at this; omega
          | cons a r => rfl
        have h9 : s.size ≤ 9 := by rcases HK9.out with h | h <;> omega
        obtain ⟨hv1, hv2⟩ := valTo_bound s k h9
        have hvd := val_digits _ hda
        have hdec : (decB (valTo s k)).toList = Lib.decDigits (valI s.data.toList).toNat := by
          rw [Lib.toList_data, HE.out]; unfold decB Lib.itoa; rw [if_neg (by omega)]
        cases hn : noLead s.data.toList with
        | true =>
          have heq : ((decB (valTo s k)).toList == s.toList) = true := by
            rw [hdec, Lib.toList_data s, hvd.2.2 hn]; simp
          have HR : Hid (valTo s k = readB s) := hide (by unfold readB; rw [HE.out, if_pos ⟨h9, hn, hda⟩])
          clear hvd hdec hn hr hda
          go_wp2_with (first
            | (go_at_call 48; refine (decS _ _ (by omega) (by omega)).mono ?_; rintro e w1 ⟨rfl, hw⟩; subst w1))
          go_ret
          exact ⟨ret_int HR.out, n, rfl⟩
        | false =>
          have heq : ((decB (valTo s k)).toList == s.toList) = false := by
            rw [hdec, Lib.toList_data s, beq_eq_false_iff_ne]; exact val_lead _ hda hn
          have HR : Hid (-1 = readB s) := hide (by unfold readB; rw [hn]; simp)
          clear hvd hdec hn hr hda
          go_wp2_with (first
            | (go_at_call 48; refine (decS _ _ (by omega) (by omega)).mono ?_; rintro e w1 ⟨rfl, hw⟩; subst w1))
          go_ret
          exact ⟨ret_int HR.out, n, rfl⟩
end Go.Proofs.Ythjglbimkfajlaa
