/- My texts NmN, GcN, PoX, in this order. -/
import Derived.Test.YtlknhheafmifnaaGreatDoorPk01
import Derived.Lib.Strings
import Derived.Laws.RangeAny
import Derived.Test.YtlknhheafmifnaaGreatDoorPk00
/- The walks of the two NameOk and of what they ask of a sign: each tells whether a text is a name; nothing old in memory turns. -/
namespace Go.Proofs.YtlknhheafmifnaaGreatDoor.Nm
open Go.RowKit
set_option linter.unusedVariables false

def letterB (c : Int) : Bool := (decide (97 ≤ c) && decide (c ≤ 122)) || (decide (65 ≤ c) && decide (c ≤ 90))
def digitB (c : Int) : Bool := decide (48 ≤ c) && decide (c ≤ 57)
def nameB (c : Int) : Bool := letterB c || digitB c || decide (c = 95)

theorem letterS (c : Int) (w : World) (h0 : 0 ≤ c) (h1 : c ≤ 255) :
    Calls Tryz.prog 42 #[.int .u8 c] w fun e w' => e = .returned (.bool (letterB c)) ∧ w' = w := by
  have key : ∀ b, letterB c = b → Calls Tryz.prog 42 #[.int .u8 c] w fun e w' => e = .returned (.bool b) ∧ w' = w := by
    intro b hb
    by_cases a1 : c < 65
    · have d1 : decide (97 ≤ c) = false := by simp; omega
      have d2 : decide (65 ≤ c) = false := by simp; omega
      have hf : Hid (false = b) := hide (by rw [← hb]; simp [letterB]; omega)
      clear hb
      go_enter Tryz.func42, Tryz.ntmps42
      go_wp2
      go_ret
      exact ⟨ret_bool hf.out, rfl⟩
    by_cases a2 : c ≤ 90
    · have d1 : decide (97 ≤ c) = false := by simp; omega
      have d2 : decide (65 ≤ c) = true := by simp; omega
      have d3 : decide (c ≤ 90) = true := by simp; omega
      have hf : Hid (true = b) := hide (by rw [← hb]; simp [letterB]; omega)
      clear hb
      go_enter Tryz.func42, Tryz.ntmps42
      go_wp2
      go_ret
      exact ⟨ret_bool hf.out, rfl⟩
    by_cases a3 : c < 97
    · have d1 : decide (97 ≤ c) = false := by simp; omega
      have d2 : decide (65 ≤ c) = true := by simp; omega
      have d3 : decide (c ≤ 90) = false := by simp; omega
      have hf : Hid (false = b) := hide (by rw [← hb]; simp [letterB]; omega)
      clear hb
      go_enter Tryz.func42, Tryz.ntmps42
      go_wp2
      go_ret
      exact ⟨ret_bool hf.out, rfl⟩
    by_cases a4 : c ≤ 122
    · have d1 : decide (97 ≤ c) = true := by simp; omega
      have d2 : decide (c ≤ 122) = true := by simp; omega
      have hf : Hid (true = b) := hide (by rw [← hb]; simp [letterB]; omega)
      clear hb
      go_enter Tryz.func42, Tryz.ntmps42
      go_wp2
      go_ret
      exact ⟨ret_bool hf.out, rfl⟩
    · have d1 : decide (97 ≤ c) = true := by simp; omega
      have d2 : decide (c ≤ 122) = false := by simp; omega
      have d3 : decide (65 ≤ c) = true := by simp; omega
      have d4 : decide (c ≤ 90) = false := by simp; omega
      have hf : Hid (false = b) := hide (by rw [← hb]; simp [letterB]; omega)
      clear hb
      go_enter Tryz.func42, Tryz.ntmps42
      go_wp2
      go_ret
      exact ⟨ret_bool hf.out, rfl⟩
  exact key _ rfl

theorem digitS (c : Int) (w : World) (h0 : 0 ≤ c) (h1 : c ≤ 255) :
    Calls Tryz.prog 43 #[.int .u8 c] w fun e w' => e = .returned (.bool (digitB c)) ∧ w' = w := by
  go_enter Tryz.func43, Tryz.ntmps43
  go_wp2
  all_goals go_ret
  all_goals exact ⟨ret_bool (by rw [Bool.eq_iff_iff]; simp [digitB]; try omega), rfl⟩
theorem letterI (c : Int) (w : World) :
    Calls Tryz.prog 48 #[.int .i32 c] w fun e w' => e = .returned (.bool (letterB c)) ∧ w' = w := by
  go_enter Tryz.func48, Tryz.ntmps48
  go_wp2
  all_goals go_ret
  all_goals exact ⟨ret_bool (by rw [Bool.eq_iff_iff]; simp [letterB]; try omega), rfl⟩
theorem digitI (c : Int) (w : World) :
    Calls Tryz.prog 49 #[.int .i32 c] w fun e w' => e = .returned (.bool (digitB c)) ∧ w' = w := by
  go_enter Tryz.func49, Tryz.ntmps49
  go_wp2
  all_goals go_ret
  all_goals exact ⟨ret_bool (by rw [Bool.eq_iff_iff]; simp [digitB]; try omega), rfl⟩

/-- from place k on all bytes are signs of a name -/
def allFrom (s : ByteArray) (k : Nat) : Bool := (s.data.toList.drop k).all fun c => nameB (c.toNat : Int)
def firstB (s : ByteArray) : Bool := match s.data.toList with | [] => false | c :: _ => letterB (c.toNat : Int)
def nameOkB (s : ByteArray) : Bool := decide (s.size ≤ 12) && firstB s && allFrom s 0
theorem all_end (s : ByteArray) (k : Nat) (h : s.size ≤ k) : allFrom s k = true := by
  have : s.data.toList.drop k = [] := List.drop_eq_nil_of_le (by simpa using h)
  rw [allFrom, this]; rfl
theorem all_step (s : ByteArray) (k : Nat) (h : k < s.size) : allFrom s k = (nameB (s[k].toNat : Int) && allFrom s (k + 1)) := by
  rw [allFrom, List.drop_eq_getElem_cons (by simpa using h)]; rfl
theorem first_eq (s : ByteArray) (h : 0 < s.size) : firstB s = letterB (s[0].toNat : Int) := by
  have e : s.data.toList = s[0] :: s.data.toList.drop 1 := by
    have := List.drop_eq_getElem_cons (l := s.data.toList) (i := 0) (by simpa using h)
    rw [List.drop_zero] at this; exact this
  unfold firstB; rw [e]
theorem first_size (s : ByteArray) (h : firstB s = true) : 0 < s.size := by
  have e : s.size = s.data.toList.length := by simp
  unfold firstB at h; rw [e]
  cases hl : s.data.toList with
  | nil => rw [hl] at h; cases h
  | cons _ _ => simp
theorem name_high (c : Int) (h : 128 ≤ c) : nameB c = false := by
  rw [Bool.eq_false_iff]; simp [nameB, letterB, digitB]; omega
theorem letter_high (c : Int) (h : 128 ≤ c) : letterB c = false := by
  rw [Bool.eq_false_iff]; simp [letterB]; omega
theorem digit_high (c : Int) (h : 128 ≤ c) : digitB c = false := by
  rw [Bool.eq_false_iff]; simp [digitB]; omega

theorem inS_yes (x a b : Int) (w : World) (h0 : a ≤ x) (h1 : x ≤ b) :
    Calls Tryz.prog 41 #[.int .i64 x, .int .i64 a, .int .i64 b] w fun e w' => e = .returned (.bool true) ∧ w' = w := by
  have d1 : decide (a ≤ x) = true := by simp; omega
  have d2 : decide (x ≤ b) = true := by simp; omega
  go_enter Tryz.func41, Tryz.ntmps41
  go_wp2
  go_ret
  exact ⟨rfl, rfl⟩

set_option maxHeartbeats 400000 in
theorem nameS (s : ByteArray) (w : World) (hs : s.size ≤ 140737488355328) :
    Calls Tryz.prog 31 #[.string s] w fun e w' => e = .returned (.bool (nameOkB s)) ∧ ∃ n, w' = w.drewN n := by
  by_cases h12 : 12 < s.size
  · have HR : Hid (false = nameOkB s) := hide (by simp [nameOkB]; omega)
    have d1 : decide ((s.size : Int) ≤ 12) = false := by simp; omega
    go_enter Tryz.func31, Tryz.ntmps31
    go_wp2
    all_goals go_ret
    all_goals exact ⟨ret_bool HR.out, 0, rfl⟩
  by_cases h0 : s.size = 0
  · have HR : Hid (false = nameOkB s) := hide (by simp [nameOkB]; intro _ h; have := first_size s h; omega)
    have d1 : decide ((1 : Int) ≤ (s.size : Int)) = false := by simp; omega
    clear h0
    go_enter Tryz.func31, Tryz.ntmps31
    go_wp2
    all_goals go_ret
    all_goals exact ⟨ret_bool HR.out, 0, rfl⟩
  have hp : 0 < s.size := by omega
  have d1 : decide ((1 : Int) ≤ (s.size : Int)) = true := by simp; omega
  have d2 : decide ((s.size : Int) ≤ 12) = true := by simp; omega
  have hb0 := s[0].toNat_lt
  have hfe := first_eq s hp
  cases hl : letterB (s[0].toNat : Int) with
  | false =>
    have HR : Hid (false = nameOkB s) := hide (by rw [hl] at hfe; simp [nameOkB, hfe])
    have HL := hide hl
    clear hl hfe
    go_enter Tryz.func31, Tryz.ntmps31
    go_wp2_with (first
      | (go_at_call 41; refine (inS_yes _ _ _ _ (by omega) (by omega)).mono ?_; rintro e w1 ⟨rfl, hw⟩; subst w1)
      | (go_at_call 42; refine (letterS _ _ (by omega) (by omega)).mono ?_; rw [HL.out]; rintro e w1 ⟨rfl, hw⟩; subst w1))
    go_ret
    exact ⟨ret_bool HR.out, 0, rfl⟩
  | true =>
    have HR : Hid (nameOkB s = allFrom s 0) := hide (by rw [hl] at hfe; simp [nameOkB, hfe]; omega)
    have HL := hide hl
    clear hl hfe
    go_enter Tryz.func31, Tryz.ntmps31
    go_wp2_with (first
      | (go_at_call 41; refine (inS_yes _ _ _ _ (by omega) (by omega)).mono ?_; rintro e w1 ⟨rfl, hw⟩; subst w1)
      | (go_at_call 42; refine (letterS _ _ (by omega) (by omega)).mono ?_; rw [HL.out]; rintro e w1 ⟨rfl, hw⟩; subst w1))
    go_loopw [3] (fun i wr => ∃ k : Nat, k ≤ s.size ∧ i = .int .i64 k ∧ Hid (nameOkB s = allFrom s k) ∧ ∃ n, wr = w.drewN n) (fun i _ => s.size - (intOf i).toNat)
    case atStart => exact ⟨0, Nat.zero_le _, rfl, HR, 0, rfl⟩
    case round =>
      clear HR
      obtain ⟨k, hk, rfl, hr, n, rfl⟩ := hrel
      by_cases hlt : k < s.size
      · have hbk := s[k].toNat_lt
        have hst := all_step s k hlt
        cases hn : nameB (s[k].toNat : Int) with
        | true =>
          have HR : Hid (nameOkB s = allFrom s (k + 1)) := hide (by rw [hr.out, hst, hn]; rfl)
          have HN := hide hn
          clear hr hst hn
          cases hle : letterB (s[k].toNat : Int) with
          | true =>
            have HLE := hide hle
            clear hle
            go_wp2_with (first
              | (go_at_call 42; refine (letterS _ _ (by omega) (by omega)).mono ?_; rw [HLE.out]; rintro e w1 ⟨rfl, hw⟩; subst w1))
            exact ⟨⟨k + 1, by omega, by go_num, HR, n, rfl⟩, by simp [intOf]; omega⟩
          | false =>
            have HLE := hide hle
            clear hle
            cases hdg : digitB (s[k].toNat : Int) with
            | true =>
              have HDG := hide hdg
              clear hdg
              go_wp2_with (first
                | (go_at_call 42; refine (letterS _ _ (by omega) (by omega)).mono ?_; rw [HLE.out]; rintro e w1 ⟨rfl, hw⟩; subst w1)
                | (go_at_call 43; refine (digitS _ _ (by omega) (by omega)).mono ?_; rw [HDG.out]; rintro e w1 ⟨rfl, hw⟩; subst w1))
              exact ⟨⟨k + 1, by omega, by go_num, HR, n, rfl⟩, by simp [intOf]; omega⟩
            | false =>
              have hne : ((s[k].toNat : Int) != 95) = false := by
                have := HN.out; simp only [nameB, HLE.out, hdg, Bool.false_or, decide_eq_true_eq] at this
                simp [this]
              have HDG := hide hdg
              clear hdg
              go_wp2_with (first
                | (go_at_call 42; refine (letterS _ _ (by omega) (by omega)).mono ?_; rw [HLE.out]; rintro e w1 ⟨rfl, hw⟩; subst w1)
                | (go_at_call 43; refine (digitS _ _ (by omega) (by omega)).mono ?_; rw [HDG.out]; rintro e w1 ⟨rfl, hw⟩; subst w1))
              exact ⟨⟨k + 1, by omega, by go_num, HR, n, rfl⟩, by simp [intOf]; omega⟩
        | false =>
          have HR : Hid (false = nameOkB s) := hide (by rw [hr.out, hst, hn]; rfl)
          have hle : letterB (s[k].toNat : Int) = false := by
            cases h : letterB (s[k].toNat : Int) with
            | false => rfl
            | true => simp [nameB, h] at hn
          have hdg : digitB (s[k].toNat : Int) = false := by
            cases h : digitB (s[k].toNat : Int) with
            | false => rfl
            | true => simp [nameB, h] at hn
          have hne : ((s[k].toNat : Int) != 95) = true := by
            simp only [nameB, hle, hdg, Bool.false_or, decide_eq_false_iff_not] at hn
            simpa using hn
          have HLE := hide hle
          have HDG := hide hdg
          clear hr hst hn hle hdg
          go_wp2_with (first
            | (go_at_call 42; refine (letterS _ _ (by omega) (by omega)).mono ?_; rw [HLE.out]; rintro e w1 ⟨rfl, hw⟩; subst w1)
            | (go_at_call 43; refine (digitS _ _ (by omega) (by omega)).mono ?_; rw [HDG.out]; rintro e w1 ⟨rfl, hw⟩; subst w1))
          go_ret
          exact ⟨ret_bool HR.out, n, rfl⟩
      · have HR : Hid (true = nameOkB s) := hide (by rw [hr.out, all_end s k (by omega)])
        clear hr
        go_wp2
        go_ret
        exact ⟨ret_bool HR.out, n, rfl⟩

set_option maxHeartbeats 400000 in
theorem nameI (s : ByteArray) (w : World) (hs : s.size ≤ 140737488355328) :
    Calls Tryz.prog 35 #[.string s] w fun e w' => e = .returned (.bool (nameOkB s)) ∧ Below w.heap.size w w' := by
  by_cases h12 : (12 : Int) < (s.size : Int)
  · have HR : Hid (false = nameOkB s) := hide (by simp [nameOkB]; omega)
    go_enter Tryz.func35, Tryz.ntmps35
    go_wp2
    all_goals go_ret
    all_goals exact ⟨ret_bool HR.out, Below.refl _ _⟩
  by_cases h0 : (s.size : Int) < 1
  · have HR : Hid (false = nameOkB s) := hide (by simp [nameOkB]; intro _ h; have := first_size s h; omega)
    go_enter Tryz.func35, Tryz.ntmps35
    go_wp2
    all_goals go_ret
    all_goals exact ⟨ret_bool HR.out, Below.refl _ _⟩
  have hp : 0 < s.size := by omega
  have hfe := first_eq s hp
  have HF : Hid (nameOkB s = (letterB (s[0].toNat : Int) && allFrom s 0)) := hide (by unfold nameOkB; rw [hfe, decide_eq_true (show s.size ≤ 12 by omega), Bool.true_and])
  clear hfe
  go_enter Tryz.func35, Tryz.ntmps35
  go_wp2
  go_loopw [3, 4] (fun _ _ wr => ∃ k : Nat, k ≤ s.size ∧ wr = w.iter s k ∧ Hid (nameOkB s = ((k != 0 || letterB (s[0].toNat : Int)) && allFrom s k))) (fun _ _ wr => s.size - wr.iterPos w.heap.size)
  case atStart => exact ⟨0, Nat.zero_le _, rfl, HF⟩
  case round =>
    clear HF
    obtain ⟨k, hk, rfl, hr⟩ := hrel
    have hb : Below w.heap.size w (w.iter s k) := (Below.refl _ _).alloc (Nat.le_refl _) _
    by_cases hlt : k < s.size
    · have hst := all_step s k hlt
      by_cases hasc : s[k].toNat < 128
      · have hnx : ∀ ty, (Instr.next (.pointer (some ⟨w.heap.size, 0, none⟩)) true ty).run Tryz.prog (w.iter s k) = _ := fun ty => run_next_ascii w s k ty hlt hasc
        cases hle : letterB (s[k].toNat : Int) with
        | true =>
          have HR : Hid (nameOkB s = ((k + 1 != 0 || letterB (s[0].toNat : Int)) && allFrom s (k + 1))) := hide (by
            rw [hr.out, hst]
            by_cases hk0 : k = 0
            · subst hk0; simp [nameB, hle]
            · simp [nameB, hle, hk0])
          have HLE := hide hle
          clear hr hst hle
          go_wp2_with (first
            | (go_at_call 48; refine (letterI _ _).mono ?_; rw [HLE.out]; rintro e w1 ⟨rfl, hw⟩; subst w1))
          exact ⟨⟨k + 1, by omega, rfl, HR⟩, by simp; omega⟩
        | false =>
          by_cases hk0 : k = 0
          · have HR : Hid (false = nameOkB s) := hide (by rw [hr.out]; subst hk0; simp [hle])
            have hkz : ((k : Int) == 0) = true := by simp; omega
            have HLE := hide hle
            clear hr hst hle hk0
            go_wp2_with (first
              | (go_at_call 48; refine (letterI _ _).mono ?_; rw [HLE.out]; rintro e w1 ⟨rfl, hw⟩; subst w1))
            go_ret
            exact ⟨ret_bool HR.out, (Below.refl _ _).alloc (Nat.le_refl _) _⟩
          have hkz : ((k : Int) == 0) = false := by simp; omega
          cases hdg : digitB (s[k].toNat : Int) with
          | true =>
            have HR : Hid (nameOkB s = ((k + 1 != 0 || letterB (s[0].toNat : Int)) && allFrom s (k + 1))) := hide (by
              rw [hr.out, hst]; simp [nameB, hdg, hk0])
            have HLE := hide hle
            have HDG := hide hdg
            clear hr hst hle hdg
            go_wp2_with (first
              | (go_at_call 48; refine (letterI _ _).mono ?_; rw [HLE.out]; rintro e w1 ⟨rfl, hw⟩; subst w1)
              | (go_at_call 49; refine (digitI _ _).mono ?_; rw [HDG.out]; rintro e w1 ⟨rfl, hw⟩; subst w1))
            exact ⟨⟨k + 1, by omega, rfl, HR⟩, by simp; omega⟩
          | false =>
            by_cases h95 : (s[k].toNat : Int) = 95
            · have HR : Hid (nameOkB s = ((k + 1 != 0 || letterB (s[0].toNat : Int)) && allFrom s (k + 1))) := hide (by
                rw [hr.out, hst]; simp [nameB, h95, hk0])
              have hne : ((s[k].toNat : Int) != 95) = false := by simp [h95]
              have HLE := hide hle
              have HDG := hide hdg
              clear hr hst hle hdg h95
              go_wp2_with (first
                | (go_at_call 48; refine (letterI _ _).mono ?_; rw [HLE.out]; rintro e w1 ⟨rfl, hw⟩; subst w1)
                | (go_at_call 49; refine (digitI _ _).mono ?_; rw [HDG.out]; rintro e w1 ⟨rfl, hw⟩; subst w1))
              exact ⟨⟨k + 1, by omega, rfl, HR⟩, by simp; omega⟩
            · have HR : Hid (false = nameOkB s) := hide (by rw [hr.out, hst]; simp [nameB, hle, hdg, h95])
              have hne : ((s[k].toNat : Int) != 95) = true := by simp only [bne_iff_ne]; exact h95
              have HLE := hide hle
              have HDG := hide hdg
              clear hr hst hle hdg h95
              go_wp2_with (first
                | (go_at_call 48; refine (letterI _ _).mono ?_; rw [HLE.out]; rintro e w1 ⟨rfl, hw⟩; subst w1)
                | (go_at_call 49; refine (digitI _ _).mono ?_; rw [HDG.out]; rintro e w1 ⟨rfl, hw⟩; subst w1))
              go_ret
              exact ⟨ret_bool HR.out, (Below.refl _ _).alloc (Nat.le_refl _) _⟩
      · have hnx : ∀ ty, (Instr.next (.pointer (some ⟨w.heap.size, 0, none⟩)) true ty).run Tryz.prog (w.iter s k) = _ := fun ty => run_next_any w s k ty hlt
        obtain ⟨hd1, hd2⟩ := decode_high s k hlt (by omega)
        have hd3 := decode_le s k
        generalize (Utf8.decode s k).1 = r at *
        generalize (Utf8.decode s k).2 = wd at *
        have HR : Hid (false = nameOkB s) := hide (by rw [hr.out, hst, name_high _ (by omega)]; simp)
        have HLE : Hid (letterB (r : Int) = false) := hide (letter_high _ (by omega))
        have HDG : Hid (digitB (r : Int) = false) := hide (digit_high _ (by omega))
        have hne : ((r : Int) != 95) = true := by simp; omega
        clear hr hst
        by_cases hk0 : k = 0
        · have hkz : ((k : Int) == 0) = true := by simp; omega
          clear hk0
          go_wp2_with (first
            | (go_at_call 48; refine (letterI _ _).mono ?_; rw [HLE.out]; rintro e w1 ⟨rfl, hw⟩; subst w1)
            | (go_at_call 49; refine (digitI _ _).mono ?_; rw [HDG.out]; rintro e w1 ⟨rfl, hw⟩; subst w1))
          go_ret
          exact ⟨ret_bool HR.out, (Below.refl _ _).alloc (Nat.le_refl _) _⟩
        · have hkz : ((k : Int) == 0) = false := by simp; omega
          go_wp2_with (first
            | (go_at_call 48; refine (letterI _ _).mono ?_; rw [HLE.out]; rintro e w1 ⟨rfl, hw⟩; subst w1)
            | (go_at_call 49; refine (digitI _ _).mono ?_; rw [HDG.out]; rintro e w1 ⟨rfl, hw⟩; subst w1))
          go_ret
          exact ⟨ret_bool HR.out, (Below.refl _ _).alloc (Nat.le_refl _) _⟩
    · have hnx : ∀ ty, (Instr.next (.pointer (some ⟨w.heap.size, 0, none⟩)) true ty).run Tryz.prog (w.iter s k) = _ := fun ty => run_next_end w s k ty hlt
      have HR : Hid (true = nameOkB s) := hide (by rw [hr.out, all_end s k (by omega)]; simp; left; omega)
      clear hr
      go_wp2
      go_ret
      exact ⟨ret_bool HR.out, hb⟩
end Go.Proofs.YtlknhheafmifnaaGreatDoor.Nm

/- The walks of the greatest common divisors. -/
namespace Go.Proofs.YtlknhheafmifnaaGreatDoor.Nm
open Go.RowKit
set_option linter.unusedVariables false

theorem absI (a : Int) (w : World) (ha1 : -1000000000000000 ≤ a) (ha2 : a ≤ 1000000000000000) :
    Calls Tryz.prog 64 #[.int .i64 a] w fun e w' => e = .returned (.int .i64 a.natAbs) ∧ w' = w := by
  by_cases h : a < 0
  all_goals
    go_enter Tryz.func64, Tryz.ntmps64
    go_wp2
    go_ret
    exact ⟨ret_int (by omega), rfl⟩

set_option maxHeartbeats 400000 in
theorem gdI (a b : Int) (w : World) (ha1 : -1000000000000000 ≤ a) (ha2 : a ≤ 1000000000000000) (hb1 : -1000000000000000 ≤ b) (hb2 : b ≤ 1000000000000000) :
    Calls Tryz.prog 50 #[.int .i64 a, .int .i64 b] w fun e w' => e = .returned (.int .i64 (Int.gcd a b)) ∧ ∃ n, w' = w.drewN n := by
  go_enter Tryz.func50, Tryz.ntmps50
  go_wp2
  go_loopw [0, 1] (fun x y wr => ∃ c d : Int, x = .int .i64 c ∧ y = .int .i64 d ∧ -1000000000000000 ≤ c ∧ c ≤ 1000000000000000 ∧ -1000000000000000 ≤ d ∧ d ≤ 1000000000000000 ∧ Hid (Int.gcd c d = Int.gcd a b) ∧ ∃ n, wr = w.drewN n) (fun _ y _ => (intOf y).natAbs)
  case atStart => exact ⟨a, b, rfl, rfl, ha1, ha2, hb1, hb2, hide rfl, 0, rfl⟩
  case round =>
    obtain ⟨c, d, rfl, rfl, hc1, hc2, hd1, hd2, hg, n, rfl⟩ := hrel
    by_cases hd : d = 0
    · subst hd
      have hg' := hg.out
      rw [Int.gcd_zero_right] at hg'
      have HG := hide hg'
      clear hg hg'
      go_wp2_with (go_at_call 64; refine (absI _ _ hc1 hc2).mono ?_; rintro e w1 ⟨rfl, hw⟩; subst w1)
      go_ret
      exact ⟨ret_int (by have := HG.out; omega), n, rfl⟩
    · have hne : (d != 0) = true := by rw [bne_iff_ne]; exact hd
      have hr := Plain.tmod_lt c d hd
      have HG : Hid (Int.gcd d (c.tmod d) = Int.gcd a b) := hide ((Plain.gcd_step c d).trans hg.out)
      clear hg
      go_wp2_with fail
      go_quiet (fail)
      go_wp2
      exact ⟨⟨d, c.tmod d, rfl, rfl, hd1, hd2, by omega, by omega, HG, n + nq, World.drewN_drewN ..⟩, by simp only [intOf]; exact hr⟩

theorem absS (a : Int) (w : World) (ha1 : -1000000000 ≤ a) (ha2 : a ≤ 1000000000) :
    Calls Tryz.prog 57 #[.int .i64 a] w fun e w' => e = .returned (.int .i64 a.natAbs) ∧ w' = w := by
  by_cases h : a < 0
  all_goals
    go_enter Tryz.func57, Tryz.ntmps57
    go_wp2
    go_ret
    exact ⟨ret_int (by omega), rfl⟩

theorem smallS_in (a : Int) (w : World) (ha1 : -1000000000 ≤ a) (ha2 : a ≤ 1000000000) :
    Calls Tryz.prog 56 #[.int .i64 a] w fun e w' => e = .returned (.bool true) ∧ w' = w := by
  have h1 : decide (-1000000000 ≤ a) = true := by simp; omega
  have h2 : decide (a ≤ 1000000000) = true := by simp; omega
  go_enter Tryz.func56, Tryz.ntmps56
  go_wp2
  go_ret
  exact ⟨rfl, rfl⟩

set_option maxHeartbeats 400000 in
theorem gcdS_in (a b : Int) (w : World) (ha1 : -1000000000 ≤ a) (ha2 : a ≤ 1000000000) (hb1 : -1000000000 ≤ b) (hb2 : b ≤ 1000000000) :
    Calls Tryz.prog 44 #[.int .i64 a, .int .i64 b] w fun e w' => e = .returned (.int .i64 (Int.gcd a b)) ∧ ∃ n, w' = w.drewN n := by
  go_enter Tryz.func44, Tryz.ntmps44
  go_wp2_with (first
    | (go_at_call 57; refine (absS _ _ (by omega) (by omega)).mono ?_; rintro e w1 ⟨rfl, hw⟩; subst w1)
    | (go_at_call 56; refine (smallS_in _ _ (by omega) (by omega)).mono ?_; rintro e w1 ⟨rfl, hw⟩; subst w1))
  go_loopw [5, 6, 7] (fun x y _ wr => ∃ c d : Int, x = .int .i64 c ∧ y = .int .i64 d ∧ 0 ≤ c ∧ c ≤ 1000000000 ∧ 0 ≤ d ∧ d ≤ 1000000000 ∧ Hid (Int.gcd c d = Int.gcd a b) ∧ ∃ n, wr = w.drewN n) (fun _ y _ _ => (intOf y).natAbs)
  case atStart => exact ⟨a.natAbs, b.natAbs, rfl, rfl, by omega, by omega, by omega, by omega, hide (by simp [Int.gcd]), 0, rfl⟩
  case round =>
    obtain ⟨c, d, rfl, rfl, hc1, hc2, hd1, hd2, hg, n, rfl⟩ := hrel
    by_cases hd : 0 < d
    · have hr := Plain.tmod_lt c d (by omega)
      have hgs := Plain.gcd_step c d
      rw [Int.tmod_eq_emod_of_nonneg hc1] at hr hgs
      have hr0 := Int.emod_nonneg c (show d ≠ 0 by omega)
      have HG : Hid (Int.gcd d (c % d) = Int.gcd a b) := hide (hgs.trans hg.out)
      clear hg hgs
      go_wp2
      exact ⟨⟨d, c % d, rfl, rfl, hd1, hd2, by omega, by omega, HG, n, rfl⟩, by simp only [intOf]; exact hr⟩
    · obtain rfl : d = 0 := by omega
      have hg' := hg.out
      rw [Int.gcd_zero_right] at hg'
      have HG := hide hg'
      clear hg hg'
      go_wp2
      go_ret
      exact ⟨ret_int (by have := HG.out; omega), n, rfl⟩

end Go.Proofs.YtlknhheafmifnaaGreatDoor.Nm

/- The walks of l06Power, powerFits and both PartOk. -/
namespace Go.Proofs.YtlknhheafmifnaaGreatDoor.Nm
open Go.RowKit
set_option linter.unusedVariables false

def pwB (p q : Int) : Bool := decide (-12 ≤ p ∧ p ≤ 12) && (decide (1 ≤ q ∧ q ≤ 12) && decide (Int.gcd p q = 1))
def partB (s : ByteArray) (p q : Int) : Bool := nameOkB s && pwB p q
theorem inP (n a b : Int) (w : World) : Calls Tryz.prog 41 #[.int .i64 n, .int .i64 a, .int .i64 b] w fun e w' => e = .returned (.bool (decide (a ≤ n ∧ n ≤ b))) ∧ w' = w := by
  by_cases h1 : a ≤ n
  · by_cases h2 : n ≤ b
    · rw [decide_eq_true ⟨h1, h2⟩]
      go_enter Tryz.func41, Tryz.ntmps41
      go_wp2
      go_ret
      exact ⟨rfl, rfl⟩
    · rw [decide_eq_false (fun h => h2 h.2)]
      go_enter Tryz.func41, Tryz.ntmps41
      go_wp2
      go_ret
      exact ⟨rfl, rfl⟩
  · rw [decide_eq_false (fun h => h1 h.1)]
    go_enter Tryz.func41, Tryz.ntmps41
    go_wp2
    go_ret
    exact ⟨rfl, rfl⟩
theorem pw_1 {p q : Int} (h : ¬ (-12 ≤ p ∧ p ≤ 12)) : pwB p q = false := by unfold pwB; rw [decide_eq_false h, Bool.false_and]
theorem pw_2 {p q : Int} (h : ¬ (1 ≤ q ∧ q ≤ 12)) : pwB p q = false := by unfold pwB; rw [decide_eq_false h, Bool.false_and, Bool.and_false]
theorem pw_3 {p q : Int} (h1 : -12 ≤ p ∧ p ≤ 12) (h2 : 1 ≤ q ∧ q ≤ 12) : pwB p q = (((Int.gcd p q : Nat) : Int) == 1) := by
  unfold pwB
  rw [decide_eq_true h1, decide_eq_true h2, Bool.true_and, Bool.true_and, Bool.eq_iff_iff]
  simp only [decide_eq_true_eq, beq_iff_eq]
  omega

set_option maxHeartbeats 1000000 in
theorem powS (p q : Int) (w : World) :
    Calls Tryz.prog 32 #[.int .i64 p, .int .i64 q] w fun e w' => e = .returned (.bool (pwB p q)) ∧ ∃ n, w' = w.drewN n := by
  by_cases h1 : -12 ≤ p ∧ p ≤ 12
  · by_cases h2 : 1 ≤ q ∧ q ≤ 12
    · have HR := hide (pw_3 h1 h2)
      have D1 : Hid (decide (-12 ≤ p ∧ p ≤ 12) = true) := hide (decide_eq_true h1)
      have D2 : Hid (decide (1 ≤ q ∧ q ≤ 12) = true) := hide (decide_eq_true h2)
      go_enter Tryz.func32, Tryz.ntmps32
      go_wp2_with fail
      refine (inP p (-12) 12 _).mono ?_
      rw [D1.out]
      rintro e w1 ⟨rfl, hw⟩
      subst w1
      go_wp2_with fail
      refine (inP q 1 12 _).mono ?_
      rw [D2.out]
      rintro e w1 ⟨rfl, hw⟩
      subst w1
      go_wp2_with fail
      refine (gcdS_in p q _ (by omega) (by omega) (by omega) (by omega)).mono ?_
      rintro e w1 ⟨rfl, n, rfl⟩
      go_wp2
      go_ret
      exact ⟨ret_bool HR.out.symm, n, rfl⟩
    · have HR := hide (pw_2 (p := p) h2)
      have D1 : Hid (decide (-12 ≤ p ∧ p ≤ 12) = true) := hide (decide_eq_true h1)
      have D2 : Hid (decide (1 ≤ q ∧ q ≤ 12) = false) := hide (decide_eq_false h2)
      go_enter Tryz.func32, Tryz.ntmps32
      go_wp2_with fail
      refine (inP p (-12) 12 _).mono ?_
      rw [D1.out]
      rintro e w1 ⟨rfl, hw⟩
      subst w1
      go_wp2_with fail
      refine (inP q 1 12 _).mono ?_
      rw [D2.out]
      rintro e w1 ⟨rfl, hw⟩
      subst w1
      go_wp2
      go_ret
      exact ⟨ret_bool HR.out.symm, 0, rfl⟩
  · have HR := hide (pw_1 (q := q) h1)
    have D1 : Hid (decide (-12 ≤ p ∧ p ≤ 12) = false) := hide (decide_eq_false h1)
    go_enter Tryz.func32, Tryz.ntmps32
    go_wp2_with fail
    refine (inP p (-12) 12 _).mono ?_
    rw [D1.out]
    rintro e w1 ⟨rfl, hw⟩
    subst w1
    go_wp2
    go_ret
    exact ⟨ret_bool HR.out.symm, 0, rfl⟩

set_option maxHeartbeats 1000000 in
theorem powI (p q : Int) (w : World) :
    Calls Tryz.prog 36 #[.int .i64 p, .int .i64 q] w fun e w' => e = .returned (.bool (pwB p q)) ∧ ∃ n, w' = w.drewN n := by
  by_cases a1 : -12 ≤ p
  · by_cases a2 : p ≤ 12
    · by_cases a3 : 1 ≤ q
      · by_cases a4 : q ≤ 12
        · have HR := hide (pw_3 ⟨a1, a2⟩ ⟨a3, a4⟩)
          have d1 : decide (-12 ≤ p) = true := decide_eq_true a1
          have d2 : decide (p ≤ 12) = true := decide_eq_true a2
          have d3 : decide (1 ≤ q) = true := decide_eq_true a3
          have d4 : decide (q ≤ 12) = true := decide_eq_true a4
          go_enter Tryz.func36, Tryz.ntmps36
          go_wp2_with fail
          refine (gdI p q _ (by omega) (by omega) (by omega) (by omega)).mono ?_
          rintro e w1 ⟨rfl, n, rfl⟩
          go_wp2
          go_ret
          exact ⟨ret_bool HR.out.symm, n, rfl⟩
        · have HR := hide (pw_2 (p := p) (fun h => a4 h.2))
          have d1 : decide (-12 ≤ p) = true := decide_eq_true a1
          have d2 : decide (p ≤ 12) = true := decide_eq_true a2
          have d3 : decide (1 ≤ q) = true := decide_eq_true a3
          have d4 : decide (q ≤ 12) = false := decide_eq_false a4
          go_enter Tryz.func36, Tryz.ntmps36
          go_wp2
          go_ret
          exact ⟨ret_bool HR.out.symm, 0, rfl⟩
      · have HR := hide (pw_2 (p := p) (fun h => a3 h.1))
        have d1 : decide (-12 ≤ p) = true := decide_eq_true a1
        have d2 : decide (p ≤ 12) = true := decide_eq_true a2
        have d3 : decide (1 ≤ q) = false := decide_eq_false a3
        go_enter Tryz.func36, Tryz.ntmps36
        go_wp2
        go_ret
        exact ⟨ret_bool HR.out.symm, 0, rfl⟩
    · have HR := hide (pw_1 (q := q) (fun h => a2 h.2))
      have d1 : decide (-12 ≤ p) = true := decide_eq_true a1
      have d2 : decide (p ≤ 12) = false := decide_eq_false a2
      go_enter Tryz.func36, Tryz.ntmps36
      go_wp2
      go_ret
      exact ⟨ret_bool HR.out.symm, 0, rfl⟩
  · have HR := hide (pw_1 (q := q) (fun h => a1 h.1))
    have d1 : decide (-12 ≤ p) = false := decide_eq_false a1
    go_enter Tryz.func36, Tryz.ntmps36
    go_wp2
    go_ret
    exact ⟨ret_bool HR.out.symm, 0, rfl⟩
end Go.Proofs.YtlknhheafmifnaaGreatDoor.Nm
