/- The walks of the two NameOk and of what they ask of a sign: each tells whether a text is a name; nothing old in memory turns. -/
import Derived.Test.YtnjaejaibbgkpaaGreatPk01
import Derived.Lib.Strings
import Derived.Laws.RangeAny
namespace Go.Proofs.YtnjaejaibbgkpaaGreat.Nm
open Go.RowKit
set_option linter.unusedVariables false

def letterB (c : Int) : Bool := (decide (97 ≤ c) && decide (c ≤ 122)) || (decide (65 ≤ c) && decide (c ≤ 90))
def digitB (c : Int) : Bool := decide (48 ≤ c) && decide (c ≤ 57)
def nameB (c : Int) : Bool := letterB c || digitB c || decide (c = 95)

theorem letterS (c : Int) (w : World) (h0 : 0 ≤ c) (h1 : c ≤ 255) :
    Calls Tryz.prog 75 #[.int .u8 c] w fun e w' => e = .returned (.bool (letterB c)) ∧ w' = w := by
  have key : ∀ b, letterB c = b → Calls Tryz.prog 75 #[.int .u8 c] w fun e w' => e = .returned (.bool b) ∧ w' = w := by
    intro b hb
    by_cases a1 : c < 65
    · have d1 : decide (97 ≤ c) = false := by simp; omega
      have d2 : decide (65 ≤ c) = false := by simp; omega
      have hf : Hid (false = b) := hide (by rw [← hb]; simp [letterB]; omega)
      clear hb
      go_enter Tryz.func75, Tryz.ntmps75
      go_wp2
      go_ret
      exact ⟨ret_bool hf.out, rfl⟩
    by_cases a2 : c ≤ 90
    · have d1 : decide (97 ≤ c) = false := by simp; omega
      have d2 : decide (65 ≤ c) = true := by simp; omega
      have d3 : decide (c ≤ 90) = true := by simp; omega
      have hf : Hid (true = b) := hide (by rw [← hb]; simp [letterB]; omega)
      clear hb
      go_enter Tryz.func75, Tryz.ntmps75
      go_wp2
      go_ret
      exact ⟨ret_bool hf.out, rfl⟩
    by_cases a3 : c < 97
    · have d1 : decide (97 ≤ c) = false := by simp; omega
      have d2 : decide (65 ≤ c) = true := by simp; omega
      have d3 : decide (c ≤ 90) = false := by simp; omega
      have hf : Hid (false = b) := hide (by rw [← hb]; simp [letterB]; omega)
      clear hb
      go_enter Tryz.func75, Tryz.ntmps75
      go_wp2
      go_ret
      exact ⟨ret_bool hf.out, rfl⟩
    by_cases a4 : c ≤ 122
    · have d1 : decide (97 ≤ c) = true := by simp; omega
      have d2 : decide (c ≤ 122) = true := by simp; omega
      have hf : Hid (true = b) := hide (by rw [← hb]; simp [letterB]; omega)
      clear hb
      go_enter Tryz.func75, Tryz.ntmps75
      go_wp2
      go_ret
      exact ⟨ret_bool hf.out, rfl⟩
    · have d1 : decide (97 ≤ c) = true := by simp; omega
      have d2 : decide (c ≤ 122) = false := by simp; omega
      have d3 : decide (65 ≤ c) = true := by simp; omega
      have d4 : decide (c ≤ 90) = false := by simp; omega
      have hf : Hid (false = b) := hide (by rw [← hb]; simp [letterB]; omega)
      clear hb
      go_enter Tryz.func75, Tryz.ntmps75
      go_wp2
      go_ret
      exact ⟨ret_bool hf.out, rfl⟩
  exact key _ rfl

theorem digitS (c : Int) (w : World) (h0 : 0 ≤ c) (h1 : c ≤ 255) :
    Calls Tryz.prog 76 #[.int .u8 c] w fun e w' => e = .returned (.bool (digitB c)) ∧ w' = w := by
  go_enter Tryz.func76, Tryz.ntmps76
  go_wp2
  all_goals go_ret
  all_goals exact ⟨ret_bool (by rw [Bool.eq_iff_iff]; simp [digitB]; try omega), rfl⟩
theorem letterI (c : Int) (w : World) :
    Calls Tryz.prog 120 #[.int .i32 c] w fun e w' => e = .returned (.bool (letterB c)) ∧ w' = w := by
  go_enter Tryz.func120, Tryz.ntmps120
  go_wp2
  all_goals go_ret
  all_goals exact ⟨ret_bool (by rw [Bool.eq_iff_iff]; simp [letterB]; try omega), rfl⟩
theorem digitI (c : Int) (w : World) :
    Calls Tryz.prog 121 #[.int .i32 c] w fun e w' => e = .returned (.bool (digitB c)) ∧ w' = w := by
  go_enter Tryz.func121, Tryz.ntmps121
  go_wp2
  all_goals go_ret
  all_goals exact ⟨ret_bool (by rw [Bool.eq_iff_iff]; simp [digitB]; try omega), rfl⟩

/-- from place k on all bytes are signs of a name -/
def allFrom (s : ByteArray) (k : Nat) : Bool := (s.data.toList.drop k).all fun c => nameB (c.toNat : Int)
def firstB (s : ByteArray) : Bool := match s.data.toList with | [] => false | c :: _ => letterB (c.toNat : Int)
def nameOkB (s : ByteArray) : Bool := decide (s.size ≤ 12) && firstB s && allFrom s 0
theorem all_end (s : ByteArray) (k : Nat) (h : s.size ≤ k) : allFrom s k = true := by
  have : s.data.toList.drop k = [] := List.drop_eq_nil_of_le (by simpa using h)
  rw [allFrom, this]; rfl
theorem all_step (s : ByteArray) (k : Nat) (h : k < s.size) : allFrom s k = (nameB (s[k].toNat : Int) && allFrom s (k + 1)) := by
  rw [allFrom, List.drop_eq_getElem_cons (by simpa using h)]; rfl
theorem first_eq (s : ByteArray) (h : 0 < s.size) : firstB s = letterB (s[0].toNat : Int) := by
  have e : s.data.toList = s[0] :: s.data.toList.drop 1 := by
    have := List.drop_eq_getElem_cons (l := s.data.toList) (i := 0) (by simpa using h)
    rw [List.drop_zero] at this; exact this
  unfold firstB; rw [e]
theorem first_size (s : ByteArray) (h : firstB s = true) : 0 < s.size := by
  have e : s.size = s.data.toList.length := by simp
  unfold firstB at h; rw [e]
  cases hl : s.data.toList with
  | nil => rw [hl] at h; cases h
  | cons _ _ => simp
theorem name_high (c : Int) (h : 128 ≤ c) : nameB c = false := by
  rw [Bool.eq_false_iff]; simp [nameB, letterB, digitB]; omega
theorem letter_high (c : Int) (h : 128 ≤ c) : letterB c = false := by
  rw [Bool.eq_false_iff]; simp [letterB]; omega
theorem digit_high (c : Int) (h : 128 ≤ c) : digitB c = false := by
  rw [Bool.eq_false_iff]; simp [digitB]; omega

theorem inS_yes (x a b : Int) (w : World) (h0 : a ≤ x) (h1 : x ≤ b) :
    Calls Tryz.prog 48 #[.int .i64 x, .int .i64 a, .int .i64 b] w fun e w' => e = .returned (.bool true) ∧ w' = w := by
  have d1 : decide (a ≤ x) = true := by simp; omega
  have d2 : decide (x ≤ b) = true := by simp; omega
  go_enter Tryz.func48, Tryz.ntmps48
  go_wp2
  go_ret
  exact ⟨rfl, rfl⟩

set_option maxHeartbeats 400000 in
theorem nameS (s : ByteArray) (w : World) (hs : s.size ≤ 140737488355328) :
    Calls Tryz.prog 50 #[.string s] w fun e w' => e = .returned (.bool (nameOkB s)) ∧ ∃ n, w' = w.drewN n := by
  by_cases h12 : 12 < s.size
  · have HR : Hid (false = nameOkB s) := hide (by simp [nameOkB]; omega)
    have d1 : decide ((s.size : Int) ≤ 12) = false := by simp; omega
    go_enter Tryz.func50, Tryz.ntmps50
    go_wp2
    all_goals go_ret
    all_goals exact ⟨ret_bool HR.out, 0, rfl⟩
  by_cases h0 : s.size = 0
  · have HR : Hid (false = nameOkB s) := hide (by simp [nameOkB]; intro _ h; have := first_size s h; omega)
    have d1 : decide ((1 : Int) ≤ (s.size : Int)) = false := by simp; omega
    clear h0
    go_enter Tryz.func50, Tryz.ntmps50
    go_wp2
    all_goals go_ret
    all_goals exact ⟨ret_bool HR.out, 0, rfl⟩
  have hp : 0 < s.size := by omega
  have d1 : decide ((1 : Int) ≤ (s.size : Int)) = true := by simp; omega
  have d2 : decide ((s.size : Int) ≤ 12) = true := by simp; omega
  have hb0 := s[0].toNat_lt
  have hfe := first_eq s hp
  cases hl : letterB (s[0].toNat : Int) with
  | false =>
    have HR : Hid (false = nameOkB s) := hide (by rw [hl] at hfe; simp [nameOkB, hfe])
    have HL := hide hl
    clear hl hfe
    go_enter Tryz.func50, Tryz.ntmps50
    go_wp2_with (first
      | (go_at_call 48; refine (inS_yes _ _ _ _ (by omega) (by omega)).mono ?_; rintro e w1 ⟨rfl, hw⟩; subst w1)
      | (go_at_call 75; refine (letterS _ _ (by omega) (by omega)).mono ?_; rw [HL.out]; rintro e w1 ⟨rfl, hw⟩; subst w1))
    go_ret
    exact ⟨ret_bool HR.out, 0, rfl⟩
  | true =>
    have HR : Hid (nameOkB s = allFrom s 0) := hide (by rw [hl] at hfe; simp [nameOkB, hfe]; omega)
    have HL := hide hl
    clear hl hfe
    go_enter Tryz.func50, Tryz.ntmps50
    go_wp2_with (first
      | (go_at_call 48; refine (inS_yes _ _ _ _ (by omega) (by omega)).mono ?_; rintro e w1 ⟨rfl, hw⟩; subst w1)
      | (go_at_call 75; refine (letterS _ _ (by omega) (by omega)).mono ?_; rw [HL.out]; rintro e w1 ⟨rfl, hw⟩; subst w1))
    go_loopw [3] (fun i wr => ∃ k : Nat, k ≤ s.size ∧ i = .int .i64 k ∧ Hid (nameOkB s = allFrom s k) ∧ ∃ n, wr = w.drewN n) (fun i _ => s.size - (intOf i).toNat)
    case atStart => exact ⟨0, Nat.zero_le _, rfl, HR, 0, rfl⟩
    case round =>
      clear HR
      obtain ⟨k, hk, rfl, hr, n, rfl⟩ := hrel
      by_cases hlt : k < s.size
      · have hbk := s[k].toNat_lt
        have hst := all_step s k hlt
        cases hn : nameB (s[k].toNat : Int) with
        | true =>
          have HR : Hid (nameOkB s = allFrom s (k + 1)) := hide (by rw [hr.out, hst, hn]; rfl)
          have HN := hide hn
          clear hr hst hn
          cases hle : letterB (s[k].toNat : Int) with
          | true =>
            have HLE := hide hle
            clear hle
            go_wp2_with (first
              | (go_at_call 75; refine (letterS _ _ (by omega) (by omega)).mono ?_; rw [HLE.out]; rintro e w1 ⟨rfl, hw⟩; subst w1))
            exact ⟨⟨k + 1, by omega, by go_num, HR, n, rfl⟩, by simp [intOf]; omega⟩
          | false =>
            have HLE := hide hle
            clear hle
            cases hdg : digitB (s[k].toNat : Int) with
            | true =>
              have HDG := hide hdg
              clear hdg
              go_wp2_with (first
                | (go_at_call 75; refine (letterS _ _ (by omega) (by omega)).mono ?_; rw [HLE.out]; rintro e w1 ⟨rfl, hw⟩; subst w1)
                | (go_at_call 76; refine (digitS _ _ (by omega) (by omega)).mono ?_; rw [HDG.out]; rintro e w1 ⟨rfl, hw⟩; subst w1))
              exact ⟨⟨k + 1, by omega, by go_num, HR, n, rfl⟩, by simp [intOf]; omega⟩
            | false =>
              have hne : ((s[k].toNat : Int) != 95) = false := by
                have := HN.out; simp only [nameB, HLE.out, hdg, Bool.false_or, decide_eq_true_eq] at this
                simp [this]
              have HDG := hide hdg
              clear hdg
              go_wp2_with (first
                | (go_at_call 75; refine (letterS _ _ (by omega) (by omega)).mono ?_; rw [HLE.out]; rintro e w1 ⟨rfl, hw⟩; subst w1)
                | (go_at_call 76; refine (digitS _ _ (by omega) (by omega)).mono ?_; rw [HDG.out]; rintro e w1 ⟨rfl, hw⟩; subst w1))
              exact ⟨⟨k + 1, by omega, by go_num, HR, n, rfl⟩, by simp [intOf]; omega⟩
        | false =>
          have HR : Hid (false = nameOkB s) := hide (by rw [hr.out, hst, hn]; rfl)
          have hle : letterB (s[k].toNat : Int) = false := by
            cases h : letterB (s[k].toNat : Int) with
            | false => rfl
            | true => simp [nameB, h] at hn
          have hdg : digitB (s[k].toNat : Int) = false := by
            cases h : digitB (s[k].toNat : Int) with
            | false => rfl
            | true => simp [nameB, h] at hn
          have hne : ((s[k].toNat : Int) != 95) = true := by
            simp only [nameB, hle, hdg, Bool.false_or, decide_eq_false_iff_not] at hn
            simpa using hn
          have HLE := hide hle
          have HDG := hide hdg
          clear hr hst hn hle hdg
          go_wp2_with (first
            | (go_at_call 75; refine (letterS _ _ (by omega) (by omega)).mono ?_; rw [HLE.out]; rintro e w1 ⟨rfl, hw⟩; subst w1)
            | (go_at_call 76; refine (digitS _ _ (by omega) (by omega)).mono ?_; rw [HDG.out]; rintro e w1 ⟨rfl, hw⟩; subst w1))
          go_ret
          exact ⟨ret_bool HR.out, n, rfl⟩
      · have HR : Hid (true = nameOkB s) := hide (by rw [hr.out, all_end s k (by omega)])
        clear hr
        go_wp2
        go_ret
        exact ⟨ret_bool HR.out, n, rfl⟩

set_option maxHeartbeats 400000 in
theorem nameI (s : ByteArray) (w : World) (hs : s.size ≤ 140737488355328) :
    Calls Tryz.prog 98 #[.string s] w fun e w' => e = .returned (.bool (nameOkB s)) ∧ Below w.heap.size w w' := by
  by_cases h12 : (12 : Int) < (s.size : Int)
  · have HR : Hid (false = nameOkB s) := hide (by simp [nameOkB]; omega)
    go_enter Tryz.func98, Tryz.ntmps98
    go_wp2
    all_goals go_ret
    all_goals exact ⟨ret_bool HR.out, Below.refl _ _⟩
  by_cases h0 : (s.size : Int) < 1
  · have HR : Hid (false = nameOkB s) := hide (by simp [nameOkB]; intro _ h; have := first_size s h; omega)
    go_enter Tryz.func98, Tryz.ntmps98
    go_wp2
    all_goals go_ret
    all_goals exact ⟨ret_bool HR.out, Below.refl _ _⟩
  have hp : 0 < s.size := by omega
  have hfe := first_eq s hp
  have HF : Hid (nameOkB s = (letterB (s[0].toNat : Int) && allFrom s 0)) := hide (by unfold nameOkB; rw [hfe, decide_eq_true (show s.size ≤ 12 by omega), Bool.true_and])
  clear hfe
  go_enter Tryz.func98, Tryz.ntmps98
  go_wp2
  go_loopw [3, 4] (fun _ _ wr => ∃ k : Nat, k ≤ s.size ∧ wr = w.iter s k ∧ Hid (nameOkB s = ((k != 0 || letterB (s[0].toNat : Int)) && allFrom s k))) (fun _ _ wr => s.size - wr.iterPos w.heap.size)
  case atStart => exact ⟨0, Nat.zero_le _, rfl, HF⟩
  case round =>
    clear HF
    obtain ⟨k, hk, rfl, hr⟩ := hrel
    have hb : Below w.heap.size w (w.iter s k) := (Below.refl _ _).alloc (Nat.le_refl _) _
    by_cases hlt : k < s.size
    · have hst := all_step s k hlt
      by_cases hasc : s[k].toNat < 128
      · have hnx : ∀ ty, (Instr.next (.pointer (some ⟨w.heap.size, 0, none⟩)) true ty).run Tryz.prog (w.iter s k) = _ := fun ty => run_next_ascii w s k ty hlt hasc
        cases hle : letterB (s[k].toNat : Int) with
        | true =>
          have HR : Hid (nameOkB s = ((k + 1 != 0 || letterB (s[0].toNat : Int)) && allFrom s (k + 1))) := hide (by
            rw [hr.out, hst]
            by_cases hk0 : k = 0
            · subst hk0; simp [nameB, hle]
            · simp [nameB, hle, hk0])
          have HLE := hide hle
          clear hr hst hle
          go_wp2_with (first
            | (go_at_call 120; refine (letterI _ _).mono ?_; rw [HLE.out]; rintro e w1 ⟨rfl, hw⟩; subst w1))
          exact ⟨⟨k + 1, by omega, rfl, HR⟩, by simp; omega⟩
        | false =>
          by_cases hk0 : k = 0
          · have HR : Hid (false = nameOkB s) := hide (by rw [hr.out]; subst hk0; simp [hle])
            have hkz : ((k : Int) == 0) = true := by simp; omega
            have HLE := hide hle
            clear hr hst hle hk0
            go_wp2_with (first
              | (go_at_call 120; refine (letterI _ _).mono ?_; rw [HLE.out]; rintro e w1 ⟨rfl, hw⟩; subst w1))
            go_ret
            exact ⟨ret_bool HR.out, (Below.refl _ _).alloc (Nat.le_refl _) _⟩
          have hkz : ((k : Int) == 0) = false := by simp; omega
          cases hdg : digitB (s[k].toNat : Int) with
          | true =>
            have HR : Hid (nameOkB s = ((k + 1 != 0 || letterB (s[0].toNat : Int)) && allFrom s (k + 1))) := hide (by
              rw [hr.out, hst]; simp [nameB, hdg, hk0])
            have HLE := hide hle
            have HDG := hide hdg
            clear hr hst hle hdg
            go_wp2_with (first
              | (go_at_call 120; refine (letterI _ _).mono ?_; rw [HLE.out]; rintro e w1 ⟨rfl, hw⟩; subst w1)
              | (go_at_call 121; refine (digitI _ _).mono ?_; rw [HDG.out]; rintro e w1 ⟨rfl, hw⟩; subst w1))
            exact ⟨⟨k + 1, by omega, rfl, HR⟩, by simp; omega⟩
          | false =>
            by_cases h95 : (s[k].toNat : Int) = 95
            · have HR : Hid (nameOkB s = ((k + 1 != 0 || letterB (s[0].toNat : Int)) && allFrom s (k + 1))) := hide (by
                rw [hr.out, hst]; simp [nameB, h95, hk0])
              have hne : ((s[k].toNat : Int) != 95) = false := by simp [h95]
              have HLE := hide hle
              have HDG := hide hdg
              clear hr hst hle hdg h95
              go_wp2_with (first
                | (go_at_call 120; refine (letterI _ _).mono ?_; rw [HLE.out]; rintro e w1 ⟨rfl, hw⟩; subst w1)
                | (go_at_call 121; refine (digitI _ _).mono ?_; rw [HDG.out]; rintro e w1 ⟨rfl, hw⟩; subst w1))
              exact ⟨⟨k + 1, by omega, rfl, HR⟩, by simp; omega⟩
            · have HR : Hid (false = nameOkB s) := hide (by rw [hr.out, hst]; simp [nameB, hle, hdg, h95])
              have hne : ((s[k].toNat : Int) != 95) = true := by simp only [bne_iff_ne]; exact h95
              have HLE := hide hle
              have HDG := hide hdg
              clear hr hst hle hdg h95
              go_wp2_with (first
                | (go_at_call 120; refine (letterI _ _).mono ?_; rw [HLE.out]; rintro e w1 ⟨rfl, hw⟩; subst w1)
                | (go_at_call 121; refine (digitI _ _).mono ?_; rw [HDG.out]; rintro e w1 ⟨rfl, hw⟩; subst w1))
              go_ret
              exact ⟨ret_bool HR.out, (Below.refl _ _).alloc (Nat.le_refl _) _⟩
      · have hnx : ∀ ty, (Instr.next (.pointer (some ⟨w.heap.size, 0, none⟩)) true ty).run Tryz.prog (w.iter s k) = _ := fun ty => run_next_any w s k ty hlt
        obtain ⟨hd1, hd2⟩ := decode_high s k hlt (by omega)
        have hd3 := decode_le s k
        generalize (Utf8.decode s k).1 = r at *
        generalize (Utf8.decode s k).2 = wd at *
        have HR : Hid (false = nameOkB s) := hide (by rw [hr.out, hst, name_high _ (by omega)]; simp)
        have HLE : Hid (letterB (r : Int) = false) := hide (letter_high _ (by omega))
        have HDG : Hid (digitB (r : Int) = false) := hide (digit_high _ (by omega))
        have hne : ((r : Int) != 95) = true := by simp; omega
        clear hr hst
        by_cases hk0 : k = 0
        · have hkz : ((k : Int) == 0) = true := by simp; omega
          clear hk0
          go_wp2_with (first
            | (go_at_call 120; refine (letterI _ _).mono ?_; rw [HLE.out]; rintro e w1 ⟨rfl, hw⟩; subst w1)
            | (go_at_call 121; refine (digitI _ _).mono ?_; rw [HDG.out]; rintro e w1 ⟨rfl, hw⟩; subst w1))
          go_ret
          exact ⟨ret_bool HR.out, (Below.refl _ _).alloc (Nat.le_refl _) _⟩
        · have hkz : ((k : Int) == 0) = false := by simp; omega
          go_wp2_with (first
            | (go_at_call 120; refine (letterI _ _).mono ?_; rw [HLE.out]; rintro e w1 ⟨rfl, hw⟩; subst w1)
            | (go_at_call 121; refine (digitI _ _).mono ?_; rw [HDG.out]; rintro e w1 ⟨rfl, hw⟩; subst w1))
          go_ret
          exact ⟨ret_bool HR.out, (Below.refl _ _).alloc (Nat.le_refl _) _⟩
    · have hnx : ∀ ty, (Instr.next (.pointer (some ⟨w.heap.size, 0, none⟩)) true ty).run Tryz.prog (w.iter s k) = _ := fun ty => run_next_end w s k ty hlt
      have HR : Hid (true = nameOkB s) := hide (by rw [hr.out, all_end s k (by omega)]; simp; left; omega)
      clear hr
      go_wp2
      go_ret
      exact ⟨ret_bool HR.out, hb⟩
end Go.Proofs.YtnjaejaibbgkpaaGreat.Nm
