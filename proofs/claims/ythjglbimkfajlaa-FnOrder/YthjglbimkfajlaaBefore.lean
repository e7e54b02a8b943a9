/- The walks of the two Before: each tells whether the first text's bytes are less than the second's; memory stands. -/
import Derived.Test.YthjglbimkfajlaaChecked
import Derived.Test.YthjglbimkfajlaaGcd
import Derived.WalkKit
import Derived.WalkLawsBesides
import Derived.Deep.QuietTactic
import Derived.BigQuiet
import Derived.Lib.Strings
namespace Go.Proofs.Ythjglbimkfajlaa
open Go.RowKit
set_option linter.unusedVariables false

/-- the order of texts, behind a name that the walk does not open -/
def lessB (a b : ByteArray) : Bool := Op.bytesLess a.toList b.toList
def lessFrom (a b : ByteArray) (k : Nat) : Bool := Op.bytesLess (a.data.toList.drop k) (b.data.toList.drop k)
theorem less_zero (a b : ByteArray) : lessFrom a b 0 = lessB a b := by simp [lessFrom, lessB, Lib.toList_data]
theorem less_end (a b : ByteArray) (k : Nat) (h : b.size ≤ k) : lessFrom a b k = false := by
  have : b.data.toList.drop k = [] := List.drop_eq_nil_of_le (by simpa using h)
  rw [lessFrom, this]; cases a.data.toList.drop k <;> rfl
theorem less_short (a b : ByteArray) (k : Nat) (ha : a.size ≤ k) (h : k < b.size) : lessFrom a b k = true := by
  have : a.data.toList.drop k = [] := List.drop_eq_nil_of_le (by simpa using ha)
  rw [lessFrom, this, List.drop_eq_getElem_cons (by simpa using h)]; rfl
theorem less_step (a b : ByteArray) (k : Nat) (ha : k < a.size) (h : k < b.size) :
    lessFrom a b k = (decide (a[k] < b[k]) || (a[k] == b[k] && lessFrom a b (k + 1))) := by
  rw [lessFrom, List.drop_eq_getElem_cons (l := a.data.toList) (by simpa using ha), List.drop_eq_getElem_cons (l := b.data.toList) (by simpa using h)]; rfl
theorem less_ne (a b : ByteArray) (k : Nat) (ha : k < a.size) (h : k < b.size) (hne : (a[k].toNat : Int) ≠ (b[k].toNat : Int)) :
    lessFrom a b k = decide (a[k].toNat < b[k].toNat) := by
  have : ¬ a[k] = b[k] := fun e => hne (by rw [e])
  rw [less_step a b k ha h]; simp [this, UInt8.lt_iff_toNat_lt]
theorem less_eq (a b : ByteArray) (k : Nat) (ha : k < a.size) (h : k < b.size) (he : (a[k].toNat : Int) = (b[k].toNat : Int)) :
    lessFrom a b k = lessFrom a b (k + 1) := by
  have e : a[k] = b[k] := UInt8.toNat_inj.1 (by omega)
  rw [less_step a b k ha h, e]; simp
theorem drew2 (w : World) (a b : Nat) : ∃ m, (w.drewN a).drewN b = w.drewN m := ⟨a + b, by simp⟩
theorem drew3 (w : World) (a b c : Nat) : ∃ m, ((w.drewN a).drewN b).drewN c = w.drewN m := ⟨a + b + c, by simp⟩
theorem ret_bool {a b : Bool} (h : a = b) : Ending.returned (.bool a) = .returned (.bool b) := by rw [h]

theorem beforeI (a b : ByteArray) (w : World) :
    Calls Try.prog 20 #[.string a, .string b] w fun e w' => e = .returned (.bool (lessB a b)) ∧ w' = w := by
  go_enter Try.func20, Try.ntmps20
  go_wp2
  go_ret
  exact ⟨rfl, rfl⟩

set_option maxHeartbeats 400000 in
theorem beforeS (a b : ByteArray) (w : World) (ha : a.size ≤ 140737488355328) (hb : b.size ≤ 140737488355328) :
    Calls Try.prog 21 #[.string a, .string b] w fun e w' => e = .returned (.bool (lessB a b)) ∧ ∃ n, w' = w.drewN n := by
  go_enter Try.func21, Try.ntmps21
  go_wp2
  go_loopw [5] (fun i wr => ∃ k : Nat, k ≤ b.size ∧ i = .int .i64 k ∧ Hid (lessFrom a b k = lessB a b) ∧ ∃ n, wr = w.drewN n) (fun i _ => b.size - (intOf i).toNat)
  case atStart => exact ⟨0, Nat.zero_le _, rfl, hide (less_zero a b), 0, rfl⟩
  case round =>
    obtain ⟨k, hk, rfl, hl, n, rfl⟩ := hrel
    by_cases hlt : k < b.size
    · by_cases hla : k < a.size
      · by_cases he : (a[k].toNat : Int) = (b[k].toNat : Int)
        · have HL : Hid (lessFrom a b (k + 1) = lessB a b) := hide ((less_eq a b k hla hlt he).symm.trans hl.out)
          have hne : ((a[k].toNat : Int) != (b[k].toNat : Int)) = false := by simpa using he
          clear hl he
          go_wp2
          go_quiet (fail)
          go_wp2
          exact ⟨⟨k + 1, by omega, by go_num, HL, n + nq, rfl⟩, by simp [intOf]; omega⟩
        · have HL : Hid (decide (a[k].toNat < b[k].toNat) = lessB a b) := hide ((less_ne a b k hla hlt he).symm.trans hl.out)
          have hne : ((a[k].toNat : Int) != (b[k].toNat : Int)) = true := by simpa using he
          clear hl he
          go_wp2
          go_quiet (fail)
          go_wp2
          go_quiet (fail)
          go_wp2
          go_ret
          exact ⟨ret_bool HL.out, drew3 _ _ _ _⟩
      · have HL : Hid (true = lessB a b) := hide ((less_short a b k (by omega) hlt).symm.trans hl.out)
        clear hl
        go_wp2
        go_ret
        exact ⟨ret_bool HL.out, n, rfl⟩
    · have HL : Hid (false = lessB a b) := hide ((less_end a b k (by omega)).symm.trans hl.out)
      clear hl
      go_wp2
      go_ret
      exact ⟨ret_bool HL.out, n, rfl⟩
end Go.Proofs.Ythjglbimkfajlaa
