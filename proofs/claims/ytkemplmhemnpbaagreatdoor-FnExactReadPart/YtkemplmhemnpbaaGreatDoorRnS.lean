/- The walk of l03Run: the place behind the digits from a place on. -/
import Derived.Test.YtkemplmhemnpbaaGreatDoorRdSz
import Derived.Test.YtkemplmhemnpbaaGreatDoorPk25
namespace Go.Proofs.YtkemplmhemnpbaaGreatDoor
open Go.RowKit
set_option linter.unusedVariables false

def runN (s : ByteArray) (k : Nat) : Nat := k + ((s.data.toList.drop k).takeWhile dg).length
theorem drop_at (s : ByteArray) (k : Nat) (h : k < s.size) : s.data.toList.drop k = s[k] :: s.data.toList.drop (k + 1) :=
  List.drop_eq_getElem_cons (l := s.data.toList) (i := k) (by rw [bsize]; exact h)
theorem run_on {s : ByteArray} {k : Nat} (h : k < s.size) (hd : digitB (s[k].toNat : Int) = true) : runN s k = runN s (k + 1) := by
  unfold runN
  rw [drop_at s k h, List.takeWhile_cons, if_pos (show dg s[k] = true from hd), List.length_cons]
  omega
theorem run_off {s : ByteArray} {k : Nat} (h : k < s.size) (hd : digitB (s[k].toNat : Int) = false) : runN s k = k := by
  unfold runN
  rw [drop_at s k h, List.takeWhile_cons, if_neg (by rw [show dg s[k] = false from hd]; decide)]
  rfl
theorem run_end {s : ByteArray} {k : Nat} (h : ¬ k < s.size) : runN s k = k := by
  unfold runN
  rw [List.drop_of_length_le (by rw [bsize]; omega)]
  rfl
theorem run_le {s : ByteArray} {k : Nat} (h : k ≤ s.size) : k ≤ runN s k ∧ runN s k ≤ s.size := by
  unfold runN
  have h1 : ((s.data.toList.drop k).takeWhile dg).length ≤ (s.data.toList.drop k).length := (List.takeWhile_sublist dg).length_le
  rw [List.length_drop, bsize] at h1
  omega

set_option maxHeartbeats 1000000 in
set_option maxRecDepth 20000 in
theorem runS (s : ByteArray) (i : Nat) (w : World) (hi : i ≤ s.size) (hs : s.size ≤ 400) :
    Calls Tryz.prog 76 #[.string s, .int .i64 i] w fun e w' => e = .returned (.int .i64 (runN s i)) ∧ w' = w := by
  go_enter Tryz.func76, Tryz.ntmps76
  go_wp2
  go_loopw [1] (fun v wr => ∃ k : Nat, k ≤ s.size ∧ v = .int .i64 k ∧ wr = w ∧ Hid (runN s k = runN s i)) (fun v _ => s.size - (intOf v).toNat)
  case atStart => exact ⟨i, hi, rfl, rfl, hide rfl⟩
  case round =>
    obtain ⟨k, hk, rfl, rfl, HR⟩ := hrel
    by_cases hlt : k < s.size
    · have hlt' : (k : Int) < (s.size : Int) := by omega
      have hk0 : (0 : Int) ≤ (k : Int) := by omega
      go_wp2_with fail
      refine (digRd s[k].toNat _ (by have := s[k].toNat_lt; omega)).mono ?_
      cases hd : digitB (s[k].toNat : Int) with
      | true =>
        have HN := hide (run_on hlt hd)
        rintro e w1 ⟨rfl, hw⟩
        subst w1
        go_wp2
        exact ⟨⟨k + 1, by omega, by go_num, trivial, hide (by rw [← HN.out]; exact HR.out)⟩, by simp [intOf]; omega⟩
      | false =>
        have HN := hide (run_off hlt hd)
        rintro e w1 ⟨rfl, hw⟩
        subst w1
        go_wp2
        go_ret
        exact ⟨by rw [← HR.out, HN.out]; rfl, rfl⟩
    · have hlt' : ¬ (k : Int) < (s.size : Int) := by omega
      have HN := hide (run_end hlt)
      go_wp2
      go_ret
      exact ⟨by rw [← HR.out, HN.out]; rfl, rfl⟩
end Go.Proofs.YtkemplmhemnpbaaGreatDoor
