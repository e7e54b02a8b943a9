/- The walk of the specification's Lines: a new list of the parts between newlines, without the last one where that is empty; nothing that was there turns. -/
import Derived.Test.YthjglbimkfajlaaMarks
import Derived.Laws.OwnMore
import Derived.OwnWalk
import Derived.Maps.AppendAt
namespace Go.Proofs.Ythjglbimkfajlaa
open Go.RowKit
set_option linter.unusedVariables false

set_option maxHeartbeats 2000000 in
theorem linesS (s : ByteArray) (hs : s.size ≤ 1048576) (w : World) :
    Calls Try.prog 26 #[.string s] w fun e W' => ∃ (v : Value) (xs : List ByteArray), e = .returned v ∧ xs.map bytesOf = linesL (bytesOf s) ∧ W'.ownsRow w.heap.size 9 1 v xs.length (xs.map Value.string) ∧ Below w.heap.size w W' := by
  obtain ⟨i0, hi, hz0, hz1, hz2⟩ := info_parts Try.info9
  have hlen := Split.split_length nlB (bytesOf s)
  rw [bytes_length] at hlen
  have HLEN := hide hlen
  clear hlen
  go_enter Try.func26, Try.ntmps26
  go_wp2
  go_loopw [3, 4, 5] (fun o f i wr => ∃ (pre : List ByteArray) (start pos : Nat), f = .int .i64 start ∧ i = .int .i64 pos ∧ pos ≤ s.size ∧ Hid (Split.Inv nlB (bytesOf s) (pre.map bytesOf) start pos) ∧ Hid (wr.ownsRow w.heap.size 9 1 o pre.length (pre.map Value.string)) ∧ Hid (Below w.heap.size w wr)) (fun _ _ i _ => s.size - (intOf i).toNat)
  case atStart => exact ⟨[], 0, 0, rfl, rfl, Nat.zero_le _, hide (Split.inv_start _ _), hide (World.ownsRow_lit w #[] 0 (Nat.le_refl _) (by unfold maxLen; omega) rfl), hide ((Below.refl _ _).alloc (Nat.le_refl _) _)⟩
  case round =>
    obtain ⟨pre, start, pos, rfl, rfl, hpos, hinv, hrow, hb⟩ := hrel
    have hst : start ≤ pos := hinv.out.1
    have hst2 : start ≤ s.size := by omega
    have hpl : pre.length ≤ 1048576 := by
      have h1 := Split.inv_len hinv.out
      have h2 := HLEN.out
      rw [List.length_map] at h1; omega
    by_cases hlt : pos < s.size
    · have hbk := s[pos].toNat_lt
      cases hcut : nlB s[pos] with
      | true =>
        have hte : ((s[pos].toNat : Int) == 10) = true := by have : s[pos].toNat = 10 := by simpa [nlB] using hcut
                                                             rw [beq_iff_eq]; omega
        have HI : Hid (Split.Inv nlB (bytesOf s) ((pre ++ [s.extract start pos]).map bytesOf) (pos + 1) (pos + 1)) := hide (by
          have := Split.inv_cut hinv.out (by rw [bytes_length]; exact hlt) hcut
          rw [List.map_append, List.map_cons, List.map_nil, bytes_extract]; exact this)
        have hrow' := hrow.out
        have hbs := hb.out.size
        clear hinv hcut hrow
        go_wp2_with (at_builtin; refine wpList_append_own _ rfl _ _ 31 rfl w.heap.size 9 i0 (.string ⟨#[]⟩) 1 16 Try.underlying31 hi hz0 hz1 hz2 rfl (by decide) _ _ _ rfl (hrow'.alloc _) ⟨wr.heap.size, 0, none⟩ 1 1 [.string (s.extract start pos)] rfl rfl (cell_one_new _ _ _) (by simp [Value.oneCell']) (by unfold maxLen; omega) (by omega) (by simp; omega) ?_; intro v' w1 hown' hgrow _; have hg2 := (show (wr.alloc _).grownBy w1 u3.ownBlock from hgrow); clear hgrow)
        refine ⟨⟨pre ++ [s.extract start pos], pos + 1, pos + 1, by go_num, by go_num, by omega, HI, hide ?_, hide ?_⟩, by simp [intOf]; omega⟩
        · rw [List.length_append, List.map_append]; exact hown'
        · exact (hb.out.alloc hb.out.size _).grown hg2 (by simp; omega) (fun k e => (hrow'.lt k e).1)
      | false =>
        have hte : ((s[pos].toNat : Int) == 10) = false := by have : ¬ s[pos].toNat = 10 := by simpa [nlB] using hcut
                                                              rw [beq_eq_false_iff_ne]; omega
        have HI : Hid (Split.Inv nlB (bytesOf s) (pre.map bytesOf) start (pos + 1)) := hide (Split.inv_one hinv.out (by rw [bytes_length]; exact hlt) hcut)
        clear hinv hcut
        go_wp2
        exact ⟨⟨pre, start, pos + 1, rfl, by go_num, by omega, HI, hrow, hb⟩, by simp [intOf]; omega⟩
    · have hend := Split.inv_end hinv.out (by rw [bytes_length]; omega)
      have hrow' := hrow.out
      have hbs := hb.out.size
      by_cases hlo : (start : Int) < (s.size : Int)
      · have HX : Hid ((pre ++ [s.extract start s.size]).map bytesOf = linesL (bytesOf s)) := hide (lines_keep _ _ _ (by
          rw [List.map_append, List.map_cons, List.map_nil, bytes_extract, ← hend]
          congr 2
          exact List.take_of_length_le (by rw [List.length_drop, bytes_length]; omega)) (by
          have : 0 < (s.extract start s.size).toList.length := by
            rw [Lib.toList_data]; show 0 < (bytesOf (s.extract start s.size)).length
            rw [bytes_length, ByteArray.size_extract]; omega
          cases h : (s.extract start s.size).toList with
          | nil => rw [h] at this; simp at this
          | cons _ _ => rfl))
        clear hinv hend hrow
        go_wp2_with (at_builtin; refine wpList_append_own _ rfl _ _ 31 rfl w.heap.size 9 i0 (.string ⟨#[]⟩) 1 16 Try.underlying31 hi hz0 hz1 hz2 rfl (by decide) _ _ _ rfl (hrow'.alloc _) ⟨wr.heap.size, 0, none⟩ 1 1 [.string (s.extract start s.size)] rfl rfl (cell_one_new _ _ _) (by simp [Value.oneCell']) (by unfold maxLen; omega) (by omega) (by simp; omega) ?_; intro v' w1 hown' hgrow _; have hg2 := (show (wr.alloc _).grownBy w1 u3.ownBlock from hgrow); clear hgrow)
        go_ret
        refine ⟨v', pre ++ [s.extract start s.size], rfl, HX.out, ?_, ?_⟩
        · rw [List.length_append, List.map_append]; exact hown'
        · exact (hb.out.alloc hb.out.size _).grown hg2 (by simp; omega) (fun k e => (hrow'.lt k e).1)
      · have HX : Hid (pre.map bytesOf = linesL (bytesOf s)) := hide (lines_drop _ _ ⟨#[]⟩ (by
          rw [List.map_append, List.map_cons, List.map_nil, ← hend]
          congr 2
          exact (List.drop_eq_nil_of_le (by rw [bytes_length]; omega)).symm) (by rw [Lib.toList_data]; rfl))
        clear hinv hend
        go_wp2
        go_ret
        exact ⟨u3, rfl, pre, HX.out, hrow', hb.out⟩
end Go.Proofs.Ythjglbimkfajlaa
