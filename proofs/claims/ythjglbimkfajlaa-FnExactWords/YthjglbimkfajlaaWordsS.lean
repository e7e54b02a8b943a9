/- The walk of the specification's Words: a new list of the parts between blanks and bytes 9 that aren't empty; nothing that was there turns. -/
import Derived.Test.YthjglbimkfajlaaWords
import Derived.Test.YthjglbimkfajlaaLaw7
import Derived.Laws.OwnMore
import Derived.OwnWalk
import Derived.Maps.AppendAt
namespace Go.Proofs.Ythjglbimkfajlaa
open Go.RowKit
set_option linter.unusedVariables false

/-- the words from place pos on -/
def wordsFrom (l : List UInt8) (pos : Nat) : List (List UInt8) := wordsL (l.drop pos)
theorem words_end (l : List UInt8) (pos : Nat) (h : l.length ≤ pos) : wordsFrom l pos = [] := by
  unfold wordsFrom wordsL; rw [List.drop_eq_nil_of_le h]; rfl
theorem words_gap (l : List UInt8) (pos : Nat) (h : pos < l.length) (hc : gapB l[pos] = true) : wordsFrom l pos = wordsFrom l (pos + 1) := by
  unfold wordsFrom wordsL
  rw [List.drop_eq_getElem_cons h, Split.splitB, if_pos hc]; rfl
theorem words_word (l : List UInt8) (pos fin : Nat) (h : pos < fin) (hf : fin ≤ l.length) (hn : ∀ c ∈ (l.drop pos).take (fin - pos), gapB c = false) (hc : fin = l.length ∨ ∃ h : fin < l.length, gapB l[fin] = true) :
    wordsFrom l pos = (l.drop pos).take (fin - pos) :: wordsFrom l fin := by
  have e : l.drop pos = (l.drop pos).take (fin - pos) ++ l.drop fin := by
    have : l.drop fin = (l.drop pos).drop (fin - pos) := by rw [List.drop_drop]; congr 1; omega
    rw [this]; exact (List.take_append_drop _ _).symm
  have hne : ((l.drop pos).take (fin - pos)).isEmpty = false := by
    have hl : 0 < ((l.drop pos).take (fin - pos)).length := by rw [List.length_take, List.length_drop]; omega
    cases hh : (l.drop pos).take (fin - pos) with
    | nil => rw [hh] at hl; simp at hl
    | cons _ _ => rfl
  unfold wordsFrom wordsL
  conv => lhs; rw [e, Split.split_skip gapB _ _ hn]
  rcases hc with rfl | ⟨hlt, hg⟩
  · rw [List.drop_length]; simp [Split.splitB, Split.addHead, hne]
  · rw [List.drop_eq_getElem_cons hlt, Split.splitB, if_pos hg]; simp [Split.addHead, hne]
theorem words_count (l : List UInt8) (pos : Nat) : (wordsFrom l pos).length ≤ l.length + 1 := by
  unfold wordsFrom wordsL
  have h1 := Split.split_length gapB (l.drop pos)
  have h2 := List.length_filter_le (fun x : List UInt8 => !x.isEmpty) (Split.splitB gapB (l.drop pos))
  rw [List.length_drop] at h1; omega

theorem blank51 (c : UInt8) (w : World) : Calls Try.prog 51 #[.int .u8 (c.toNat : Int)] w fun e w' => e = .returned (.bool (gapB c)) ∧ w' = w := by
  go_enter Try.func51, Try.ntmps51
  go_wp2
  all_goals go_ret
  all_goals exact ⟨ret_bool (by rw [Bool.eq_iff_iff]; simp_all [gapB]; try omega), rfl⟩

set_option maxHeartbeats 4000000 in
theorem wordsS (s : ByteArray) (hs : s.size ≤ 1048576) (w : World) :
    Calls Try.prog 30 #[.string s] w fun e W' => ∃ (v : Value) (xs : List ByteArray), e = .returned v ∧ xs.map bytesOf = wordsL (bytesOf s) ∧ W'.ownsRow w.heap.size 9 1 v xs.length (xs.map Value.string) ∧ Below w.heap.size w W' := by
  obtain ⟨i0, hi, hz0, hz1, hz2⟩ := info_parts Try.info9
  have HW0 : Hid (wordsL (bytesOf s) = wordsFrom (bytesOf s) 0) := hide (by unfold wordsFrom; rw [List.drop_zero])
  go_enter Try.func30, Try.ntmps30
  go_wp2
  go_loopw [3, 4, 5] (fun o i _ wr => ∃ (pre : List ByteArray) (pos : Nat), i = .int .i64 pos ∧ pos ≤ s.size ∧ Hid (wordsL (bytesOf s) = pre.map bytesOf ++ wordsFrom (bytesOf s) pos) ∧ Hid (wr.ownsRow w.heap.size 9 1 o pre.length (pre.map Value.string)) ∧ Hid (Below w.heap.size w wr)) (fun _ i _ _ => s.size - (intOf i).toNat)
  case atStart => exact ⟨[], 0, rfl, Nat.zero_le _, hide (by rw [HW0.out]; rfl), hide (World.ownsRow_lit w #[] 0 (Nat.le_refl _) (by unfold maxLen; omega) rfl), hide ((Below.refl _ _).alloc (Nat.le_refl _) _)⟩
  case round =>
    obtain ⟨pre, pos, rfl, hpos, hwd, hrow, hb⟩ := hrel
    have hpl : pre.length ≤ 1048577 := by
      have h1 := congrArg List.length hwd.out
      rw [List.length_append, List.length_map] at h1
      have h2 := words_count (bytesOf s) 0
      have h3 := congrArg List.length HW0.out
      rw [bytes_length] at h2; omega
    by_cases hlt : pos < s.size
    · cases hcut : gapB s[pos] with
      | true =>
        have HI : Hid (wordsL (bytesOf s) = pre.map bytesOf ++ wordsFrom (bytesOf s) (pos + 1)) := hide (by rw [hwd.out, words_gap (bytesOf s) pos (by rw [bytes_length]; exact hlt) hcut])
        have HCUT := hide hcut
        clear hwd hcut
        go_wp2_with fail
        refine (blank51 s[pos] _).mono ?_
        rw [HCUT.out]
        rintro e w' ⟨rfl, hw⟩
        subst w'
        go_wp2
        exact ⟨⟨pre, pos + 1, by go_num, by omega, HI, hrow, hb⟩, by simp [intOf]; omega⟩
      | false =>
        have HCUT := hide hcut
        clear hcut
        go_wp2_with fail
        refine (blank51 s[pos] _).mono ?_
        rw [HCUT.out]
        rintro e w' ⟨rfl, hw⟩
        subst w'
        go_wp2
        obtain ⟨wo, hwo⟩ : ∃ wo : World, wo = wr := ⟨_, rfl⟩
        subst hwo
        go_loop [5] (fun f => ∃ fin : Nat, f = .int .i64 fin ∧ pos ≤ fin ∧ fin ≤ s.size ∧ Hid (∀ c ∈ ((bytesOf s).drop pos).take (fin - pos), gapB c = false)) (fun f => s.size - (intOf f).toNat)
        case atStart => exact ⟨pos, rfl, Nat.le_refl _, by omega, hide (fun c hc => by simp at hc)⟩
        case round =>
          obtain ⟨fin, rfl, hf1, hf2, hnon⟩ := hrel
          by_cases hfl : fin < s.size
          · have hfl' : (fin : Int) < (s.size : Int) := by omega
            cases hfg : gapB s[fin] with
            | false =>
              have HFG := hide hfg
              have HN : Hid (∀ c ∈ ((bytesOf s).drop pos).take (fin + 1 - pos), gapB c = false) := hide (by
                intro c hc
                have e : fin + 1 - pos = (fin - pos) + 1 := by omega
                rw [e, List.take_succ_eq_append_getElem (by rw [List.length_drop, bytes_length]; omega)] at hc
                rcases List.mem_append.1 hc with hc | hc
                · exact hnon.out c hc
                · rw [List.mem_singleton.1 hc, List.getElem_drop]
                  have e2 : pos + (fin - pos) = fin := by omega
                  simp only [e2]; exact hfg)
              clear hfg hnon
              go_wp2_with fail
              refine (blank51 s[fin] _).mono ?_
              rw [HFG.out]
              rintro e w' ⟨rfl, hw⟩
              subst w'
              go_wp2
              exact ⟨⟨fin + 1, by go_num, by omega, by omega, HN⟩, by simp [intOf]; omega⟩
            | true =>
              have HFG := hide hfg
              have hpf : pos < fin := by
                rcases Nat.lt_or_ge pos fin with h | h
                · exact h
                · exfalso
                  obtain rfl : pos = fin := by omega
                  have := HCUT.out; rw [hfg] at this; cases this
              have HI : Hid (wordsL (bytesOf s) = (pre ++ [s.extract pos fin]).map bytesOf ++ wordsFrom (bytesOf s) fin) := hide (by
                rw [hwd.out, words_word (bytesOf s) pos fin hpf (by rw [bytes_length]; exact hf2) hnon.out (.inr ⟨by rw [bytes_length]; exact hfl, hfg⟩), List.map_append, List.map_cons, List.map_nil, bytes_extract, List.append_assoc]
                rfl)
              have hrow' := hrow.out
              have hbs := hb.out.size
              clear hfg hnon hwd
              go_wp2_with fail
              refine (blank51 s[fin] _).mono ?_
              rw [HFG.out]
              rintro e w' ⟨rfl, hw⟩
              subst w'
              go_wp2_with (at_builtin; refine wpList_append_own _ rfl _ _ 31 rfl w.heap.size 9 i0 (.string ⟨#[]⟩) 1 16 Try.underlying31 hi hz0 hz1 hz2 rfl (by decide) _ _ _ rfl (hrow'.alloc _) ⟨wo.heap.size, 0, none⟩ 1 1 [.string (s.extract pos fin)] rfl rfl (cell_one_new _ _ _) (by simp [Value.oneCell']) (by unfold maxLen; omega) (by omega) (by simp; omega) ?_; intro v' w1 hown' hgrow _; have hg2 := (show (wo.alloc _).grownBy w1 u3.ownBlock from hgrow); clear hgrow)
              refine ⟨⟨pre ++ [s.extract pos fin], fin, rfl, hf2, HI, hide ?_, hide ?_⟩, by simp [intOf]; omega⟩
              · rw [List.length_append, List.map_append]; exact hown'
              · exact (hb.out.alloc hb.out.size _).grown hg2 (by simp; omega) (fun k e => (hrow'.lt k e).1)
          · have hfd : decide ((fin : Int) < (s.size : Int)) = false := by simp; omega
            have hpf : pos < fin := by
              rcases Nat.lt_or_ge pos fin with h | h
              · exact h
              · exfalso
                obtain rfl : pos = fin := by omega
                omega
            have HI : Hid (wordsL (bytesOf s) = (pre ++ [s.extract pos fin]).map bytesOf ++ wordsFrom (bytesOf s) fin) := hide (by
              rw [hwd.out, words_word (bytesOf s) pos fin hpf (by rw [bytes_length]; exact hf2) hnon.out (.inl (by rw [bytes_length]; omega)), List.map_append, List.map_cons, List.map_nil, bytes_extract, List.append_assoc]
              rfl)
            have hrow' := hrow.out
            have hbs := hb.out.size
            clear hnon hwd
            go_wp2_with (at_builtin; refine wpList_append_own _ rfl _ _ 31 rfl w.heap.size 9 i0 (.string ⟨#[]⟩) 1 16 Try.underlying31 hi hz0 hz1 hz2 rfl (by decide) _ _ _ rfl (hrow'.alloc _) ⟨wo.heap.size, 0, none⟩ 1 1 [.string (s.extract pos fin)] rfl rfl (cell_one_new _ _ _) (by simp [Value.oneCell']) (by unfold maxLen; omega) (by omega) (by simp; omega) ?_; intro v' w1 hown' hgrow _; have hg2 := (show (wo.alloc _).grownBy w1 u3.ownBlock from hgrow); clear hgrow)
            refine ⟨⟨pre ++ [s.extract pos fin], fin, rfl, hf2, HI, hide ?_, hide ?_⟩, by simp [intOf]; omega⟩
            · rw [List.length_append, List.map_append]; exact hown'
            · exact (hb.out.alloc hb.out.size _).grown hg2 (by simp; omega) (fun k e => (hrow'.lt k e).1)
    · have HX : Hid (pre.map bytesOf = wordsL (bytesOf s)) := hide (by rw [hwd.out, words_end _ _ (by rw [bytes_length]; omega), List.append_nil])
      clear hwd
      go_wp2
      go_ret
      exact ⟨u3, pre, rfl, HX.out, hrow.out, hb.out⟩
end Go.Proofs.Ythjglbimkfajlaa
