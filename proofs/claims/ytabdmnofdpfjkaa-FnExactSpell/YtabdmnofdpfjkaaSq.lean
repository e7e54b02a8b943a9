/- The walk of the specification's Spell. -/
import Derived.Test.YtabdmnofdpfjkaaSp
namespace Go.Proofs.Ytabdmnofdpfjkaa
open Go.RowKit
set_option linter.unusedVariables false

theorem row_val {W : World} {base n : Nat} {v : Value} {ys : List Value} (h : W.ownsRow base 5 1 v n ys) : ∃ a cap, v = .slice a n cap := by
  rcases h.2 with ⟨hv, h0⟩ | ⟨g, cap, cur, hv, _⟩
  · exact ⟨none, 0, by rw [hv, h0]⟩
  · exact ⟨_, _, hv⟩
theorem conv_row {W : World} {base n : Nat} {a : Option Addr} {cap : Nat} {l : List UInt8} (h : W.ownsRow base 5 1 (.slice a n cap) n (Lib.byteCells l)) (hl : l.length = n) :
    Sem.run Try.prog (convert 32 9 (.slice a n cap)) W = .ok (.string ⟨l.toArray⟩) W := by
  rcases h.2 with ⟨hv, h0⟩ | ⟨g, cap', cur, hv, hg, hh, _⟩
  · cases hv
    obtain rfl : l = [] := List.eq_nil_of_length_eq_zero (by omega)
    exact run_convert_bytes_nil (P := Try.prog) W 32 5 Try.underlying32 Try.underlying5 0 0 9 Try.underlying9
  · cases hv
    subst hl
    exact run_convert_bytes_back (P := Try.prog) W 32 9 5 ⟨g, 0, none⟩ cap l Try.underlying32 Try.underlying5 Try.underlying9 (by
      intro j hj
      rw [h.cells (g := g) rfl j (.int .u8 (l[j]'hj).toNat) (by simp [Lib.byteCells, hj])])

set_option maxHeartbeats 4000000 in
theorem spellS (a : Option Addr) (n cap : Nat) (ts : List (Int × ByteArray × Int)) (w : World) (hs : TSeg w a n cap ts) (hn : n + tot ts ≤ 1048576) :
    Calls Try.prog 5 #[.slice a n cap] w fun e w' => e = .returned (.string ⟨(spk ts n).toArray⟩) ∧ Below w.heap.size w w' := by
  obtain ⟨i0, hi, hz0, hz1, hz2⟩ := info_parts Try.infoU8
  have hxl := hs.1
  have hcap := hs.2.1
  have hcm := hs.2.2.1
  have HS := hide hs
  clear hs
  have HO0 : Hid ((w.alloc (Obj.cells #[] 5)).ownsRow w.heap.size 5 1 (.slice (some ⟨w.heap.size, 0, none⟩) 0 0) 0 []) := hide (by
    have := World.ownsRow_lit (base := w.heap.size) (e := 5) (size := 1) w #[] 0 (Nat.le_refl _) (by unfold maxLen; omega) rfl
    exact this)
  have HB0 := hide (bl_alloc (bl_refl w) (Obj.cells #[] 5))
  go_enter Try.func5, Try.ntmps5
  go_wp2
  go_loopw [3, 4] (fun v i wr => ∃ (k : Nat) (b : Option Addr) (c m : Nat), k ≤ n ∧ i = .int .i64 k ∧ v = .slice b m c ∧ m ≤ 1048576 ∧ Hid (m = (spk ts k).length) ∧ Hid (wr.ownsRow w.heap.size 5 1 (.slice b m c) m (Lib.byteCells (spk ts k))) ∧ Hid (Below w.heap.size w wr) ∧ w.heap.size < wr.heap.size) (fun _ i _ => n - (intOf i).toNat)
  case atStart => exact ⟨0, some ⟨w.heap.size, 0, none⟩, 0, 0, Nat.zero_le _, rfl, rfl, by omega, hide rfl, HO0, HB0, by simp only [World.size_alloc]; omega⟩
  case round =>
    obtain ⟨k, b, c, m, hk, rfl, rfl, hm0, hm, hO, hb, hz⟩ := hrel
    by_cases hlt : k < n
    · have hlt' : (k : Int) < (n : Int) := by omega
      have hkx : k < ts.length := by omega
      have hsz := HS.out.2.2.2.1 ts[k] (List.getElem_mem _)
      have hl := spk_len ts k (by omega)
      have e2 := tot_mono ts k hkx
      have hms : m + 1 + ts[k].2.1.size ≤ 1048576 := by have := hm.out; omega
      clear e2 hl
      obtain ⟨g, o, rfl, hg, c0, c1, c2⟩ := HS.out.at hkx
      have HC1 := hide c1
      replace c1 := (hb.out.cell (p := ⟨g, o + k * 3 + 1, none⟩) hg).trans c1
      clear c0 c2
      by_cases hk0 : k = 0
      · have hk1 : ¬ (0 : Int) < (k : Int) := by omega
        have E0 : Hid (spk ts k = []) := hide (by rw [hk0]; rfl)
        have E1 : Hid (spk ts (k + 1) = ts[k].2.1.data.toList) := hide (by subst hk0; exact spk_one hkx)
        clear hk0
        generalize ts[k].1 = K at *
        generalize ts[k].2.1 = s at *
        generalize ts[k].2.2 = p at *
        go_wp2_with (at_builtin; refine Lib.wpList_append_own_string _ rfl _ _ 32 9 rfl w.heap.size 5 i0 Try.underlying32 Try.underlying9 hi hz0 hz1 hz2 _ _ _ rfl hO.out s rfl ?c3 ?c4 ?c5 ?_; (case c3 => unfold maxLen; omega); (case c4 => omega); (case c5 => omega); intro v' w2 hown' hgrow _; obtain ⟨a', c', rfl⟩ := row_val hown')
        have hbb := hb.out.grown hgrow (Nat.le_of_lt hz) (fun j e => (hO.out.lt j e).1)
        have hq := hgrow.size
        rw [bytes_app] at hown'
        refine ⟨⟨k + 1, a', c', m + s.size, by omega, by go_num, rfl, by omega, hide ?_, hide ?_, hide hbb, by omega⟩, by simp [intOf]; omega⟩
        · have := hm.out; rw [E0.out] at this; rw [E1.out, Array.length_toList]; simp at this; rw [this, Nat.zero_add]; rfl
        · rw [E1.out]; rw [E0.out, List.nil_append] at hown'; exact hown'
      · have hk1 : (0 : Int) < (k : Int) := by omega
        have E1 := hide (spk_more hkx (by omega))
        clear hk0
        generalize ts[k].1 = K at *
        generalize ts[k].2.1 = s at *
        generalize ts[k].2.2 = p at *
        go_wp2_with (first
          | (at_builtin; refine wpList_append_own _ rfl _ _ 32 rfl w.heap.size 5 i0 (.int .u8 0) 1 1 Try.underlying32 hi hz0 hz1 hz2 rfl (by decide) _ _ _ rfl (hO.out.alloc _) ⟨wr.heap.size, 0, none⟩ 1 1 [_] rfl rfl (cell_one_new _ _ _) (by simp [Value.oneCell']) (by unfold maxLen; omega) (by omega) (by simp only [World.size_alloc]; omega) ?_; intro v' w1 hown1 hgrow1 _; obtain ⟨a1, cc1, rfl⟩ := row_val hown1; have hbb1 : Below w.heap.size w w1 := (bl_alloc hb.out _).grown hgrow1 (by simp only [World.size_alloc]; omega) (fun j e => (hO.out.lt j e).1); have hg1 := Below.size hbb1; have hq1 := hgrow1.size; simp only [World.size_alloc] at hq1; have c1 := (hbb1.cell (p := ⟨g, o + k * 3 + 1, none⟩) hg).trans HC1.out; have HG1 := hide hgrow1; clear hgrow1)
          | (at_builtin; refine Lib.wpList_append_own_string _ rfl _ _ 32 9 rfl w.heap.size 5 i0 Try.underlying32 Try.underlying9 hi hz0 hz1 hz2 _ _ _ rfl hown1 s rfl ?c3 ?c4 ?c5 ?_; (case c3 => unfold maxLen; omega); (case c4 => omega); (case c5 => omega); intro v' w2 hown' hgrow _; obtain ⟨a', c', rfl⟩ := row_val hown'))
        have hbb := hbb1.grown hgrow (by omega) (fun j e => (hown1.lt j e).1)
        have hq := hgrow.size
        have hown2 : w2.ownsRow w.heap.size 5 1 (.slice a' (m + 1 + s.size) c') (m + 1 + s.size) (Lib.byteCells (spk ts k) ++ [Value.int .u8 32] ++ Lib.strCells s) := hown'
        have e3 : Lib.byteCells (spk ts k) ++ [Value.int .u8 32] ++ Lib.strCells s = Lib.byteCells (spk ts k ++ [32] ++ s.data.toList) := by simp [Lib.byteCells, Lib.strCells]
        rw [e3] at hown2
        refine ⟨⟨k + 1, a', c', m + 1 + s.size, by omega, by go_num, rfl, by omega, hide ?_, hide ?_, hide hbb, by omega⟩, by simp [intOf]; omega⟩
        · have := hm.out; rw [E1.out]; simp only [List.length_append, Array.length_toList, List.length_cons, List.length_nil]; rw [← this]; rfl
        · rw [E1.out]; exact hown2
    · obtain rfl : k = n := by omega
      have hcv := conv_row hO.out hm.out.symm
      go_wp2
      go_ret
      exact ⟨rfl, hb.out⟩
end Go.Proofs.Ytabdmnofdpfjkaa
