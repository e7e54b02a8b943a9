/- The walk of the program's Words: a new list of the parts between blanks and bytes 9 that aren't empty; nothing that was there turns. -/
import Derived.Test.YthjglbimkfajlaaLines
namespace Go.Proofs.Ythjglbimkfajlaa
open Go.RowKit Go.Shelf
set_option linter.unusedVariables false
attribute [local go_sem] Oper.semAt_some

/-- the parts that aren't empty -/
def wordsL (l : List UInt8) : List (List UInt8) := (Split.splitB gapB l).filter fun x => !x.isEmpty
def full (xs : List ByteArray) : List ByteArray := xs.filter fun x => !x.toList.isEmpty
theorem full_length (xs : List ByteArray) : (full xs).length ≤ xs.length := List.length_filter_le _ _
theorem full_hit (pre : List ByteArray) {x : ByteArray} (h : x.toList.isEmpty = false) : full (pre ++ [x]) = full pre ++ [x] := by simp [full, h]
theorem full_miss (pre : List ByteArray) {x : ByteArray} (h : x.toList.isEmpty = true) : full (pre ++ [x]) = full pre := by
  unfold full; rw [List.filter_append, List.filter_cons, h]; simp
theorem full_words (l : List UInt8) (ys : List ByteArray) (h : ys.map bytesOf = Split.splitB gapB l) : (full ys).map bytesOf = wordsL l := by
  unfold wordsL full
  rw [← h, List.filter_map]
  congr 1
  apply List.filter_congr
  intro x _
  show (!x.toList.isEmpty) = (!(bytesOf x).isEmpty)
  rw [Lib.toList_data]; rfl

theorem parts2_stops (m : Nat) (hm : 3 ≤ m) (Bs Bc L n : Nat) (s : ByteArray) (hs : s.size ≤ 1048576) (hBs : Bs < n) (hBc : Bc < n) (hsL : Bs ≠ L) (hcL : Bc ≠ L) (w : World) (hn : n ≤ w.heap.size)
    (cs : w.cell? ⟨Bs, 0, none⟩ = some (.string s)) (cc : w.cell? ⟨Bc, 0, none⟩ = some (.func (.func 52) #[] #[])) :
    SeqStopsK Fence.wide m Try.prog 58 #[.pointer (some ⟨Bs, 0, none⟩), .pointer (some ⟨Bc, 0, none⟩)] (fun x : ByteArray => #[Value.string x]) (Keep L n) (fun ys => ys.map bytesOf = Split.splitB gapB (bytesOf s)) (fun _ => True) (Split.splitB gapB (bytesOf s)).length w :=
  fun l J Jx W hW hJ _ hY h0 =>
    parts2 m hm l Bs Bc L n s hs hBs hBc hsL hcL J Jx hY W (Nat.le_trans hn hW.size) hJ ((hW.cell (p := ⟨Bs, 0, none⟩) (Nat.lt_of_lt_of_le hBs hn)).trans cs) ((hW.cell (p := ⟨Bc, 0, none⟩) (Nat.lt_of_lt_of_le hBc hn)).trans cc) h0

set_option maxRecDepth 100000 in
set_option maxHeartbeats 2000000 in
theorem words_in (n : Nat) (hn : 6 ≤ n) (s : ByteArray) (hs : s.size ≤ 1048576) (w : World) :
    CallsIn Fence.wide n Try.prog 31 #[.string s] w fun e W' => ∃ (v : Value) (xs : List ByteArray), e = .returned v ∧ xs.map bytesOf = wordsL (bytesOf s) ∧ W'.ownsRow w.heap.size 9 1 v xs.length (xs.map Value.string) ∧ Below w.heap.size w W' := by
  have h1 : 1 ≤ n := by omega
  obtain ⟨i0, hi, hz0, hz1, hz2⟩ := info_parts Try.info9
  have hlen := Split.split_length gapB (bytesOf s)
  rw [bytes_length] at hlen
  refine callsIn_of_wp_marks Try.func31 rfl trivial ?_ rfl
  simp only [Try.ntmps31, List.size_toArray, List.length_cons, List.length_nil, Nat.reduceAdd, Nat.reduceSub, Array.replicate_succ, Array.replicate_zero, List.push_toArray, List.append_toArray, List.nil_append, List.cons_append]
  gi_wp2_with fail
  refine ⟨trivial, ?_⟩
  refine (callsIn_wide.2 (between 52 s _)).mono ?_
  rintro e w' ⟨rfl, rfl⟩
  gi_wp2_with fail
  have bO := Boxed.new w 31 (.slice none 0 0)
  have bS := Boxed.new (w.alloc (.cells #[.slice none 0 0] 31)) 9 (.string s)
  have bC := Boxed.new ((w.alloc (.cells #[.slice none 0 0] 31)).alloc (.cells #[.string s] 9)) 51 (.func (.func 52) #[] #[])
  rw [World.size_alloc] at bS bC
  rw [World.size_alloc] at bC
  have bS' := bS.alloc (.cells #[.func (.func 52) #[] #[]] 51)
  have bO' := (bO.alloc (.cells #[.string s] 9)).alloc (.cells #[.func (.func 52) #[] #[]] 51)
  have hsz0 : (((w.alloc (.cells #[.slice none 0 0] 31)).alloc (.cells #[.string s] 9)).alloc (.cells #[.func (.func 52) #[] #[]] 51)).heap.size = w.heap.size + 3 := by simp
  have hB0 : Below w.heap.size w (((w.alloc (.cells #[.slice none 0 0] 31)).alloc (.cells #[.string s] 9)).alloc (.cells #[.func (.func 52) #[] #[]] 51)) := (((Below.refl _ w).alloc (Nat.le_refl _) _).alloc (by simp) _).alloc (by simp; omega) _
  generalize ((w.alloc (.cells #[.slice none 0 0] 31)).alloc (.cells #[.string s] 9)).alloc (.cells #[.func (.func 52) #[] #[]] 51) = W0 at *
  clear bO bS
  refine wpIn_rangeFunc_ownG rfl h1 (gf := 58) (lb := #[.pointer (some ⟨w.heap.size + 1, 0, none⟩), .pointer (some ⟨w.heap.size + 1 + 1, 0, none⟩)]) rfl trivial (enters_of Try.func58 (by kernel_rfl) rfl)
    (parts2_stops (n - 1) (by omega) (w.heap.size + 1) (w.heap.size + 1 + 1) w.heap.size (w.heap.size + 3) s hs (by omega) (by omega) (by omega) (by omega) W0 (by omega) bS'.cell bC.cell) keep_t (keep_b (by omega)) (Below.refl _ _) (fun _ => rfl)
    (fun pre W => (∃ v, Boxed W w.heap.size 31 v ∧ W.ownsRow (w.heap.size + 3) 9 1 v (full pre).length ((full pre).map Value.string) ∧ True) ∧ Keep w.heap.size (w.heap.size + 3) W0 W)
    (fun _ _ _ => False)
    (OwnFrom.and (Own.from (holdsRow_own (w.heap.size + 3) w.heap.size 31 9 1 (fun pre : List ByteArray => (full pre).length) (fun pre : List ByteArray => (full pre).map Value.string) (fun _ _ => True)) _) (ownFrom_keep (by omega) (Nat.le_refl _)))
    (fun _ _ _ _ _ hs _ _ => hs)
    ⟨⟨_, bO', World.ownsRow_nil _ _ _ _, trivial⟩, Keep.refl _ _ _⟩
    (fun x => { tmps := #[.string s, undef, .slice none 0 0, .pointer (some ⟨w.heap.size, 0, none⟩), .string x, .string s, .func (.func 58) #[] #[.pointer (some ⟨w.heap.size + 1, 0, none⟩), .pointer (some ⟨w.heap.size + 1 + 1, 0, none⟩)], .string x, undef, undef, undef, undef, undef, undef, undef], defers := [] }) ?assign ?body ?done ?stop
  case assign =>
    intro l x W K hK
    gi_wp2
    exact hK
  case body =>
    rintro l pre x W ⟨⟨v, hv, hrow, _⟩, hB⟩ hlt
    have hc := hv.cell
    have hnW : w.heap.size + 3 ≤ W.heap.size := by have := hB.size; omega
    have hfl := full_length pre
    cases hx : x.toList.isEmpty with
    | false =>
      gi_wp2_with (gi_at_builtin; refine wpListIn_append_own _ rfl _ _ 31 rfl (w.heap.size + 3) 9 i0 (.string ⟨#[]⟩) 1 16 Try.underlying31 hi hz0 hz1 hz2 rfl (by decide) _ _ _ rfl (hrow.alloc _) ⟨W.heap.size, 0, none⟩ 1 1 [.string x] rfl rfl (cell_one_new _ _ _) (by simp [Value.oneCell']) (by unfold maxLen; omega) (by omega) (by simp; omega) ?_; intro v' w1 hown' hgrow _; obtain ⟨g', cap', rfl⟩ := ownsRow_succ hown'; obtain ⟨hv1, hv2, hr2, hk2, hb2⟩ := appended hv hrow hnW hown' hgrow; have hc1 := hv1.cell; have hf1 := hv1.frozen)
      exact ⟨hk2.from _, hb2, ⟨_, hv2, by rw [full_hit pre hx, List.length_append, List.map_append]; exact hr2, trivial⟩, hB.trans hb2⟩
    | true =>
      gi_wp2
      exact ⟨KeepsFrom.refl _ _, Keep.refl _ _ _, ⟨v, hv, by rw [full_miss pre hx]; exact hrow, trivial⟩, hB⟩
  case done =>
    rintro D ys W hD hys ⟨⟨v, hv, hrow, _⟩, hB⟩ hK
    have hc := hv.cell
    have HYS := hide hys
    have HROW := hide hrow
    have HB := hide hB
    clear hys hrow hB
    gi_wp2
    refine ⟨by simp, .inl ⟨_, _, rfl, run_takeDeferred hK, ?_⟩⟩
    have hBW := hB0.trans (HB.out.below (by omega))
    exact ⟨_, results_tmp rfl _ _ _, v, full ys, rfl, full_words _ _ HYS.out, ownsRow_base (ownsRow_putObj HROW.out _ hK rfl) (by omega), below_putObj W hBW _ (by omega) hBW.size⟩
  case stop =>
    rintro D c pre W _ _ h _
    exact h.elim

theorem wordsI (s : ByteArray) (hs : s.size ≤ 1048576) (w : World) :
    Calls Try.prog 31 #[.string s] w fun e W' => ∃ (v : Value) (xs : List ByteArray), e = .returned v ∧ xs.map bytesOf = wordsL (bytesOf s) ∧ W'.ownsRow w.heap.size 9 1 v xs.length (xs.map Value.string) ∧ Below w.heap.size w W' :=
  callsIn_wide.1 (words_in 6 (Nat.le_refl _) s hs w)
end Go.Proofs.Ythjglbimkfajlaa
