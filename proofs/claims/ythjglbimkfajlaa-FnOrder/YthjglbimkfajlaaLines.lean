/- The walk of the program's Lines: a new list of the parts between newlines, without the last one where that is empty; nothing that was there turns. -/
import Derived.Test.YthjglbimkfajlaaParts
import Derived.RangeFuncBound
import Derived.RangeFuncCalls
import Derived.WalkSmall
namespace Go.Proofs.Ythjglbimkfajlaa
open Go.RowKit Go.Shelf
set_option linter.unusedVariables false
attribute [local go_sem] Oper.semAt_some

theorem Try.info9 : (Try.prog.info? 9).map (fun i => (i.zero, i.size, i.bytes)) = some (some (.string ⟨#[]⟩), 1, 16) := by kernel_rfl

theorem keep_t {L n : Nat} : ∀ {A B C : World}, Keep L n A B → Keep L n B C → Keep L n A C := fun h k => h.trans k
theorem keep_b {L n H : Nat} (hn : n ≤ H) (W : World) (l : Nat) (o o' : Obj) (hl : H ≤ l) (h : W.heap[l]? = some o) (hc : o.isCells = false) (hw : o.isWalk = false) : Keep L n W (W.putObj l o') := by
  have hg := grownBy_putObj' W l o'
  exact ⟨hg.os, hg.tape, hg.output, hg.size, fun k hk _ => hg.block k (by have := (Array.getElem?_eq_some_iff.1 h).1; omega) (fun e => by cases e; omega), KeepsWalks.putObj o' h hw⟩
theorem ownFrom_keep {β : Type} {L n B : Nat} {W0 : World} (hn : n ≤ W0.heap.size) (hB : W0.heap.size ≤ B) : OwnFrom B (fun (_ : β) W => Keep L n W0 W) := by
  intro s W W' row h hg hr
  have hne : ∀ k, k < W0.heap.size → some k ≠ row := fun k hk e => by have := (hr k e.symm).1; omega
  refine ⟨hg.os.trans h.os, hg.tape.trans h.tape, hg.output.trans h.output, Nat.le_trans h.size hg.size, fun k hk hL => (hg.block k (by have := h.size; omega) (hne k (by omega))).trans (h.block k hk hL), ?_⟩
  refine ⟨Nat.le_trans h.size hg.size, fun k o hk ho => ?_⟩
  have hlt := (Array.getElem?_eq_some_iff.1 hk).1
  exact (hg.block k (by have := h.size; omega) (hne k hlt)).trans (h.walks.same k o hk ho)

/-- what stands behind an append into the variable in block L -/
theorem appended {W w1 : World} {n L : Nat} {v v' : Value} {k m : Nat} {xs ys : List Value} {tmp : Obj}
    (hv : Boxed W L 31 v) (hrow : W.ownsRow n 9 1 v k xs) (hn : n ≤ W.heap.size) (hown' : w1.ownsRow n 9 1 v' m ys) (hgrow : (W.alloc tmp).grownBy w1 v.ownBlock) :
    Boxed w1 L 31 v ∧ Boxed (w1.setCell ⟨L, 0, none⟩ v') L 31 v' ∧ (w1.setCell ⟨L, 0, none⟩ v').ownsRow n 9 1 v' m ys ∧ KeepsOthers W (w1.setCell ⟨L, 0, none⟩ v') ∧ Keep L n W (w1.setCell ⟨L, 0, none⟩ v') := by
  have hv1 : Boxed w1 L 31 v := (hv.alloc tmp).kept hgrow (hv.not_row (by decide) hrow)
  have hko : KeepsOthers W (w1.setCell ⟨L, 0, none⟩ v') := by
    refine ((KeepsOthers.alloc W tmp).trans (KeepsOthers.of_grownBy hgrow fun j o ej hj => ?_)).trans (KeepsOthers.setCell _ _ _)
    rcases (hrow.alloc tmp).2 with ⟨rfl, _⟩ | ⟨g, cap, cur, rfl, _, hgb, _⟩
    · simp [Value.ownBlock] at ej
    · obtain rfl : g = j := by simpa [Value.ownBlock] using ej
      rw [hgb] at hj; cases hj; rfl
  have hsz : (W.alloc tmp).heap.size = W.heap.size + 1 := by simp
  refine ⟨hv1, hv1.set v', hown'.kept (grownBy_setCell' w1 L v') (.inr (hv1.not_row (by decide) hown').symm), hko, ?_⟩
  refine ⟨hgrow.os, hgrow.tape, hgrow.output, hko.size, fun j hj hL => ?_, hko.walks⟩
  rw [Below.heap_setCell _ _ _ _ hL, hgrow.block j (by omega) ?_, Below.heap_alloc _ _ _ (by omega)]
  intro e
  have := (hrow.lt j e.symm).1
  omega

/-- the parts without the last one where that is empty -/
def linesL (l : List UInt8) : List (List UInt8) := if (Split.splitB nlB l).getLast? = some [] then (Split.splitB nlB l).dropLast else Split.splitB nlB l

theorem ownsRow_base {W : World} {b b' e size k : Nat} {v : Value} {xs : List Value} (h : W.ownsRow b e size v k xs) (hb : b' ≤ b) : W.ownsRow b' e size v k xs := by
  obtain ⟨h1, h2⟩ := h
  refine ⟨h1, ?_⟩
  rcases h2 with h2 | ⟨g, cap, cur, hv, hg, r⟩
  · exact .inl h2
  · exact .inr ⟨g, cap, cur, hv, Nat.le_trans hb hg, r⟩
theorem Keep.below {L n : Nat} {A B : World} (h : Keep L n A B) (hL : L ≤ n) : Below L A B :=
  ⟨h.os, h.tape, h.output, h.size, fun k hk => h.block k (by omega) (by omega)⟩
theorem below_putObj {B : Nat} {A : World} (W : World) (h : Below B A W) {l : Nat} (o' : Obj) (hl : B ≤ l) (hB : B ≤ W.heap.size) : Below B A (W.putObj l o') := by
  have hg := grownBy_putObj' W l o'
  exact h.trans ⟨hg.os, hg.tape, hg.output, hg.size, fun k hk => hg.block k (by omega) (fun e => by cases e; omega)⟩
theorem lines_keep (l : List UInt8) (zs : List ByteArray) (z : ByteArray) (h : (zs ++ [z]).map bytesOf = Split.splitB nlB l) (hz : z.toList.isEmpty = false) : (zs ++ [z]).map bytesOf = linesL l := by
  unfold linesL
  rw [if_neg, h]
  rw [← h]
  simp only [List.map_append, List.map_cons, List.map_nil, List.getLast?_append, List.getLast?_singleton, Option.some_or, Option.some.injEq]
  intro e
  rw [Lib.toList_data] at hz
  have : z.data.toList = [] := e
  rw [this] at hz; cases hz
theorem lines_drop (l : List UInt8) (zs : List ByteArray) (z : ByteArray) (h : (zs ++ [z]).map bytesOf = Split.splitB nlB l) (hz : z.toList.isEmpty = true) : zs.map bytesOf = linesL l := by
  have e : bytesOf z = [] := by rw [Lib.toList_data, List.isEmpty_iff] at hz; exact hz
  unfold linesL
  rw [← h, if_pos (by simp [e])]
  simp

theorem between (g : Nat) (s : ByteArray) (w : World) :
    Calls Try.prog 45 #[.string s, .func (.func g) #[] #[]] w fun e w' => e = .returned (.func (.func 58) #[] #[.pointer (some ⟨w.heap.size, 0, none⟩), .pointer (some ⟨w.heap.size + 1, 0, none⟩)]) ∧ w' = (w.alloc (.cells #[.string s] 9)).alloc (.cells #[.func (.func g) #[] #[]] 51) := by
  go_enter Try.func45, Try.ntmps45
  go_wp2
  go_ret
  exact ⟨rfl, rfl⟩

theorem parts1_stops (m : Nat) (hm : 3 ≤ m) (Bs Bc L n : Nat) (s : ByteArray) (hs : s.size ≤ 1048576) (hBs : Bs < n) (hBc : Bc < n) (hsL : Bs ≠ L) (hcL : Bc ≠ L) (w : World) (hn : n ≤ w.heap.size)
    (cs : w.cell? ⟨Bs, 0, none⟩ = some (.string s)) (cc : w.cell? ⟨Bc, 0, none⟩ = some (.func (.func 46) #[] #[])) :
    SeqStopsK Fence.wide m Try.prog 58 #[.pointer (some ⟨Bs, 0, none⟩), .pointer (some ⟨Bc, 0, none⟩)] (fun x : ByteArray => #[Value.string x]) (Keep L n) (fun ys => ys.map bytesOf = Split.splitB nlB (bytesOf s)) (fun _ => True) (Split.splitB nlB (bytesOf s)).length w :=
  fun l J Jx W hW hJ _ hY h0 =>
    parts1 m hm l Bs Bc L n s hs hBs hBc hsL hcL J Jx hY W (Nat.le_trans hn hW.size) hJ ((hW.cell (p := ⟨Bs, 0, none⟩) (Nat.lt_of_lt_of_le hBs hn)).trans cs) ((hW.cell (p := ⟨Bc, 0, none⟩) (Nat.lt_of_lt_of_le hBc hn)).trans cc) h0

set_option maxRecDepth 100000 in
set_option maxHeartbeats 2000000 in
theorem lines_in (n : Nat) (hn : 6 ≤ n) (s : ByteArray) (hs : s.size ≤ 1048576) (w : World) :
    CallsIn Fence.wide n Try.prog 23 #[.string s] w fun e W' => ∃ (v : Value) (xs : List ByteArray), e = .returned v ∧ xs.map bytesOf = linesL (bytesOf s) ∧ W'.ownsRow w.heap.size 9 1 v xs.length (xs.map Value.string) ∧ Below w.heap.size w W' := by
  have h1 : 1 ≤ n := by omega
  obtain ⟨i0, hi, hz0, hz1, hz2⟩ := info_parts Try.info9
  have hlen := Split.split_length nlB (bytesOf s)
  rw [bytes_length] at hlen
  refine callsIn_of_wp_marks Try.func23 rfl trivial ?_ rfl
  simp only [Try.ntmps23, List.size_toArray, List.length_cons, List.length_nil, Nat.reduceAdd, Nat.reduceSub, Array.replicate_succ, Array.replicate_zero, List.push_toArray, List.append_toArray, List.nil_append, List.cons_append]
  gi_wp2_with fail
  refine ⟨trivial, ?_⟩
  refine (callsIn_wide.2 (between 46 s _)).mono ?_
  rintro e w' ⟨rfl, rfl⟩
  gi_wp2_with fail
  have bO := Boxed.new w 31 (.slice none 0 0)
  have bS := Boxed.new (w.alloc (.cells #[.slice none 0 0] 31)) 9 (.string s)
  have bC := Boxed.new ((w.alloc (.cells #[.slice none 0 0] 31)).alloc (.cells #[.string s] 9)) 51 (.func (.func 46) #[] #[])
  rw [World.size_alloc] at bS bC
  rw [World.size_alloc] at bC
  have bS' := bS.alloc (.cells #[.func (.func 46) #[] #[]] 51)
  have bO' := (bO.alloc (.cells #[.string s] 9)).alloc (.cells #[.func (.func 46) #[] #[]] 51)
  have hsz0 : (((w.alloc (.cells #[.slice none 0 0] 31)).alloc (.cells #[.string s] 9)).alloc (.cells #[.func (.func 46) #[] #[]] 51)).heap.size = w.heap.size + 3 := by simp
  have hB0 : Below w.heap.size w (((w.alloc (.cells #[.slice none 0 0] 31)).alloc (.cells #[.string s] 9)).alloc (.cells #[.func (.func 46) #[] #[]] 51)) := (((Below.refl _ w).alloc (Nat.le_refl _) _).alloc (by simp) _).alloc (by simp; omega) _
  generalize ((w.alloc (.cells #[.slice none 0 0] 31)).alloc (.cells #[.string s] 9)).alloc (.cells #[.func (.func 46) #[] #[]] 51) = W0 at *
  clear bO bS
  refine wpIn_rangeFunc_ownG rfl h1 (gf := 58) (lb := #[.pointer (some ⟨w.heap.size + 1, 0, none⟩), .pointer (some ⟨w.heap.size + 1 + 1, 0, none⟩)]) rfl trivial (enters_of Try.func58 (by kernel_rfl) rfl)
    (parts1_stops (n - 1) (by omega) (w.heap.size + 1) (w.heap.size + 1 + 1) w.heap.size (w.heap.size + 3) s hs (by omega) (by omega) (by omega) (by omega) W0 (by omega) bS'.cell bC.cell) keep_t (keep_b (by omega)) (Below.refl _ _) (fun _ => rfl)
    (fun pre W => (∃ v, Boxed W w.heap.size 31 v ∧ W.ownsRow (w.heap.size + 3) 9 1 v pre.length (pre.map Value.string) ∧ True) ∧ Keep w.heap.size (w.heap.size + 3) W0 W)
    (fun _ _ _ => False)
    (OwnFrom.and (Own.from (holdsRow_own (w.heap.size + 3) w.heap.size 31 9 1 (fun pre : List ByteArray => pre.length) (fun pre : List ByteArray => pre.map Value.string) (fun _ _ => True)) _) (ownFrom_keep (by omega) (Nat.le_refl _)))
    (fun _ _ _ _ _ hs _ _ => hs)
    ⟨⟨_, bO', World.ownsRow_nil _ _ _ _, trivial⟩, Keep.refl _ _ _⟩
    (fun x => { tmps := #[.string s, undef, .slice none 0 0, .pointer (some ⟨w.heap.size, 0, none⟩), .string x, undef, .string s, .func (.func 58) #[] #[.pointer (some ⟨w.heap.size + 1, 0, none⟩), .pointer (some ⟨w.heap.size + 1 + 1, 0, none⟩)], .string x, undef, undef, undef, undef, undef, undef, undef, undef, undef, undef, undef, undef, undef, undef, undef, undef], defers := [] }) ?assign ?body ?done ?stop
  case assign =>
    intro l x W K hK
    gi_wp2
    exact hK
  case body =>
    rintro l pre x W ⟨⟨v, hv, hrow, _⟩, hB⟩ hlt
    have hc := hv.cell
    have hnW : w.heap.size + 3 ≤ W.heap.size := by have := hB.size; omega
    gi_wp2_with (gi_at_builtin; refine wpListIn_append_own _ rfl _ _ 31 rfl (w.heap.size + 3) 9 i0 (.string ⟨#[]⟩) 1 16 Try.underlying31 hi hz0 hz1 hz2 rfl (by decide) _ _ _ rfl (hrow.alloc _) ⟨W.heap.size, 0, none⟩ 1 1 [.string x] rfl rfl (cell_one_new _ _ _) (by simp [Value.oneCell']) (by unfold maxLen; omega) (by omega) (by simp; omega) ?_; intro v' w1 hown' hgrow _; obtain ⟨g', cap', rfl⟩ := ownsRow_succ hown'; obtain ⟨hv1, hv2, hr2, hk2, hb2⟩ := appended hv hrow hnW hown' hgrow; have hc1 := hv1.cell; have hf1 := hv1.frozen)
    exact ⟨hk2.from _, hb2, ⟨_, hv2, by rw [List.length_append, List.map_append]; exact hr2, trivial⟩, hB.trans hb2⟩
  case done =>
    rintro D ys W hD hys ⟨⟨v, hv, hrow, _⟩, hB⟩ hK
    have hc := hv.cell
    have hne : ys ≠ [] := fun e => by rw [e] at hys; exact Split.split_ne nlB (bytesOf s) hys.symm
    obtain ⟨zs, z, rfl⟩ : ∃ zs z, ys = zs ++ [z] := ⟨ys.dropLast, ys.getLast hne, (List.dropLast_concat_getLast hne).symm⟩
    rw [List.length_append, List.length_singleton] at hrow
    obtain ⟨g, cap, rfl⟩ := ownsRow_succ hrow
    have hzl : zs.length ≤ 1048577 := by
      have := congrArg List.length hys
      rw [List.length_map, List.length_append, List.length_singleton] at this; omega
    have hcl : W.cell? ⟨g, zs.length, none⟩ = some (.string z) := by
      rw [hrow.cellAt zs.length (by omega)]; simp
    have hcap : zs.length + 1 ≤ cap ∧ cap ≤ 9223372036854775807 := by
      rcases hrow.2 with ⟨h, _⟩ | ⟨_, _, _, h, _, _, h1, h2, _⟩
      · cases h
      · cases h; exact ⟨h1, h2⟩
    obtain ⟨hcap1, hcap2⟩ := hcap
    have HYS := hide hys
    have HROW := hide hrow
    have HB := hide hB
    clear hys hrow hB hne
    cases hz : z.toList.isEmpty with
    | false =>
      gi_wp2
      refine ⟨by simp, .inl ⟨_, _, rfl, run_takeDeferred hK, ?_⟩⟩
      have hBW := hB0.trans (HB.out.below (by omega))
      exact ⟨_, results_tmp rfl _ _ _, _, zs ++ [z], rfl, lines_keep _ _ _ HYS.out hz, ownsRow_base (ownsRow_putObj (by rw [List.length_append, List.length_singleton]; exact HROW.out) _ hK rfl) (by omega), below_putObj W hBW _ (by omega) hBW.size⟩
    | true =>
      have hf := hv.frozen
      gi_wp2
      have hK' : (W.setCell ⟨w.heap.size, 0, none⟩ (.slice (some ⟨g, 0, none⟩) zs.length cap)).heap[D]? = some (.deferred (some [])) := (KeepsOthers.setCell W _ _).same D _ hK rfl
      refine ⟨by simp, .inl ⟨_, _, rfl, run_takeDeferred hK', ?_⟩⟩
      have hBW := hB0.trans (HB.out.below (by omega))
      have hr3 := ownsRow_pop (size := 1) (n := zs.length) (xs := zs.map Value.string) (last := [.string z]) (by simp) (by have := HROW.out; rw [List.map_append] at this; exact this)
      have hr4 := hr3.kept (grownBy_setCell' W w.heap.size (.slice (some ⟨g, 0, none⟩) zs.length cap)) (.inr (hv.not_row (by decide) hr3).symm)
      exact ⟨_, results_tmp rfl _ _ _, _, zs, rfl, lines_drop _ _ _ HYS.out hz, ownsRow_base (ownsRow_putObj hr4 _ hK' rfl) (by omega), below_putObj _ (hBW.setCell (p := ⟨w.heap.size, 0, none⟩) (Nat.le_refl _) _) _ (by omega) (by have := hBW.size; simpa [World.setCell] using this)⟩
  case stop =>
    rintro D c pre W _ _ h _
    exact h.elim

theorem linesI (s : ByteArray) (hs : s.size ≤ 1048576) (w : World) :
    Calls Try.prog 23 #[.string s] w fun e W' => ∃ (v : Value) (xs : List ByteArray), e = .returned v ∧ xs.map bytesOf = linesL (bytesOf s) ∧ W'.ownsRow w.heap.size 9 1 v xs.length (xs.map Value.string) ∧ Below w.heap.size w W' :=
  callsIn_wide.1 (lines_in 6 (Nat.le_refl _) s hs w)
end Go.Proofs.Ythjglbimkfajlaa
