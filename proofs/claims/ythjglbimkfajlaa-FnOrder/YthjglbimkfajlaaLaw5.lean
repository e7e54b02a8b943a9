/- The lines of a text, each with a newline behind, are the text, or the text with one newline more: the plain facts, DrawLines, and the walk of the law. -/
import Derived.Test.YthjglbimkfajlaaLines
import Derived.Test.YthjglbimkfajlaaDivs
namespace Go.Proofs.Ythjglbimkfajlaa
open Go.RowKit
set_option linter.unusedVariables false

/-- the lists one behind the other, a newline behind each -/
def joinNl (ls : List (List UInt8)) : List UInt8 := (ls.map fun x => x ++ [10]).flatten
theorem join_app (a b : List (List UInt8)) : joinNl (a ++ b) = joinNl a ++ joinNl b := by simp [joinNl]
theorem nlB_eq (c : UInt8) (h : nlB c = true) : c = 10 := by
  have : c.toNat = 10 := by simpa [nlB] using h
  exact UInt8.toNat_inj.1 (by simpa using this)
theorem join_split (l : List UInt8) : joinNl (Split.splitB nlB l) = l ++ [10] := by
  induction l with
  | nil => simp [Split.splitB, joinNl]
  | cons c r ih =>
    unfold Split.splitB
    split
    · rename_i h
      have : joinNl ([] :: Split.splitB nlB r) = [10] ++ joinNl (Split.splitB nlB r) := by simp [joinNl]
      rw [this, ih, nlB_eq c h]; rfl
    · cases hs : Split.splitB nlB r with
      | nil => exact absurd hs (Split.split_ne _ _)
      | cons a t =>
        rw [hs] at ih
        have : joinNl (Split.addHead [c] (a :: t)) = c :: joinNl (a :: t) := by simp [joinNl, Split.addHead]
        rw [this, ih]; rfl
theorem last_part (l : List UInt8) : ∀ z, (Split.splitB nlB l).getLast? = some z → (∃ f, l = f ++ z) ∧ (∀ c ∈ z, nlB c = false) ∧ ((Split.splitB nlB l).length = 1 → z = l) := by
  induction l with
  | nil => intro z h; simp [Split.splitB] at h; subst h; simp
  | cons c r ih =>
    intro z h
    unfold Split.splitB at h ⊢
    split at h
    · rename_i hc
      rw [if_pos hc]
      have hne := Split.split_ne nlB r
      rw [List.getLast?_cons_of_ne_nil hne] at h
      obtain ⟨⟨f, hf⟩, h2, _⟩ := ih z h
      refine ⟨⟨c :: f, by rw [hf]; rfl⟩, h2, fun h1 => ?_⟩
      cases hs : Split.splitB nlB r with
      | nil => exact absurd hs hne
      | cons a t => rw [hs] at h1; simp at h1
    · rename_i hc
      rw [if_neg hc]
      have hcf : nlB c = false := by simpa using hc
      cases hs : Split.splitB nlB r with
      | nil => exact absurd hs (Split.split_ne nlB r)
      | cons a t =>
        rw [hs] at h ih
        cases t with
        | nil =>
          obtain ⟨_, h2, h3⟩ := ih a rfl
          have e : z = c :: a := by simpa [Split.addHead] using h.symm
          have e2 := h3 rfl
          subst e
          refine ⟨⟨[], by rw [e2]; rfl⟩, fun x hx => ?_, fun _ => by rw [e2]⟩
          rcases List.mem_cons.1 hx with rfl | hx
          · exact hcf
          · exact h2 x hx
        | cons b t =>
          have h' : (b :: t).getLast? = some z := by simpa [Split.addHead, List.getLast?_cons_of_ne_nil] using h
          obtain ⟨⟨f, hf⟩, h2, _⟩ := ih z (by rw [List.getLast?_cons_of_ne_nil (by simp)]; exact h')
          exact ⟨⟨c :: f, by rw [hf]; rfl⟩, h2, fun h1 => by simp [Split.addHead] at h1⟩
/-- what the lines make: the text, or the text with a newline behind, its last byte being none -/
theorem join_lines (l : List UInt8) : joinNl (linesL l) = l ∨ (joinNl (linesL l) = l ++ [10] ∧ ∃ f c, l = f ++ [c] ∧ nlB c = false) := by
  have hj := join_split l
  have hne := Split.split_ne nlB l
  unfold linesL
  split
  · rename_i h
    left
    have e : Split.splitB nlB l = (Split.splitB nlB l).dropLast ++ [[]] := by
      have := List.dropLast_concat_getLast hne
      rw [List.getLast?_eq_some_getLast hne, Option.some.injEq] at h
      rw [h] at this; exact this.symm
    rw [e, join_app] at hj
    have : joinNl [[]] = [10] := rfl
    rw [this] at hj
    exact List.append_cancel_right hj
  · rename_i h
    right
    refine ⟨hj, ?_⟩
    obtain ⟨⟨f, hf⟩, h2, _⟩ := last_part l _ (List.getLast?_eq_some_getLast hne)
    have hz : (Split.splitB nlB l).getLast hne ≠ [] := fun e => h (by rw [List.getLast?_eq_some_getLast hne, e])
    generalize (Split.splitB nlB l).getLast hne = z at *
    obtain ⟨q, c, rfl⟩ : ∃ q c, z = q ++ [c] := ⟨z.dropLast, z.getLast hz, (List.dropLast_concat_getLast hz).symm⟩
    exact ⟨f ++ q, c, by rw [hf]; simp, h2 c (by simp)⟩

set_option maxHeartbeats 1000000 in
theorem drawLines (a : Option Addr) (len cap : Nat) (w : World) (hr : Row a len cap w) :
    Calls Try.prog 22 #[.slice a len cap] w fun e w' => ∃ s : ByteArray, s.size ≤ 10 ∧ e = .returned (.string s) ∧ Below w.heap.size w w' := by
  have HR := hide hr
  clear hr
  go_enter Try.func22, Try.ntmps22
  go_wp2_with fail
  refine (newD a len cap _ HR.out).mono ?_
  rintro e w1 ⟨rfl, hc1, hb1⟩
  have HC1 := hide hc1
  have HB1 := hide hb1
  clear hc1 hb1
  go_wp2_with fail
  refine (belowD _ a len cap _ HC1.out _ (by omega)).mono ?_
  rintro e w2 ⟨n, hn, rfl, hc2, ho2⟩
  have hn' : 0 ≤ n ∧ n < 6 := by rcases hn with h | h <;> omega
  obtain ⟨hn0, hn1⟩ := hn'
  have HC2 := hide hc2
  have HB2 := hide (HB1.out.trans (ho2.below (Nat.le_refl _) (Nat.le_of_lt HC1.out.hB)))
  clear hc2 ho2 hn
  go_wp2
  go_loopw [4, 6] (fun t i wr => ∃ (k : Nat) (s : ByteArray), (k : Int) ≤ n ∧ s.size ≤ 2 * k ∧ t = .string s ∧ i = .int .i64 k ∧ Hid (Cur w.heap.size a len cap wr) ∧ Hid (Below w.heap.size w wr)) (fun _ i _ => 6 - (intOf i).toNat)
  case atStart => exact ⟨0, ⟨#[]⟩, by omega, by decide, rfl, rfl, HC2, HB2⟩
  case round =>
    obtain ⟨k, s, hk, hs, rfl, rfl, hc, hb⟩ := hrel
    by_cases hlt : (k : Int) < n
    · go_wp2_with fail
      refine (pickD w.heap.size a len cap _ (hc.out.alloc _) wr.heap.size 5 (fun z => z.size ≤ 2) (by simp) (by have := hc.out.hB; omega) (by omega) (by omega) (new_strs _ _ _ _ ?_ _ (by simp))).mono ?_
      · simp only [List.forall_mem_cons, List.not_mem_nil, false_implies, implies_true, and_true]
        exact ⟨⟨_, by decide, rfl⟩, ⟨_, by decide, rfl⟩, ⟨_, by decide, rfl⟩, ⟨_, by decide, rfl⟩, ⟨_, by decide, rfl⟩⟩
      rintro e w4 ⟨z, hz, rfl, hc4, ho4⟩
      have HC4 := hide hc4
      have HB4 : Hid (Below w.heap.size w w4) := hide ((hb.out.alloc hb.out.size _).trans (ho4.below (Nat.le_refl _) (by have := hb.out.size; simp; omega)))
      clear hc4 ho4
      go_wp2
      exact ⟨⟨k + 1, s ++ z, by omega, by rw [ByteArray.size_append]; omega, rfl, by go_num, HC4, HB4⟩, by simp [intOf]; omega⟩
    · go_wp2
      go_ret
      exact ⟨s, by omega, rfl, hb.out⟩

theorem join_take_le (xs : List (List UInt8)) (k : Nat) : (joinNl (xs.take k)).length ≤ (joinNl xs).length := by
  conv => rhs; rw [← List.take_append_drop k xs, join_app, List.length_append]
  omega
theorem join_step (xs : List ByteArray) (k : Nat) (h : k < xs.length) : joinNl ((xs.map bytesOf).take (k + 1)) = joinNl ((xs.map bytesOf).take k) ++ (bytesOf xs[k] ++ [10]) := by
  rw [List.take_succ_eq_append_getElem (by simpa using h), join_app]
  simp [joinNl]
theorem bytes_append (a b : ByteArray) : bytesOf (a ++ b) = bytesOf a ++ bytesOf b := by simp [bytesOf]
theorem bytes_inj {a b : ByteArray} (h : bytesOf a = bytesOf b) : a = b := ByteArray.ext (Array.ext' h)
/-- what a slice of the call's own that was just read gives the walk -/
theorem row_cases {W : World} {base : Nat} {v : Value} {xs : List ByteArray} (h : W.ownsRow base 9 1 v xs.length (xs.map Value.string)) :
    (v = .slice none 0 0 ∧ xs = []) ∨ ∃ g cap, v = .slice (some ⟨g, 0, none⟩) xs.length cap ∧ base ≤ g ∧ g < W.heap.size ∧ (xs.length ≤ cap ∧ cap ≤ 9223372036854775807) ∧ ∀ j (hj : j < xs.length), W.cell? ⟨g, j, none⟩ = some (.string xs[j]) := by
  rcases h.2 with ⟨h1, h2⟩ | ⟨g, cap, cur, hv, hg, hh, hn, hc, _⟩
  · exact .inl ⟨h1, List.eq_nil_of_length_eq_zero h2⟩
  · refine .inr ⟨g, cap, hv, hg, (Array.getElem?_eq_some_iff.1 hh).1, ⟨hn, hc⟩, fun j hj => ?_⟩
    subst hv
    rw [h.cellAt j (by omega)]; simp [hj]

set_option maxHeartbeats 2000000 in
theorem walk5 (a : Option Addr) (len cap : Nat) (w : World) (hr : Row a len cap w) :
    Calls Try.prog 5 #[.slice a len cap] w fun e w' => e = .returned (.bool true) ∧ Below w.heap.size w w' := by
  have HR := hide hr
  have hlen : len ≤ 9223372036854775807 := Nat.le_trans hr.2.1 hr.2.2
  clear hr
  by_cases hbig : (1048576 : Int) < (len : Int)
  · go_enter Try.func5, Try.ntmps5
    go_wp2
    go_ret
    exact ⟨rfl, Below.refl _ _⟩
  go_enter Try.func5, Try.ntmps5
  go_wp2_with (first | (go_at_call 13; go_in) | fail)
  refine (drawLines _ _ _ _ HR.out).mono ?_
  rintro e w1 ⟨s, hs, rfl, hb1⟩
  have HB1 := hide hb1
  clear hb1
  go_wp2_with fail
  refine (linesI s (by omega) _).mono ?_
  rintro e w2 ⟨v, xs, rfl, hxs, hrow, hb2⟩
  have HB2 := hide (HB1.out.trans (hb2.mono HB1.out.size))
  have hjl := join_lines (bytesOf s)
  rw [← hxs] at hjl
  have hjlen : (joinNl (xs.map bytesOf)).length ≤ 11 := by
    have hbl := bytes_length s
    rcases hjl with h | ⟨h, _⟩
    · rw [h, hbl]; omega
    · rw [h, List.length_append, hbl]; simp; omega
  have HJ := hide hjl
  have HJL := hide hjlen
  clear hxs hb2 hjl hjlen
  have key : ∀ (o : ByteArray) (wr : World), bytesOf o = joinNl (xs.map bytesOf) →
      ((o.toList == s.toList) = true) ∨ ((o.toList == s.toList) = false ∧ (o.toList == (s ++ ⟨#[10]⟩).toList) = true ∧ s.toList.isEmpty = false ∧ 0 < s.size ∧ ∀ h : s.size - 1 < s.size, (((s[s.size - 1]'h).toNat : Int) != 10) = true) := by
    intro o wr ho
    by_cases he : bytesOf o = bytesOf s
    · left; rw [bytes_inj he]; simp
    · right
      rcases HJ.out with h | ⟨h, f, c, hl, hc⟩
      · exact absurd (ho.trans h) he
      · have hbl := bytes_length s
        have hfl : f.length = s.size - 1 ∧ 0 < s.size := by rw [hl, List.length_append] at hbl; simp at hbl; omega
        refine ⟨?_, ?_, ?_, hfl.2, fun hlt => ?_⟩
        · rw [beq_eq_false_iff_ne, Lib.toList_data, Lib.toList_data]; exact he
        · rw [beq_iff_eq, Lib.toList_data, Lib.toList_data]
          show bytesOf o = bytesOf (s ++ ⟨#[10]⟩)
          rw [ho, h, bytes_append]; rfl
        · rw [Lib.toList_data, show s.data.toList = f ++ [c] from hl]; simp
        · have e : s[s.size - 1] = c := by
            have e1 : s[s.size - 1] = (bytesOf s)[s.size - 1]'(by rw [bytes_length]; exact hlt) := rfl
            rw [e1]; simp only [hl]
            rw [List.getElem_append_right (by omega)]; simp
          rw [e]
          have : ¬ c.toNat = 10 := by simpa [nlB] using hc
          rw [bne_iff_ne]; omega
  have KEY := hide key
  clear key
  rcases row_cases hrow with ⟨rfl, rfl⟩ | ⟨g, cap2, rfl, hg, hgl, ⟨hc1, hc2⟩, hcell⟩
  · clear hrow
    have hs0 : s = ⟨#[]⟩ := by
      rcases HJ.out with h | ⟨h, _⟩
      · exact bytes_inj h.symm
      · exact absurd (congrArg List.length h) (by simp [joinNl])
    subst hs0
    clear KEY HJ HJL
    go_wp2
    go_loop [5, 6] (fun o i => o = .string ⟨#[]⟩ ∧ i = .int .i64 0) (fun _ _ => 0)
    case atStart => exact ⟨rfl, rfl⟩
    case round =>
      obtain ⟨rfl, rfl⟩ := hrel
      go_wp2
      go_ret
      exact ⟨rfl, HB2.out⟩
  · have HCELL := hide hcell
    clear hrow hcell
    go_wp2
    go_loop [5, 6] (fun o i => ∃ (k : Nat) (t : ByteArray), k ≤ xs.length ∧ i = .int .i64 k ∧ o = .string t ∧ t.size ≤ 11 ∧ Hid (bytesOf t = joinNl ((xs.map bytesOf).take k))) (fun _ i => xs.length - (intOf i).toNat)
    case atStart => exact ⟨0, ⟨#[]⟩, Nat.zero_le _, rfl, rfl, by decide, hide rfl⟩
    case round =>
      obtain ⟨k, t, hk, rfl, rfl, ht, hrel⟩ := hrel
      by_cases hlt : k < xs.length
      · have hck := HCELL.out k hlt
        have hst := join_step xs k hlt
        have htl := join_take_le (xs.map bytesOf) (k + 1)
        have hsz : t.size + xs[k].size + 1 ≤ 11 := by
          have h1 := HJL.out
          have h2 := bytes_length t
          have h3 := bytes_length xs[k]
          rw [hst, List.length_append, List.length_append, ← hrel.out] at htl
          simp at htl; omega
        have hsz1 : xs[k].size ≤ 11 := by omega
        have HST := hide hst
        have HSZ := hide hsz
        clear hst htl hsz
        go_wp2
        refine ⟨⟨k + 1, t ++ xs[k] ++ ⟨#[10]⟩, by omega, by go_num, rfl, ?_, hide ?_⟩, by simp [intOf]; omega⟩
        · rw [ByteArray.size_append, ByteArray.size_append]
          have := HSZ.out
          have e : (⟨#[10]⟩ : ByteArray).size = 1 := rfl
          omega
        · rw [bytes_append, bytes_append, hrel.out, HST.out, List.append_assoc]; rfl
      · have ho : bytesOf t = joinNl (xs.map bytesOf) := by rw [hrel.out, List.take_of_length_le (by simp; omega)]
        rcases KEY.out t w ho with h | ⟨h1, h2, h3, h4, h5⟩
        · go_wp2
          go_ret
          exact ⟨rfl, HB2.out⟩
        · have h5' := h5 (by omega)
          clear h5
          go_wp2
          go_ret
          exact ⟨rfl, HB2.out⟩
end Go.Proofs.Ythjglbimkfajlaa
