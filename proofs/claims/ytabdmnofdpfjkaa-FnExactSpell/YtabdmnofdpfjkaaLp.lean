/- The walks over lists of words: how great one is, a copy of one, whether two are alike. -/
import Derived.Test.YtabdmnofdpfjkaaTk
namespace Go.Proofs.Ytabdmnofdpfjkaa
open Go.RowKit
set_option linter.unusedVariables false

/-- the bytes of all texts -/
def tot : List (Int × ByteArray × Int) → Nat
  | [] => 0
  | t :: r => t.2.1.size + tot r
/-- what is left of a bound -/
def szr (L : Int) (n t : Nat) : Int := if L < n + t then -1 else L - (n + t)
theorem tot_take (ts : List (Int × ByteArray × Int)) (k : Nat) (h : k < ts.length) : tot (ts.take (k + 1)) = tot (ts.take k) + ts[k].2.1.size := by
  induction ts generalizing k with
  | nil => simp at h
  | cons t r ih =>
    cases k with
    | zero => simp [tot]
    | succ k => simp only [List.take_succ_cons, tot, List.getElem_cons_succ]; rw [ih k (by simpa using h)]; omega
theorem tot_mono (ts : List (Int × ByteArray × Int)) (k : Nat) (h : k < ts.length) : tot (ts.take k) + ts[k].2.1.size ≤ tot ts := by
  rw [← tot_take ts k h]
  have : ∀ (l : List (Int × ByteArray × Int)) (j : Nat), tot (l.take j) ≤ tot l := by
    intro l
    induction l with
    | nil => intro j; simp [tot]
    | cons t r ih => intro j; cases j with
      | zero => simp [tot]
      | succ j => simp only [List.take_succ_cons, tot]; have := ih j; omega
  exact this ts (k + 1)
/-- a word of a list as the walk meets it -/
theorem TSeg.at {W : World} {a : Option Addr} {n cap : Nat} {ts : List (Int × ByteArray × Int)} (h : TSeg W a n cap ts) {k : Nat} (hk : k < ts.length) : ∃ g o, a = some ⟨g, o, none⟩ ∧ g < W.heap.size ∧ W.cell? ⟨g, o + k * 3, none⟩ = some (.int .i64 ts[k].1) ∧ W.cell? ⟨g, o + k * 3 + 1, none⟩ = some (.string ts[k].2.1) ∧ W.cell? ⟨g, o + k * 3 + 2, none⟩ = some (.int .i64 ts[k].2.2) := by
  rcases h.2.2.2.2 with h0 | ⟨g, o, e, hg, hc⟩
  · have := h.1; omega
  · exact ⟨g, o, e, hg, hc k hk⟩

set_option maxHeartbeats 1000000 in
theorem szTS (a : Option Addr) (n cap : Nat) (ts : List (Int × ByteArray × Int)) (L : Int) (w : World) (hs : TSeg w a n cap ts) (h0 : 0 ≤ L) (h1 : L ≤ 1048576) :
    Calls Try.prog 4 #[.slice a n cap, .int .i64 L] w fun e w' => e = .returned (.int .i64 (szr L n (tot ts))) ∧ Below w.heap.size w w' := by
  have hn : n ≤ 9223372036854775807 := Nat.le_trans hs.2.1 hs.2.2.1
  have hcap := hs.2.1
  have hcm := hs.2.2.1
  have hxl := hs.1
  have HS := hide hs
  clear hs
  by_cases hL : L < n
  · have HZ : Hid (szr L n (tot ts) = -1) := hide (by unfold szr; rw [if_pos (by omega)])
    have h' : L - (n : Int) < 0 := by omega
    go_enter Try.func4, Try.ntmps4
    go_wp2
    go_ret
    exact ⟨ret_int HZ.out.symm, bl_refl w⟩
  have h' : ¬ L - (n : Int) < 0 := by omega
  go_enter Try.func4, Try.ntmps4
  go_wp2
  go_loopw [1, 5] (fun l i wr => ∃ (k : Nat) (q : Int), k ≤ n ∧ l = .int .i64 q ∧ i = .int .i64 k ∧ 0 ≤ q ∧ q ≤ 1048576 ∧ Hid (q = L - n - tot (ts.take k)) ∧ Hid (Below w.heap.size w wr)) (fun _ i _ => n - (intOf i).toNat)
  case atStart => exact ⟨0, L - n, Nat.zero_le _, rfl, rfl, by omega, by omega, hide (by simp [tot]), hide (bl_refl w)⟩
  case round =>
    obtain ⟨k, q, hk, rfl, rfl, hq0, hq1, hq, hb⟩ := hrel
    by_cases hlt : k < n
    · have hlt' : (k : Int) < (n : Int) := by omega
      have hkx : k < ts.length := by omega
      obtain ⟨g, o, rfl, hg, c0, c1, c2⟩ := (HS.out.below hb.out).at hkx
      have hsz := HS.out.2.2.2.1 ts[k] (List.getElem_mem _)
      have e1 := tot_take ts k hkx
      have e2 := tot_mono ts k hkx
      have E1 := hide e1
      have E2 := hide e2
      clear e1 e2
      generalize ts[k].1 = K at *
      generalize ts[k].2.1 = s at *
      generalize ts[k].2.2 = p at *
      by_cases hq2 : q < s.size
      · go_wp2_with (go_at_call 9; refine (szT K p s q _ hsz hq0 hq1).mono ?_; rintro e w2 ⟨rfl, hb2⟩; rw [if_pos hq2]; have HB2 := hide (bl_trans hb.out hb2); clear hb2)
        go_ret
        exact ⟨ret_int (by have := hq.out; have := E2.out; unfold szr; rw [if_pos (by omega)]), HB2.out⟩
      · have hnn : ¬ q - (s.size : Int) < 0 := by omega
        go_wp2_with (go_at_call 9; refine (szT K p s q _ hsz hq0 hq1).mono ?_; rintro e w2 ⟨rfl, hb2⟩; rw [if_neg hq2]; have HB2 := hide (bl_trans hb.out hb2); clear hb2)
        exact ⟨⟨k + 1, q - s.size, by omega, rfl, by go_num, by omega, by omega, hide (by rw [E1.out]; have := hq.out; omega), HB2⟩, by simp [intOf]; omega⟩
    · obtain rfl : k = n := by omega
      go_wp2
      go_ret
      exact ⟨ret_int (by have := hq.out; rw [List.take_of_length_le (by omega)] at this; unfold szr; rw [if_neg (by omega)]; omega), hb.out⟩

theorem Try.info33 : (Try.prog.info? 33).map (fun i => (i.zero, i.size, i.bytes)) = some (some (.agg #[.int .i64 0, .string ⟨#[]⟩, .int .i64 0]), 3, 32) := by kernel_rfl
theorem grown_of_below {A B : World} (h : Below A.heap.size A B) : A.grownBy B none :=
  ⟨h.os, h.tape, h.output, h.size, fun k hk _ => h.block k hk⟩
/-- the first words of a list lie in these cells -/
def Laid3 (ts : List (Int × ByteArray × Int)) (k : Nat) (cs : List Value) : Prop := ∀ j (hj : j < ts.length), j < k → cs[j * 3]? = some (.int .i64 ts[j].1) ∧ cs[j * 3 + 1]? = some (.string ts[j].2.1) ∧ cs[j * 3 + 2]? = some (.int .i64 ts[j].2.2)
theorem laid_next {ts : List (Int × ByteArray × Int)} {k : Nat} {cs : List Value} (h : Laid3 ts k cs) (hk : k < ts.length) (hl : k * 3 + 2 < cs.length) : Laid3 ts (k + 1) (((cs.set (k * 3) (.int .i64 ts[k].1)).set (k * 3 + 1) (.string ts[k].2.1)).set (k * 3 + 2) (.int .i64 ts[k].2.2)) := by
  intro j hj hjk
  by_cases e : j = k
  · subst e
    refine ⟨?_, ?_, ?_⟩ <;> simp only [List.getElem?_set, List.length_set] <;> simp <;> omega
  · have := h j hj (by omega)
    refine ⟨?_, ?_, ?_⟩
    · rw [List.getElem?_set_ne (by omega), List.getElem?_set_ne (by omega), List.getElem?_set_ne (by omega)]; exact this.1
    · rw [List.getElem?_set_ne (by omega), List.getElem?_set_ne (by omega), List.getElem?_set_ne (by omega)]; exact this.2.1
    · rw [List.getElem?_set_ne (by omega), List.getElem?_set_ne (by omega), List.getElem?_set_ne (by omega)]; exact this.2.2
theorem laid_seg {W : World} {base g n : Nat} {cs : List Value} {ts : List (Int × ByteArray × Int)} (h : W.ownsRow base 33 3 (.slice (some ⟨g, 0, none⟩) n n) n cs) (hl : Laid3 ts n cs) (ht : ts.length = n) (hn : n ≤ 9223372036854775807) (hs : ∀ t ∈ ts, t.2.1.size ≤ 9223372036854775807) : TSeg W (some ⟨g, 0, none⟩) n n ts := by
  refine ⟨ht, Nat.le_refl _, hn, hs, .inr ⟨g, 0, rfl, (h.lt g rfl).2, fun j hj => ?_⟩⟩
  have := hl j hj (by omega)
  rw [Nat.zero_add, h.cellAt (j * 3) (by omega), h.cellAt (j * 3 + 1) (by omega), h.cellAt (j * 3 + 2) (by omega)]
  exact this

set_option maxHeartbeats 2000000 in
theorem toTS (a : Option Addr) (n cap : Nat) (ts : List (Int × ByteArray × Int)) (w : World) (hs : TSeg w a n cap ts) (hn : n ≤ 1048576) :
    Calls Try.prog 6 #[.slice a n cap] w fun e w' => ∃ a' c', e = .returned (.slice a' n c') ∧ TSeg w' a' n c' ts ∧ Below w.heap.size w w' := by
  obtain ⟨i0, hi, hz0, hz1, hz2⟩ := info_parts Try.info33
  have hxl := hs.1
  have hcap := hs.2.1
  have hcm := hs.2.2.1
  have HS := hide hs
  clear hs
  go_enter Try.func6, Try.ntmps6
  go_wp2_with (at_make; refine wpList_make_full _ rfl _ _ 25 rfl w.heap.size 33 i0 (.agg #[.int .i64 0, .string ⟨#[]⟩, .int .i64 0]) 3 Try.underlying25 hi hz0 hz1 _ _ _ _ n rfl rfl rfl rfl (by rw [hz2]; omega) (by unfold maxLen; omega) (Nat.le_refl _) ?_)
  intro w1 hown hgrow
  have hb1 : Below w.heap.size w w1 := (Below.refl _ _).grown hgrow (Nat.le_refl _) (by simp)
  have HO := hide hown
  have HB1 := hide hb1
  clear hown hgrow hb1
  go_wp2
  go_loopw [4] (fun i wr => ∃ (k : Nat) (cs : List Value), k ≤ n ∧ i = .int .i64 k ∧ Hid (wr.ownsRow w.heap.size 33 3 (.slice (some ⟨w.heap.size, 0, none⟩) n n) n cs) ∧ Hid (Laid3 ts k cs) ∧ Hid (Below w.heap.size w wr)) (fun i _ => n - (intOf i).toNat)
  case atStart => exact ⟨0, _, Nat.zero_le _, rfl, HO, hide (fun j _ h => absurd h (Nat.not_lt_zero _)), HB1⟩
  case round =>
    obtain ⟨k, cs, hk, rfl, ho, hl, hb⟩ := hrel
    by_cases hlt : k < n
    · have hlt' : (k : Int) < (n : Int) := by omega
      have hkx : k < ts.length := by omega
      have hcl : cs.length = n * 3 := ho.out.1
      have HCL := hide hcl
      clear hcl
      obtain ⟨g, o, rfl, hg, c0, c1, c2⟩ := (HS.out.below hb.out).at hkx
      have HN := hide (laid_next hl.out hkx (by have := HCL.out; omega))
      generalize ts[k].1 = K at *
      generalize ts[k].2.1 = s at *
      generalize ts[k].2.2 = p at *
      go_wp2_with (go_at_call 10; refine (toT K p s _).mono ?_; rintro e w2 ⟨rfl, hb2⟩; have HB2 := hide (bl_trans hb.out hb2); have HO2 := hide (ho.out.kept (grown_of_below hb2) (by simp [Value.ownBlock])); clear hb2; have d0 := HO2.out.cellAt (k * 3) (by omega); have d1 := HO2.out.cellAt (k * 3 + 1) (by omega); have d2 := HO2.out.cellAt (k * 3 + 2) (by omega); have f0 := HO2.out.frozenAt (k * 3); have f1 := HO2.out.frozenAt (k * 3 + 1); have f2 := HO2.out.frozenAt (k * 3 + 2); rw [List.getElem?_eq_getElem (by have := HCL.out; omega)] at d0 d1 d2)
      have s1 := HO2.out.stored (k * 3) (.int .i64 K)
      have s2 := s1.1.stored (k * 3 + 1) (.string s)
      have s3 := s2.1.stored (k * 3 + 2) (.int .i64 p)
      have q := HB2.out.size
      exact ⟨⟨k + 1, _, by omega, by go_num, hide s3.1, HN, hide (((HB2.out.setCell (p := ⟨w.heap.size, k * 3, none⟩) (Nat.le_refl _) _).setCell (p := ⟨w.heap.size, k * 3 + 1, none⟩) (Nat.le_refl _) _).setCell (p := ⟨w.heap.size, k * 3 + 2, none⟩) (Nat.le_refl _) _)⟩, by simp [intOf]; omega⟩
    · obtain rfl : k = n := by omega
      go_wp2
      go_ret
      exact ⟨_, _, rfl, laid_seg ho.out hl.out hxl (by omega) HS.out.2.2.2.1, hb.out⟩

set_option maxHeartbeats 2000000 in
theorem eqTS (a b : Option Addr) (n ca cb : Nat) (ts : List (Int × ByteArray × Int)) (w : World) (h1 : TSeg w a n ca ts) (h2 : TSeg w b n cb ts) :
    Calls Try.prog 8 #[.slice a n ca, .slice b n cb] w fun e w' => e = .returned (.bool true) ∧ Below w.heap.size w w' := by
  have hxl := h1.1
  have hca := h1.2.1
  have hcma := h1.2.2.1
  have hcb := h2.2.1
  have hcmb := h2.2.2.1
  have HA := hide h1
  have HBB := hide h2
  clear h1 h2
  go_enter Try.func8, Try.ntmps8
  go_wp2
  go_loopw [5] (fun i wr => ∃ k : Nat, k ≤ n ∧ i = .int .i64 k ∧ Hid (Below w.heap.size w wr)) (fun i _ => n - (intOf i).toNat)
  case atStart => exact ⟨0, Nat.zero_le _, rfl, hide (bl_refl w)⟩
  case round =>
    obtain ⟨k, hk, rfl, hb⟩ := hrel
    by_cases hlt : k < n
    · have hlt' : (k : Int) < (n : Int) := by omega
      have hkx : k < ts.length := by omega
      obtain ⟨g, o, rfl, hg, c0, c1, c2⟩ := (HA.out.below hb.out).at hkx
      obtain ⟨g', o', rfl, hg', c0', c1', c2'⟩ := (HBB.out.below hb.out).at hkx
      generalize ts[k].1 = K at *
      generalize ts[k].2.1 = s at *
      generalize ts[k].2.2 = p at *
      go_wp2_with fail
      go_region_held3 (fun w' => w'.cell? ⟨g, o + k * 3, none⟩ = some (Value.int .i64 K) ∧ w'.cell? ⟨g, o + k * 3 + 1, none⟩ = some (Value.string s) ∧ w'.cell? ⟨g, o + k * 3 + 2, none⟩ = some (Value.int .i64 p) ∧ w'.cell? ⟨g', o' + k * 3, none⟩ = some (Value.int .i64 K) ∧ w'.cell? ⟨g', o' + k * 3 + 1, none⟩ = some (Value.string s) ∧ w'.cell? ⟨g', o' + k * 3 + 2, none⟩ = some (Value.int .i64 p))
        (first | exact ⟨c0, c1, c2, c0', c1', c2'⟩ | exact ⟨(hb2.cell (p := ⟨g, o + k * 3, none⟩) hg).trans c0, (hb2.cell (p := ⟨g, o + k * 3 + 1, none⟩) hg).trans c1, (hb2.cell (p := ⟨g, o + k * 3 + 2, none⟩) hg).trans c2, (hb2.cell (p := ⟨g', o' + k * 3, none⟩) hg').trans c0', (hb2.cell (p := ⟨g', o' + k * 3 + 1, none⟩) hg').trans c1', (hb2.cell (p := ⟨g', o' + k * 3 + 2, none⟩) hg').trans c2'⟩)
        (first | (go_at_call 13; refine (eqT K p s _).mono ?_; rintro e w2 ⟨rfl, hb2r⟩; have hb2 : Below wr.heap.size wr w2 := (bl_refl wr).drew.trans hb2r))
      have HB2 := hide (bl_trans hb.out hb2)
      clear hb2 hb2r
      go_wp2
      exact ⟨⟨k + 1, by omega, by go_num, HB2⟩, by simp [intOf]; omega⟩
    · obtain rfl : k = n := by omega
      go_wp2
      go_ret
      exact ⟨rfl, hb.out⟩
end Go.Proofs.Ytabdmnofdpfjkaa
