/- The walks of what the laws ask of lists of texts: whether two are alike, marks written into one, and whether they are held. -/
import Derived.Test.YthjglbimkfajlaaLaw5
import Derived.Test.YthjglbimkfajlaaDec
import Derived.Lib.QuietBelow
import Derived.Laws.IdiomStrings
namespace Go.Proofs.Ythjglbimkfajlaa
open Go.RowKit Go.Sort
set_option linter.unusedVariables false

/-- the mark of a number -/
def markB (k : Nat) : ByteArray := ⟨(109 :: digs (k : Int)).toArray⟩

theorem conv_one (w : World) (z : Int) (b : UInt8) (hz : z = b.toNat) :
    Sem.run Try.prog (convert 22 9 (.slice (some ⟨w.heap.size, 0, none⟩) 1 1)) (w.alloc (.cells #[.int .u8 z] 5)) = .ok (.string ⟨#[b]⟩) (w.alloc (.cells #[.int .u8 z] 5)) := by
  have h := run_convert_bytes_back (P := Try.prog) (w.alloc (.cells #[.int .u8 z] 5)) 22 9 5 ⟨w.heap.size, 0, none⟩ 1 [b] Try.underlying22 Try.underlying5 Try.underlying9 (by
    intro j hj
    match j, hj with
    | 0, _ => subst hz; simp [go_sem, Addr.add])
  exact h

set_option maxHeartbeats 1000000 in
theorem markT (k : Int) (w : World) (h0 : 1 ≤ k) (h1 : k ≤ 4000000) :
    Calls Try.prog 50 #[.int .i64 k] w fun e w' => e = .returned (.string (markB k.toNat)) ∧ Below w.heap.size w w' := by
  have hdl := digs_len k (by omega) (by omega)
  have hk : ((k.toNat : Nat) : Int) = k := by omega
  have HK := hide hk
  clear hk
  go_enter Try.func50, Try.ntmps50
  go_wp2
  go_loopw [0, 3] (fun m o wr => ∃ (c : Int) (t : ByteArray), m = .int .i64 c ∧ o = .string t ∧ 0 ≤ c ∧ c ≤ 4000000 ∧ t.size ≤ 20 ∧ Hid (digs c ++ t.data.toList = digs k) ∧ Hid (Below w.heap.size w wr)) (fun m _ _ => (intOf m).natAbs)
  case atStart => exact ⟨k, ⟨#[]⟩, rfl, rfl, by omega, by omega, by decide, hide (by simp), hide (Below.refl _ _)⟩
  case round =>
    obtain ⟨c, t, rfl, rfl, hc0, hc1, ht, hr, hb⟩ := hrel
    by_cases hc : 0 < c
    · have hm1 : c % 10 ≤ 9 := by omega
      have hm2 : 0 ≤ c % 10 := by omega
      have e1 : 48 + c % 10 = ((UInt8.ofNat (48 + c.natAbs % 10)).toNat : Int) := by
        rw [UInt8.toNat_ofNat']; omega
      have hcv := conv_one wr (48 + c % 10) (UInt8.ofNat (48 + c.natAbs % 10)) e1
      have HC := dec_close k c (c / 10) t ⟨#[UInt8.ofNat (48 + c.natAbs % 10)]⟩ hdl hr.out (by omega) (by omega) (by omega) (Int.tdiv_eq_ediv_of_nonneg (by omega)).symm rfl
      have HC' := hide HC
      clear HC e1
      generalize UInt8.ofNat (48 + c.natAbs % 10) = u at *
      go_wp2
      obtain ⟨⟨t1, c1, e1, e2, _, _, h20, hd⟩, hm⟩ := HC'.out
      cases e1
      cases e2
      exact ⟨⟨c / 10, _, rfl, rfl, by omega, by omega, h20, hd, hide (hb.out.alloc hb.out.size _)⟩, hm⟩
    · obtain rfl : c = 0 := by omega
      have hr' : t.data.toList = digs k := by have := hr.out; simpa [digs] using this
      have HF : Hid (markB k.toNat = ⟨#[109]⟩ ++ t) := hide (ByteArray.ext (Array.ext' (by unfold markB; rw [HK.out, ← hr']; simp)))
      clear hr hr'
      go_wp2
      go_ret
      exact ⟨ret_str (congrArg (fun b => b.data.toList) HF.out.symm), hb.out⟩

/-- a list of texts as the walk meets it -/
def Strs (W : World) (a : Option Addr) (cap : Nat) (xs : List ByteArray) : Prop :=
  xs.length ≤ cap ∧ cap ≤ 9223372036854775807 ∧ ∀ j (hj : j < xs.length), ∃ g, a = some ⟨g, 0, none⟩ ∧ g < W.heap.size ∧ W.cell? ⟨g, j, none⟩ = some (.string xs[j])
theorem strs_of {W : World} {base : Nat} {v : Value} {xs : List ByteArray} (h : W.ownsRow base 9 1 v xs.length (xs.map Value.string)) : ∃ a cap, v = .slice a xs.length cap ∧ Strs W a cap xs := by
  rcases row_cases h with ⟨rfl, rfl⟩ | ⟨g, cap, rfl, hg, hgl, ⟨h1, h2⟩, hc⟩
  · exact ⟨none, 0, rfl, Nat.le_refl _, by omega, fun j hj => by simp at hj⟩
  · exact ⟨some ⟨g, 0, none⟩, cap, rfl, h1, h2, fun j hj => ⟨g, rfl, hgl, hc j hj⟩⟩
theorem Strs.below {W W' : World} {a : Option Addr} {cap : Nat} {xs : List ByteArray} (h : Strs W a cap xs) (hb : Below W.heap.size W W') : Strs W' a cap xs :=
  ⟨h.1, h.2.1, fun j hj => by obtain ⟨g, ha, hg, hc⟩ := h.2.2 j hj; exact ⟨g, ha, Nat.lt_of_lt_of_le hg hb.size, (hb.cell (p := ⟨g, j, none⟩) hg).trans hc⟩⟩

set_option maxHeartbeats 1000000 in
theorem eqS (a b : Option Addr) (ca cb : Nat) (xs : List ByteArray) (w : World) (ha : Strs w a ca xs) (hb : Strs w b cb xs) :
    Calls Try.prog 27 #[.slice a xs.length ca, .slice b xs.length cb] w fun e w' => e = .returned (.bool true) ∧ ∃ n, w' = w.drewN n := by
  obtain ⟨a1, a2, a3⟩ := ha
  obtain ⟨b1, b2, b3⟩ := hb
  have HA := hide a3
  have HB := hide b3
  clear a3 b3
  go_enter Try.func27, Try.ntmps27
  go_wp2
  go_loopw [5] (fun i wr => ∃ k : Nat, k ≤ xs.length ∧ i = .int .i64 k ∧ ∃ n, wr = w.drewN n) (fun i _ => xs.length - (intOf i).toNat)
  case atStart => exact ⟨0, Nat.zero_le _, rfl, 0, rfl⟩
  case round =>
    obtain ⟨k, hk, rfl, n, rfl⟩ := hrel
    by_cases hlt : k < xs.length
    · obtain ⟨g, rfl, _, hc1⟩ := HA.out k hlt
      obtain ⟨g', rfl, _, hc2⟩ := HB.out k hlt
      have hlt' : (k : Int) < (xs.length : Int) := by omega
      generalize xs[k] = x at *
      go_wp2
      go_quiet (fail)
      go_wp2
      exact ⟨⟨k + 1, by omega, by go_num, n + nq, by simp⟩, by simp [intOf]; omega⟩
    · go_wp2
      go_ret
      exact ⟨rfl, n, rfl⟩

/-- the marks from k on -/
def marks (k n : Nat) : List ByteArray := (List.range n).map fun j => markB (k + j)
theorem marks_length (k n : Nat) : (marks k n).length = n := by simp [marks]
theorem marks_succ (k n : Nat) : marks k (n + 1) = marks k n ++ [markB (k + n)] := by simp [marks, List.range_succ]
theorem marks_at (k n j : Nat) (h : j < (marks k n).length) : (marks k n)[j] = markB (k + j) := by simp [marks]

theorem grown_trans {A B C : World} {r : Option Nat} (h : A.grownBy B r) (k : B.grownBy C r) : A.grownBy C r :=
  ⟨k.os.trans h.os, k.tape.trans h.tape, k.output.trans h.output, Nat.le_trans h.size k.size, fun j hj hn => (k.block j (Nat.lt_of_lt_of_le hj h.size) hn).trans (h.block j hj hn)⟩
theorem grown_any {A B : World} {r : Option Nat} (h : A.grownBy B none) : A.grownBy B r :=
  ⟨h.os, h.tape, h.output, h.size, fun j hj _ => h.block j hj (by simp)⟩

set_option maxHeartbeats 2000000 in
theorem markS (v : Value) (xs : List ByteArray) (base : Nat) (k0 : Nat) (w : World) (h1 : 1 ≤ k0) (h2 : k0 + xs.length ≤ 3000000) (hown : w.ownsRow base 9 1 v xs.length (xs.map Value.string)) :
    Calls Try.prog 28 #[v, .int .i64 k0] w fun e w' => e = .returned (.int .i64 ((k0 + xs.length : Nat) : Int)) ∧ w'.ownsRow base 9 1 v xs.length ((marks k0 xs.length).map Value.string) ∧ w.grownBy w' v.ownBlock := by
  rcases row_cases hown with ⟨rfl, rfl⟩ | ⟨g, cap, rfl, hg, hgl, ⟨hc1, hc2⟩, hcell⟩
  · clear hown
    go_enter Try.func28, Try.ntmps28
    go_wp2
    go_loop [1, 5] (fun k i => k = .int .i64 k0 ∧ i = .int .i64 0) (fun _ _ => 0)
    case atStart => exact ⟨rfl, rfl⟩
    case round =>
      obtain ⟨rfl, rfl⟩ := hrel
      go_wp2
      go_ret
      exact ⟨rfl, World.ownsRow_nil _ _ _ _, ⟨rfl, rfl, rfl, Nat.le_refl _, fun _ _ _ => rfl⟩⟩
  · clear hcell
    have HO := hide hown
    clear hown
    go_enter Try.func28, Try.ntmps28
    go_wp2
    go_loopw [1, 5] (fun m i wr => ∃ k : Nat, k ≤ xs.length ∧ m = .int .i64 ((k0 : Int) + (k : Int)) ∧ i = .int .i64 k ∧ Hid (wr.ownsRow base 9 1 (.slice (some ⟨g, 0, none⟩) xs.length cap) xs.length ((marks k0 k ++ xs.drop k).map Value.string)) ∧ Hid (w.grownBy wr (some g))) (fun _ i _ => xs.length - (intOf i).toNat)
    case atStart => exact ⟨0, Nat.zero_le _, by go_num, rfl, hide (by simpa [marks] using HO.out), hide ⟨rfl, rfl, rfl, Nat.le_refl _, fun _ _ _ => rfl⟩⟩
    case round =>
      obtain ⟨k, hk, rfl, rfl, hr, hgr⟩ := hrel
      by_cases hlt : k < xs.length
      · have hlt' : (k : Int) < (xs.length : Int) := by omega
        go_wp2_with fail
        refine (markT _ _ (by omega) (by omega)).mono ?_
        rintro e w2 ⟨rfl, hb2⟩
        rw [show ((k0 : Int) + (k : Int)).toNat = k0 + k by omega]
        have g2 := grown_of_below hb2
        have hr2 := hr.out.kept g2 (.inr (by simp [Value.ownBlock]))
        have hcl : w2.cell? ⟨g, k, none⟩ = some (.string xs[k]) := by
          rw [hr2.cellAt k (by omega)]
          simp [List.getElem?_append, marks_length, hlt]
        have hfz := hr2.frozenAt k
        have hst := hr2.stored k (.string (markB (k0 + k)))
        have HS := hide hst
        have HG : Hid (w.grownBy w2 (some g)) := hide (grown_trans hgr.out (grown_any g2))
        clear hb2 g2 hr2 hst hr hgr
        go_wp2
        refine ⟨⟨k + 1, by omega, by go_num, by go_num, hide ?_, hide (grown_trans HG.out HS.out.2)⟩, by simp [intOf]; omega⟩
        have e : ((marks k0 k ++ xs.drop k).map Value.string).set k (.string (markB (k0 + k))) = (marks k0 (k + 1) ++ xs.drop (k + 1)).map Value.string := by
          rw [List.map_append, List.set_append_right _ _ (by simp [marks_length]), marks_succ, List.drop_eq_getElem_cons hlt, List.map_append, List.map_append, List.length_map, marks_length, Nat.sub_self, List.map_cons, List.set_cons_zero]
          simp
        rw [← e]; exact HS.out.1
      · obtain rfl : k = xs.length := by omega
        go_wp2
        go_ret
        exact ⟨ret_int (by omega), by have := hr.out; simpa using this, hgr.out⟩

set_option maxHeartbeats 2000000 in
theorem heldS (a : Option Addr) (cap : Nat) (k0 n : Nat) (w : World) (h1 : 1 ≤ k0) (h2 : k0 + n ≤ 3000000) (hs : Strs w a cap (marks k0 n)) :
    Calls Try.prog 29 #[.slice a n cap, .int .i64 k0] w fun e w' => e = .returned (.int .i64 ((k0 + n : Nat) : Int)) ∧ Below w.heap.size w w' := by
  have hcap := hs.1
  have hcap2 := hs.2.1
  rw [marks_length] at hcap
  have HS := hide hs
  clear hs
  go_enter Try.func29, Try.ntmps29
  go_wp2
  go_loopw [1, 5] (fun m i wr => ∃ k : Nat, k ≤ n ∧ m = .int .i64 ((k0 : Int) + (k : Int)) ∧ i = .int .i64 k ∧ Hid (Below w.heap.size w wr)) (fun _ i _ => n - (intOf i).toNat)
  case atStart => exact ⟨0, Nat.zero_le _, by go_num, rfl, hide (Below.refl _ _)⟩
  case round =>
    obtain ⟨k, hk, rfl, rfl, hb⟩ := hrel
    by_cases hlt : k < n
    · have hlt' : (k : Int) < (n : Int) := by omega
      obtain ⟨g, rfl, hg, hc⟩ := HS.out.2.2 k (by rw [marks_length]; exact hlt)
      rw [marks_at] at hc
      have hc1 : wr.cell? ⟨g, k, none⟩ = some (.string (markB (k0 + k))) := (hb.out.cell (p := ⟨g, k, none⟩) hg).trans hc
      have hcr := fun d os => cell_regrown hc1 d os
      have cM : ∀ d os, Calls Try.prog 50 #[.int .i64 ((k0 : Int) + (k : Int))] (grow (redrawn wr d) os) fun e w'' => e = .returned (.string (markB (k0 + k))) ∧ ∃ p : Regrown, w'' = grow (redrawn wr p.d) p.os := fun d os =>
        Calls.regrown_of ((markT _ _ (by omega) (by omega)).mono (fun e w' ⟨he, hb'⟩ => ⟨by rw [he, show ((k0 : Int) + (k : Int)).toNat = k0 + k by omega], hb'⟩))
      have CM := hide cM
      generalize markB (k0 + k) = x at *
      clear hc hc1 cM
      go_wp2
      refine wp_region_quiet_below (by kernel_rfl) (by kernel_rfl) ?_
      repeat (quiet_step (exact CM.out _ _))
      refine wpQuiet_nil ?_
      intro _ hw'
      obtain ⟨⟨dq, osq⟩, hw''⟩ := hw'
      subst hw''
      have HB2 : Hid (Below w.heap.size w (grow (redrawn wr dq) osq)) := hide (hb.out.trans ((below_regrown wr dq osq).mono hb.out.size))
      generalize grow (redrawn wr dq) osq = w3 at *
      go_wp2
      exact ⟨⟨k + 1, by omega, by go_num, by go_num, HB2⟩, by simp [intOf]; omega⟩
    · obtain rfl : k = n := by omega
      go_wp2
      go_ret
      exact ⟨ret_int (by omega), hb.out⟩
end Go.Proofs.Ythjglbimkfajlaa
