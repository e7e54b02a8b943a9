/- The iterator over the parts of a text: it tells the parts between the signs that cut it, in their order, to every loop that keeps what the iterator reads. -/
import Derived.RangeFuncBox
import Derived.RangeFuncNested
import Derived.RangeFuncLeaves
import Derived.Shelf.Abstract
import Derived.WalkKit
import Derived.OwnWalkIn
import Derived.TacticsInMore
import Derived.LoopNIn
import Derived.LoopIn
import Derived.Maps.AppendAt
import Derived.Lib.OthersKept
import Derived.Test.YthjglbimkfajlaaClone
import Derived.Test.YthjglbimkfajlaaSplit
namespace Go.Proofs.Ythjglbimkfajlaa
open Go.RowKit Go.Shelf
set_option linter.unusedVariables false
attribute [local go_sem] Oper.semAt_some

/-- the bytes of a text -/
def bytesOf (s : ByteArray) : List UInt8 := s.data.toList
def nlB (c : UInt8) : Bool := decide (c.toNat = 10)
def gapB (c : UInt8) : Bool := decide (c.toNat = 32) || decide (c.toNat = 9)

theorem low46 (c : UInt8) (w : World) : Calls Try.prog 46 #[.int .i32 (c.toNat : Int)] w fun e w' => e = .returned (.bool (nlB c)) ∧ w' = w := by
  go_enter Try.func46, Try.ntmps46
  go_wp2
  go_ret
  exact ⟨ret_bool (by rw [Bool.eq_iff_iff]; simp [nlB]; omega), rfl⟩
theorem high46 (r : Int) (h : 128 ≤ r) (w : World) : Calls Try.prog 46 #[.int .i32 r] w fun e w' => e = .returned (.bool false) ∧ w' = w := by
  go_enter Try.func46, Try.ntmps46
  go_wp2
  go_ret
  exact ⟨ret_bool (by rw [Bool.eq_iff_iff]; simp; omega), rfl⟩
theorem low52 (c : UInt8) (w : World) : Calls Try.prog 52 #[.int .i32 (c.toNat : Int)] w fun e w' => e = .returned (.bool (gapB c)) ∧ w' = w := by
  go_enter Try.func52, Try.ntmps52
  go_wp2
  all_goals go_ret
  all_goals exact ⟨ret_bool (by rw [Bool.eq_iff_iff]; simp_all [gapB]; try omega), rfl⟩
theorem high52 (r : Int) (h : 128 ≤ r) (w : World) : Calls Try.prog 52 #[.int .i32 r] w fun e w' => e = .returned (.bool false) ∧ w' = w := by
  go_enter Try.func52, Try.ntmps52
  go_wp2
  all_goals go_ret
  all_goals exact ⟨ret_bool (by rw [Bool.eq_iff_iff]; simp_all; try omega), rfl⟩
theorem nlB_high (c : UInt8) (h : 128 ≤ c.toNat) : nlB c = false := by simp [nlB]; omega
theorem gapB_high (c : UInt8) (h : 128 ≤ c.toNat) : gapB c = false := by simp [gapB]; omega

/-- what a round keeps: block L aside all that lies below n, and every walk's object -/
structure Keep (L n : Nat) (A B : World) : Prop where
  os : B.os = A.os
  tape : B.tape = A.tape
  output : B.output = A.output
  size : A.heap.size ≤ B.heap.size
  block : ∀ k, k < n → k ≠ L → B.heap[k]? = A.heap[k]?
  walks : KeepsWalks A B
theorem Keep.trans {L n : Nat} {A B C : World} (h : Keep L n A B) (k : Keep L n B C) : Keep L n A C :=
  ⟨k.os.trans h.os, k.tape.trans h.tape, k.output.trans h.output, Nat.le_trans h.size k.size, fun i hi hn => (k.block i hi hn).trans (h.block i hi hn), h.walks.trans k.walks⟩
theorem Keep.refl (L n : Nat) (A : World) : Keep L n A A := ⟨rfl, rfl, rfl, Nat.le_refl _, fun _ _ _ => rfl, KeepsWalks.refl A⟩
theorem Keep.of_below {L n : Nat} {A B : World} (h : Below A.heap.size A B) (hn : n ≤ A.heap.size) : Keep L n A B :=
  ⟨h.os, h.tape, h.output, h.size, fun k hk _ => h.block k (by omega), ⟨h.size, fun k o hk _ => (h.block k (Array.getElem?_eq_some_iff.1 hk).1).trans hk⟩⟩

theorem bytes_length (s : ByteArray) : (bytesOf s).length = s.size := by simp [bytesOf]
theorem bytes_extract (s : ByteArray) (a b : Nat) : bytesOf (s.extract a b) = ((bytesOf s).drop a).take (b - a) := by
  unfold bytesOf; rw [Lib.extract_data]
theorem grown_of_below {A B : World} (h : Below A.heap.size A B) : A.grownBy B none :=
  ⟨h.os, h.tape, h.output, h.size, fun k hk _ => h.block k hk⟩
theorem grown_iterAt (A : World) (k : Nat) (s : ByteArray) (pos : Nat) : A.grownBy (A.iterAt k s pos) (some k) :=
  ⟨rfl, rfl, rfl, by simp [World.iterAt], fun j hj hne => Lib.iterAt_other A k j s pos (fun e => hne (by rw [e]))⟩

set_option maxRecDepth 100000 in
set_option maxHeartbeats 2000000 in
theorem parts1 (m : Nat) (hm : 3 ≤ m) (l Bs Bc L n : Nat) (s : ByteArray) (hs : s.size ≤ 1048576) (hBs : Bs < n) (hBc : Bc < n) (hsL : Bs ≠ L) (hcL : Bc ≠ L) (J Jx : List ByteArray → World → Prop)
    (hY : ∀ pre x W, J pre W → pre.length < (Split.splitB nlB (bytesOf s)).length → YieldAt Fence.wide (m - 1) Try.prog l #[.string x] W fun e W' =>
      (e = .returned (.bool true) ∧ J (pre ++ [x]) W' ∧ Keep L n W W') ∨ (e = .returned (.bool false) ∧ Jx (pre ++ [x]) W'))
    (W : World) (hn : n ≤ W.heap.size) (hJ : AbidesFrom W.heap.size J) (cs : W.cell? ⟨Bs, 0, none⟩ = some (.string s)) (cc : W.cell? ⟨Bc, 0, none⟩ = some (.func (.func 46) #[] #[])) (h0 : J [] W) :
    CallsIn Fence.wide m Try.prog 58 #[.func (.yield l) #[] #[], .pointer (some ⟨Bs, 0, none⟩), .pointer (some ⟨Bc, 0, none⟩)] W fun e W' => (∃ v, e = .returned v) ∧
      ((∃ ys, ys.map bytesOf = Split.splitB nlB (bytesOf s) ∧ J ys W') ∨ (∃ pre, True ∧ Jx pre W')) := by
  refine callsIn_of_wp Try.func58 rfl trivial ?_ rfl
  simp only [Try.ntmps58, List.size_toArray, List.length_cons, List.length_nil, Nat.reduceAdd, Nat.reduceSub, Array.replicate_succ, Array.replicate_zero, List.push_toArray, List.append_toArray, List.nil_append, List.cons_append]
  have HY := hide hY
  clear hY
  gi_wp2
  have hsz : W.heap.size < (W.iter s 0).heap.size := by simp [World.iter]
  gi_loopw [4, 5, 6] (fun st _ _ wr => ∃ (pre : List ByteArray) (start pos : Nat), st = .int .i64 start ∧ pos ≤ s.size ∧ Hid (Split.Inv nlB (bytesOf s) (pre.map bytesOf) start pos) ∧ Hid (wr.heap[W.heap.size]? = some (.stringIter s pos)) ∧ Hid (J pre wr) ∧ wr.cell? ⟨Bs, 0, none⟩ = some (.string s) ∧ wr.cell? ⟨Bc, 0, none⟩ = some (.func (.func 46) #[] #[]) ∧ n ≤ wr.heap.size) (fun _ _ _ wr => s.size - wr.iterPos W.heap.size)
  case atStart =>
    have hb : Below W.heap.size W (W.iter s 0) := (Below.refl _ _).alloc (Nat.le_refl _) _
    exact ⟨[], 0, 0, rfl, Nat.zero_le _, hide (Split.inv_start _ _), hide (World.iter_heap W s 0), hide (hJ [] W _ none h0 (grown_of_below hb) (fun r e => by cases e)), (hb.cell (p := ⟨Bs, 0, none⟩) (Nat.lt_of_lt_of_le hBs hn)).trans cs, (hb.cell (p := ⟨Bc, 0, none⟩) (Nat.lt_of_lt_of_le hBc hn)).trans cc, by omega⟩
  case round =>
    obtain ⟨pre, start, pos, rfl, hpos, hinv, hit, hJs, cs1, cc1, hn1⟩ := hrel
    have hst : start ≤ pos := hinv.out.1
    have hst2 : start ≤ s.size := by omega
    clear cs cc h0
    by_cases hlt : pos < s.size
    · by_cases hasc : s[pos].toNat < 128
      · have hnx : ∀ ty, (Instr.next (.pointer (some ⟨W.heap.size, 0, none⟩)) true ty).run Try.prog wr = _ := fun ty => Lib.run_next_ascii_at wr W.heap.size s pos ty hit.out hlt hasc
        have hk1 : W.heap.size < wr.heap.size := (Array.getElem?_eq_some_iff.1 hit.out).1
        have g1 := grown_iterAt wr W.heap.size s (pos + 1)
        have hJ1 : Hid (J pre (wr.iterAt W.heap.size s (pos + 1))) := hide (hJ pre wr _ _ hJs.out g1 (fun r e => by cases e; exact ⟨Nat.le_refl _, _, hit.out, rfl⟩))
        have it1 := hide (Lib.iterAt_heap wr W.heap.size s pos (pos + 1) hit.out)
        have cs2 : (wr.iterAt W.heap.size s (pos + 1)).cell? ⟨Bs, 0, none⟩ = some (.string s) := (World.cell?_of_block (w := wr) (a := ⟨Bs, 0, none⟩) (Lib.iterAt_other wr W.heap.size Bs s (pos + 1) (by omega))).trans cs1
        have cc2 : (wr.iterAt W.heap.size s (pos + 1)).cell? ⟨Bc, 0, none⟩ = some (.func (.func 46) #[] #[]) := (World.cell?_of_block (w := wr) (a := ⟨Bc, 0, none⟩) (Lib.iterAt_other wr W.heap.size Bc s (pos + 1) (by omega))).trans cc1
        have hn2 : n ≤ (wr.iterAt W.heap.size s (pos + 1)).heap.size := by rw [Lib.iterAt_size]; exact hn1
        have hms : s.size - (pos + 1) < s.size - pos := by omega
        have hme : wr.iterPos W.heap.size = pos := by simp [World.iterPos, hit.out]
        have HME := hide hme
        generalize wr.iterAt W.heap.size s (pos + 1) = w1 at *
        clear g1 cs1 cc1 hn1 hme
        gi_wp2_with fail
        refine ⟨trivial, fun _ => by omega, ?_⟩
        refine (callsIn_wide.2 (low46 s[pos] _)).mono ?_
        cases hcut : nlB s[pos] with
        | true =>
          have HI : Hid (Split.Inv nlB (bytesOf s) ((pre ++ [s.extract start pos]).map bytesOf) (pos + 1) (pos + 1)) := hide (by
            have := Split.inv_cut hinv.out (by rw [bytes_length]; exact hlt) hcut
            rw [List.map_append, List.map_cons, List.map_nil, bytes_extract]; exact this)
          have HLEN : Hid (pre.length < (Split.splitB nlB (bytesOf s)).length) := hide (by have := Split.inv_len hinv.out; rwa [List.length_map] at this)
          clear hinv hcut
          rintro e w' ⟨rfl, hw⟩
          subst w'
          gi_wp2_with fail
          refine ⟨trivial, fun _ => by omega, ?_⟩
          refine (callsIn_wide.2 (clone59 _ _ (by rw [ByteArray.size_extract]; omega))).mono ?_
          rintro e w2 ⟨rfl, hb2⟩
          have hJ2 : J pre w2 := hJ pre w1 w2 none hJ1.out (grown_of_below hb2) (fun r e => by cases e)
          have it2 : Hid (w2.heap[W.heap.size]? = some (.stringIter s (pos + 1))) := hide ((hb2.block _ (Array.getElem?_eq_some_iff.1 it1.out).1).trans it1.out)
          have cs3 : w2.cell? ⟨Bs, 0, none⟩ = some (.string s) := (hb2.cell (p := ⟨Bs, 0, none⟩) (Nat.lt_of_lt_of_le hBs hn2)).trans cs2
          have cc3 : w2.cell? ⟨Bc, 0, none⟩ = some (.func (.func 46) #[] #[]) := (hb2.cell (p := ⟨Bc, 0, none⟩) (Nat.lt_of_lt_of_le hBc hn2)).trans cc2
          have hn3 : n ≤ w2.heap.size := Nat.le_trans hn2 hb2.size
          clear hb2 cs2 cc2 hn2
          obtain ⟨fn, tmps, assign, body, hy, hR⟩ := HY.out pre (s.extract start pos) w2 hJ2 HLEN.out
          gi_wp2_with fail
          refine ⟨fun _ => by omega, ?_⟩
          refine hR.mono ?_
          clear hy hR hJ2
          rintro e W3 (⟨rfl, hJ3, hk3⟩ | ⟨rfl, hJx3⟩)
          · have it3 := hk3.walks.same _ _ it2.out rfl
            have cs4 : W3.cell? ⟨Bs, 0, none⟩ = some (.string s) := (World.cell?_of_block (w := w2) (a := ⟨Bs, 0, none⟩) (hk3.block Bs hBs hsL)).trans cs3
            have cc4 : W3.cell? ⟨Bc, 0, none⟩ = some (.func (.func 46) #[] #[]) := (World.cell?_of_block (w := w2) (a := ⟨Bc, 0, none⟩) (hk3.block Bc hBc hcL)).trans cc3
            have hn4 : n ≤ W3.heap.size := Nat.le_trans hn3 hk3.size
            have IT3 := hide it3
            have HJ3 := hide hJ3
            clear hk3 it3 hJ3 cs3 cc3 hn3
            gi_wp2
            go_roundw
            case rel => exact ⟨pre ++ [s.extract start pos], pos + 1, pos + 1, by go_num, by omega, HI, IT3, HJ3, cs4, cc4, hn4⟩
            case measure => rw [HME.out]; simp [World.iterPos, IT3.out]; omega
          · gi_wp2
            refine bodyPost_ret (results_none rfl _ _ _) rfl ?_
            exact ⟨⟨_, rfl⟩, .inr ⟨_, trivial, hJx3⟩⟩
        | false =>
          have HI : Hid (Split.Inv nlB (bytesOf s) (pre.map bytesOf) start (pos + 1)) := hide (Split.inv_one hinv.out (by rw [bytes_length]; exact hlt) hcut)
          clear hinv hcut
          rintro e w' ⟨rfl, hw⟩
          subst w'
          gi_wp2
          go_roundw
          case rel => exact ⟨pre, start, pos + 1, rfl, by omega, HI, it1, hJ1, cs2, cc2, hn2⟩
          case measure => rw [HME.out]; simp [World.iterPos, it1.out]; omega
      · have hnx : ∀ ty, (Instr.next (.pointer (some ⟨W.heap.size, 0, none⟩)) true ty).run Try.prog wr = _ := fun ty => Lib.run_next_any_at wr W.heap.size s pos ty hit.out hlt
        obtain ⟨hd1, hd2⟩ := decode_high s pos hlt (by omega)
        have hd3 := decode_le s pos
        obtain ⟨hw1, hw2⟩ := Split.wide s pos hlt (by omega)
        have HW2 := hide hw2
        clear hw2
        generalize (Utf8.decode s pos).1 = r at *
        generalize (Utf8.decode s pos).2 = wd at *
        have hk1 : W.heap.size < wr.heap.size := (Array.getElem?_eq_some_iff.1 hit.out).1
        have g1 := grown_iterAt wr W.heap.size s (pos + wd)
        have hJ1 : Hid (J pre (wr.iterAt W.heap.size s (pos + wd))) := hide (hJ pre wr _ _ hJs.out g1 (fun r e => by cases e; exact ⟨Nat.le_refl _, _, hit.out, rfl⟩))
        have it1 := hide (Lib.iterAt_heap wr W.heap.size s pos (pos + wd) hit.out)
        have cs2 : (wr.iterAt W.heap.size s (pos + wd)).cell? ⟨Bs, 0, none⟩ = some (.string s) := (World.cell?_of_block (w := wr) (a := ⟨Bs, 0, none⟩) (Lib.iterAt_other wr W.heap.size Bs s (pos + wd) (by omega))).trans cs1
        have cc2 : (wr.iterAt W.heap.size s (pos + wd)).cell? ⟨Bc, 0, none⟩ = some (.func (.func 46) #[] #[]) := (World.cell?_of_block (w := wr) (a := ⟨Bc, 0, none⟩) (Lib.iterAt_other wr W.heap.size Bc s (pos + wd) (by omega))).trans cc1
        have hn2 : n ≤ (wr.iterAt W.heap.size s (pos + wd)).heap.size := by rw [Lib.iterAt_size]; exact hn1
        have hme : wr.iterPos W.heap.size = pos := by simp [World.iterPos, hit.out]
        have HME := hide hme
        have HI : Hid (Split.Inv nlB (bytesOf s) (pre.map bytesOf) start (pos + wd)) := hide (Split.inv_skip hinv.out (by rw [bytes_length]; omega) (fun c hc => nlB_high c (HW2.out c hc)))
        generalize wr.iterAt W.heap.size s (pos + wd) = w1 at *
        clear g1 cs1 cc1 hn1 hme hinv
        gi_wp2_with fail
        refine ⟨trivial, fun _ => by omega, ?_⟩
        refine (callsIn_wide.2 (high46 _ (by omega) _)).mono ?_
        rintro e w' ⟨rfl, hw⟩
        subst w'
        gi_wp2
        go_roundw
        case rel => exact ⟨pre, start, pos + wd, rfl, by omega, HI, it1, hJ1, cs2, cc2, hn2⟩
        case measure => rw [HME.out]; simp [World.iterPos, it1.out]; omega
    · have hnx : ∀ ty, (Instr.next (.pointer (some ⟨W.heap.size, 0, none⟩)) true ty).run Try.prog wr = _ := fun ty => Lib.run_next_end_at wr W.heap.size s pos ty hit.out hlt
      gi_wp2_with fail
      refine ⟨trivial, fun _ => by omega, ?_⟩
      refine (callsIn_wide.2 (clone59 _ _ (by rw [ByteArray.size_extract]; omega))).mono ?_
      rintro e w2 ⟨rfl, hb2⟩
      have hJ2 : J pre w2 := hJ pre wr w2 none hJs.out (grown_of_below hb2) (fun r e => by cases e)
      obtain ⟨fn, tmps, assign, body, hy, hR⟩ := HY.out pre (s.extract start s.size) w2 hJ2 (by have := Split.inv_len hinv.out; rwa [List.length_map] at this)
      gi_wp2_with fail
      refine ⟨fun _ => by omega, ?_⟩
      refine hR.mono ?_
      rintro e W3 (⟨rfl, hJ3, hk3⟩ | ⟨rfl, hJx3⟩)
      · gi_wp2
        go_end0
        refine ⟨⟨_, rfl⟩, .inl ⟨pre ++ [s.extract start s.size], ?_, hJ3⟩⟩
        rw [List.map_append, List.map_cons, List.map_nil, bytes_extract, ← Split.inv_end hinv.out (by rw [bytes_length]; omega)]
        congr 2
        exact List.take_of_length_le (by rw [List.length_drop, bytes_length]; omega)
      · gi_wp2
        go_end0
        exact ⟨⟨_, rfl⟩, .inr ⟨_, trivial, hJx3⟩⟩

set_option maxRecDepth 100000 in
set_option maxHeartbeats 2000000 in
theorem parts2 (m : Nat) (hm : 3 ≤ m) (l Bs Bc L n : Nat) (s : ByteArray) (hs : s.size ≤ 1048576) (hBs : Bs < n) (hBc : Bc < n) (hsL : Bs ≠ L) (hcL : Bc ≠ L) (J Jx : List ByteArray → World → Prop)
    (hY : ∀ pre x W, J pre W → pre.length < (Split.splitB gapB (bytesOf s)).length → YieldAt Fence.wide (m - 1) Try.prog l #[.string x] W fun e W' =>
      (e = .returned (.bool true) ∧ J (pre ++ [x]) W' ∧ Keep L n W W') ∨ (e = .returned (.bool false) ∧ Jx (pre ++ [x]) W'))
    (W : World) (hn : n ≤ W.heap.size) (hJ : AbidesFrom W.heap.size J) (cs : W.cell? ⟨Bs, 0, none⟩ = some (.string s)) (cc : W.cell? ⟨Bc, 0, none⟩ = some (.func (.func 52) #[] #[])) (h0 : J [] W) :
    CallsIn Fence.wide m Try.prog 58 #[.func (.yield l) #[] #[], .pointer (some ⟨Bs, 0, none⟩), .pointer (some ⟨Bc, 0, none⟩)] W fun e W' => (∃ v, e = .returned v) ∧
      ((∃ ys, ys.map bytesOf = Split.splitB gapB (bytesOf s) ∧ J ys W') ∨ (∃ pre, True ∧ Jx pre W')) := by
  refine callsIn_of_wp Try.func58 rfl trivial ?_ rfl
  simp only [Try.ntmps58, List.size_toArray, List.length_cons, List.length_nil, Nat.reduceAdd, Nat.reduceSub, Array.replicate_succ, Array.replicate_zero, List.push_toArray, List.append_toArray, List.nil_append, List.cons_append]
  have HY := hide hY
  clear hY
  gi_wp2
  have hsz : W.heap.size < (W.iter s 0).heap.size := by simp [World.iter]
  gi_loopw [4, 5, 6] (fun st _ _ wr => ∃ (pre : List ByteArray) (start pos : Nat), st = .int .i64 start ∧ pos ≤ s.size ∧ Hid (Split.Inv gapB (bytesOf s) (pre.map bytesOf) start pos) ∧ Hid (wr.heap[W.heap.size]? = some (.stringIter s pos)) ∧ Hid (J pre wr) ∧ wr.cell? ⟨Bs, 0, none⟩ = some (.string s) ∧ wr.cell? ⟨Bc, 0, none⟩ = some (.func (.func 52) #[] #[]) ∧ n ≤ wr.heap.size) (fun _ _ _ wr => s.size - wr.iterPos W.heap.size)
  case atStart =>
    have hb : Below W.heap.size W (W.iter s 0) := (Below.refl _ _).alloc (Nat.le_refl _) _
    exact ⟨[], 0, 0, rfl, Nat.zero_le _, hide (Split.inv_start _ _), hide (World.iter_heap W s 0), hide (hJ [] W _ none h0 (grown_of_below hb) (fun r e => by cases e)), (hb.cell (p := ⟨Bs, 0, none⟩) (Nat.lt_of_lt_of_le hBs hn)).trans cs, (hb.cell (p := ⟨Bc, 0, none⟩) (Nat.lt_of_lt_of_le hBc hn)).trans cc, by omega⟩
  case round =>
    obtain ⟨pre, start, pos, rfl, hpos, hinv, hit, hJs, cs1, cc1, hn1⟩ := hrel
    have hst : start ≤ pos := hinv.out.1
    have hst2 : start ≤ s.size := by omega
    clear cs cc h0
    by_cases hlt : pos < s.size
    · by_cases hasc : s[pos].toNat < 128
      · have hnx : ∀ ty, (Instr.next (.pointer (some ⟨W.heap.size, 0, none⟩)) true ty).run Try.prog wr = _ := fun ty => Lib.run_next_ascii_at wr W.heap.size s pos ty hit.out hlt hasc
        have hk1 : W.heap.size < wr.heap.size := (Array.getElem?_eq_some_iff.1 hit.out).1
        have g1 := grown_iterAt wr W.heap.size s (pos + 1)
        have hJ1 : Hid (J pre (wr.iterAt W.heap.size s (pos + 1))) := hide (hJ pre wr _ _ hJs.out g1 (fun r e => by cases e; exact ⟨Nat.le_refl _, _, hit.out, rfl⟩))
        have it1 := hide (Lib.iterAt_heap wr W.heap.size s pos (pos + 1) hit.out)
        have cs2 : (wr.iterAt W.heap.size s (pos + 1)).cell? ⟨Bs, 0, none⟩ = some (.string s) := (World.cell?_of_block (w := wr) (a := ⟨Bs, 0, none⟩) (Lib.iterAt_other wr W.heap.size Bs s (pos + 1) (by omega))).trans cs1
        have cc2 : (wr.iterAt W.heap.size s (pos + 1)).cell? ⟨Bc, 0, none⟩ = some (.func (.func 52) #[] #[]) := (World.cell?_of_block (w := wr) (a := ⟨Bc, 0, none⟩) (Lib.iterAt_other wr W.heap.size Bc s (pos + 1) (by omega))).trans cc1
        have hn2 : n ≤ (wr.iterAt W.heap.size s (pos + 1)).heap.size := by rw [Lib.iterAt_size]; exact hn1
        have hms : s.size - (pos + 1) < s.size - pos := by omega
        have hme : wr.iterPos W.heap.size = pos := by simp [World.iterPos, hit.out]
        have HME := hide hme
        generalize wr.iterAt W.heap.size s (pos + 1) = w1 at *
        clear g1 cs1 cc1 hn1 hme
        gi_wp2_with fail
        refine ⟨trivial, fun _ => by omega, ?_⟩
        refine (callsIn_wide.2 (low52 s[pos] _)).mono ?_
        cases hcut : gapB s[pos] with
        | true =>
          have HI : Hid (Split.Inv gapB (bytesOf s) ((pre ++ [s.extract start pos]).map bytesOf) (pos + 1) (pos + 1)) := hide (by
            have := Split.inv_cut hinv.out (by rw [bytes_length]; exact hlt) hcut
            rw [List.map_append, List.map_cons, List.map_nil, bytes_extract]; exact this)
          have HLEN : Hid (pre.length < (Split.splitB gapB (bytesOf s)).length) := hide (by have := Split.inv_len hinv.out; rwa [List.length_map] at this)
          clear hinv hcut
          rintro e w' ⟨rfl, hw⟩
          subst w'
          gi_wp2_with fail
          refine ⟨trivial, fun _ => by omega, ?_⟩
          refine (callsIn_wide.2 (clone59 _ _ (by rw [ByteArray.size_extract]; omega))).mono ?_
          rintro e w2 ⟨rfl, hb2⟩
          have hJ2 : J pre w2 := hJ pre w1 w2 none hJ1.out (grown_of_below hb2) (fun r e => by cases e)
          have it2 : Hid (w2.heap[W.heap.size]? = some (.stringIter s (pos + 1))) := hide ((hb2.block _ (Array.getElem?_eq_some_iff.1 it1.out).1).trans it1.out)
          have cs3 : w2.cell? ⟨Bs, 0, none⟩ = some (.string s) := (hb2.cell (p := ⟨Bs, 0, none⟩) (Nat.lt_of_lt_of_le hBs hn2)).trans cs2
          have cc3 : w2.cell? ⟨Bc, 0, none⟩ = some (.func (.func 52) #[] #[]) := (hb2.cell (p := ⟨Bc, 0, none⟩) (Nat.lt_of_lt_of_le hBc hn2)).trans cc2
          have hn3 : n ≤ w2.heap.size := Nat.le_trans hn2 hb2.size
          clear hb2 cs2 cc2 hn2
          obtain ⟨fn, tmps, assign, body, hy, hR⟩ := HY.out pre (s.extract start pos) w2 hJ2 HLEN.out
          gi_wp2_with fail
          refine ⟨fun _ => by omega, ?_⟩
          refine hR.mono ?_
          clear hy hR hJ2
          rintro e W3 (⟨rfl, hJ3, hk3⟩ | ⟨rfl, hJx3⟩)
          · have it3 := hk3.walks.same _ _ it2.out rfl
            have cs4 : W3.cell? ⟨Bs, 0, none⟩ = some (.string s) := (World.cell?_of_block (w := w2) (a := ⟨Bs, 0, none⟩) (hk3.block Bs hBs hsL)).trans cs3
            have cc4 : W3.cell? ⟨Bc, 0, none⟩ = some (.func (.func 52) #[] #[]) := (World.cell?_of_block (w := w2) (a := ⟨Bc, 0, none⟩) (hk3.block Bc hBc hcL)).trans cc3
            have hn4 : n ≤ W3.heap.size := Nat.le_trans hn3 hk3.size
            have IT3 := hide it3
            have HJ3 := hide hJ3
            clear hk3 it3 hJ3 cs3 cc3 hn3
            gi_wp2
            go_roundw
            case rel => exact ⟨pre ++ [s.extract start pos], pos + 1, pos + 1, by go_num, by omega, HI, IT3, HJ3, cs4, cc4, hn4⟩
            case measure => rw [HME.out]; simp [World.iterPos, IT3.out]; omega
          · gi_wp2
            refine bodyPost_ret (results_none rfl _ _ _) rfl ?_
            exact ⟨⟨_, rfl⟩, .inr ⟨_, trivial, hJx3⟩⟩
        | false =>
          have HI : Hid (Split.Inv gapB (bytesOf s) (pre.map bytesOf) start (pos + 1)) := hide (Split.inv_one hinv.out (by rw [bytes_length]; exact hlt) hcut)
          clear hinv hcut
          rintro e w' ⟨rfl, hw⟩
          subst w'
          gi_wp2
          go_roundw
          case rel => exact ⟨pre, start, pos + 1, rfl, by omega, HI, it1, hJ1, cs2, cc2, hn2⟩
          case measure => rw [HME.out]; simp [World.iterPos, it1.out]; omega
      · have hnx : ∀ ty, (Instr.next (.pointer (some ⟨W.heap.size, 0, none⟩)) true ty).run Try.prog wr = _ := fun ty => Lib.run_next_any_at wr W.heap.size s pos ty hit.out hlt
        obtain ⟨hd1, hd2⟩ := decode_high s pos hlt (by omega)
        have hd3 := decode_le s pos
        obtain ⟨hw1, hw2⟩ := Split.wide s pos hlt (by omega)
        have HW2 := hide hw2
        clear hw2
        generalize (Utf8.decode s pos).1 = r at *
        generalize (Utf8.decode s pos).2 = wd at *
        have hk1 : W.heap.size < wr.heap.size := (Array.getElem?_eq_some_iff.1 hit.out).1
        have g1 := grown_iterAt wr W.heap.size s (pos + wd)
        have hJ1 : Hid (J pre (wr.iterAt W.heap.size s (pos + wd))) := hide (hJ pre wr _ _ hJs.out g1 (fun r e => by cases e; exact ⟨Nat.le_refl _, _, hit.out, rfl⟩))
        have it1 := hide (Lib.iterAt_heap wr W.heap.size s pos (pos + wd) hit.out)
        have cs2 : (wr.iterAt W.heap.size s (pos + wd)).cell? ⟨Bs, 0, none⟩ = some (.string s) := (World.cell?_of_block (w := wr) (a := ⟨Bs, 0, none⟩) (Lib.iterAt_other wr W.heap.size Bs s (pos + wd) (by omega))).trans cs1
        have cc2 : (wr.iterAt W.heap.size s (pos + wd)).cell? ⟨Bc, 0, none⟩ = some (.func (.func 52) #[] #[]) := (World.cell?_of_block (w := wr) (a := ⟨Bc, 0, none⟩) (Lib.iterAt_other wr W.heap.size Bc s (pos + wd) (by omega))).trans cc1
        have hn2 : n ≤ (wr.iterAt W.heap.size s (pos + wd)).heap.size := by rw [Lib.iterAt_size]; exact hn1
        have hme : wr.iterPos W.heap.size = pos := by simp [World.iterPos, hit.out]
        have HME := hide hme
        have HI : Hid (Split.Inv gapB (bytesOf s) (pre.map bytesOf) start (pos + wd)) := hide (Split.inv_skip hinv.out (by rw [bytes_length]; omega) (fun c hc => gapB_high c (HW2.out c hc)))
        generalize wr.iterAt W.heap.size s (pos + wd) = w1 at *
        clear g1 cs1 cc1 hn1 hme hinv
        gi_wp2_with fail
        refine ⟨trivial, fun _ => by omega, ?_⟩
        refine (callsIn_wide.2 (high52 _ (by omega) _)).mono ?_
        rintro e w' ⟨rfl, hw⟩
        subst w'
        gi_wp2
        go_roundw
        case rel => exact ⟨pre, start, pos + wd, rfl, by omega, HI, it1, hJ1, cs2, cc2, hn2⟩
        case measure => rw [HME.out]; simp [World.iterPos, it1.out]; omega
    · have hnx : ∀ ty, (Instr.next (.pointer (some ⟨W.heap.size, 0, none⟩)) true ty).run Try.prog wr = _ := fun ty => Lib.run_next_end_at wr W.heap.size s pos ty hit.out hlt
      gi_wp2_with fail
      refine ⟨trivial, fun _ => by omega, ?_⟩
      refine (callsIn_wide.2 (clone59 _ _ (by rw [ByteArray.size_extract]; omega))).mono ?_
      rintro e w2 ⟨rfl, hb2⟩
      have hJ2 : J pre w2 := hJ pre wr w2 none hJs.out (grown_of_below hb2) (fun r e => by cases e)
      obtain ⟨fn, tmps, assign, body, hy, hR⟩ := HY.out pre (s.extract start s.size) w2 hJ2 (by have := Split.inv_len hinv.out; rwa [List.length_map] at this)
      gi_wp2_with fail
      refine ⟨fun _ => by omega, ?_⟩
      refine hR.mono ?_
      rintro e W3 (⟨rfl, hJ3, hk3⟩ | ⟨rfl, hJx3⟩)
      · gi_wp2
        go_end0
        refine ⟨⟨_, rfl⟩, .inl ⟨pre ++ [s.extract start s.size], ?_, hJ3⟩⟩
        rw [List.map_append, List.map_cons, List.map_nil, bytes_extract, ← Split.inv_end hinv.out (by rw [bytes_length]; omega)]
        congr 2
        exact List.take_of_length_le (by rw [List.length_drop, bytes_length]; omega)
      · gi_wp2
        go_end0
        exact ⟨⟨_, rfl⟩, .inr ⟨_, trivial, hJx3⟩⟩
end Go.Proofs.Ythjglbimkfajlaa
