/- The walks of isDigit, allDigits and digitLimbs: whether a text is digits alone, and their number in limbs of new memory. -/
import Derived.Test.YtbcokpnhhjjedaaGreatDoorReadN
import Derived.Test.YtbcokpnhhjjedaaGreatDoorPk00
import Derived.Test.YtbcokpnhhjjedaaGreatDoorPk02
import Derived.Laws.RangeAny
import Derived.Lib.OthersKept
import Derived.WalkSpells
namespace Go.Proofs.YtbcokpnhhjjedaaGreatDoor
open Go.RowKit
set_option linter.unusedVariables false

theorem digitI (c : Int) (w : World) :
    Calls Tryz.prog 55 #[.int .i32 c] w fun e w' => e = .returned (.bool (digitB c)) ∧ w' = w := by
  go_enter Tryz.func55, Tryz.ntmps55
  go_wp2
  all_goals go_ret
  all_goals exact ⟨ret_bool (by rw [Bool.eq_iff_iff]; simp [digitB]; try omega), rfl⟩

def digFrom (s : ByteArray) (k : Nat) : Bool := digAll (s.data.toList.drop k)
theorem dig_end (s : ByteArray) (k : Nat) (h : s.size ≤ k) : digFrom s k = true := by
  have : s.data.toList.drop k = [] := List.drop_eq_nil_of_le (by simpa using h)
  rw [digFrom, this]; rfl
theorem dig_step (s : ByteArray) (k : Nat) (h : k < s.size) : digFrom s k = (digitB (s[k].toNat : Int) && digFrom s (k + 1)) := by
  rw [digFrom, List.drop_eq_getElem_cons (by simpa using h)]; rfl
/-- digits alone, and one at least -/
def digOk (s : ByteArray) : Bool := digAll s.data.toList && decide (s.size ≠ 0)
theorem size_nil (s : ByteArray) : (!s.toList.isEmpty) = decide (s.size ≠ 0) := by
  rw [ByteArray.toList_eq]
  have h : s.data.toList.length = s.size := by simp only [Array.length_toList]; rfl
  rw [← h]
  cases s.data.toList <;> simp

set_option maxHeartbeats 400000 in
theorem allDigitsI (s : ByteArray) (w : World) (hs : s.size ≤ 140737488355328) :
    Calls Tryz.prog 34 #[.string s] w fun e w' => e = .returned (.bool (digOk s)) ∧ Below w.heap.size w w' := by
  have HF : Hid (digOk s = (digFrom s 0 && decide (s.size ≠ 0))) := hide (by unfold digOk digFrom; rw [List.drop_zero])
  go_enter Tryz.func34, Tryz.ntmps34
  go_wp2
  go_loopw [4] (fun _ wr => ∃ k : Nat, k ≤ s.size ∧ wr = w.iter s k ∧ Hid (digOk s = (digFrom s k && decide (s.size ≠ 0)))) (fun _ wr => s.size - wr.iterPos w.heap.size)
  case atStart => exact ⟨0, Nat.zero_le _, rfl, HF⟩
  case round =>
    clear HF
    obtain ⟨k, hk, rfl, hr⟩ := hrel
    have hb : Below w.heap.size w (w.iter s k) := (Below.refl _ _).alloc (Nat.le_refl _) _
    by_cases hlt : k < s.size
    · have hst := dig_step s k hlt
      by_cases hasc : s[k].toNat < 128
      · have hnx : ∀ ty, (Instr.next (.pointer (some ⟨w.heap.size, 0, none⟩)) true ty).run Tryz.prog (w.iter s k) = _ := fun ty => run_next_ascii w s k ty hlt hasc
        cases hdg : digitB (s[k].toNat : Int) with
        | true =>
          have HR : Hid (digOk s = (digFrom s (k + 1) && decide (s.size ≠ 0))) := hide (by rw [hr.out, hst, hdg]; simp)
          have HDG := hide hdg
          clear hr hst hdg
          go_wp2_with (first
            | (go_at_call 55; refine (digitI _ _).mono ?_; rw [HDG.out]; rintro e w1 ⟨rfl, hw⟩; subst w1))
          exact ⟨⟨k + 1, by omega, rfl, HR⟩, by simp; omega⟩
        | false =>
          have HR : Hid (digOk s = false) := hide (by rw [hr.out, hst, hdg]; simp)
          have HDG := hide hdg
          clear hr hst hdg
          go_wp2_with (first
            | (go_at_call 55; refine (digitI _ _).mono ?_; rw [HDG.out]; rintro e w1 ⟨rfl, hw⟩; subst w1))
          go_ret
          exact ⟨ret_bool HR.out.symm, (Below.refl _ _).alloc (Nat.le_refl _) _⟩
      · have hnx : ∀ ty, (Instr.next (.pointer (some ⟨w.heap.size, 0, none⟩)) true ty).run Tryz.prog (w.iter s k) = _ := fun ty => run_next_any w s k ty hlt
        obtain ⟨hd1, hd2⟩ := decode_high s k hlt (by omega)
        have hd3 := decode_le s k
        generalize (Utf8.decode s k).1 = r at *
        generalize (Utf8.decode s k).2 = wd at *
        have HR : Hid (digOk s = false) := hide (by rw [hr.out, hst, digit_high _ (by omega)]; simp)
        have HDG : Hid (digitB (r : Int) = false) := hide (digit_high _ (by omega))
        clear hr hst
        go_wp2_with (first
          | (go_at_call 55; refine (digitI _ _).mono ?_; rw [HDG.out]; rintro e w1 ⟨rfl, hw⟩; subst w1))
        go_ret
        exact ⟨ret_bool HR.out.symm, (Below.refl _ _).alloc (Nat.le_refl _) _⟩
    · have hnx : ∀ ty, (Instr.next (.pointer (some ⟨w.heap.size, 0, none⟩)) true ty).run Tryz.prog (w.iter s k) = _ := fun ty => run_next_end w s k ty hlt
      have HR : Hid (digOk s = (!s.toList.isEmpty)) := hide (by rw [hr.out, dig_end s k (by omega), size_nil]; simp)
      clear hr
      go_wp2
      go_ret
      exact ⟨ret_bool HR.out.symm, hb⟩

theorem grown_iterAt (W : World) (it : Nat) (s : ByteArray) (p : Nat) : W.grownBy (W.iterAt it s p) (some it) :=
  ⟨rfl, rfl, rfl, by rw [Lib.iterAt_size]; exact Nat.le_refl _, fun j hj hn => Lib.iterAt_other W it j s p (fun e => hn (by rw [e]))⟩
theorem iterPos_of {W : World} {it : Nat} {s : ByteArray} {p : Nat} (h : W.heap[it]? = some (.stringIter s p)) : W.iterPos it = p := by
  unfold World.iterPos; rw [h]
theorem own_off {W : World} {it n c : Nat} {a : Option Addr} {xs : List Nat} (h : Own W (it + 1) a n c xs) : (Value.slice a n c).ownBlock = none ∨ (Value.slice a n c).ownBlock ≠ some it := by
  cases hk : (Value.slice a n c).ownBlock with
  | none => exact .inl rfl
  | some k => exact .inr fun e => by have := (h.1.lt k hk).1; cases e; omega
theorem valN_take (s : ByteArray) (k : Nat) (h : k < s.size) : valN (s.data.toList.take (k + 1)) = 10 * valN (s.data.toList.take k) + (s[k].toNat - 48) := by
  rw [List.take_succ_eq_append_getElem (by simpa using h), valN_snoc]; rfl
theorem dig_here {s : ByteArray} (h : digAll s.data.toList = true) (k : Nat) (hk : k < s.size) : 48 ≤ s[k].toNat ∧ s[k].toNat ≤ 57 := by
  refine dig_bounds (c := s[k]) ?_
  have := List.all_eq_true.1 h
  exact this s[k] (by rw [show s[k] = s.data.toList[k]'(by simpa using hk) from rfl]; exact List.getElem_mem _)

set_option maxHeartbeats 4000000 in
set_option maxRecDepth 20000 in
theorem digitLimbsI (s : ByteArray) (w : World) (hd : digAll s.data.toList = true) (hs : s.size ≤ 100000) :
    Calls Tryz.prog 36 #[.string s] w fun e w' => ∃ a n c xs, e = .returned (.slice a n c) ∧ Own w' w.heap.size a n c xs ∧ n ≤ s.size ∧ Num.nat xs = valN s.data.toList ∧ Below w.heap.size w w' := by
  obtain ⟨i0, hi, hz0, hz1, hz2⟩ := info_parts Tryz.info65
  have HD := hide hd
  clear hd
  go_enter Tryz.func36, Tryz.ntmps36
  go_wp2
  go_loopw [3, 5, 6, 7, 8] (fun l _ _ _ _ wr => ∃ (k n c : Nat) (a : Option Addr) (xs : List Nat), k ≤ s.size ∧ l = .slice a n c ∧ n ≤ k ∧ Hid (wr.heap[w.heap.size]? = some (.stringIter s k)) ∧ Hid (Own wr (w.heap.size + 1) a n c xs) ∧ Hid (Num.nat xs = valN (s.data.toList.take k)) ∧ Hid (Below w.heap.size w wr)) (fun _ _ _ _ _ wr => s.size - wr.iterPos w.heap.size)
  case atStart => exact ⟨0, 0, 0, none, [], Nat.zero_le _, rfl, Nat.le_refl _, hide (World.iter_heap w s 0), hide (Own.nil _ _), hide rfl, hide (bl_alloc (bl_refl w) _)⟩
  case round =>
    obtain ⟨k, n, c, a, xs, hk, rfl, hn, hIt, hO, hN, hB⟩ := hrel
    by_cases hlt : k < s.size
    · obtain ⟨hd1, hd2⟩ := dig_here HD.out k hlt
      have hnx : ∀ ty, (Instr.next (.pointer (some ⟨w.heap.size, 0, none⟩)) true ty).run Tryz.prog wr = _ := fun ty => Lib.run_next_ascii_at wr w.heap.size s k ty hIt.out hlt (by omega)
      have HV := hide (valN_take s k hlt)
      have hg1 := grown_iterAt wr w.heap.size s (k + 1)
      have HO1 := hide (hO.out.kept hg1 (own_off hO.out))
      have HI1 := hide (Lib.iterAt_heap wr w.heap.size s k (k + 1) hIt.out)
      have HB1 := hide (Lib.below_iterAt hB.out (Nat.le_refl w.heap.size) s (k + 1))
      have hip := iterPos_of hIt.out
      generalize hc0 : s[k].toNat = ch at *
      clear hc0 hg1 hO hIt hB
      have hcl := HO1.out.len
      obtain ⟨hc1, hc2⟩ : n ≤ c ∧ c ≤ 9223372036854775807 := ⟨HO1.out.seg.2.1, HO1.out.seg.2.2.1⟩
      go_wp2
      generalize wr.iterAt w.heap.size s (k + 1) = W1 at *
      go_loopw [6, 7, 8, 19] (fun cv _ _ i wq => ∃ (j cy : Nat) (ys : List Nat), j ≤ n ∧ i = .int .i64 j ∧ cv = .int .u64 cy ∧ cy ≤ 9 ∧ Hid (DgSo (ch - 48) xs ys j cy) ∧ Hid (wq.heap[w.heap.size]? = some (.stringIter s (k + 1))) ∧ Hid (Own wq (w.heap.size + 1) a n c ys) ∧ Hid (Below w.heap.size w wq)) (fun _ _ _ i _ => n - (intOf i).toNat)
      case atStart => exact ⟨0, ch - 48, xs, Nat.zero_le _, rfl, by go_num, by omega, hide (dg_start HO1.out.2 (by omega)), HI1, HO1, HB1⟩
      case round =>
        obtain ⟨j, cy, ys, hj, rfl, rfl, hcy, hS, hI, hO, hB⟩ := hrel
        have hyl := hS.out.1
        by_cases hjn : j < n
        · have hjn' : (j : Int) < (n : Int) := by omega
          rcases hO.out.cases with ⟨rfl, h0, _, _⟩ | ⟨g, rfl, hg, hgl⟩
          · omega
          have hc := own_cell hO.out j (by omega)
          have hfz := hO.out.1.frozenAt j
          rw [dg_at hS.out (by omega) (by omega)] at hc
          have hxs := Num.small_at HO1.out.2 (i := j) (by omega)
          have HST := hide (dg_step hS.out HO1.out.2 (by omega) rfl)
          have HSET := hide (fun v hv => own_set hO.out j v hv)
          have HIT := hide (fun v => (Below.heap_setCell wr ⟨g, j, none⟩ v w.heap.size (by dsimp only; omega)).trans hI.out)
          generalize xs[j] = x at *
          clear hS hI hO
          go_wp2
          have ev : ((cy : Int) + (x : Int) * 10) % 4294967296 = (((cy + x * 10) % 4294967296 : Nat) : Int) := by omega
          rw [ev]
          exact ⟨⟨j + 1, (cy + x * 10) / 4294967296, ys.set j ((cy + x * 10) % 4294967296), by omega, by go_num, by go_num, by omega, HST, hide (HIT.out _), hide (HSET.out _ (by omega)).1, hide (hB.out.setCell (p := ⟨g, j, none⟩) (by dsimp only; omega) _)⟩, by simp [intOf]; omega⟩
        · obtain rfl : j = n := by omega
          by_cases hz : cy = 0
          · subst hz
            have HE : Hid (Num.nat ys = valN (s.data.toList.take (k + 1))) := hide (by
              rw [HV.out, ← hN.out]
              exact dg_none (by rw [hcl]; exact hS.out))
            clear hS
            go_wp2
            exact ⟨⟨k + 1, j, c, a, ys, by omega, rfl, by omega, hI, hO, HE, hB⟩, by rw [iterPos_of hI.out, hip]; omega⟩
          · have hz' : (0 : Int) < (cy : Int) := by omega
            have HE : Hid (Num.nat (ys ++ [cy]) = valN (s.data.toList.take (k + 1))) := hide (by
              rw [HV.out, ← hN.out]
              exact dg_more (by rw [hcl]; exact hS.out))
            have hil : w.heap.size < wr.heap.size := (Array.getElem?_eq_some_iff.1 hI.out).1
            have hoff : some w.heap.size ≠ (Value.slice a j c).ownBlock := by
              rcases own_off hO.out with h | h
              · rw [h]; simp
              · exact fun e => h e.symm
            have hown := hO.out
            clear hS
            go_wp2_with (at_builtin; refine wpList_append_own _ rfl _ _ 25 rfl (w.heap.size + 1) 65 i0 (.int .u32 0) 1 4 Tryz.underlying25 hi hz0 hz1 hz2 rfl (by decide) _ _ _ rfl (hown.1.alloc _) ⟨wr.heap.size, 0, none⟩ 1 1 [_] rfl rfl (cell_one_new _ _ _) (by simp [Value.oneCell']) (by unfold maxLen; omega) (by omega) (by simp only [World.size_alloc]; omega) ?_; intro v' w3 hown' hgrow' _; obtain ⟨a', c', rfl⟩ := row_val hown'; have hg2 := (show (wr.alloc _).grownBy w3 (Value.slice a j c).ownBlock from hgrow'); clear hgrow')
            have HI3 : Hid (w3.heap[w.heap.size]? = some (.stringIter s (k + 1))) := hide ((hg2.block w.heap.size (by simp only [World.size_alloc]; omega) hoff).trans (((bl_alloc (bl_refl wr) _).block w.heap.size hil).trans hI.out))
            exact ⟨⟨k + 1, j + 1, c', a', ys ++ [cy], by omega, rfl, by omega, HI3, hide (own_snoc hO.out.2 (by omega) (by omega) hown'), HE, hide ((bl_alloc hB.out _).grown hg2 (by simp only [World.size_alloc]; omega) (fun q e => by have := (hO.out.1.lt q e).1; omega))⟩, by rw [iterPos_of HI3.out, hip]; omega⟩
    · have hnx : ∀ ty, (Instr.next (.pointer (some ⟨w.heap.size, 0, none⟩)) true ty).run Tryz.prog wr = _ := fun ty => Lib.run_next_end_at wr w.heap.size s k ty hIt.out hlt
      have HE : Hid (Num.nat xs = valN s.data.toList) := hide (by rw [hN.out, List.take_of_length_le (by simp only [Array.length_toList]; exact Nat.le_of_not_lt hlt)])
      go_wp2
      go_ret
      exact ⟨a, n, c, xs, rfl, hO.out.mono (by omega), by omega, HE.out, hB.out⟩
end Go.Proofs.YtbcokpnhhjjedaaGreatDoor
