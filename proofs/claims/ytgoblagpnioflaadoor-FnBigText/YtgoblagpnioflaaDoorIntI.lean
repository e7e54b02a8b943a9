/- The walk of the program's IntText. -/
import Derived.Test.YtgoblagpnioflaaDoorIntC
import Derived.Test.YtgoblagpnioflaaDoorTx
namespace Go.Proofs.YtgoblagpnioflaaDoor
open Go.RowKit Go.Sort
set_option linter.unusedVariables false

set_option maxHeartbeats 1000000 in
set_option maxRecDepth 20000 in
theorem intTextI (v : Value) (neg : Bool) (xs : List Nat) (w : World) (h : Raw w v neg xs) (htab : Tabs w) :
    Calls Tryd.prog 6 #[v] w fun e w' => e = .returned (.string (intT neg xs)) ∧ Below w.heap.size w w' := by
  have hsm := raw_small h
  obtain ⟨a, cap, rfl, hs⟩ := h
  have HB0 := hide (bl_alloc (bl_refl w) (Obj.cells #[Value.bool neg, Value.slice a xs.length cap] 26))
  have HS := hide (hs.below HB0.out)
  have HT := hide htab
  have k0 : (w.alloc (Obj.cells #[Value.bool neg, Value.slice a xs.length cap] 26)).cell? ⟨w.heap.size, 0, none⟩ = some (Value.bool neg) := by go_simp
  have k1 : (w.alloc (Obj.cells #[Value.bool neg, Value.slice a xs.length cap] 26)).cell? ⟨w.heap.size, 1, none⟩ = some (Value.slice a xs.length cap) := by go_simp
  have z1 : w.heap.size < (w.alloc (Obj.cells #[Value.bool neg, Value.slice a xs.length cap] 26)).heap.size := by simp only [World.size_alloc]; omega
  clear hs htab
  go_enter Tryd.func6, Tryd.ntmps6
  go_wp2_with fail
  generalize w.alloc (Obj.cells #[Value.bool neg, Value.slice a xs.length cap] 26) = W0 at *
  refine (okI _ neg xs _ ⟨a, cap, rfl, HS.out⟩).mono ?_
  rintro e w1 ⟨rfl, hb1⟩
  replace k0 := (hb1.cell (p := ⟨w.heap.size, 0, none⟩) z1).trans k0
  replace k1 := (hb1.cell (p := ⟨w.heap.size, 1, none⟩) z1).trans k1
  replace z1 := Nat.lt_of_lt_of_le z1 hb1.size
  replace HS := hide (HS.out.below hb1)
  replace HB0 := hide (bl_trans HB0.out hb1)
  clear hb1
  cases ho : okB neg xs with
  | false =>
    have HR : Hid (intT neg xs = ⟨#[]⟩) := hide (by rw [intT, ho]; rfl)
    go_wp2
    go_ret
    exact ⟨by rw [HR.out]; rfl, HB0.out⟩
  | true =>
    obtain ⟨z, rfl, rfl, hz⟩ := ok_num hsm ho
    have HR := hide (intT_num z ho)
    have hlen := ok_len ho
    have hcl := dec_short hsm hlen
    rw [nat_lms] at hcl
    clear hz hsm
    go_wp2_with fail
    refine (limbsTextI a _ cap _ _ HS.out hlen (HT.out.below HB0.out)).mono ?_
    rintro e w2 ⟨rfl, hb2⟩
    replace k0 := (hb2.cell (p := ⟨w.heap.size, 0, none⟩) z1).trans k0
    have HB2 := hide (bl_trans HB0.out hb2)
    clear hb2
    rw [nat_lms]
    obtain ⟨D, hD⟩ : ∃ D : ByteArray, D = decBs z.natAbs := ⟨_, rfl⟩
    have hDl : D.data.toList = Lib.decDigits z.natAbs := by rw [hD]; rfl
    have hDs : D.size ≤ 400 := by rw [← bsize, hDl]; exact hcl
    rw [← hD]
    clear hD hcl
    cases hg : sgn z with
    | true =>
      rw [hg] at k0
      have HF := hide (it_neg hg)
      have HDL := hide hDl
      clear hDl
      go_wp2
      go_ret
      refine ⟨?_, HB2.out⟩
      rw [HR.out]
      exact ret_str' (by rw [HF.out, ← HDL.out]; simp)
    | false =>
      rw [hg] at k0
      have HF := hide (it_pos hg)
      have HDL := hide hDl
      clear hDl
      go_wp2
      go_ret
      refine ⟨?_, HB2.out⟩
      rw [HR.out]
      exact ret_str' (by rw [HF.out, ← HDL.out])
end Go.Proofs.YtgoblagpnioflaaDoor
