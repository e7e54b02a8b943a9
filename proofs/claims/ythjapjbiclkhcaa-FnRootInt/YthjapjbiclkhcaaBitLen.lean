/- The walks of the two BitLen and of bigBits: how many bits a number has; nothing that was there turns. -/
import Derived.Test.YthjapjbiclkhcaaPk01
import Derived.Test.YthjapjbiclkhcaaBits
namespace Go.Proofs.Ythjapjbiclkhcaa
open Go.RowKit
set_option linter.unusedVariables false

/-- how many bits limbs have -/
def bitsN (xs : List Nat) : Int := if xs.length = 0 then 0 else 32 * ((xs.length : Int) - 1) + Lib.bitLen (xs.getD (xs.length - 1) 0)
def bitR (neg : Bool) (xs : List Nat) : Int := if okB neg xs then bitsN xs else 0

theorem getD_small {xs : List Nat} (h : Num.Small xs) (k : Nat) : xs.getD k 0 < 4294967296 := by
  by_cases hk : k < xs.length
  · have : xs.getD k 0 = xs[k] := by simp [hk]
    rw [this]; exact Num.small_at h hk
  · have : xs.getD k 0 = 0 := by simp [List.getD, List.getElem?_eq_none (Nat.le_of_not_lt hk)]
    rw [this]; decide

set_option maxHeartbeats 1000000 in
theorem bitsI (v : Value) (neg : Bool) (xs : List Nat) (w : World) (h : Raw w v neg xs) (hl : xs.length ≤ 1048576) :
    Calls Try.prog 34 #[v] w fun e w' => e = .returned (.int .i64 (bitsN xs)) ∧ Below w.heap.size w w' := by
  obtain ⟨a, cap, rfl, hs⟩ := h
  have hcap := hs.2.1
  have hcm := hs.2.2.1
  by_cases h0 : xs.length = 0
  · have HE : Hid (bitsN xs = 0) := hide (by unfold bitsN; rw [if_pos h0])
    clear hs
    go_enter Try.func34, Try.ntmps34
    go_wp2
    go_ret
    exact ⟨ret_int HE.out.symm, bl_alloc (bl_refl w) _⟩
  · have HE : Hid (bitsN xs = 32 * ((xs.length : Int) - 1) + Lib.bitLen (xs.getD (xs.length - 1) 0)) := hide (by unfold bitsN; rw [if_neg h0])
    have hx := getD_small hs.2.2.2.1 (xs.length - 1)
    obtain ⟨g, o, rfl, hg, hc⟩ := raw_last hs h0
    have hc' : (w.alloc (.cells #[.bool neg, .slice (some ⟨g, o, none⟩) xs.length cap] 26)).cell? ⟨g, o + (xs.length - 1), none⟩ = some (.int .u32 (xs.getD (xs.length - 1) 0)) := ((bl_alloc (bl_refl w) _).cell (p := ⟨g, o + (xs.length - 1), none⟩) hg).trans hc
    clear hs hc
    have hb32 := Lib.bitLen_le (xs.getD (xs.length - 1) 0) 32 (by omega) (by omega)
    generalize xs.getD (xs.length - 1) 0 = x at *
    go_enter Try.func34, Try.ntmps34
    go_wp2_with (go_at_call 65; refine (Try.bits_Len32 x _ (by omega) (by omega)).mono ?_; rintro e w1 ⟨rfl, hw⟩; subst w1)
    go_ret
    exact ⟨ret_int HE.out.symm, bl_alloc (bl_refl w) _⟩

set_option maxHeartbeats 1000000 in
theorem bitLenS (v : Value) (neg : Bool) (xs : List Nat) (w : World) (h : Raw w v neg xs) :
    Calls Try.prog 92 #[v] w fun e w' => e = .returned (.int .i64 (bitR neg xs)) ∧ Below w.heap.size w w' := by
  obtain ⟨a, cap, rfl, hs⟩ := h
  have hcap := hs.2.1
  have hcm := hs.2.2.1
  have HS := hide (hs.below (bl_alloc (bl_refl w) (Obj.cells #[Value.bool neg, Value.slice a xs.length cap] 26)))
  have HZ := hide (bl_alloc (bl_refl w) (Obj.cells #[Value.bool neg, Value.slice a xs.length cap] 26))
  have k0 : (w.alloc (Obj.cells #[Value.bool neg, Value.slice a xs.length cap] 26)).cell? ⟨w.heap.size, 0, none⟩ = some (.bool neg) := by go_simp
  have k1 : (w.alloc (Obj.cells #[Value.bool neg, Value.slice a xs.length cap] 26)).cell? ⟨w.heap.size, 1, none⟩ = some (.slice a xs.length cap) := by go_simp
  have z0 : w.heap.size < (w.alloc (Obj.cells #[Value.bool neg, Value.slice a xs.length cap] 26)).heap.size := by simp only [World.size_alloc]; omega
  clear hs
  go_enter Try.func92, Try.ntmps92
  go_wp2_with fail
  generalize w.alloc (Obj.cells #[Value.bool neg, Value.slice a xs.length cap] 26) = w1 at *
  refine (okS _ neg xs _ ⟨a, cap, rfl, HS.out⟩).mono ?_
  rintro e w2 ⟨rfl, hb2⟩
  replace k0 := (hb2.cell (p := ⟨w.heap.size, 0, none⟩) z0).trans k0
  replace k1 := (hb2.cell (p := ⟨w.heap.size, 1, none⟩) z0).trans k1
  replace HS := hide (HS.out.below hb2)
  replace HZ := hide (bl_trans HZ.out hb2)
  clear hb2 z0
  cases e1 : okB neg xs with
  | false =>
    have HF : Hid (bitR neg xs = 0) := hide (by unfold bitR; rw [e1]; rfl)
    clear e1
    go_wp2
    go_ret
    exact ⟨ret_int HF.out.symm, HZ.out⟩
  | true =>
  have HF : Hid (bitR neg xs = bitsN xs) := hide (by unfold bitR; rw [e1]; rfl)
  have hl : xs.length ≤ 40 := by
    refine Classical.byContradiction fun hc => ?_
    rw [ok_long hc] at e1; cases e1
  clear e1
  by_cases h0 : xs.length = 0
  · have HE : Hid (bitR neg xs = 0) := hide (by rw [HF.out]; unfold bitsN; rw [if_pos h0])
    have h0' : ((xs.length : Int) == 0) = true := by rw [beq_iff_eq]; omega
    clear HF
    go_wp2
    go_ret
    exact ⟨ret_int HE.out.symm, HZ.out⟩
  · have HE : Hid (bitR neg xs = 32 * ((xs.length : Int) - 1) + Lib.bitLen (xs.getD (xs.length - 1) 0)) := hide (by rw [HF.out]; unfold bitsN; rw [if_neg h0])
    have h0' : ((xs.length : Int) == 0) = false := by rw [beq_eq_false_iff_ne]; omega
    have hx := getD_small HS.out.2.2.2.1 (xs.length - 1)
    obtain ⟨g, o, rfl, hg, hc⟩ := raw_last HS.out h0
    have hb32 := Lib.bitLen_le (xs.getD (xs.length - 1) 0) 32 (by omega) (by omega)
    clear HF
    generalize xs.getD (xs.length - 1) 0 = x at *
    go_wp2_with fail
    go_loopw [4, 5] (fun m t wr => ∃ (k : Int) (y : Nat), m = .int .i64 k ∧ t = .int .u32 y ∧ y < 4294967296 ∧ 0 ≤ k ∧ k + (Lib.bitLen y : Int) ≤ 1280 ∧ wr = w2 ∧ Hid (k + (Lib.bitLen y : Int) = bitR neg xs)) (fun _ t _ => (intOf t).toNat)
    case atStart => exact ⟨_, x, rfl, rfl, hx, by omega, by omega, rfl, hide HE.out.symm⟩
    case round =>
      obtain ⟨k, y, rfl, rfl, hy, hk0, hk1, rfl, hK⟩ := hrel
      by_cases hy0 : y = 0
      · subst hy0
        have HK : Hid (k = bitR neg xs) := hide (by have := hK.out; rw [show Lib.bitLen 0 = 0 from rfl] at this; omega)
        clear hK
        go_wp2
        go_ret
        exact ⟨ret_int HK.out, HZ.out⟩
      · have hh := Lib.bitLen_half y hy0 (by omega)
        have HK : Hid (k + 1 + (Lib.bitLen (y / 2) : Int) = bitR neg xs) := hide (by have := hK.out; omega)
        have hy0' : 0 < y := by omega
        clear hK
        generalize Lib.bitLen y = p at *
        go_wp2
        exact ⟨⟨k + 1, y / 2, by go_num, by go_num, by omega, by omega, by omega, trivial, HK⟩, by simp [intOf]; omega⟩
end Go.Proofs.Ythjapjbiclkhcaa
