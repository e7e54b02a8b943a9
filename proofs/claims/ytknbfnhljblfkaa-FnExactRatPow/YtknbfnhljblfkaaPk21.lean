/- My texts BitLen, in this order. -/
import Derived.Test.YtknbfnhljblfkaaPk03
import Derived.Test.YtknbfnhljblfkaaPk20
/- The walks of the two BitLen and of bigBits: how many bits a number has; nothing that was there turns. -/
namespace Go.Proofs.Ytknbfnhljblfkaa
open Go.RowKit
set_option linter.unusedVariables false

/-- how many bits limbs have -/
def bitsN (xs : List Nat) : Int := if xs.length = 0 then 0 else 32 * ((xs.length : Int) - 1) + Lib.bitLen (xs.getD (xs.length - 1) 0)
def bitR (neg : Bool) (xs : List Nat) : Int := if okB neg xs then bitsN xs else 0

theorem getD_small {xs : List Nat} (h : Num.Small xs) (k : Nat) : xs.getD k 0 < 4294967296 := by
  by_cases hk : k < xs.length
  · have : xs.getD k 0 = xs[k] := by simp [hk]
    rw [this]; exact Num.small_at h hk
  · have : xs.getD k 0 = 0 := by simp [List.getD, List.getElem?_eq_none (Nat.le_of_not_lt hk)]
    rw [this]; decide

set_option maxHeartbeats 1000000 in
theorem bitsI (v : Value) (neg : Bool) (xs : List Nat) (w : World) (h : Raw w v neg xs) (hl : xs.length ≤ 1048576) :
    Calls Try.prog 64 #[v] w fun e w' => e = .returned (.int .i64 (bitsN xs)) ∧ Below w.heap.size w w' := by
  obtain ⟨a, cap, rfl, hs⟩ := h
  have hcap := hs.2.1
  have hcm := hs.2.2.1
  by_cases h0 : xs.length = 0
  · have HE : Hid (bitsN xs = 0) := hide (by unfold bitsN; rw [if_pos h0])
    clear hs
    go_enter Try.func64, Try.ntmps64
    go_wp2
    go_ret
    exact ⟨ret_int HE.out.symm, bl_alloc (bl_refl w) _⟩
  · have HE : Hid (bitsN xs = 32 * ((xs.length : Int) - 1) + Lib.bitLen (xs.getD (xs.length - 1) 0)) := hide (by unfold bitsN; rw [if_neg h0])
    have hx := getD_small hs.2.2.2.1 (xs.length - 1)
    obtain ⟨g, o, rfl, hg, hc⟩ := raw_last hs h0
    have hc' : (w.alloc (.cells #[.bool neg, .slice (some ⟨g, o, none⟩) xs.length cap] 26)).cell? ⟨g, o + (xs.length - 1), none⟩ = some (.int .u32 (xs.getD (xs.length - 1) 0)) := ((bl_alloc (bl_refl w) _).cell (p := ⟨g, o + (xs.length - 1), none⟩) hg).trans hc
    clear hs hc
    have hb32 := Lib.bitLen_le (xs.getD (xs.length - 1) 0) 32 (by omega) (by omega)
    generalize xs.getD (xs.length - 1) 0 = x at *
    go_enter Try.func64, Try.ntmps64
    go_wp2_with (go_at_call 78; refine (Try.bits_Len32 x _ (by omega) (by omega)).mono ?_; rintro e w1 ⟨rfl, hw⟩; subst w1)
    go_ret
    exact ⟨ret_int HE.out.symm, bl_alloc (bl_refl w) _⟩

end Go.Proofs.Ytknbfnhljblfkaa
