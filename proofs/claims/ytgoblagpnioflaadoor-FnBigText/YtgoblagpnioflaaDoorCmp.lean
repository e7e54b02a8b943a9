/- The walks of what compares limbs and numbers: -1, 0 or 1; nothing that was there turns. -/
import Derived.Test.YtgoblagpnioflaaDoorMake
import Derived.Deep.RegionHeld3
namespace Go.Proofs.YtgoblagpnioflaaDoor
open Go.RowKit
set_option linter.unusedVariables false

/-- -1, 0 or 1 -/
def cmpZ (a b : Int) : Int := if a < b then -1 else if b < a then 1 else 0
theorem cmp_lt {a b : Int} (h : a < b) : cmpZ a b = -1 := by simp [cmpZ, h]
theorem cmp_gt {a b : Int} (h : b < a) : cmpZ a b = 1 := by simp [cmpZ, h, Int.not_lt.2 (Int.le_of_lt h)]
theorem cmp_eq {a b : Int} (h : a = b) : cmpZ a b = 0 := by simp [cmpZ, h]
theorem drew_more {w wr : World} (h : ∃ d, wr = w.drewN d) (n : Nat) : ∃ d, wr.drewN n = w.drewN d := by
  obtain ⟨d, rfl⟩ := h; exact ⟨d + n, by simp⟩
theorem drew2 (w : World) (a b : Nat) : ∃ m, (w.drewN a).drewN b = w.drewN m := ⟨a + b, by simp⟩

theorem drop_eq {xs ys : List Nat} {k : Nat} (h : k < xs.length) (h' : k < ys.length) (he : xs[k] = ys[k]) (hd : xs.drop (k + 1) = ys.drop (k + 1)) : xs.drop k = ys.drop k := by
  rw [List.drop_eq_getElem_cons h, List.drop_eq_getElem_cons h', he, hd]
theorem at_lt {x y k : Nat} (hl : (Num.limbs x).length = (Num.limbs y).length) (h : k < (Num.limbs x).length) (h' : k < (Num.limbs y).length) (hd : (Num.limbs x).drop (k + 1) = (Num.limbs y).drop (k + 1)) (hlt : (Num.limbs x)[k] < (Num.limbs y)[k]) : x < y := by
  have := Num.nat_lt_at (Num.limbs_small x) hl h h' hd hlt
  rwa [Num.nat_limbs, Num.nat_limbs] at this
theorem seg_cell {W : World} {a : Option Addr} {n cap : Nat} {xs : List Nat} (h : Seg W a n cap xs) (k : Nat) (hk : k < xs.length) : ∃ g o, a = some ⟨g, o, none⟩ ∧ g < W.heap.size ∧ W.cell? ⟨g, o + k, none⟩ = some (.int .u32 xs[k]) := by
  rcases h.2.2.2.2 with h0 | ⟨g, o, ha, hg, hc⟩
  · have := h.1; omega
  · exact ⟨g, o, ha, hg, hc k hk⟩

end Go.Proofs.YtgoblagpnioflaaDoor
