/- The walks of whether two numbers are alike, of a byte of the code, and of the draws of the laws. -/
import Derived.Test.YtgoblagpnioflaaDoorDrA
namespace Go.Proofs.YtgoblagpnioflaaDoor
open Go.RowKit
set_option linter.unusedVariables false

theorem Row.bel {a : Option Addr} {len cap : Nat} {w w' : World} (h : Row a len cap w) (hb : Below w.heap.size w w') : Row a len cap w' := by
  obtain ⟨h1, h2, h3⟩ := h
  refine ⟨?_, h2, h3⟩
  rcases h1 with h | ⟨b, off, rfl, hb', hc⟩
  · exact .inl h
  · exact .inr ⟨b, off, rfl, Nat.lt_of_lt_of_le hb' hb.size, fun j hj => by
      obtain ⟨z, hz, hcz⟩ := hc j hj
      exact ⟨z, hz, (hb.cell (p := ⟨b, off + j, none⟩) hb').trans hcz⟩⟩

set_option maxHeartbeats 2000000 in
theorem sameB (n : Bool) (xs : List Nat) (a1 : Option Addr) (c1 : Nat) (a2 : Option Addr) (c2 : Nat) (w : World) (h1 : Seg w a1 xs.length c1 xs) (h2 : Seg w a2 xs.length c2 xs) :
    Calls Tryd.prog 9 #[.agg #[.bool n, .slice a1 xs.length c1], .agg #[.bool n, .slice a2 xs.length c2]] w fun e w' => e = .returned (.bool true) ∧ Below w.heap.size w w' := by
  have hbl := bl_alloc (bl_alloc (bl_refl w) (Obj.cells #[Value.bool n, Value.slice a1 xs.length c1] 26)) (Obj.cells #[Value.bool n, Value.slice a2 xs.length c2] 26)
  have ka1 : ((w.alloc (Obj.cells #[Value.bool n, Value.slice a1 xs.length c1] 26)).alloc (Obj.cells #[Value.bool n, Value.slice a2 xs.length c2] 26)).cell? ⟨w.heap.size, 1, none⟩ = some (Value.slice a1 xs.length c1) := by go_simp
  have kb1 : ((w.alloc (Obj.cells #[Value.bool n, Value.slice a1 xs.length c1] 26)).alloc (Obj.cells #[Value.bool n, Value.slice a2 xs.length c2] 26)).cell? ⟨w.heap.size + 1, 1, none⟩ = some (Value.slice a2 xs.length c2) := by go_simp
  have ka0 : ((w.alloc (Obj.cells #[Value.bool n, Value.slice a1 xs.length c1] 26)).alloc (Obj.cells #[Value.bool n, Value.slice a2 xs.length c2] 26)).cell? ⟨w.heap.size, 0, none⟩ = some (Value.bool n) := by go_simp
  have kb0 : ((w.alloc (Obj.cells #[Value.bool n, Value.slice a1 xs.length c1] 26)).alloc (Obj.cells #[Value.bool n, Value.slice a2 xs.length c2] 26)).cell? ⟨w.heap.size + 1, 0, none⟩ = some (Value.bool n) := by go_simp
  have hca := h1.2.1
  have hcma := h1.2.2.1
  have hcb := h2.2.1
  have hcmb := h2.2.2.1
  have HA := hide (h1.below hbl)
  have HBB := hide (h2.below hbl)
  have HB := hide hbl
  have hnn : (n != n) = false := by cases n <;> rfl
  clear h1 h2 hbl
  go_enter Tryd.func9, Tryd.ntmps9
  go_upto_region 1 with fail
  generalize ((w.alloc (Obj.cells #[Value.bool n, Value.slice a1 xs.length c1] 26)).alloc (Obj.cells #[Value.bool n, Value.slice a2 xs.length c2] 26)) = w1 at *
  go_wp2
  go_loopw [5] (fun i wr => ∃ k : Nat, k ≤ xs.length ∧ i = .int .i64 k ∧ ∃ m, wr = w1.drewN m) (fun i _ => xs.length - (intOf i).toNat)
  case atStart => exact ⟨0, Nat.zero_le _, rfl, 0, rfl⟩
  case round =>
    obtain ⟨k, hk, rfl, m, rfl⟩ := hrel
    by_cases hlt : k < xs.length
    · obtain ⟨g, o, rfl, hg, hc1⟩ := seg_cell HA.out k hlt
      obtain ⟨g', o', rfl, hg', hc2⟩ := seg_cell HBB.out k hlt
      have hlt' : (k : Int) < (xs.length : Int) := by omega
      generalize xs[k]'_ = x at *
      go_wp2
      go_quiet (fail)
      go_wp2
      exact ⟨⟨k + 1, by omega, by go_num, m + nq, by simp⟩, by simp [intOf]; omega⟩
    · have hlt' : ¬ (k : Int) < (xs.length : Int) := by omega
      go_wp2
      go_ret
      exact ⟨rfl, below_drewN HB.out m⟩

set_option maxHeartbeats 2000000 in
theorem drawBitLen (a : Option Addr) (len cap : Nat) (w : World) (hr : Row a len cap w) :
    Calls Tryd.prog 5 #[.slice a len cap] w fun e w' => ∃ n' a' c' xs, e = .returned (.agg #[.bool n', .slice a' xs.length c']) ∧ xs.length ≤ 41 ∧ Own w' w.heap.size a' xs.length c' xs ∧ Below w.heap.size w w' := by
  have kr0 : (w.alloc (Obj.cells #[Value.bool false, Value.slice none 0 0] 26)).cell? ⟨w.heap.size, 0, none⟩ = some (Value.bool false) := by go_simp
  have kr1 : (w.alloc (Obj.cells #[Value.bool false, Value.slice none 0 0] 26)).cell? ⟨w.heap.size, 1, none⟩ = some (Value.slice none 0 0) := by go_simp
  have fr0 : (w.alloc (Obj.cells #[Value.bool false, Value.slice none 0 0] 26)).frozen? ⟨w.heap.size, 0, none⟩ = false := by go_simp
  have fr1 : (w.alloc (Obj.cells #[Value.bool false, Value.slice none 0 0] 26)).frozen? ⟨w.heap.size, 1, none⟩ = false := by go_simp
  have zr : w.heap.size < (w.alloc (Obj.cells #[Value.bool false, Value.slice none 0 0] 26)).heap.size := by simp only [World.size_alloc]; omega
  have HB := hide (bl_alloc (bl_refl w) (Obj.cells #[Value.bool false, Value.slice none 0 0] 26))
  have HR := hide (hr.bel HB.out)
  clear hr
  go_enter Tryd.func5, Tryd.ntmps5
  go_upto_region 1 with fail
  generalize w.alloc (Obj.cells #[Value.bool false, Value.slice none 0 0] 26) = wa at *
  go_wp2_with fail
  refine (newD a len cap _ HR.out).mono ?_
  rintro e w2 ⟨rfl, hc2, hb2⟩
  replace kr0 := (hb2.cell (p := ⟨w.heap.size, 0, none⟩) zr).trans kr0
  replace kr1 := (hb2.cell (p := ⟨w.heap.size, 1, none⟩) zr).trans kr1
  replace fr0 := (hb2.frozen (p := ⟨w.heap.size, 0, none⟩) zr).trans fr0
  replace fr1 := (hb2.frozen (p := ⟨w.heap.size, 1, none⟩) zr).trans fr1
  have z2 := Nat.lt_of_lt_of_le zr hb2.size
  replace HB := hide (bl_trans HB.out hb2)
  have HC := hide hc2
  clear hb2 hc2 HR
  go_wp2_with fail
  refine (anyB _ a len cap _ HC.out).mono ?_
  rintro e w3 ⟨n', a', c', xs, rfl, hl, ho, hc3, ho3⟩
  replace kr0 := (ho3.cell (p := ⟨w.heap.size, 0, none⟩) z2 (by dsimp only; omega)).trans kr0
  replace kr1 := (ho3.cell (p := ⟨w.heap.size, 1, none⟩) z2 (by dsimp only; omega)).trans kr1
  replace fr0 := (ho3.frozen (p := ⟨w.heap.size, 0, none⟩) z2 (by dsimp only; omega)).trans fr0
  replace fr1 := (ho3.frozen (p := ⟨w.heap.size, 1, none⟩) z2 (by dsimp only; omega)).trans fr1
  replace HB := hide (HB.out.trans (ho3.below (by omega) (by omega)))
  have HO := hide ho
  have HL := hide hl
  clear hc3 ho3 ho hl HC
  go_wp2
  refine bodyPost_ret (v := (.agg #[.bool n', .slice a' xs.length c'])) (by simp [results, Tryd.results5, go_sem, kr0, kr1]) rfl ?_
  exact ⟨n', a', c', xs, rfl, HL.out, fin_two HO.out z2 (Nat.le_refl _) _ _, (HB.out.setCell (p := ⟨w.heap.size, 0, none⟩) (Nat.le_refl _) _).setCell (p := ⟨w.heap.size, 1, none⟩) (Nat.le_refl _) _⟩

end Go.Proofs.YtgoblagpnioflaaDoor
