/- The walks of whether two numbers are alike, of a byte of the code, and of the draws of the laws. -/
import Derived.Test.YtfnimkbpeehofaaDrA
namespace Go.Proofs.Ytfnimkbpeehofaa
open Go.RowKit
set_option linter.unusedVariables false

theorem Row.bel {a : Option Addr} {len cap : Nat} {w w' : World} (h : Row a len cap w) (hb : Below w.heap.size w w') : Row a len cap w' := by
  obtain ⟨h1, h2, h3⟩ := h
  refine ⟨?_, h2, h3⟩
  rcases h1 with h | ⟨b, off, rfl, hb', hc⟩
  · exact .inl h
  · exact .inr ⟨b, off, rfl, Nat.lt_of_lt_of_le hb' hb.size, fun j hj => by
      obtain ⟨z, hz, hcz⟩ := hc j hj
      exact ⟨z, hz, (hb.cell (p := ⟨b, off + j, none⟩) hb').trans hcz⟩⟩

set_option maxHeartbeats 2000000 in
theorem sameB (n : Bool) (xs : List Nat) (a1 : Option Addr) (c1 : Nat) (a2 : Option Addr) (c2 : Nat) (w : World) (h1 : Seg w a1 xs.length c1 xs) (h2 : Seg w a2 xs.length c2 xs) :
    Calls Try.prog 11 #[.agg #[.bool n, .slice a1 xs.length c1], .agg #[.bool n, .slice a2 xs.length c2]] w fun e w' => e = .returned (.bool true) ∧ Below w.heap.size w w' := by
  have hbl := bl_alloc (bl_alloc (bl_refl w) (Obj.cells #[Value.bool n, Value.slice a1 xs.length c1] 26)) (Obj.cells #[Value.bool n, Value.slice a2 xs.length c2] 26)
  have ka1 : ((w.alloc (Obj.cells #[Value.bool n, Value.slice a1 xs.length c1] 26)).alloc (Obj.cells #[Value.bool n, Value.slice a2 xs.length c2] 26)).cell? ⟨w.heap.size, 1, none⟩ = some (Value.slice a1 xs.length c1) := by go_simp
  have kb1 : ((w.alloc (Obj.cells #[Value.bool n, Value.slice a1 xs.length c1] 26)).alloc (Obj.cells #[Value.bool n, Value.slice a2 xs.length c2] 26)).cell? ⟨w.heap.size + 1, 1, none⟩ = some (Value.slice a2 xs.length c2) := by go_simp
  have ka0 : ((w.alloc (Obj.cells #[Value.bool n, Value.slice a1 xs.length c1] 26)).alloc (Obj.cells #[Value.bool n, Value.slice a2 xs.length c2] 26)).cell? ⟨w.heap.size, 0, none⟩ = some (Value.bool n) := by go_simp
  have kb0 : ((w.alloc (Obj.cells #[Value.bool n, Value.slice a1 xs.length c1] 26)).alloc (Obj.cells #[Value.bool n, Value.slice a2 xs.length c2] 26)).cell? ⟨w.heap.size + 1, 0, none⟩ = some (Value.bool n) := by go_simp
  have hca := h1.2.1
  have hcma := h1.2.2.1
  have hcb := h2.2.1
  have hcmb := h2.2.2.1
  have HA := hide (h1.below hbl)
  have HBB := hide (h2.below hbl)
  have HB := hide hbl
  have hnn : (n != n) = false := by cases n <;> rfl
  clear h1 h2 hbl
  go_enter Try.func11, Try.ntmps11
  go_upto_region 1 with fail
  generalize ((w.alloc (Obj.cells #[Value.bool n, Value.slice a1 xs.length c1] 26)).alloc (Obj.cells #[Value.bool n, Value.slice a2 xs.length c2] 26)) = w1 at *
  go_wp2
  go_loopw [5] (fun i wr => ∃ k : Nat, k ≤ xs.length ∧ i = .int .i64 k ∧ ∃ m, wr = w1.drewN m) (fun i _ => xs.length - (intOf i).toNat)
  case atStart => exact ⟨0, Nat.zero_le _, rfl, 0, rfl⟩
  case round =>
    obtain ⟨k, hk, rfl, m, rfl⟩ := hrel
    by_cases hlt : k < xs.length
    · obtain ⟨g, o, rfl, hg, hc1⟩ := seg_cell HA.out k hlt
      obtain ⟨g', o', rfl, hg', hc2⟩ := seg_cell HBB.out k hlt
      have hlt' : (k : Int) < (xs.length : Int) := by omega
      generalize xs[k]'_ = x at *
      go_wp2
      go_quiet (fail)
      go_wp2
      exact ⟨⟨k + 1, by omega, by go_num, m + nq, by simp⟩, by simp [intOf]; omega⟩
    · have hlt' : ¬ (k : Int) < (xs.length : Int) := by omega
      go_wp2
      go_ret
      exact ⟨rfl, below_drewN HB.out m⟩

theorem atD (a : Option Addr) (len cap : Nat) (w : World) (hr : Row a len cap w) (hl : len ≤ 1048576) :
    Calls Try.prog 7 #[.slice a len cap, .int .i64 2] w fun e w' => ∃ x : Int, (0 ≤ x ∧ x ≤ 255) ∧ e = .returned (.int .i64 x) ∧ w' = w := by
  have hcp := hr.2.1
  have hcm := hr.2.2
  by_cases h : (2 : Int) < len
  · rcases hr.1 with h0 | ⟨b, off, rfl, hb, hc⟩
    · omega
    obtain ⟨z, hz, hcz⟩ := hc 2 (by omega)
    clear hc hr
    go_enter Try.func7, Try.ntmps7
    go_wp2
    go_ret
    exact ⟨z, by omega, rfl, rfl⟩
  · clear hr
    go_enter Try.func7, Try.ntmps7
    go_wp2
    go_ret
    exact ⟨_, by omega, rfl, rfl⟩

set_option maxHeartbeats 2000000 in
theorem drawBitLen (a : Option Addr) (len cap : Nat) (w : World) (hr : Row a len cap w) :
    Calls Try.prog 12 #[.slice a len cap] w fun e w' => ∃ n' a' c' xs, e = .returned (.agg #[.bool n', .slice a' xs.length c']) ∧ xs.length ≤ 41 ∧ Own w' w.heap.size a' xs.length c' xs ∧ Below w.heap.size w w' := by
  have kr0 : (w.alloc (Obj.cells #[Value.bool false, Value.slice none 0 0] 26)).cell? ⟨w.heap.size, 0, none⟩ = some (Value.bool false) := by go_simp
  have kr1 : (w.alloc (Obj.cells #[Value.bool false, Value.slice none 0 0] 26)).cell? ⟨w.heap.size, 1, none⟩ = some (Value.slice none 0 0) := by go_simp
  have fr0 : (w.alloc (Obj.cells #[Value.bool false, Value.slice none 0 0] 26)).frozen? ⟨w.heap.size, 0, none⟩ = false := by go_simp
  have fr1 : (w.alloc (Obj.cells #[Value.bool false, Value.slice none 0 0] 26)).frozen? ⟨w.heap.size, 1, none⟩ = false := by go_simp
  have zr : w.heap.size < (w.alloc (Obj.cells #[Value.bool false, Value.slice none 0 0] 26)).heap.size := by simp only [World.size_alloc]; omega
  have HB := hide (bl_alloc (bl_refl w) (Obj.cells #[Value.bool false, Value.slice none 0 0] 26))
  have HR := hide (hr.bel HB.out)
  clear hr
  go_enter Try.func12, Try.ntmps12
  go_upto_region 1 with fail
  generalize w.alloc (Obj.cells #[Value.bool false, Value.slice none 0 0] 26) = wa at *
  go_wp2_with fail
  refine (newD a len cap _ HR.out).mono ?_
  rintro e w2 ⟨rfl, hc2, hb2⟩
  replace kr0 := (hb2.cell (p := ⟨w.heap.size, 0, none⟩) zr).trans kr0
  replace kr1 := (hb2.cell (p := ⟨w.heap.size, 1, none⟩) zr).trans kr1
  replace fr0 := (hb2.frozen (p := ⟨w.heap.size, 0, none⟩) zr).trans fr0
  replace fr1 := (hb2.frozen (p := ⟨w.heap.size, 1, none⟩) zr).trans fr1
  have z2 := Nat.lt_of_lt_of_le zr hb2.size
  replace HB := hide (bl_trans HB.out hb2)
  have HC := hide hc2
  clear hb2 hc2 HR
  go_wp2_with fail
  refine (anyB _ a len cap _ HC.out).mono ?_
  rintro e w3 ⟨n', a', c', xs, rfl, hl, ho, hc3, ho3⟩
  replace kr0 := (ho3.cell (p := ⟨w.heap.size, 0, none⟩) z2 (by dsimp only; omega)).trans kr0
  replace kr1 := (ho3.cell (p := ⟨w.heap.size, 1, none⟩) z2 (by dsimp only; omega)).trans kr1
  replace fr0 := (ho3.frozen (p := ⟨w.heap.size, 0, none⟩) z2 (by dsimp only; omega)).trans fr0
  replace fr1 := (ho3.frozen (p := ⟨w.heap.size, 1, none⟩) z2 (by dsimp only; omega)).trans fr1
  replace HB := hide (HB.out.trans (ho3.below (by omega) (by omega)))
  have HO := hide ho
  have HL := hide hl
  clear hc3 ho3 ho hl HC
  go_wp2
  refine bodyPost_ret (v := (.agg #[.bool n', .slice a' xs.length c'])) (by simp [results, Try.results12, go_sem, kr0, kr1]) rfl ?_
  exact ⟨n', a', c', xs, rfl, HL.out, fin_two HO.out z2 (Nat.le_refl _) _ _, (HB.out.setCell (p := ⟨w.heap.size, 0, none⟩) (Nat.le_refl _) _).setCell (p := ⟨w.heap.size, 1, none⟩) (Nat.le_refl _) _⟩

set_option maxHeartbeats 4000000 in
theorem drawPower (a : Option Addr) (len cap : Nat) (w : World) (hr : Row a len cap w) :
    Calls Try.prog 6 #[.slice a len cap] w fun e w' => ∃ n' a' c' xs, ∃ q : Int, e = .returned (.tuple #[.agg #[.bool n', .slice a' xs.length c'], .int .i64 q]) ∧ (-1 ≤ q ∧ q ≤ 1001) ∧ xs.length ≤ 41 ∧ Seg w' a' xs.length c' xs ∧ Below w.heap.size w w' := by
  have kr0 : (w.alloc (Obj.cells #[Value.bool false, Value.slice none 0 0] 26)).cell? ⟨w.heap.size, 0, none⟩ = some (Value.bool false) := by go_simp
  have kr1 : (w.alloc (Obj.cells #[Value.bool false, Value.slice none 0 0] 26)).cell? ⟨w.heap.size, 1, none⟩ = some (Value.slice none 0 0) := by go_simp
  have fr0 : (w.alloc (Obj.cells #[Value.bool false, Value.slice none 0 0] 26)).frozen? ⟨w.heap.size, 0, none⟩ = false := by go_simp
  have fr1 : (w.alloc (Obj.cells #[Value.bool false, Value.slice none 0 0] 26)).frozen? ⟨w.heap.size, 1, none⟩ = false := by go_simp
  have zr : w.heap.size < (w.alloc (Obj.cells #[Value.bool false, Value.slice none 0 0] 26)).heap.size := by simp only [World.size_alloc]; omega
  have HB := hide (bl_alloc (bl_refl w) (Obj.cells #[Value.bool false, Value.slice none 0 0] 26))
  have HR := hide (hr.bel HB.out)
  clear hr
  go_enter Try.func6, Try.ntmps6
  go_upto_region 1 with fail
  generalize w.alloc (Obj.cells #[Value.bool false, Value.slice none 0 0] 26) = wa at *
  go_wp2_with fail
  refine (newD a len cap _ HR.out).mono ?_
  rintro e w2 ⟨rfl, hc2, hb2⟩
  replace kr0 := (hb2.cell (p := ⟨w.heap.size, 0, none⟩) zr).trans kr0
  replace kr1 := (hb2.cell (p := ⟨w.heap.size, 1, none⟩) zr).trans kr1
  replace fr0 := (hb2.frozen (p := ⟨w.heap.size, 0, none⟩) zr).trans fr0
  replace fr1 := (hb2.frozen (p := ⟨w.heap.size, 1, none⟩) zr).trans fr1
  have z2 := Nat.lt_of_lt_of_le zr hb2.size
  replace HB := hide (bl_trans HB.out hb2)
  have HC := hide hc2
  clear hb2 hc2 HR
  generalize wa.heap.size = B at *
  go_wp2_with fail
  refine (onceD B a len cap _ HC.out 3 (by omega)).mono ?_
  rintro e w3 ⟨bt, rfl, hc3, ho3⟩
  replace kr0 := (ho3.cell (p := ⟨w.heap.size, 0, none⟩) z2 (by dsimp only; omega)).trans kr0
  replace kr1 := (ho3.cell (p := ⟨w.heap.size, 1, none⟩) z2 (by dsimp only; omega)).trans kr1
  replace fr0 := (ho3.frozen (p := ⟨w.heap.size, 0, none⟩) z2 (by dsimp only; omega)).trans fr0
  replace fr1 := (ho3.frozen (p := ⟨w.heap.size, 1, none⟩) z2 (by dsimp only; omega)).trans fr1
  replace HB := hide (HB.out.trans (ho3.below (by omega) (by omega)))
  replace z2 := Nat.lt_of_lt_of_le z2 ho3.size
  replace HC := hide hc3
  clear hc3
  clear ho3
  cases bt with
  | true =>
    go_wp2_with fail
    refine (belowD B a len cap _ HC.out 20 (by omega)).mono ?_
    rintro e w4 ⟨y, hy, rfl, hc4, ho4⟩
    have hy' : 0 ≤ y ∧ y < 20 := by rcases hy with h | h <;> omega
    obtain ⟨hya, hyb⟩ := hy'
    replace kr0 := (ho4.cell (p := ⟨w.heap.size, 0, none⟩) z2 (by dsimp only; omega)).trans kr0
    replace kr1 := (ho4.cell (p := ⟨w.heap.size, 1, none⟩) z2 (by dsimp only; omega)).trans kr1
    replace fr0 := (ho4.frozen (p := ⟨w.heap.size, 0, none⟩) z2 (by dsimp only; omega)).trans fr0
    replace fr1 := (ho4.frozen (p := ⟨w.heap.size, 1, none⟩) z2 (by dsimp only; omega)).trans fr1
    replace HB := hide (HB.out.trans (ho4.below (by omega) (by omega)))
    replace z2 := Nat.lt_of_lt_of_le z2 ho4.size
    replace HC := hide hc4
    clear hc4
    clear ho4 hy
    have zB4 := HC.out.hB
    go_wp2_with fail
    refine (fromS (y - 10) _ (by omega) (by omega)).mono ?_
    rintro e w5 ⟨v, rfl, ⟨a', c', rfl, ho⟩, hb5⟩
    have HL := hide (len_int (y - 10) (by omega) (by omega))
    have HO := hide ho
    replace kr0 := (hb5.cell (p := ⟨w.heap.size, 0, none⟩) z2).trans kr0
    replace kr1 := (hb5.cell (p := ⟨w.heap.size, 1, none⟩) z2).trans kr1
    replace fr0 := (hb5.frozen (p := ⟨w.heap.size, 0, none⟩) z2).trans fr0
    replace fr1 := (hb5.frozen (p := ⟨w.heap.size, 1, none⟩) z2).trans fr1
    replace HB := hide (bl_trans HB.out hb5)
    replace z2 := Nat.lt_of_lt_of_le z2 hb5.size
    replace HC := hide (HC.out.bel hb5)
    clear ho hb5
    generalize y - 10 = zz at *
    go_wp2_with fail
    refine (belowD B a len cap _ HC.out 420 (by omega)).mono ?_
    rintro e w6 ⟨q, hq, rfl, hc6, ho6⟩
    have hq' : 0 ≤ q ∧ q < 420 := by rcases hq with h | h <;> omega
    obtain ⟨hqa, hqb⟩ := hq'
    have HO6 := hide (ho6)
    replace kr0 := (ho6.cell (p := ⟨w.heap.size, 0, none⟩) z2 (by dsimp only; omega)).trans kr0
    replace kr1 := (ho6.cell (p := ⟨w.heap.size, 1, none⟩) z2 (by dsimp only; omega)).trans kr1
    replace fr0 := (ho6.frozen (p := ⟨w.heap.size, 0, none⟩) z2 (by dsimp only; omega)).trans fr0
    replace fr1 := (ho6.frozen (p := ⟨w.heap.size, 1, none⟩) z2 (by dsimp only; omega)).trans fr1
    replace HB := hide (HB.out.trans (ho6.below (by omega) (by omega)))
    replace z2 := Nat.lt_of_lt_of_le z2 ho6.size
    replace HC := hide hc6
    clear hc6
    clear ho6 hq
    go_wp2
    refine bodyPost_ret (v := (.tuple #[.agg #[.bool (sgn zz), .slice a' (lms zz).length c'], .int .i64 q])) (by simp [results, Try.results6, go_sem, kr0, kr1]) rfl ?_
    exact ⟨sgn zz, a', c', lms zz, q, rfl, by omega, by have := HL.out; omega, (fin_two (w := w) (HO.out.only HO6.out (by omega)) (by omega) (Nat.le_refl _) _ _).seg, (HB.out.setCell (p := ⟨w.heap.size, 0, none⟩) (Nat.le_refl _) _).setCell (p := ⟨w.heap.size, 1, none⟩) (Nat.le_refl _) _⟩
  | false =>
    have zB3 := HC.out.hB
    go_wp2_with fail
    refine (anyB B a len cap _ HC.out).mono ?_
    rintro e w4 ⟨n', a', c', xs, rfl, hl, ho, hc4, ho4⟩
    have HL := hide hl
    have HO := hide ho
    have zB := hc4.hB
    replace kr0 := (ho4.cell (p := ⟨w.heap.size, 0, none⟩) z2 (by dsimp only; omega)).trans kr0
    replace kr1 := (ho4.cell (p := ⟨w.heap.size, 1, none⟩) z2 (by dsimp only; omega)).trans kr1
    replace fr0 := (ho4.frozen (p := ⟨w.heap.size, 0, none⟩) z2 (by dsimp only; omega)).trans fr0
    replace fr1 := (ho4.frozen (p := ⟨w.heap.size, 1, none⟩) z2 (by dsimp only; omega)).trans fr1
    replace HB := hide (HB.out.trans (ho4.below (by omega) (by omega)))
    replace z2 := Nat.lt_of_lt_of_le z2 ho4.size
    replace HC := hide hc4
    clear hc4
    clear ho4 hl ho
    go_wp2_with fail
    have hb := bl_alloc (bl_refl w4) (Obj.cells #[Value.int .i64 0, Value.int .i64 1, Value.int .i64 2, Value.int .i64 3, Value.int .i64 7, Value.int .i64 40, Value.int .i64 1000, Value.int .i64 1001, Value.int .i64 (-1)] 3)
    have HPK := hide (new_ints w4 #[Value.int .i64 0, Value.int .i64 1, Value.int .i64 2, Value.int .i64 3, Value.int .i64 7, Value.int .i64 40, Value.int .i64 1000, Value.int .i64 1001, Value.int .i64 (-1)] 3 (fun z => -1 ≤ z ∧ z ≤ 1001) (by
      intro v hv
      simp only [List.mem_cons, List.not_mem_nil, or_false] at hv
      rcases hv with rfl | rfl | rfl | rfl | rfl | rfl | rfl | rfl | rfl
      all_goals exact ⟨_, by omega, rfl⟩) 9 (by simp))
    have zL : w4.heap.size < (w4.alloc (Obj.cells #[Value.int .i64 0, Value.int .i64 1, Value.int .i64 2, Value.int .i64 3, Value.int .i64 7, Value.int .i64 40, Value.int .i64 1000, Value.int .i64 1001, Value.int .i64 (-1)] 3)).heap.size := by simp only [World.size_alloc]; omega
    have zw := z2
    replace HO := hide (HO.out.below hb)
    replace kr0 := (hb.cell (p := ⟨w.heap.size, 0, none⟩) z2).trans kr0
    replace kr1 := (hb.cell (p := ⟨w.heap.size, 1, none⟩) z2).trans kr1
    replace fr0 := (hb.frozen (p := ⟨w.heap.size, 0, none⟩) z2).trans fr0
    replace fr1 := (hb.frozen (p := ⟨w.heap.size, 1, none⟩) z2).trans fr1
    replace HB := hide (bl_trans HB.out hb)
    replace z2 := Nat.lt_of_lt_of_le z2 hb.size
    replace HC := hide (HC.out.bel hb)
    clear hb
    generalize w4.alloc (Obj.cells #[Value.int .i64 0, Value.int .i64 1, Value.int .i64 2, Value.int .i64 3, Value.int .i64 7, Value.int .i64 40, Value.int .i64 1000, Value.int .i64 1001, Value.int .i64 (-1)] 3) = w5 at *
    refine (pickIntD B a len cap _ HC.out w4.heap.size 9 (fun z => -1 ≤ z ∧ z ≤ 1001) zL (by omega) (by omega) (by omega) HPK.out).mono ?_
    rintro e w6 ⟨q, hq, rfl, hc6, ho6⟩
    have HO6 := hide ho6
    replace kr0 := (ho6.cell (p := ⟨w.heap.size, 0, none⟩) z2 (by dsimp only; omega)).trans kr0
    replace kr1 := (ho6.cell (p := ⟨w.heap.size, 1, none⟩) z2 (by dsimp only; omega)).trans kr1
    replace fr0 := (ho6.frozen (p := ⟨w.heap.size, 0, none⟩) z2 (by dsimp only; omega)).trans fr0
    replace fr1 := (ho6.frozen (p := ⟨w.heap.size, 1, none⟩) z2 (by dsimp only; omega)).trans fr1
    replace HB := hide (HB.out.trans (ho6.below (by omega) (by omega)))
    replace z2 := Nat.lt_of_lt_of_le z2 ho6.size
    replace HC := hide hc6
    clear hc6
    clear ho6 HPK
    go_wp2
    refine bodyPost_ret (v := (.tuple #[.agg #[.bool n', .slice a' xs.length c'], .int .i64 q])) (by simp [results, Try.results6, go_sem, kr0, kr1]) rfl ?_
    exact ⟨n', a', c', xs, q, rfl, hq, HL.out, (fin_two (w := w) (HO.out.only HO6.out (by omega)) (by omega) (Nat.le_refl _) _ _).seg, (HB.out.setCell (p := ⟨w.heap.size, 0, none⟩) (Nat.le_refl _) _).setCell (p := ⟨w.heap.size, 1, none⟩) (Nat.le_refl _) _⟩
end Go.Proofs.Ytfnimkbpeehofaa
