/- The walks of both UnitVec. -/
import Derived.Test.YtkfiidldappdcaaNought
namespace Go.Proofs.Ytkfiidldappdcaa
open Go.RowKit
set_option linter.unusedVariables false

/-- the answer of UnitVec: its number and its list -/
def unD (n i : Int) : Int := if (1 ≤ n ∧ n ≤ 8) ∧ 0 ≤ i ∧ i < n then 1 else 0
def unL (n i : Int) : List Int := if (1 ≤ n ∧ n ≤ 8) ∧ 0 ≤ i ∧ i < n then (List.replicate n.toNat 0).set i.toNat 1 else []
theorem unL_len (n i : Int) : (unL n i).length ≤ 8 := by unfold unL; split <;> simp; omega

theorem unitI_in (n i : Nat) (w : World) (h : n ≤ 8) (hi : i < n) :
    Calls Try.prog 46 #[.int .i64 n, .int .i64 i] w fun e w' => ∃ a c, e = .returned (.agg #[.int .i64 1, .slice a n c]) ∧ Own w' w.heap.size a n c ((List.replicate n 0).set i 1) ∧ Below w.heap.size w w' := by
  have h0 : ¬ (i : Int) < 0 := by omega
  have h1 : ¬ (n : Int) ≤ (i : Int) := by omega
  have h2 : (i : Int) < (n : Int) := by omega
  have hn1 : (1 : Int) ≤ (n : Int) := by omega
  have hk0 : (w.alloc (Obj.cells #[Value.int .i64 0, Value.slice none 0 0] 29)).cell? ⟨w.heap.size, 0, none⟩ = some (Value.int .i64 0) := by go_simp
  have hk1 : (w.alloc (Obj.cells #[Value.int .i64 0, Value.slice none 0 0] 29)).cell? ⟨w.heap.size, 1, none⟩ = some (Value.slice none 0 0) := by go_simp
  have hf0 : (w.alloc (Obj.cells #[Value.int .i64 0, Value.slice none 0 0] 29)).frozen? ⟨w.heap.size, 0, none⟩ = false := by go_simp
  have hf1 : (w.alloc (Obj.cells #[Value.int .i64 0, Value.slice none 0 0] 29)).frozen? ⟨w.heap.size, 1, none⟩ = false := by go_simp
  have hzz : w.heap.size < (w.alloc (Obj.cells #[Value.int .i64 0, Value.slice none 0 0] 29)).heap.size := by simp only [World.size_alloc]; omega
  have HB0 := hide (bl_alloc (bl_refl w) (Obj.cells #[Value.int .i64 0, Value.slice none 0 0] 29))
  go_enter Try.func46, Try.ntmps46
  go_wp2_with fail
  generalize w.alloc (Obj.cells #[Value.int .i64 0, Value.slice none 0 0] 29) = w1 at *
  refine (noughtI_in n _ h).mono ?_
  rintro e w2 ⟨a, c, rfl, ho, hb⟩
  rcases ho.cases with ⟨-, hn0, -, -⟩ | ⟨g, rfl, hg1, hg2⟩
  · omega
  replace hk0 := (hb.cell (p := ⟨w.heap.size, 0, none⟩) hzz).trans hk0
  replace hk1 := (hb.cell (p := ⟨w.heap.size, 1, none⟩) hzz).trans hk1
  replace hf0 := (hb.frozen (p := ⟨w.heap.size, 0, none⟩) hzz).trans hf0
  replace hf1 := (hb.frozen (p := ⟨w.heap.size, 1, none⟩) hzz).trans hf1
  have hzz2 := Nat.lt_of_lt_of_le hzz hb.size
  have HB := hide (bl_trans HB0.out hb)
  obtain ⟨y, hcl⟩ := own_has ho i hi
  have hfz := World.ownsRow.frozenAt ho i
  have hc1 := ho.seg.2.1
  have hc2 := ho.seg.2.2.1
  have HO := hide ho
  clear hb ho HB0
  have ne1 : ¬ g = w.heap.size := by omega
  have ne2 : ¬ w.heap.size = g := by omega
  have ne3 : ¬ g = w2.heap.size := by omega
  have ne4 : ¬ w2.heap.size = g := by omega
  have ne5 : ¬ w.heap.size = w2.heap.size := by omega
  have ne6 : ¬ w2.heap.size = w.heap.size := by omega
  go_wp2
  refine bodyPost_ret (v := .agg #[.int .i64 1, .slice (some ⟨g, 0, none⟩) n c]) (by simp [results, Try.results46, go_sem, *]) rfl ⟨_, _, rfl, ?_, ?_⟩
  · have q2 := (own_set HO.out i 1).1.mono (base' := w.heap.size + 1) (by omega)
    exact (((q2.setCell (p := ⟨w.heap.size, 0, none⟩) (Nat.lt_succ_self _) _).setCell (p := ⟨w.heap.size, 1, none⟩) (Nat.lt_succ_self _) _).mono (Nat.le_succ _)).below (bl_alloc (bl_refl _) _)
  · exact bl_alloc (((HB.out.setCell (p := ⟨g, i, none⟩) (by dsimp only; omega) _).setCell (p := ⟨w.heap.size, 0, none⟩) (Nat.le_refl _) _).setCell (p := ⟨w.heap.size, 1, none⟩) (Nat.le_refl _) _) _

theorem unitS_in (n i : Nat) (w : World) (h : n ≤ 8) (hi : i < n) :
    Calls Try.prog 45 #[.int .i64 n, .int .i64 i] w fun e w' => ∃ a c, e = .returned (.agg #[.int .i64 1, .slice a n c]) ∧ Own w' w.heap.size a n c ((List.replicate n 0).set i 1) ∧ Below w.heap.size w w' := by
  have h0 : ¬ (i : Int) < 0 := by omega
  have h1 : ¬ (n : Int) ≤ (i : Int) := by omega
  have h2 : (i : Int) < (n : Int) := by omega
  have hn1 : (1 : Int) ≤ (n : Int) := by omega
  have hk0 : (w.alloc (Obj.cells #[Value.int .i64 0, Value.slice none 0 0] 29)).cell? ⟨w.heap.size, 0, none⟩ = some (Value.int .i64 0) := by go_simp
  have hk1 : (w.alloc (Obj.cells #[Value.int .i64 0, Value.slice none 0 0] 29)).cell? ⟨w.heap.size, 1, none⟩ = some (Value.slice none 0 0) := by go_simp
  have hf0 : (w.alloc (Obj.cells #[Value.int .i64 0, Value.slice none 0 0] 29)).frozen? ⟨w.heap.size, 0, none⟩ = false := by go_simp
  have hf1 : (w.alloc (Obj.cells #[Value.int .i64 0, Value.slice none 0 0] 29)).frozen? ⟨w.heap.size, 1, none⟩ = false := by go_simp
  have hzz : w.heap.size < (w.alloc (Obj.cells #[Value.int .i64 0, Value.slice none 0 0] 29)).heap.size := by simp only [World.size_alloc]; omega
  have HB0 := hide (bl_alloc (bl_refl w) (Obj.cells #[Value.int .i64 0, Value.slice none 0 0] 29))
  go_enter Try.func45, Try.ntmps45
  go_wp2_with ((go_at_call 66; refine (inS_yes _ _ _ _ (by omega) (by omega)).mono ?_; rintro e w1 ⟨rfl, hw⟩; subst w1))
  generalize w.alloc (Obj.cells #[Value.int .i64 0, Value.slice none 0 0] 29) = w1 at *
  refine (noughtS_in n _ h).mono ?_
  rintro e w2 ⟨a, c, rfl, ho, hb⟩
  rcases ho.cases with ⟨-, hn0, -, -⟩ | ⟨g, rfl, hg1, hg2⟩
  · omega
  replace hk0 := (hb.cell (p := ⟨w.heap.size, 0, none⟩) hzz).trans hk0
  replace hk1 := (hb.cell (p := ⟨w.heap.size, 1, none⟩) hzz).trans hk1
  replace hf0 := (hb.frozen (p := ⟨w.heap.size, 0, none⟩) hzz).trans hf0
  replace hf1 := (hb.frozen (p := ⟨w.heap.size, 1, none⟩) hzz).trans hf1
  have hzz2 := Nat.lt_of_lt_of_le hzz hb.size
  have HB := hide (bl_trans HB0.out hb)
  obtain ⟨y, hcl⟩ := own_has ho i hi
  have hfz := World.ownsRow.frozenAt ho i
  have hc1 := ho.seg.2.1
  have hc2 := ho.seg.2.2.1
  have HO := hide ho
  clear hb ho HB0
  have ne1 : ¬ g = w.heap.size := by omega
  have ne2 : ¬ w.heap.size = g := by omega
  have ne3 : ¬ g = w2.heap.size := by omega
  have ne4 : ¬ w2.heap.size = g := by omega
  have ne5 : ¬ w.heap.size = w2.heap.size := by omega
  have ne6 : ¬ w2.heap.size = w.heap.size := by omega
  go_wp2
  refine bodyPost_ret (v := .agg #[.int .i64 1, .slice (some ⟨g, 0, none⟩) n c]) (by simp [results, Try.results45, go_sem, *]) rfl ⟨_, _, rfl, ?_, ?_⟩
  · have q2 := (own_set HO.out i 1).1.mono (base' := w.heap.size + 1) (by omega)
    exact (((q2.setCell (p := ⟨w.heap.size, 0, none⟩) (Nat.lt_succ_self _) _).setCell (p := ⟨w.heap.size, 1, none⟩) (Nat.lt_succ_self _) _).mono (Nat.le_succ _)).below (bl_alloc (bl_refl _) _)
  · exact bl_alloc (((HB.out.setCell (p := ⟨g, i, none⟩) (by dsimp only; omega) _).setCell (p := ⟨w.heap.size, 0, none⟩) (Nat.le_refl _) _).setCell (p := ⟨w.heap.size, 1, none⟩) (Nat.le_refl _) _) _

theorem unitI_out (n i : Int) (w : World) (h : ¬ ((1 ≤ n ∧ n ≤ 8) ∧ 0 ≤ i ∧ i < n)) :
    Calls Try.prog 46 #[.int .i64 n, .int .i64 i] w fun e w' => e = .returned (.agg #[.int .i64 0, .slice none 0 0]) ∧ Below w.heap.size w w' := by
  have hL : i < 0 ∨ ((noL n).length : Int) ≤ i := by
    by_cases h0 : i < 0
    · exact .inl h0
    · refine .inr ?_
      unfold noL
      split
      · simp; omega
      · simp; omega
  have hl8 := noL_len n
  clear h
  have hk0 : (w.alloc (Obj.cells #[Value.int .i64 0, Value.slice none 0 0] 29)).cell? ⟨w.heap.size, 0, none⟩ = some (Value.int .i64 0) := by go_simp
  have hk1 : (w.alloc (Obj.cells #[Value.int .i64 0, Value.slice none 0 0] 29)).cell? ⟨w.heap.size, 1, none⟩ = some (Value.slice none 0 0) := by go_simp
  have hf0 : (w.alloc (Obj.cells #[Value.int .i64 0, Value.slice none 0 0] 29)).frozen? ⟨w.heap.size, 0, none⟩ = false := by go_simp
  have hf1 : (w.alloc (Obj.cells #[Value.int .i64 0, Value.slice none 0 0] 29)).frozen? ⟨w.heap.size, 1, none⟩ = false := by go_simp
  have hzz : w.heap.size < (w.alloc (Obj.cells #[Value.int .i64 0, Value.slice none 0 0] 29)).heap.size := by simp only [World.size_alloc]; omega
  have HB0 := hide (bl_alloc (bl_refl w) (Obj.cells #[Value.int .i64 0, Value.slice none 0 0] 29))
  rcases hL with hL | hL
  all_goals
    have hx : i < 0 ∨ ¬ i < 0 := by omega
    go_enter Try.func46, Try.ntmps46
    go_wp2_with fail
    generalize w.alloc (Obj.cells #[Value.int .i64 0, Value.slice none 0 0] 29) = w1 at *
    refine (noughtI n _).mono ?_
    rintro e w2 ⟨a, c, rfl, ho, hb⟩
    replace hk0 := (hb.cell (p := ⟨w.heap.size, 0, none⟩) hzz).trans hk0
    replace hk1 := (hb.cell (p := ⟨w.heap.size, 1, none⟩) hzz).trans hk1
    replace hf0 := (hb.frozen (p := ⟨w.heap.size, 0, none⟩) hzz).trans hf0
    replace hf1 := (hb.frozen (p := ⟨w.heap.size, 1, none⟩) hzz).trans hf1
    have hzz2 := Nat.lt_of_lt_of_le hzz hb.size
    have HB := hide (bl_trans HB0.out hb)
    clear hb ho HB0
    have ne5 : ¬ w.heap.size = w2.heap.size := by omega
    have ne6 : ¬ w2.heap.size = w.heap.size := by omega
    generalize (noL n).length = L at *
    go_wp2
    refine bodyPost_ret (v := .agg #[.int .i64 0, .slice none 0 0]) (by simp [results, Try.results46, go_sem, *]) rfl ⟨rfl, ?_⟩
    exact bl_alloc ((HB.out.setCell (p := ⟨w.heap.size, 0, none⟩) (Nat.le_refl _) _).setCell (p := ⟨w.heap.size, 1, none⟩) (Nat.le_refl _) _) _

theorem unitS_out (n i : Int) (w : World) (h : ¬ ((1 ≤ n ∧ n ≤ 8) ∧ 0 ≤ i ∧ i < n)) :
    Calls Try.prog 45 #[.int .i64 n, .int .i64 i] w fun e w' => e = .returned (.agg #[.int .i64 0, .slice none 0 0]) ∧ Below w.heap.size w w' := by
  by_cases h1 : 1 ≤ n ∧ n ≤ 8
  · have h2 : i < 0 ∨ n - 1 < i := by omega
    obtain ⟨h3, h4⟩ := h1
    have H2 := hide h2
    clear h h2
    go_enter Try.func45, Try.ntmps45
    go_wp2_with fail
    refine (inS_yes _ _ _ _ h3 h4).mono ?_
    rintro e w1 ⟨rfl, hw⟩; subst w1
    go_wp2_with fail
    refine (inS_no _ _ _ _ H2.out).mono ?_
    rintro e w1 ⟨rfl, hw⟩; subst w1
    go_wp2
    exact bodyPost_ret (v := .agg #[.int .i64 0, .slice none 0 0]) (by simp [results, Try.results45, go_sem]) rfl ⟨rfl, bl_alloc (bl_refl w) _⟩
  · have h2 : n < 1 ∨ 8 < n := by omega
    have H2 := hide h2
    clear h h1 h2
    go_enter Try.func45, Try.ntmps45
    go_wp2_with fail
    refine (inS_no _ _ _ _ H2.out).mono ?_
    rintro e w1 ⟨rfl, hw⟩; subst w1
    go_wp2
    exact bodyPost_ret (v := .agg #[.int .i64 0, .slice none 0 0]) (by simp [results, Try.results45, go_sem]) rfl ⟨rfl, bl_alloc (bl_refl w) _⟩

theorem unitI (n i : Int) (w : World) :
    Calls Try.prog 46 #[.int .i64 n, .int .i64 i] w fun e w' => ∃ a c, e = .returned (.agg #[.int .i64 (unD n i), .slice a (unL n i).length c]) ∧ Own w' w.heap.size a (unL n i).length c (unL n i) ∧ Below w.heap.size w w' := by
  by_cases h : (1 ≤ n ∧ n ≤ 8) ∧ 0 ≤ i ∧ i < n
  · obtain ⟨k, rfl⟩ : ∃ k : Nat, n = k := ⟨n.toNat, by omega⟩
    obtain ⟨j, rfl⟩ : ∃ k : Nat, i = k := ⟨i.toNat, by omega⟩
    have e1 : unD k j = 1 := by unfold unD; rw [if_pos h]
    have e2 : unL k j = (List.replicate k 0).set j 1 := by unfold unL; rw [if_pos h]; simp
    rw [e1, e2, List.length_set, List.length_replicate]
    exact unitI_in k j w (by omega) (by omega)
  · have e1 : unD n i = 0 := by unfold unD; rw [if_neg h]
    have e2 : unL n i = [] := by unfold unL; rw [if_neg h]
    rw [e1, e2]
    exact (unitI_out n i w h).mono fun e w' ⟨he, hb⟩ => ⟨none, 0, he, Own.nil _ _, hb⟩

theorem unitS (n i : Int) (w : World) :
    Calls Try.prog 45 #[.int .i64 n, .int .i64 i] w fun e w' => ∃ a c, e = .returned (.agg #[.int .i64 (unD n i), .slice a (unL n i).length c]) ∧ Own w' w.heap.size a (unL n i).length c (unL n i) ∧ Below w.heap.size w w' := by
  by_cases h : (1 ≤ n ∧ n ≤ 8) ∧ 0 ≤ i ∧ i < n
  · obtain ⟨k, rfl⟩ : ∃ k : Nat, n = k := ⟨n.toNat, by omega⟩
    obtain ⟨j, rfl⟩ : ∃ k : Nat, i = k := ⟨i.toNat, by omega⟩
    have e1 : unD k j = 1 := by unfold unD; rw [if_pos h]
    have e2 : unL k j = (List.replicate k 0).set j 1 := by unfold unL; rw [if_pos h]; simp
    rw [e1, e2, List.length_set, List.length_replicate]
    exact unitS_in k j w (by omega) (by omega)
  · have e1 : unD n i = 0 := by unfold unD; rw [if_neg h]
    have e2 : unL n i = [] := by unfold unL; rw [if_neg h]
    rw [e1, e2]
    exact (unitS_out n i w h).mono fun e w' ⟨he, hb⟩ => ⟨none, 0, he, Own.nil _ _, hb⟩
end Go.Proofs.Ytkfiidldappdcaa
