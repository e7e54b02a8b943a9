/- The walks of both Nought and both UnitVec. -/
import Derived.Test.YtkfiidldappdcaaLawKit
namespace Go.Proofs.Ytkfiidldappdcaa
open Go.RowKit
set_option linter.unusedVariables false

/-- the answer of Nought: its number and its list -/
def noD (n : Int) : Int := if 0 ≤ n ∧ n ≤ 8 then 1 else 0
def noL (n : Int) : List Int := if 0 ≤ n ∧ n ≤ 8 then List.replicate n.toNat 0 else []
theorem noL_len (n : Int) : (noL n).length ≤ 8 := by unfold noL; split <;> simp; omega

theorem noughtI_out (n : Int) (w : World) (h : n < 0 ∨ 8 < n) :
    Calls Try.prog 44 #[.int .i64 n] w fun e w' => e = .returned (.agg #[.int .i64 0, .slice none 0 0]) ∧ Below w.heap.size w w' := by
  rcases h with h | h
  · go_enter Try.func44, Try.ntmps44
    go_wp2
    exact bodyPost_ret (v := .agg #[.int .i64 0, .slice none 0 0]) (by simp [results, Try.results44, go_sem]) rfl ⟨rfl, bl_alloc (bl_refl w) _⟩
  · have h1 : ¬ n < 0 := by omega
    go_enter Try.func44, Try.ntmps44
    go_wp2
    exact bodyPost_ret (v := .agg #[.int .i64 0, .slice none 0 0]) (by simp [results, Try.results44, go_sem]) rfl ⟨rfl, bl_alloc (bl_refl w) _⟩

theorem noughtI_in (n : Nat) (w : World) (h : n ≤ 8) :
    Calls Try.prog 44 #[.int .i64 n] w fun e w' => ∃ a c, e = .returned (.agg #[.int .i64 1, .slice a n c]) ∧ Own w' w.heap.size a n c (List.replicate n 0) ∧ Below w.heap.size w w' := by
  obtain ⟨i0, hi, hz0, hz1, hz2⟩ := info_parts Try.info3
  have h0 : ¬ (n : Int) < 0 := by omega
  have h8 : ¬ (8 : Int) < (n : Int) := by omega
  go_enter Try.func44, Try.ntmps44
  have hk0 : (w.alloc (Obj.cells #[Value.int .i64 0, Value.slice none 0 0] 29)).cell? ⟨w.heap.size, 0, none⟩ = some (Value.int .i64 0) := by go_simp
  have hk1 : (w.alloc (Obj.cells #[Value.int .i64 0, Value.slice none 0 0] 29)).cell? ⟨w.heap.size, 1, none⟩ = some (Value.slice none 0 0) := by go_simp
  have hf0 : (w.alloc (Obj.cells #[Value.int .i64 0, Value.slice none 0 0] 29)).frozen? ⟨w.heap.size, 0, none⟩ = false := by go_simp
  have hf1 : (w.alloc (Obj.cells #[Value.int .i64 0, Value.slice none 0 0] 29)).frozen? ⟨w.heap.size, 1, none⟩ = false := by go_simp
  have hzz : w.heap.size < (w.alloc (Obj.cells #[Value.int .i64 0, Value.slice none 0 0] 29)).heap.size := by simp only [World.size_alloc]; omega
  have HB0 := hide (bl_alloc (bl_refl w) (Obj.cells #[Value.int .i64 0, Value.slice none 0 0] 29))
  go_wp2_with (at_make; refine wpList_make_full _ rfl _ _ 27 rfl (w.alloc (Obj.cells #[Value.int .i64 0, Value.slice none 0 0] 29)).heap.size 3 i0 (.int .i64 0) 1 Try.underlying27 hi hz0 hz1 _ _ _ _ n rfl rfl rfl rfl (by rw [hz2]; omega) (by unfold maxLen; omega) (Nat.le_refl _) ?_)
  intro w2 hown hgrow
  generalize (w.alloc (Obj.cells #[Value.int .i64 0, Value.slice none 0 0] 29)) = w1 at *
  have hb2 := ((bl_refl w1).grown hgrow (Nat.le_refl _) (by simp))
  have HO := hide (own_made hown)
  replace hk0 := (hb2.cell (p := ⟨w.heap.size, 0, none⟩) hzz).trans hk0
  replace hk1 := (hb2.cell (p := ⟨w.heap.size, 1, none⟩) hzz).trans hk1
  replace hf0 := (hb2.frozen (p := ⟨w.heap.size, 0, none⟩) hzz).trans hf0
  replace hf1 := (hb2.frozen (p := ⟨w.heap.size, 1, none⟩) hzz).trans hf1
  have HB2 := hide hb2
  clear hown hgrow hb2
  go_wp2
  refine bodyPost_ret (v := .agg #[.int .i64 1, .slice (some ⟨w.heap.size + 1, 0, none⟩) n n]) (by simp [results, Try.results44, go_sem, hk0, hk1]) rfl ⟨_, _, rfl, ?_, ?_⟩
  · exact ((HO.out.setCell (p := ⟨w.heap.size, 0, none⟩) (Nat.lt_succ_self _) _).setCell (p := ⟨w.heap.size, 1, none⟩) (Nat.lt_succ_self _) _).mono (Nat.le_succ _)
  · exact ((bl_trans HB0.out HB2.out).setCell (p := ⟨w.heap.size, 0, none⟩) (Nat.le_refl _) _).setCell (p := ⟨w.heap.size, 1, none⟩) (Nat.le_refl _) _

theorem noughtS_out (n : Int) (w : World) (h : n < 0 ∨ 8 < n) :
    Calls Try.prog 43 #[.int .i64 n] w fun e w' => e = .returned (.agg #[.int .i64 0, .slice none 0 0]) ∧ Below w.heap.size w w' := by
  have HN := hide h
  clear h
  go_enter Try.func43, Try.ntmps43
  go_wp2_with (go_at_call 66; refine (inS_no _ _ _ _ HN.out).mono ?_; rintro e w1 ⟨rfl, hw⟩; subst w1)
  exact bodyPost_ret (v := .agg #[.int .i64 0, .slice none 0 0]) (by simp [results, Try.results43, go_sem]) rfl ⟨rfl, bl_alloc (bl_refl w) _⟩

theorem noughtS_in (n : Nat) (w : World) (h : n ≤ 8) :
    Calls Try.prog 43 #[.int .i64 n] w fun e w' => ∃ a c, e = .returned (.agg #[.int .i64 1, .slice a n c]) ∧ Own w' w.heap.size a n c (List.replicate n 0) ∧ Below w.heap.size w w' := by
  obtain ⟨i0, hi, hz0, hz1, hz2⟩ := info_parts Try.info3
  have h0 : ¬ (n : Int) < 0 := by omega
  have h8 : ¬ (8 : Int) < (n : Int) := by omega
  go_enter Try.func43, Try.ntmps43
  have hk0 : (w.alloc (Obj.cells #[Value.int .i64 0, Value.slice none 0 0] 29)).cell? ⟨w.heap.size, 0, none⟩ = some (Value.int .i64 0) := by go_simp
  have hk1 : (w.alloc (Obj.cells #[Value.int .i64 0, Value.slice none 0 0] 29)).cell? ⟨w.heap.size, 1, none⟩ = some (Value.slice none 0 0) := by go_simp
  have hf0 : (w.alloc (Obj.cells #[Value.int .i64 0, Value.slice none 0 0] 29)).frozen? ⟨w.heap.size, 0, none⟩ = false := by go_simp
  have hf1 : (w.alloc (Obj.cells #[Value.int .i64 0, Value.slice none 0 0] 29)).frozen? ⟨w.heap.size, 1, none⟩ = false := by go_simp
  have hzz : w.heap.size < (w.alloc (Obj.cells #[Value.int .i64 0, Value.slice none 0 0] 29)).heap.size := by simp only [World.size_alloc]; omega
  have HB0 := hide (bl_alloc (bl_refl w) (Obj.cells #[Value.int .i64 0, Value.slice none 0 0] 29))
  go_wp2_with (first | (go_at_call 66; refine (inS_yes _ _ _ _ (by omega) (by omega)).mono ?_; rintro e w1 ⟨rfl, hw⟩; subst w1) | (at_make; refine wpList_make_full _ rfl _ _ 27 rfl (w.alloc (Obj.cells #[Value.int .i64 0, Value.slice none 0 0] 29)).heap.size 3 i0 (.int .i64 0) 1 Try.underlying27 hi hz0 hz1 _ _ _ _ n rfl rfl rfl rfl (by rw [hz2]; omega) (by unfold maxLen; omega) (Nat.le_refl _) ?_))
  intro w2 hown hgrow
  generalize (w.alloc (Obj.cells #[Value.int .i64 0, Value.slice none 0 0] 29)) = w1 at *
  have hb2 := ((bl_refl w1).grown hgrow (Nat.le_refl _) (by simp))
  have HO := hide (own_made hown)
  replace hk0 := (hb2.cell (p := ⟨w.heap.size, 0, none⟩) hzz).trans hk0
  replace hk1 := (hb2.cell (p := ⟨w.heap.size, 1, none⟩) hzz).trans hk1
  replace hf0 := (hb2.frozen (p := ⟨w.heap.size, 0, none⟩) hzz).trans hf0
  replace hf1 := (hb2.frozen (p := ⟨w.heap.size, 1, none⟩) hzz).trans hf1
  have HB2 := hide hb2
  clear hown hgrow hb2
  go_wp2
  refine bodyPost_ret (v := .agg #[.int .i64 1, .slice (some ⟨w.heap.size + 1, 0, none⟩) n n]) (by simp [results, Try.results43, go_sem, hk0, hk1]) rfl ⟨_, _, rfl, ?_, ?_⟩
  · exact ((HO.out.setCell (p := ⟨w.heap.size, 0, none⟩) (Nat.lt_succ_self _) _).setCell (p := ⟨w.heap.size, 1, none⟩) (Nat.lt_succ_self _) _).mono (Nat.le_succ _)
  · exact ((bl_trans HB0.out HB2.out).setCell (p := ⟨w.heap.size, 0, none⟩) (Nat.le_refl _) _).setCell (p := ⟨w.heap.size, 1, none⟩) (Nat.le_refl _) _

theorem noughtI (n : Int) (w : World) :
    Calls Try.prog 44 #[.int .i64 n] w fun e w' => ∃ a c, e = .returned (.agg #[.int .i64 (noD n), .slice a (noL n).length c]) ∧ Own w' w.heap.size a (noL n).length c (noL n) ∧ Below w.heap.size w w' := by
  by_cases h : 0 ≤ n ∧ n ≤ 8
  · obtain ⟨k, rfl⟩ : ∃ k : Nat, n = k := ⟨n.toNat, by omega⟩
    have e1 : noD k = 1 := by unfold noD; rw [if_pos h]
    have e2 : noL k = List.replicate k 0 := by unfold noL; rw [if_pos h]; simp
    rw [e1, e2, List.length_replicate]
    exact noughtI_in k w (by omega)
  · have e1 : noD n = 0 := by unfold noD; rw [if_neg h]
    have e2 : noL n = [] := by unfold noL; rw [if_neg h]
    rw [e1, e2]
    exact (noughtI_out n w (by omega)).mono fun e w' ⟨he, hb⟩ => ⟨none, 0, he, Own.nil _ _, hb⟩

theorem noughtS (n : Int) (w : World) :
    Calls Try.prog 43 #[.int .i64 n] w fun e w' => ∃ a c, e = .returned (.agg #[.int .i64 (noD n), .slice a (noL n).length c]) ∧ Own w' w.heap.size a (noL n).length c (noL n) ∧ Below w.heap.size w w' := by
  by_cases h : 0 ≤ n ∧ n ≤ 8
  · obtain ⟨k, rfl⟩ : ∃ k : Nat, n = k := ⟨n.toNat, by omega⟩
    have e1 : noD k = 1 := by unfold noD; rw [if_pos h]
    have e2 : noL k = List.replicate k 0 := by unfold noL; rw [if_pos h]; simp
    rw [e1, e2, List.length_replicate]
    exact noughtS_in k w (by omega)
  · have e1 : noD n = 0 := by unfold noD; rw [if_neg h]
    have e2 : noL n = [] := by unfold noL; rw [if_neg h]
    rw [e1, e2]
    exact (noughtS_out n w (by omega)).mono fun e w' ⟨he, hb⟩ => ⟨none, 0, he, Own.nil _ _, hb⟩
end Go.Proofs.Ytkfiidldappdcaa
