/- The walk of the specification's VecMake. -/
import Derived.Test.YtkfiidldappdcaaVMake
namespace Go.Proofs.Ytkfiidldappdcaa
open Go.RowKit
set_option linter.unusedVariables false

theorem mkT_far {xs : List Int} {den : Int} {k : Nat} (hk : k < xs.length) (h : Far xs[k]) : mkT xs den = false := by
  cases e : mkT xs den with
  | false => rfl
  | true =>
    unfold mkT at e
    simp only [Bool.and_eq_true, decide_eq_true_eq] at e
    have := (winB_iff 1000000000 (at8 xs)).1 e.1.1.2 k (by omega)
    rw [at8_lt hk] at this
    unfold Far at h
    omega

set_option maxHeartbeats 2000000 in
theorem vecMakeS (a : Option Addr) (cap : Nat) (xs : List Int) (den : Int) (w : World) (hs : Seg w a xs.length cap xs) :
    Calls Try.prog 36 #[.slice a xs.length cap, .int .i64 den] w fun e w' => ∃ a' c', e = .returned (.tuple #[.agg #[.int .i64 (vmD xs den), .slice a' (vmL xs den).length c'], .bool (vmB xs den)]) ∧ Own w' w.heap.size a' (vmL xs den).length c' (vmL xs den) ∧ Below w.heap.size w w' := by
  have kr0 : (w.alloc (Obj.cells #[Value.int .i64 0, Value.slice none 0 0] 29)).cell? ⟨w.heap.size, 0, none⟩ = some (Value.int .i64 0) := by go_simp
  have kr1 : (w.alloc (Obj.cells #[Value.int .i64 0, Value.slice none 0 0] 29)).cell? ⟨w.heap.size, 1, none⟩ = some (Value.slice none 0 0) := by go_simp
  have fr0 : (w.alloc (Obj.cells #[Value.int .i64 0, Value.slice none 0 0] 29)).frozen? ⟨w.heap.size, 0, none⟩ = false := by go_simp
  have fr1 : (w.alloc (Obj.cells #[Value.int .i64 0, Value.slice none 0 0] 29)).frozen? ⟨w.heap.size, 1, none⟩ = false := by go_simp
  have zr : w.heap.size < (w.alloc (Obj.cells #[Value.int .i64 0, Value.slice none 0 0] 29)).heap.size := by simp only [World.size_alloc]; omega
  have HB := hide (bl_alloc (bl_refl w) (Obj.cells #[Value.int .i64 0, Value.slice none 0 0] 29))
  have HS := hide (hs.below HB.out)
  have hle := hs.le
  have hcl := hs.2.1
  have hcm := hs.2.2.1
  clear hs
  by_cases h8 : (8 : Int) < (xs.length : Int)
  · obtain ⟨N1, N2, N3⟩ := vm_no (xs := xs) (den := den) (by unfold mkT; rw [decide_eq_false (p := xs.length ≤ 8) (by omega)]; simp)
    clear kr0 kr1 fr0 fr1
    go_enter Try.func36, Try.ntmps36
    go_wp2
    rw [N1.out, N2.out, N3.out]
    exact bodyPost_ret (v := .tuple #[.agg #[.int .i64 0, .slice none 0 0], .bool false]) (by simp [results, Try.results36, go_sem, *]) rfl ⟨none, 0, rfl, Own.nil _ _, HB.out⟩
  rcases far_or den with hfar | ⟨hd1, hd2⟩
  · obtain ⟨N1, N2, N3⟩ := vm_no (xs := xs) (den := den) (by unfold mkT; rw [decide_eq_false (p := -1000000000 ≤ den ∧ den ≤ 1000000000) (by unfold Far at hfar; omega)]; simp)
    have HFA := hide hfar
    clear hfar kr0 kr1 fr0 fr1
    go_enter Try.func36, Try.ntmps36
    go_wp2_with (go_at_call 52; refine (smallS_out _ _ HFA.out).mono ?_; rintro e w5 ⟨rfl, hw⟩; subst w5)
    rw [N1.out, N2.out, N3.out]
    exact bodyPost_ret (v := .tuple #[.agg #[.int .i64 0, .slice none 0 0], .bool false]) (by simp [results, Try.results36, go_sem, *]) rfl ⟨none, 0, rfl, Own.nil _ _, HB.out⟩
  by_cases hz : den = 0
  · obtain ⟨N1, N2, N3⟩ := vm_no (xs := xs) (den := den) (by unfold mkT; rw [decide_eq_false (p := ¬ den = 0) (by omega)]; simp)
    have hzb : (den == 0) = true := by simp [hz]
    clear hz kr0 kr1 fr0 fr1
    go_enter Try.func36, Try.ntmps36
    go_wp2_with (go_at_call 52; refine (smallS_in _ _ hd1 hd2).mono ?_; rintro e w5 ⟨rfl, hw⟩; subst w5)
    rw [N1.out, N2.out, N3.out]
    exact bodyPost_ret (v := .tuple #[.agg #[.int .i64 0, .slice none 0 0], .bool false]) (by simp [results, Try.results36, go_sem, *]) rfl ⟨none, 0, rfl, Own.nil _ _, HB.out⟩
  have hzb : (den == 0) = false := by simp [hz]
  have HZ := hide hz
  clear hz
  go_enter Try.func36, Try.ntmps36
  go_wp2_with (go_at_call 52; refine (smallS_in _ _ hd1 hd2).mono ?_; rintro e w5 ⟨rfl, hw⟩; subst w5)
  generalize w.alloc (Obj.cells #[Value.int .i64 0, Value.slice none 0 0] 29) = w1 at *
  go_loop [6] (fun i => ∃ k : Nat, k ≤ xs.length ∧ i = .int .i64 k ∧ Hid (∀ j, j < k → -1000000000 ≤ at8 xs j ∧ at8 xs j ≤ 1000000000)) (fun i => xs.length - (intOf i).toNat)
  case atStart => exact ⟨0, Nat.zero_le _, rfl, hide (fun j h => by omega)⟩
  case round =>
    obtain ⟨k, hk, rfl, hj⟩ := hrel
    by_cases hlt : k < xs.length
    · have hlt' : (k : Int) < (xs.length : Int) := by omega
      rcases HS.out.2.2.2 with hn | ⟨g, o, rfl, hg, hc⟩
      · omega
      have hc1 := hc k hlt
      clear hc
      rcases far_or xs[k] with hfar | ⟨hx1, hx2⟩
      · obtain ⟨N1, N2, N3⟩ := vm_no (den := den) (mkT_far (den := den) hlt hfar)
        have HFA := hide hfar
        clear hfar
        generalize xs[k] = x at *
        go_wp2_with (go_at_call 52; refine (smallS_out _ _ HFA.out).mono ?_; rintro e w5 ⟨rfl, hw⟩; subst w5)
        rw [N1.out, N2.out, N3.out]
        exact bodyPost_ret (v := .tuple #[.agg #[.int .i64 0, .slice none 0 0], .bool false]) (by simp [results, Try.results36, go_sem, *]) rfl ⟨none, 0, rfl, Own.nil _ _, (HB.out.setCell (p := ⟨w.heap.size, 0, none⟩) (Nat.le_refl _) _).setCell (p := ⟨w.heap.size, 1, none⟩) (Nat.le_refl _) _⟩
      · have e1 := at8_lt hlt
        have HN : Hid (∀ j, j < k + 1 → -1000000000 ≤ at8 xs j ∧ at8 xs j ≤ 1000000000) := hide (fun j h => by
          by_cases e : j = k
          · subst e; rw [e1]; omega
          · exact hj.out j (by omega))
        clear hj e1
        generalize xs[k] = x at *
        go_wp2_with (go_at_call 52; refine (smallS_in _ _ hx1 hx2).mono ?_; rintro e w5 ⟨rfl, hw⟩; subst w5)
        exact ⟨⟨k + 1, by omega, by go_num, HN⟩, by simp [intOf]; omega⟩
    · obtain rfl : k = xs.length := by omega
      have hw8 : ∀ j, j < 8 → -1000000000 ≤ at8 xs j ∧ at8 xs j ≤ 1000000000 := fun j _ => by
        by_cases h : j < xs.length
        · exact hj.out j h
        · rw [at8_ge (by omega)]; omega
      have hx8 : xs.length ≤ 8 := by omega
      obtain ⟨N1, N2, N3⟩ := vm_yes (xs := xs) (den := den) (by unfold mkT; rw [(winB_iff 1000000000 (at8 xs)).2 hw8, decide_eq_true hx8, decide_eq_true (p := -1000000000 ≤ den ∧ den ≤ 1000000000) ⟨hd1, hd2⟩, decide_eq_true (p := ¬ den = 0) HZ.out]; rfl)
      have HMK := hide (fun w h => makeS a cap xs den w h hx8 HZ.out (by omega) (fun j hj => by have := hw8 j hj; omega))
      clear hw8 hj hlt hk
      go_wp2_with fail
      refine (HMK.out _ HS.out).mono ?_
      rintro e w5 ⟨a', c', rfl, ho, hb⟩
      have HO := hide ho
      have y4 := zr
      clear ho HMK HS
      replace kr0 := (hb.cell (p := ⟨w.heap.size, 0, none⟩) zr).trans kr0
      replace kr1 := (hb.cell (p := ⟨w.heap.size, 1, none⟩) zr).trans kr1
      replace fr0 := (hb.frozen (p := ⟨w.heap.size, 0, none⟩) zr).trans fr0
      replace fr1 := (hb.frozen (p := ⟨w.heap.size, 1, none⟩) zr).trans fr1
      replace HB := hide (bl_trans HB.out hb)
      clear hb
      generalize tlD den (at8 xs) = D at *
      generalize tlL xs.length den (at8 xs) = M at *
      generalize tlB den (at8 xs) = bb at *
      go_wp2
      rw [N1.out, N2.out, N3.out]
      refine bodyPost_ret (v := .tuple #[.agg #[.int .i64 D, .slice a' M.length c'], .bool bb]) (by simp [results, Try.results36, go_sem, *]) rfl ⟨a', c', rfl, ?_, ?_⟩
      · exact ((HO.out.setCell (p := ⟨w.heap.size, 0, none⟩) y4 _).setCell (p := ⟨w.heap.size, 1, none⟩) y4 _).mono (by omega)
      · exact (HB.out.setCell (p := ⟨w.heap.size, 0, none⟩) (Nat.le_refl _) _).setCell (p := ⟨w.heap.size, 1, none⟩) (Nat.le_refl _) _
end Go.Proofs.Ytkfiidldappdcaa
