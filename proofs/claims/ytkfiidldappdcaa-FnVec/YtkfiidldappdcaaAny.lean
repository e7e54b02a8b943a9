/- The walk of l04Any: powers that are drawn, right or not, in memory of their own. -/
import Derived.Test.YtkfiidldappdcaaSome
namespace Go.Proofs.Ytkfiidldappdcaa
open Go.RowKit
set_option linter.unusedVariables false

theorem own_off {W : World} {base : Nat} {a : Option Addr} {n c : Nat} {xs : List Int} (h : Own W base a n c xs) {p : Addr} (hp : ∀ k, (Value.slice a n c).ownBlock = some k → k ≠ p.block) (v : Value) : Own (W.setCell p v) base a n c xs := by
  refine h.kept (grown_set W p v) ?_
  cases hk : (Value.slice a n c).ownBlock with
  | none => exact .inl rfl
  | some k => exact .inr fun e => hp k hk (by cases e; rfl)
theorem Cur.drew {B : Nat} {a : Option Addr} {len cap : Nat} {w : World} (h : Cur B a len cap w) : Cur B a len cap w.drew := ⟨h.hB, h.c0, h.c1, h.c2, h.f1, h.f2, h.row, h.le, h.cp⟩
theorem Only.drew {B : Nat} {a w : World} (h : Only B a w) : Only B a w.drew := ⟨h.os, h.tape, h.output, h.size, h.block⟩
theorem only_of_drew {B : Nat} {a w : World} (h : Only B a.drew w) : Only B a w := ⟨h.os, h.tape, h.output, h.size, h.block⟩
theorem lbx {B : Nat} {W wA : World} {o : Obj} {P : Int → Prop} {n : Nat} (h : Only B (W.alloc o).drew wA) (hp : ∀ j, j < n → ∃ z : Int, P z ∧ (W.alloc o).cell? ⟨W.heap.size, j, none⟩ = some (.int .i64 z)) (hB : B < W.heap.size) : W.heap.size < wA.heap.size ∧ ∀ j, j < n → ∃ z : Int, P z ∧ wA.cell? ⟨W.heap.size, j, none⟩ = some (.int .i64 z) := by
  have hs := h.size
  simp only [World.size_drew, World.size_alloc] at hs
  refine ⟨by omega, fun j hj => ?_⟩
  obtain ⟨z, hz, hc⟩ := hp j hj
  exact ⟨z, hz, ((only_of_drew h).cell (p := ⟨W.heap.size, j, none⟩) (by simp) (by dsimp only; omega)).trans hc⟩

set_option maxHeartbeats 4000000 in
theorem anyD (B : Nat) (a : Option Addr) (len cap : Nat) (n : Nat) (w : World) (hc : Cur B a len cap w) (hn : n ≤ 8) :
    Calls Try.prog 55 #[.pointer (some ⟨B, 0, none⟩), .int .i64 n] w fun e w' => ∃ d a' c' xs, e = .returned (.agg #[.int .i64 d, .slice a' xs.length c']) ∧ Own w' w.heap.size a' xs.length c' xs ∧ Cur B a len cap w' ∧ Only B w w' := by
  have hB := hc.hB
  have q0 : (w.alloc (Obj.cells #[Value.int .i64 0, Value.slice none 0 0] 29)).cell? ⟨w.heap.size, 0, none⟩ = some (Value.int .i64 0) := by go_simp
  have p0 : (w.alloc (Obj.cells #[Value.int .i64 0, Value.slice none 0 0] 29)).frozen? ⟨w.heap.size, 0, none⟩ = false := by go_simp
  have q1 : (w.alloc (Obj.cells #[Value.int .i64 0, Value.slice none 0 0] 29)).cell? ⟨w.heap.size, 1, none⟩ = some (Value.slice none 0 0) := by go_simp
  have p1 : (w.alloc (Obj.cells #[Value.int .i64 0, Value.slice none 0 0] 29)).frozen? ⟨w.heap.size, 1, none⟩ = false := by go_simp
  have zz : w.heap.size < (w.alloc (Obj.cells #[Value.int .i64 0, Value.slice none 0 0] 29)).heap.size := by simp only [World.size_alloc]; omega
  have HC := hide (hc.alloc (Obj.cells #[Value.int .i64 0, Value.slice none 0 0] 29))
  have HON : Hid (Only B w (w.alloc (Obj.cells #[Value.int .i64 0, Value.slice none 0 0] 29))) := hide ((Only.refl B w).alloc _)
  clear hc
  have nB : w.heap.size ≠ B := by omega
  go_enter Try.func55, Try.ntmps55
  go_wp2_with fail
  generalize w.alloc (Obj.cells #[Value.int .i64 0, Value.slice none 0 0] 29) = w1 at *
  refine (someD B a len cap n _ HC.out hn).mono ?_
  rintro e w2 ⟨d, a', c', xs, rfl, ho, hc, hon⟩
  replace q0 := (hon.cell (p := ⟨w.heap.size, 0, none⟩) (by dsimp only; omega) nB).trans q0
  replace p0 := (hon.frozen (p := ⟨w.heap.size, 0, none⟩) (by dsimp only; omega) nB).trans p0
  replace q1 := (hon.cell (p := ⟨w.heap.size, 1, none⟩) (by dsimp only; omega) nB).trans q1
  replace p1 := (hon.frozen (p := ⟨w.heap.size, 1, none⟩) (by dsimp only; omega) nB).trans p1
  have z2 : w.heap.size < w2.heap.size := Nat.lt_of_lt_of_le zz hon.size
  replace HON := hide (HON.out.trans hon)
  replace HC := hide hc
  have HO := hide (ho.mono (base' := w.heap.size + 1) (by omega))
  have oU : ∀ k, (Value.slice a' xs.length c').ownBlock = some k → w.heap.size + 1 ≤ k ∧ k < w2.heap.size := fun k e => World.ownsRow.lt HO.out k e
  have HOU := hide oU
  have hBs := hc.hB
  clear hc hon ho oU zz
  have hcc := HO.out.seg.2.1
  have hcm := HO.out.seg.2.2.1
  go_wp2_with fail
  have hb := bl_alloc (bl_refl w2) (Obj.cells #[Value.int .i64 d, Value.slice a' xs.length c'] 29)
  have k0 : (w2.alloc (Obj.cells #[Value.int .i64 d, Value.slice a' xs.length c'] 29)).cell? ⟨w2.heap.size, 0, none⟩ = some (Value.int .i64 d) := by go_simp
  have f0 : (w2.alloc (Obj.cells #[Value.int .i64 d, Value.slice a' xs.length c'] 29)).frozen? ⟨w2.heap.size, 0, none⟩ = false := by go_simp
  have k1 : (w2.alloc (Obj.cells #[Value.int .i64 d, Value.slice a' xs.length c'] 29)).cell? ⟨w2.heap.size, 1, none⟩ = some (Value.slice a' xs.length c') := by go_simp
  have f1 : (w2.alloc (Obj.cells #[Value.int .i64 d, Value.slice a' xs.length c'] 29)).frozen? ⟨w2.heap.size, 1, none⟩ = false := by go_simp
  replace q0 := (hb.cell (p := ⟨w.heap.size, 0, none⟩) (by dsimp only; omega)).trans q0
  replace p0 := (hb.frozen (p := ⟨w.heap.size, 0, none⟩) (by dsimp only; omega)).trans p0
  replace q1 := (hb.cell (p := ⟨w.heap.size, 1, none⟩) (by dsimp only; omega)).trans q1
  replace p1 := (hb.frozen (p := ⟨w.heap.size, 1, none⟩) (by dsimp only; omega)).trans p1
  have z3 : w2.heap.size < (w2.alloc (Obj.cells #[Value.int .i64 d, Value.slice a' xs.length c'] 29)).heap.size := by simp only [World.size_alloc]; omega
  replace HC := hide (HC.out.alloc (Obj.cells #[Value.int .i64 d, Value.slice a' xs.length c'] 29))
  replace HON := hide (HON.out.bel hb)
  replace HO := hide (HO.out.below hb)
  clear hb
  generalize w2.alloc (Obj.cells #[Value.int .i64 d, Value.slice a' xs.length c'] 29) = w3 at *
  have nV : w2.heap.size ≠ B := by omega
  refine (belowD B a len cap _ HC.out 20 (by omega)).mono ?_
  rintro e w4 ⟨x, hx, rfl, hc, hon⟩
  have hx' : 0 ≤ x ∧ x < 20 := by rcases hx with h | h <;> omega
  obtain ⟨hx1, hx2⟩ := hx'
  replace q0 := (hon.cell (p := ⟨w.heap.size, 0, none⟩) (by dsimp only; omega) nB).trans q0
  replace p0 := (hon.frozen (p := ⟨w.heap.size, 0, none⟩) (by dsimp only; omega) nB).trans p0
  replace q1 := (hon.cell (p := ⟨w.heap.size, 1, none⟩) (by dsimp only; omega) nB).trans q1
  replace p1 := (hon.frozen (p := ⟨w.heap.size, 1, none⟩) (by dsimp only; omega) nB).trans p1
  replace k0 := (hon.cell (p := ⟨w2.heap.size, 0, none⟩) (by dsimp only; omega) nV).trans k0
  replace f0 := (hon.frozen (p := ⟨w2.heap.size, 0, none⟩) (by dsimp only; omega) nV).trans f0
  replace k1 := (hon.cell (p := ⟨w2.heap.size, 1, none⟩) (by dsimp only; omega) nV).trans k1
  replace f1 := (hon.frozen (p := ⟨w2.heap.size, 1, none⟩) (by dsimp only; omega) nV).trans f1
  replace z3 := Nat.lt_of_lt_of_le z3 hon.size
  replace HO := hide (HO.out.only hon (by omega))
  replace HON := hide (HON.out.trans hon)
  replace HC := hide hc
  clear hc hon hx
  have n1 : ¬ w.heap.size = w2.heap.size := by omega
  have n2 : ¬ w2.heap.size = w.heap.size := by omega
  by_cases h0 : x = 0
  · subst h0
    go_wp2_with fail
    have hb := bl_alloc (bl_refl w4) (Obj.cells #[Value.int .i64 0, Value.int .i64 (-1), Value.int .i64 720, Value.int .i64 721, Value.int .i64 2] 3)
    have HCA := hide (HC.out.alloc (Obj.cells #[Value.int .i64 0, Value.int .i64 (-1), Value.int .i64 720, Value.int .i64 721, Value.int .i64 2] 3))
    have HPK := hide (new_ints w4 #[Value.int .i64 0, Value.int .i64 (-1), Value.int .i64 720, Value.int .i64 721, Value.int .i64 2] 3 (fun z => -1000 ≤ z ∧ z ≤ 1000) (by
      intro v hv
      simp only [List.mem_cons, List.not_mem_nil, or_false] at hv
      rcases hv with rfl | rfl | rfl | rfl | rfl
      all_goals exact ⟨_, by omega, rfl⟩) 5 (by simp))
    replace q0 := (hb.cell (p := ⟨w.heap.size, 0, none⟩) (by dsimp only; omega)).trans q0
    replace p0 := (hb.frozen (p := ⟨w.heap.size, 0, none⟩) (by dsimp only; omega)).trans p0
    replace q1 := (hb.cell (p := ⟨w.heap.size, 1, none⟩) (by dsimp only; omega)).trans q1
    replace p1 := (hb.frozen (p := ⟨w.heap.size, 1, none⟩) (by dsimp only; omega)).trans p1
    replace k0 := (hb.cell (p := ⟨w2.heap.size, 0, none⟩) (by dsimp only; omega)).trans k0
    replace f0 := (hb.frozen (p := ⟨w2.heap.size, 0, none⟩) (by dsimp only; omega)).trans f0
    replace k1 := (hb.cell (p := ⟨w2.heap.size, 1, none⟩) (by dsimp only; omega)).trans k1
    replace f1 := (hb.frozen (p := ⟨w2.heap.size, 1, none⟩) (by dsimp only; omega)).trans f1
    have zL : w4.heap.size < (w4.alloc (Obj.cells #[Value.int .i64 0, Value.int .i64 (-1), Value.int .i64 720, Value.int .i64 721, Value.int .i64 2] 3)).heap.size := by simp only [World.size_alloc]; omega
    replace HO := hide (HO.out.below hb)
    replace HON := hide (HON.out.bel hb)
    have hBr := HC.out.hB
    clear hb HC
    generalize w4.alloc (Obj.cells #[Value.int .i64 0, Value.int .i64 (-1), Value.int .i64 720, Value.int .i64 721, Value.int .i64 2] 3) = w5 at *
    refine (pickIntD B a len cap _ HCA.out w4.heap.size 5 (fun z => -1000 ≤ z ∧ z ≤ 1000) zL (by omega) (by omega) (by omega) HPK.out).mono ?_
    rintro e w6 ⟨y, hy, rfl, hc, hon⟩
    replace q0 := (hon.cell (p := ⟨w.heap.size, 0, none⟩) (by dsimp only; omega) nB).trans q0
    replace p0 := (hon.frozen (p := ⟨w.heap.size, 0, none⟩) (by dsimp only; omega) nB).trans p0
    replace q1 := (hon.cell (p := ⟨w.heap.size, 1, none⟩) (by dsimp only; omega) nB).trans q1
    replace p1 := (hon.frozen (p := ⟨w.heap.size, 1, none⟩) (by dsimp only; omega) nB).trans p1
    replace k0 := (hon.cell (p := ⟨w2.heap.size, 0, none⟩) (by dsimp only; omega) nV).trans k0
    replace f0 := (hon.frozen (p := ⟨w2.heap.size, 0, none⟩) (by dsimp only; omega) nV).trans f0
    replace k1 := (hon.cell (p := ⟨w2.heap.size, 1, none⟩) (by dsimp only; omega) nV).trans k1
    replace f1 := (hon.frozen (p := ⟨w2.heap.size, 1, none⟩) (by dsimp only; omega) nV).trans f1
    replace HO := hide (HO.out.only hon (by omega))
    replace HON := hide (HON.out.trans hon)
    have HC := hide hc
    clear hc hon hy HCA HPK
    go_wp2
    refine bodyPost_ret (v := .agg #[.int .i64 y, .slice a' xs.length c']) (by simp [results, Try.results55, go_sem, *]) rfl ⟨y, a', c', xs, rfl, ?_, ?_, ?_⟩
    · exact (((own_off HO.out (p := ⟨w2.heap.size, 0, none⟩) (fun k e => by have := HOU.out k e; dsimp only; omega) _).setCell (p := ⟨w.heap.size, 0, none⟩) (Nat.lt_succ_self _) _).setCell (p := ⟨w.heap.size, 1, none⟩) (Nat.lt_succ_self _) _).mono (Nat.le_succ _)
    · exact HC.out.kept ((((Below.refl _ _).setCell (p := ⟨w2.heap.size, 0, none⟩) (by dsimp only; omega) _).setCell (p := ⟨w.heap.size, 0, none⟩) (by dsimp only; omega) _).setCell (p := ⟨w.heap.size, 1, none⟩) (by dsimp only; omega) _)
    · exact ((HON.out.grow (grown_set _ ⟨w2.heap.size, 0, none⟩ _) (fun q e => by cases e; dsimp only; omega)).grow (grown_set _ ⟨w.heap.size, 0, none⟩ _) (fun q e => by cases e; exact Nat.le_refl _)).grow (grown_set _ ⟨w.heap.size, 1, none⟩ _) (fun q e => by cases e; exact Nat.le_refl _)
  by_cases h1 : x = 1
  · subst h1
    by_cases hl0 : xs.length = 0
    · have hlz : ¬ (0 : Int) < (xs.length : Int) := by omega
      clear hl0
      go_wp2
      refine bodyPost_ret (v := .agg #[.int .i64 d, .slice a' xs.length c']) (by simp [results, Try.results55, go_sem, *]) rfl ⟨d, a', c', xs, rfl, ?_, ?_, ?_⟩
      · exact ((HO.out.setCell (p := ⟨w.heap.size, 0, none⟩) (Nat.lt_succ_self _) _).setCell (p := ⟨w.heap.size, 1, none⟩) (Nat.lt_succ_self _) _).mono (Nat.le_succ _)
      · exact HC.out.kept (((Below.refl _ _).setCell (p := ⟨w.heap.size, 0, none⟩) (by dsimp only; omega) _).setCell (p := ⟨w.heap.size, 1, none⟩) (by dsimp only; omega) _)
      · exact (HON.out.grow (grown_set _ ⟨w.heap.size, 0, none⟩ _) (fun q e => by cases e; exact Nat.le_refl _)).grow (grown_set _ ⟨w.heap.size, 1, none⟩ _) (fun q e => by cases e; exact Nat.le_refl _)
    have hlz : (0 : Int) < (xs.length : Int) := by omega
    rcases HO.out.cases with ⟨-, hq, -, -⟩ | ⟨g, rfl, hg1, hg2⟩
    · exact absurd hq hl0
    have hgU := HOU.out g rfl
    clear hl0
    go_wp2_with fail
    go_wp2_with fail
    have hB4 := HC.out.hB
    have HKV : Hid (∀ w', Only B w4 w' → (w'.cell? ⟨w2.heap.size, 1, none⟩ = some (Value.slice (some ⟨g, 0, none⟩) xs.length c'))) := hide (fun w' ho => (ho.cell (p := ⟨w2.heap.size, 1, none⟩) (by dsimp only; omega) nV).trans k1)
    have HPKx : Hid (∀ W : World, ∀ j, j < 5 → ∃ z : Int, (-1000000 ≤ z ∧ z ≤ 1000000) ∧ (W.alloc (Obj.cells #[Value.int .i64 100000, Value.int .i64 (-100000), Value.int .i64 100001, Value.int .i64 (-100001), Value.int .i64 99999] 3)).cell? ⟨W.heap.size, j, none⟩ = some (.int .i64 z)) := hide (fun W => new_ints W #[Value.int .i64 100000, Value.int .i64 (-100000), Value.int .i64 100001, Value.int .i64 (-100001), Value.int .i64 99999] 3 (fun z => -1000000 ≤ z ∧ z ≤ 1000000) (by
      intro v hv
      simp only [List.mem_cons, List.not_mem_nil, or_false] at hv
      rcases hv with rfl | rfl | rfl | rfl | rfl
      all_goals exact ⟨_, by omega, rfl⟩) 5 (by simp))
    go_region_held3 (fun w' => w'.cell? ⟨w2.heap.size, 1, none⟩ = some (Value.slice (some ⟨g, 0, none⟩) xs.length c'))
      (first | with_reducible exact HKV.out _ (Only.refl B w4).drew | with_reducible exact HKV.out _ hoB | with_reducible exact HKV.out _ hoA | with_reducible exact HKV.out _ ((Only.refl B w4).alloc _).drew | with_reducible exact HKV.out _ (hoA.alloc _) | exact (World.cell?_of_block (Below.heap_setCell _ _ _ _ (by dsimp only; omega))).trans (HKV.out _ hoB))
      (first
        | (go_at_call 54; refine (belowD B a len cap _ (by first | with_reducible exact HC.out.drew | with_reducible exact (HC.out.alloc _).drew) _ (by omega)).mono ?_; rintro e wA ⟨iA, hiA, rfl, hcA, hoAr⟩; have hoA : Only B w4 wA := (by first | with_reducible exact only_of_drew hoAr | with_reducible exact (((Only.refl B w4).alloc _).trans (only_of_drew hoAr))); have hsA := hoA.size; have hBA := hcA.hB; have hiA' : 0 ≤ iA ∧ iA < (xs.length : Int) := (by rcases hiA with h | h <;> omega); obtain ⟨hi1, hi2⟩ := hiA'; obtain ⟨kA, rfl⟩ := Int.eq_ofNat_of_zero_le hi1; clear hiA; (try with_reducible have HLb := hide (lbx hoAr (HPKx.out w4) hB4)))
        | (go_at_call 62; have hqb := HLb.out; refine (pickIntD B a len cap _ hcA w4.heap.size 5 (fun z => -1000000 ≤ z ∧ z ≤ 1000000) hqb.1 (by omega) (by omega) (by omega) hqb.2).mono ?_; rintro e wB ⟨y, hy, rfl, hcB, hoBr⟩; have hoB : Only B w4 wB := (by first | with_reducible exact hoA.trans hoBr | with_reducible exact (hoA.alloc _).trans hoBr); have HOB := hide (HO.out.only hoB (by omega)); obtain ⟨yo, hcl⟩ := own_has HOB.out kA (by omega); have hfz := World.ownsRow.frozenAt HOB.out kA; have hsB := hoB.size; have HCB := hide hcB; have HOnB := hide hoB; clear hcB)
        | (go_at_call 62; refine (pickIntD B a len cap _ (hcA.alloc _) _ 5 (fun z => -1000000 ≤ z ∧ z ≤ 1000000) (by simp only [World.size_alloc]; omega) (by omega) (by omega) (by omega) (HPKx.out wA)).mono ?_; rintro e wB ⟨y, hy, rfl, hcB, hoBr⟩; have hoB : Only B w4 wB := (by first | with_reducible exact hoA.trans hoBr | with_reducible exact (hoA.alloc _).trans hoBr); have HOB := hide (HO.out.only hoB (by omega)); obtain ⟨yo, hcl⟩ := own_has HOB.out kA (by omega); have hfz := World.ownsRow.frozenAt HOB.out kA; have hsB := hoB.size; have HCB := hide hcB; have HOnB := hide hoB; clear hcB))
    all_goals
      have hoB := HOnB.out
      replace q0 := (hoB.cell (p := ⟨w.heap.size, 0, none⟩) (by dsimp only; omega) nB).trans q0
      replace p0 := (hoB.frozen (p := ⟨w.heap.size, 0, none⟩) (by dsimp only; omega) nB).trans p0
      replace q1 := (hoB.cell (p := ⟨w.heap.size, 1, none⟩) (by dsimp only; omega) nB).trans q1
      replace p1 := (hoB.frozen (p := ⟨w.heap.size, 1, none⟩) (by dsimp only; omega) nB).trans p1
      replace k0 := (hoB.cell (p := ⟨w2.heap.size, 0, none⟩) (by dsimp only; omega) nV).trans k0
      replace k1 := (hoB.cell (p := ⟨w2.heap.size, 1, none⟩) (by dsimp only; omega) nV).trans k1
      replace HON := hide (HON.out.trans hoB)
      clear hoB HOnB hoA hoAr hoBr hcA HC HKV HPKx
      have m1 : ¬ g = w.heap.size := by omega
      have m2 : ¬ g = w2.heap.size := by omega
      have m3 : ¬ w.heap.size = g := by omega
      have m4 : ¬ w2.heap.size = g := by omega
      go_wp2
      refine bodyPost_ret (v := .agg #[.int .i64 d, .slice (some ⟨g, 0, none⟩) xs.length c']) (by simp [results, Try.results55, go_sem, *]) rfl ⟨d, some ⟨g, 0, none⟩, c', xs.set kA y, by rw [List.length_set], ?_, ?_, ?_⟩
      · rw [List.length_set]; exact (((own_set HOB.out kA y).1.setCell (p := ⟨w.heap.size, 0, none⟩) (Nat.lt_succ_self _) _).setCell (p := ⟨w.heap.size, 1, none⟩) (Nat.lt_succ_self _) _).mono (Nat.le_succ _)
      · exact HCB.out.kept ((((Below.refl _ _).setCell (p := ⟨g, kA, none⟩) (by dsimp only; omega) _).setCell (p := ⟨w.heap.size, 0, none⟩) (by dsimp only; omega) _).setCell (p := ⟨w.heap.size, 1, none⟩) (by dsimp only; omega) _)
      · exact ((HON.out.grow (grown_set _ ⟨g, kA, none⟩ _) (fun q e => by cases e; dsimp only; omega)).grow (grown_set _ ⟨w.heap.size, 0, none⟩ _) (fun q e => by cases e; exact Nat.le_refl _)).grow (grown_set _ ⟨w.heap.size, 1, none⟩ _) (fun q e => by cases e; exact Nat.le_refl _)
  by_cases h2 : x = 2
  · subst h2
    go_wp2
    refine bodyPost_ret (v := .agg #[.int .i64 0, .slice none 0 0]) (by simp [results, Try.results55, go_sem, *]) rfl ⟨0, none, 0, [], rfl, Own.nil _ _, ?_, ?_⟩
    · exact HC.out.kept (((Below.refl _ _).setCell (p := ⟨w.heap.size, 0, none⟩) (by dsimp only; omega) _).setCell (p := ⟨w.heap.size, 1, none⟩) (by dsimp only; omega) _)
    · exact (HON.out.grow (grown_set _ ⟨w.heap.size, 0, none⟩ _) (fun q e => by cases e; exact Nat.le_refl _)).grow (grown_set _ ⟨w.heap.size, 1, none⟩ _) (fun q e => by cases e; exact Nat.le_refl _)
  by_cases h3 : x = 3
  · subst h3
    go_wp2_with fail
    have hb := bl_alloc (bl_refl w4) (Obj.cells #[Value.int .i64 719, Value.int .i64 720, Value.int .i64 360, Value.int .i64 1] 3)
    have HCA := hide (HC.out.alloc (Obj.cells #[Value.int .i64 719, Value.int .i64 720, Value.int .i64 360, Value.int .i64 1] 3))
    have HPK := hide (new_ints w4 #[Value.int .i64 719, Value.int .i64 720, Value.int .i64 360, Value.int .i64 1] 3 (fun z => -1000 ≤ z ∧ z ≤ 1000) (by
      intro v hv
      simp only [List.mem_cons, List.not_mem_nil, or_false] at hv
      rcases hv with rfl | rfl | rfl | rfl
      all_goals exact ⟨_, by omega, rfl⟩) 4 (by simp))
    replace q0 := (hb.cell (p := ⟨w.heap.size, 0, none⟩) (by dsimp only; omega)).trans q0
    replace p0 := (hb.frozen (p := ⟨w.heap.size, 0, none⟩) (by dsimp only; omega)).trans p0
    replace q1 := (hb.cell (p := ⟨w.heap.size, 1, none⟩) (by dsimp only; omega)).trans q1
    replace p1 := (hb.frozen (p := ⟨w.heap.size, 1, none⟩) (by dsimp only; omega)).trans p1
    replace k0 := (hb.cell (p := ⟨w2.heap.size, 0, none⟩) (by dsimp only; omega)).trans k0
    replace f0 := (hb.frozen (p := ⟨w2.heap.size, 0, none⟩) (by dsimp only; omega)).trans f0
    replace k1 := (hb.cell (p := ⟨w2.heap.size, 1, none⟩) (by dsimp only; omega)).trans k1
    replace f1 := (hb.frozen (p := ⟨w2.heap.size, 1, none⟩) (by dsimp only; omega)).trans f1
    have zL : w4.heap.size < (w4.alloc (Obj.cells #[Value.int .i64 719, Value.int .i64 720, Value.int .i64 360, Value.int .i64 1] 3)).heap.size := by simp only [World.size_alloc]; omega
    replace HO := hide (HO.out.below hb)
    replace HON := hide (HON.out.bel hb)
    have hBr := HC.out.hB
    clear hb HC
    generalize w4.alloc (Obj.cells #[Value.int .i64 719, Value.int .i64 720, Value.int .i64 360, Value.int .i64 1] 3) = w5 at *
    refine (pickIntD B a len cap _ HCA.out w4.heap.size 4 (fun z => -1000 ≤ z ∧ z ≤ 1000) zL (by omega) (by omega) (by omega) HPK.out).mono ?_
    rintro e w6 ⟨y, hy, rfl, hc, hon⟩
    replace q0 := (hon.cell (p := ⟨w.heap.size, 0, none⟩) (by dsimp only; omega) nB).trans q0
    replace p0 := (hon.frozen (p := ⟨w.heap.size, 0, none⟩) (by dsimp only; omega) nB).trans p0
    replace q1 := (hon.cell (p := ⟨w.heap.size, 1, none⟩) (by dsimp only; omega) nB).trans q1
    replace p1 := (hon.frozen (p := ⟨w.heap.size, 1, none⟩) (by dsimp only; omega) nB).trans p1
    replace k0 := (hon.cell (p := ⟨w2.heap.size, 0, none⟩) (by dsimp only; omega) nV).trans k0
    replace f0 := (hon.frozen (p := ⟨w2.heap.size, 0, none⟩) (by dsimp only; omega) nV).trans f0
    replace k1 := (hon.cell (p := ⟨w2.heap.size, 1, none⟩) (by dsimp only; omega) nV).trans k1
    replace f1 := (hon.frozen (p := ⟨w2.heap.size, 1, none⟩) (by dsimp only; omega) nV).trans f1
    replace HO := hide (HO.out.only hon (by omega))
    replace HON := hide (HON.out.trans hon)
    have HC := hide hc
    clear hc hon hy HCA HPK
    go_wp2
    refine bodyPost_ret (v := .agg #[.int .i64 y, .slice a' xs.length c']) (by simp [results, Try.results55, go_sem, *]) rfl ⟨y, a', c', xs, rfl, ?_, ?_, ?_⟩
    · exact (((own_off HO.out (p := ⟨w2.heap.size, 0, none⟩) (fun k e => by have := HOU.out k e; dsimp only; omega) _).setCell (p := ⟨w.heap.size, 0, none⟩) (Nat.lt_succ_self _) _).setCell (p := ⟨w.heap.size, 1, none⟩) (Nat.lt_succ_self _) _).mono (Nat.le_succ _)
    · exact HC.out.kept ((((Below.refl _ _).setCell (p := ⟨w2.heap.size, 0, none⟩) (by dsimp only; omega) _).setCell (p := ⟨w.heap.size, 0, none⟩) (by dsimp only; omega) _).setCell (p := ⟨w.heap.size, 1, none⟩) (by dsimp only; omega) _)
    · exact ((HON.out.grow (grown_set _ ⟨w2.heap.size, 0, none⟩ _) (fun q e => by cases e; dsimp only; omega)).grow (grown_set _ ⟨w.heap.size, 0, none⟩ _) (fun q e => by cases e; exact Nat.le_refl _)).grow (grown_set _ ⟨w.heap.size, 1, none⟩ _) (fun q e => by cases e; exact Nat.le_refl _)
  have b0 : (x == 0) = false := by simp [h0]
  have b1 : (x == 1) = false := by simp [h1]
  have b2 : (x == 2) = false := by simp [h2]
  have b3 : (x == 3) = false := by simp [h3]
  clear h0 h1 h2 h3
  go_wp2
  refine bodyPost_ret (v := .agg #[.int .i64 d, .slice a' xs.length c']) (by simp [results, Try.results55, go_sem, *]) rfl ⟨d, a', c', xs, rfl, ?_, ?_, ?_⟩
  · exact ((HO.out.setCell (p := ⟨w.heap.size, 0, none⟩) (Nat.lt_succ_self _) _).setCell (p := ⟨w.heap.size, 1, none⟩) (Nat.lt_succ_self _) _).mono (Nat.le_succ _)
  · exact HC.out.kept (((Below.refl _ _).setCell (p := ⟨w.heap.size, 0, none⟩) (by dsimp only; omega) _).setCell (p := ⟨w.heap.size, 1, none⟩) (by dsimp only; omega) _)
  · exact (HON.out.grow (grown_set _ ⟨w.heap.size, 0, none⟩ _) (fun q e => by cases e; exact Nat.le_refl _)).grow (grown_set _ ⟨w.heap.size, 1, none⟩ _) (fun q e => by cases e; exact Nat.le_refl _)
end Go.Proofs.Ytkfiidldappdcaa
