/- The walk of the specification's VecScale. -/
import Derived.Test.YtkfiidldappdcaaVScale
namespace Go.Proofs.Ytkfiidldappdcaa
open Go.RowKit
set_option linter.unusedVariables false

theorem own_empty (w : World) {h : Nat → Int} : Own (w.alloc (Obj.cells #[] 3)) w.heap.size (some ⟨w.heap.size, 0, none⟩) 0 0 (lst8 0 h) := by
  have := World.ownsRow_lit (base := w.heap.size) (e := 3) (size := 1) w #[] 0 (by simp) (by unfold maxLen; omega) rfl
  unfold Own lst8
  simpa using this
theorem seg_one {W : World} {N : Nat} {x : Int} (h : W.cell? ⟨N, 0, none⟩ = some (.int .i64 x)) : Seg W (some ⟨N, 0, none⟩) 1 1 [x] :=
  ⟨rfl, Nat.le_refl _, by omega, .inr ⟨N, 0, rfl, World.block_lt_of_cell? W ⟨N, 0, none⟩ h, fun j hj => by
    obtain rfl : j = 0 := by simpa using hj
    simpa using h⟩⟩
set_option maxHeartbeats 4000000 in
theorem vecScaleS (d1 : Int) (a : Option Addr) (cap : Nat) (xs : List Int) (p q : Int) (w : World) (hs : Seg w a xs.length cap xs) :
    Calls Try.prog 27 #[.agg #[.int .i64 d1, .slice a xs.length cap], .int .i64 p, .int .i64 q] w fun e w' => ∃ a' c', e = .returned (.tuple #[.agg #[.int .i64 (scD d1 xs p q), .slice a' (scL d1 xs p q).length c'], .bool (scB d1 xs p q)]) ∧ Own w' w.heap.size a' (scL d1 xs p q).length c' (scL d1 xs p q) ∧ Below w.heap.size w w' := by
  have kv0 : ((w.alloc (Obj.cells #[Value.int .i64 d1, Value.slice a xs.length cap] 29)).alloc (Obj.cells #[Value.int .i64 0, Value.slice none 0 0] 29)).cell? ⟨w.heap.size, 0, none⟩ = some (Value.int .i64 d1) := by go_simp
  have kv1 : ((w.alloc (Obj.cells #[Value.int .i64 d1, Value.slice a xs.length cap] 29)).alloc (Obj.cells #[Value.int .i64 0, Value.slice none 0 0] 29)).cell? ⟨w.heap.size, 1, none⟩ = some (Value.slice a xs.length cap) := by go_simp
  have kr0 : ((w.alloc (Obj.cells #[Value.int .i64 d1, Value.slice a xs.length cap] 29)).alloc (Obj.cells #[Value.int .i64 0, Value.slice none 0 0] 29)).cell? ⟨w.heap.size + 1, 0, none⟩ = some (Value.int .i64 0) := by go_simp
  have fr0 : ((w.alloc (Obj.cells #[Value.int .i64 d1, Value.slice a xs.length cap] 29)).alloc (Obj.cells #[Value.int .i64 0, Value.slice none 0 0] 29)).frozen? ⟨w.heap.size + 1, 0, none⟩ = false := by go_simp
  have kr1 : ((w.alloc (Obj.cells #[Value.int .i64 d1, Value.slice a xs.length cap] 29)).alloc (Obj.cells #[Value.int .i64 0, Value.slice none 0 0] 29)).cell? ⟨w.heap.size + 1, 1, none⟩ = some (Value.slice none 0 0) := by go_simp
  have fr1 : ((w.alloc (Obj.cells #[Value.int .i64 d1, Value.slice a xs.length cap] 29)).alloc (Obj.cells #[Value.int .i64 0, Value.slice none 0 0] 29)).frozen? ⟨w.heap.size + 1, 1, none⟩ = false := by go_simp
  have zr : w.heap.size + 1 < ((w.alloc (Obj.cells #[Value.int .i64 d1, Value.slice a xs.length cap] 29)).alloc (Obj.cells #[Value.int .i64 0, Value.slice none 0 0] 29)).heap.size := by simp only [World.size_alloc]; omega
  have HB := hide (bl_alloc (bl_alloc (bl_refl w) (Obj.cells #[Value.int .i64 d1, Value.slice a xs.length cap] 29)) (Obj.cells #[Value.int .i64 0, Value.slice none 0 0] 29))
  have H0S := hide hs
  have HS := hide (hs.below HB.out)
  have hle := hs.le
  have hcl := hs.2.1
  have hcm := hs.2.2.1
  clear hs
  go_enter Try.func27, Try.ntmps27
  go_wp2_with fail
  generalize ((w.alloc (Obj.cells #[Value.int .i64 d1, Value.slice a xs.length cap] 29)).alloc (Obj.cells #[Value.int .i64 0, Value.slice none 0 0] 29)) = w1 at *
  refine (vecOkS d1 a cap xs _ HS.out).mono ?_
  rintro e w2 ⟨rfl, hb⟩
  replace kv0 := (hb.cell (p := ⟨w.heap.size, 0, none⟩) (by dsimp only; omega)).trans kv0
  replace kv1 := (hb.cell (p := ⟨w.heap.size, 1, none⟩) (by dsimp only; omega)).trans kv1
  replace kr0 := (hb.cell (p := ⟨w.heap.size + 1, 0, none⟩) (by dsimp only; omega)).trans kr0
  replace fr0 := (hb.frozen (p := ⟨w.heap.size + 1, 0, none⟩) (by dsimp only; omega)).trans fr0
  replace kr1 := (hb.cell (p := ⟨w.heap.size + 1, 1, none⟩) (by dsimp only; omega)).trans kr1
  replace fr1 := (hb.frozen (p := ⟨w.heap.size + 1, 1, none⟩) (by dsimp only; omega)).trans fr1
  replace zr := Nat.lt_of_lt_of_le zr hb.size
  replace HS := hide (HS.out.below hb)
  replace HB := hide (bl_trans HB.out hb)
  clear hb
  cases hv : vokB d1 xs with
  | false =>
    obtain ⟨N1, N2, N3⟩ := sc_no (d1 := d1) (xs := xs) (p := p) (q := q) (by unfold scT; rw [hv]; rfl)
    clear hv
    go_wp2
    rw [N1.out, N2.out, N3.out]
    exact bodyPost_ret (v := .tuple #[.agg #[.int .i64 0, .slice none 0 0], .bool false]) (by simp [results, Try.results27, go_sem, *]) rfl ⟨none, 0, rfl, Own.nil _ _, (HB.out.setCell (p := ⟨w.heap.size + 1, 0, none⟩) (Nat.le_succ _) _).setCell (p := ⟨w.heap.size + 1, 1, none⟩) (Nat.le_succ _) _⟩
  | true =>
  have HV := hide hv
  clear hv
  go_wp2_with fail
  rcases far_or p with hfar | ⟨hp1, hp2⟩
  · obtain ⟨N1, N2, N3⟩ := sc_no (d1 := d1) (xs := xs) (p := p) (q := q) (by unfold scT; rw [decide_eq_false (p := -1000000000 ≤ p ∧ p ≤ 1000000000) (by unfold Far at hfar; omega)]; simp)
    have HFA := hide hfar
    clear hfar
    refine (smallS_out _ _ HFA.out).mono ?_
    rintro e w5 ⟨rfl, hw⟩
    subst w5
    go_wp2
    rw [N1.out, N2.out, N3.out]
    exact bodyPost_ret (v := .tuple #[.agg #[.int .i64 0, .slice none 0 0], .bool false]) (by simp [results, Try.results27, go_sem, *]) rfl ⟨none, 0, rfl, Own.nil _ _, (HB.out.setCell (p := ⟨w.heap.size + 1, 0, none⟩) (Nat.le_succ _) _).setCell (p := ⟨w.heap.size + 1, 1, none⟩) (Nat.le_succ _) _⟩
  refine (smallS_in _ _ hp1 hp2).mono ?_
  rintro e w5 ⟨rfl, hw⟩
  subst w5
  go_wp2_with fail
  rcases far_or q with hfar | ⟨hq1, hq2⟩
  · obtain ⟨N1, N2, N3⟩ := sc_no (d1 := d1) (xs := xs) (p := p) (q := q) (by unfold scT; rw [decide_eq_false (p := -1000000000 ≤ q ∧ q ≤ 1000000000) (by unfold Far at hfar; omega)]; simp)
    have HFA := hide hfar
    clear hfar
    refine (smallS_out _ _ HFA.out).mono ?_
    rintro e w5 ⟨rfl, hw⟩
    subst w5
    go_wp2
    rw [N1.out, N2.out, N3.out]
    exact bodyPost_ret (v := .tuple #[.agg #[.int .i64 0, .slice none 0 0], .bool false]) (by simp [results, Try.results27, go_sem, *]) rfl ⟨none, 0, rfl, Own.nil _ _, (HB.out.setCell (p := ⟨w.heap.size + 1, 0, none⟩) (Nat.le_succ _) _).setCell (p := ⟨w.heap.size + 1, 1, none⟩) (Nat.le_succ _) _⟩
  refine (smallS_in _ _ hq1 hq2).mono ?_
  rintro e w5 ⟨rfl, hw⟩
  subst w5
  by_cases hz : q = 0
  · obtain ⟨N1, N2, N3⟩ := sc_no (d1 := d1) (xs := xs) (p := p) (q := q) (by unfold scT; rw [decide_eq_false (p := ¬ q = 0) (by omega)]; simp)
    have hzb : (q == 0) = true := by simp [hz]
    clear hz
    go_wp2
    rw [N1.out, N2.out, N3.out]
    exact bodyPost_ret (v := .tuple #[.agg #[.int .i64 0, .slice none 0 0], .bool false]) (by simp [results, Try.results27, go_sem, *]) rfl ⟨none, 0, rfl, Own.nil _ _, (HB.out.setCell (p := ⟨w.heap.size + 1, 0, none⟩) (Nat.le_succ _) _).setCell (p := ⟨w.heap.size + 1, 1, none⟩) (Nat.le_succ _) _⟩
  have hzb : (q == 0) = false := by simp [hz]
  obtain ⟨N1, N2, N3⟩ := sc_yes (d1 := d1) (xs := xs) (p := p) (q := q) (by unfold scT; rw [HV.out, decide_eq_true (p := -1000000000 ≤ p ∧ p ≤ 1000000000) ⟨hp1, hp2⟩, decide_eq_true (p := -1000000000 ≤ q ∧ q ≤ 1000000000) ⟨hq1, hq2⟩, decide_eq_true (p := ¬ q = 0) hz]; rfl)
  have h8 := vok_len HV.out
  obtain ⟨⟨g1, g2⟩, HFf⟩ := vok_facts HV.out
  have HF := hide HFf
  clear HFf
  obtain ⟨m1, m2⟩ := mul_bd d1 q 720 1000000000 (by omega) (by omega)
  have hdq : ¬ d1 * q = 0 := fun h => by rcases Int.mul_eq_zero.1 h with h | h <;> omega
  have HAT : Hid (at8 (lst8 xs.length (fun j => pwF xs j * p)) = fun j => pwF xs j * p) := hide (at8_lst8 _ _ (fun j hj => by rw [pwF_ge hj, Int.zero_mul]))
  have HMK : Hid (∀ (a' : Option Addr) (c' : Nat) (w : World), Seg w a' xs.length c' (lst8 xs.length (fun j => pwF xs j * p)) → Calls Try.prog 61 #[.slice a' xs.length c', .int .i64 (d1 * q)] w fun e w' => ∃ a'' c'', e = .returned (.tuple #[.agg #[.int .i64 (tlD (d1 * q) (fun j => pwF xs j * p)), .slice a'' (tlL xs.length (d1 * q) (fun j => pwF xs j * p)).length c''], .bool (tlB (d1 * q) (fun j => pwF xs j * p))]) ∧ Own w' w.heap.size a'' (tlL xs.length (d1 * q) (fun j => pwF xs j * p)).length c'' (tlL xs.length (d1 * q) (fun j => pwF xs j * p)) ∧ Below w.heap.size w w') := hide (fun a' c' w h => by
    have hl := lst8_len xs.length (fun j => pwF xs j * p)
    have := makeS a' c' (lst8 xs.length (fun j => pwF xs j * p)) (d1 * q) w (by rw [hl]; exact h) (by omega) hdq (by omega) (fun j hj => by rw [HAT.out]; have := mul_bd (pwF xs j) p 100000 1000000000 (HF.out j hj) (by omega); dsimp only; omega)
    rw [hl, HAT.out] at this
    exact this)
  clear hz hdq
  go_wp2
  have hb := bl_alloc (bl_refl w2) (Obj.cells #[] 3)
  have HO0 : Hid (Own (w2.alloc (Obj.cells #[] 3)) w2.heap.size (some ⟨w2.heap.size, 0, none⟩) 0 0 (lst8 0 (fun j => pwF xs j * p))) := hide (own_empty w2)
  have y2 := zr
  replace kv0 := (hb.cell (p := ⟨w.heap.size, 0, none⟩) (by dsimp only; omega)).trans kv0
  replace kv1 := (hb.cell (p := ⟨w.heap.size, 1, none⟩) (by dsimp only; omega)).trans kv1
  replace kr0 := (hb.cell (p := ⟨w.heap.size + 1, 0, none⟩) (by dsimp only; omega)).trans kr0
  replace fr0 := (hb.frozen (p := ⟨w.heap.size + 1, 0, none⟩) (by dsimp only; omega)).trans fr0
  replace kr1 := (hb.cell (p := ⟨w.heap.size + 1, 1, none⟩) (by dsimp only; omega)).trans kr1
  replace fr1 := (hb.frozen (p := ⟨w.heap.size + 1, 1, none⟩) (by dsimp only; omega)).trans fr1
  replace zr := Nat.lt_of_lt_of_le zr hb.size
  replace HS := hide (HS.out.below hb)
  replace HB := hide (bl_trans HB.out hb)
  clear hb
  generalize w2.alloc (Obj.cells #[] 3) = w3 at *
  have y3 : w2.heap.size ≤ w3.heap.size := HO0.out.seg.2.1 |> fun _ => by have := World.ownsRow.lt HO0.out w2.heap.size rfl; omega
  go_loopw [8, 9] (fun l i wr => ∃ (k : Nat) (a' : Option Addr) (c' : Nat), k ≤ xs.length ∧ i = .int .i64 k ∧ l = .slice a' k c' ∧ w2.heap.size ≤ wr.heap.size ∧ wr.cell? ⟨w.heap.size, 0, none⟩ = some (Value.int .i64 d1) ∧ wr.cell? ⟨w.heap.size, 1, none⟩ = some (Value.slice a xs.length cap) ∧ wr.cell? ⟨w.heap.size + 1, 0, none⟩ = some (Value.int .i64 0) ∧ wr.cell? ⟨w.heap.size + 1, 1, none⟩ = some (Value.slice none 0 0) ∧ wr.frozen? ⟨w.heap.size + 1, 0, none⟩ = false ∧ wr.frozen? ⟨w.heap.size + 1, 1, none⟩ = false ∧ Hid (Own wr w2.heap.size a' k c' (lst8 k (fun j => pwF xs j * p))) ∧ Hid (Seg wr a xs.length cap xs) ∧ Hid (Below w.heap.size w wr)) (fun _ i _ => xs.length - (intOf i).toNat)
  case atStart => exact ⟨0, _, _, Nat.zero_le _, rfl, rfl, y3, kv0, kv1, kr0, kr1, fr0, fr1, HO0, HS, HB⟩
  case round =>
    clear kv0 kv1 kr0 kr1 fr0 fr1 HO0 HS HB zr
    obtain ⟨k, a', c', hk, rfl, rfl, zr, kv0, kv1, kr0, kr1, fr0, fr1, HO, HS, HB⟩ := hrel
    by_cases hlt : k < xs.length
    · have hlt' : (k : Int) < (xs.length : Int) := by omega
      rcases HS.out.2.2.2 with hn | ⟨g, o, rfl, hg, hc⟩
      · omega
      have hc1 := hc k hlt
      clear hc
      rw [← pwF_lt h8 hlt] at hc1
      have f0 := HF.out k (by omega)
      obtain ⟨u1, u2⟩ := mul_bd (pwF xs k) p 100000 1000000000 f0 (by omega)
      obtain ⟨f1, f2⟩ := f0
      have HSN : Hid (lst8 (k + 1) (fun j => pwF xs j * p) = lst8 k (fun j => pwF xs j * p) ++ [pwF xs k * p]) := hide (lst8_snoc k _)
      generalize pwF xs k = x at *
      have hbn := bl_alloc (bl_refl wr) (Obj.cells #[Value.int .i64 (x * p)] 3)
      have hnc : (wr.alloc (Obj.cells #[Value.int .i64 (x * p)] 3)).cell? ⟨wr.heap.size, 0, none⟩ = some (Value.int .i64 (x * p)) := by go_simp
      have HSE := hide (seg_one hnc)
      have HOW := hide (HO.out.below hbn)
      have hne : ∀ g, (Value.slice a' k c').ownBlock = some g → w2.heap.size ≤ g ∧ g < wr.heap.size := fun g e => World.ownsRow.lt HO.out g e
      have HKP : Hid (∀ w5, (wr.alloc (Obj.cells #[Value.int .i64 (x * p)] 3)).grownBy w5 (Value.slice a' k c').ownBlock → (w2.heap.size ≤ w5.heap.size ∧ w5.cell? ⟨w.heap.size, 0, none⟩ = some (Value.int .i64 d1) ∧ w5.cell? ⟨w.heap.size, 1, none⟩ = some (Value.slice (some ⟨g, o, none⟩) xs.length cap) ∧ w5.cell? ⟨w.heap.size + 1, 0, none⟩ = some (Value.int .i64 0) ∧ w5.cell? ⟨w.heap.size + 1, 1, none⟩ = some (Value.slice none 0 0) ∧ w5.frozen? ⟨w.heap.size + 1, 0, none⟩ = false ∧ w5.frozen? ⟨w.heap.size + 1, 1, none⟩ = false ∧ Hid (Seg w5 (some ⟨g, o, none⟩) xs.length cap xs) ∧ Hid (Below w.heap.size w w5))) := hide (fun w5 hg5 => by
        have hsz := hbn.size
        have n1 : some (w.heap.size) ≠ (Value.slice a' k c').ownBlock := fun e => by have := hne _ e.symm; omega
        have n2 : some (w.heap.size + 1) ≠ (Value.slice a' k c').ownBlock := fun e => by have := hne _ e.symm; omega
        refine ⟨by have := hg5.size; omega, ?_, ?_, ?_, ?_, ?_, ?_, hide ?_, hide ?_⟩
        · exact (hg5.cell_far ⟨w.heap.size, 0, none⟩ (by dsimp only; omega) n1).trans ((hbn.cell (p := ⟨w.heap.size, 0, none⟩) (by dsimp only; omega)).trans kv0)
        · exact (hg5.cell_far ⟨w.heap.size, 1, none⟩ (by dsimp only; omega) n1).trans ((hbn.cell (p := ⟨w.heap.size, 1, none⟩) (by dsimp only; omega)).trans kv1)
        · exact (hg5.cell_far ⟨w.heap.size + 1, 0, none⟩ (by dsimp only; omega) n2).trans ((hbn.cell (p := ⟨w.heap.size + 1, 0, none⟩) (by dsimp only; omega)).trans kr0)
        · exact (hg5.cell_far ⟨w.heap.size + 1, 1, none⟩ (by dsimp only; omega) n2).trans ((hbn.cell (p := ⟨w.heap.size + 1, 1, none⟩) (by dsimp only; omega)).trans kr1)
        · exact (hg5.frozen_far ⟨w.heap.size + 1, 0, none⟩ (by dsimp only; omega) n2).trans ((hbn.frozen (p := ⟨w.heap.size + 1, 0, none⟩) (by dsimp only; omega)).trans fr0)
        · exact (hg5.frozen_far ⟨w.heap.size + 1, 1, none⟩ (by dsimp only; omega) n2).trans ((hbn.frozen (p := ⟨w.heap.size + 1, 1, none⟩) (by dsimp only; omega)).trans fr1)
        · exact (HS.out.below hbn).grownLow H0S.out hg5 (fun q e => by have := hne q e; omega)
        · exact (bl_trans HB.out hbn).grown hg5 (bl_trans HB.out hbn).size (fun q e => by have := hne q e; omega))
      clear hne hnc hbn
      go_wp2_with (at_builtin; refine wp_app rfl _ _ rfl w2.heap.size a' k c' (lst8 k (fun j => pwF xs j * p)) rfl HOW.out ⟨wr.heap.size, 0, none⟩ 1 1 [x * p] rfl HSE.out (by omega) (by simp; omega) ?_; intro a5 c5 w5 ho5 hg5; obtain ⟨z0, z1, z2, z3, z4, z5, z6, z7, z8⟩ := HKP.out w5 hg5; have HO5 := hide ho5; clear ho5 hg5)
      exact ⟨⟨k + 1, a5, c5, by omega, by go_num, rfl, z0, z1, z2, z3, z4, z5, z6, hide (by rw [HSN.out]; exact HO5.out), z7, z8⟩, by simp [intOf]; omega⟩
    · obtain rfl : k = xs.length := by omega
      clear hlt hk
      have zz := y2
      go_wp2_with fail
      refine (HMK.out a' c' _ HO.out.seg).mono ?_
      rintro e w5 ⟨a5, c5, rfl, ho, hb⟩
      have HO5 := hide ho
      clear ho HMK HO H0S
      replace zr : w.heap.size + 1 < wr.heap.size := by omega
      have zq := zr
      replace kv0 := (hb.cell (p := ⟨w.heap.size, 0, none⟩) (by dsimp only; omega)).trans kv0
      replace kv1 := (hb.cell (p := ⟨w.heap.size, 1, none⟩) (by dsimp only; omega)).trans kv1
      replace kr0 := (hb.cell (p := ⟨w.heap.size + 1, 0, none⟩) (by dsimp only; omega)).trans kr0
      replace fr0 := (hb.frozen (p := ⟨w.heap.size + 1, 0, none⟩) (by dsimp only; omega)).trans fr0
      replace kr1 := (hb.cell (p := ⟨w.heap.size + 1, 1, none⟩) (by dsimp only; omega)).trans kr1
      replace fr1 := (hb.frozen (p := ⟨w.heap.size + 1, 1, none⟩) (by dsimp only; omega)).trans fr1
      replace zr := Nat.lt_of_lt_of_le zr hb.size
      replace HS := hide (HS.out.below hb)
      replace HB := hide (bl_trans HB.out hb)
      clear hb
      generalize tlD (d1 * q) (fun j => pwF xs j * p) = D at *
      generalize tlL xs.length (d1 * q) (fun j => pwF xs j * p) = M at *
      generalize tlB (d1 * q) (fun j => pwF xs j * p) = bb at *
      go_wp2
      rw [N1.out, N2.out, N3.out]
      refine bodyPost_ret (v := .tuple #[.agg #[.int .i64 D, .slice a5 M.length c5], .bool bb]) (by simp [results, Try.results27, go_sem, *]) rfl ⟨a5, c5, rfl, ?_, ?_⟩
      · exact ((HO5.out.setCell (p := ⟨w.heap.size + 1, 0, none⟩) (by dsimp only; omega) _).setCell (p := ⟨w.heap.size + 1, 1, none⟩) (by dsimp only; omega) _).mono (by omega)
      · exact (HB.out.setCell (p := ⟨w.heap.size + 1, 0, none⟩) (Nat.le_succ _) _).setCell (p := ⟨w.heap.size + 1, 1, none⟩) (Nat.le_succ _) _
end Go.Proofs.Ytkfiidldappdcaa
