/- The walk of the specification's VecAdd. -/
import Derived.Test.YtkfiidldappdcaaVAdd
import Derived.Test.YtkfiidldappdcaaVScaleS
namespace Go.Proofs.Ytkfiidldappdcaa
open Go.RowKit
set_option linter.unusedVariables false

theorem adT_eq {d1 : Int} {xs : List Int} {d2 : Int} {ys : List Int} (h1 : vokB d1 xs = true) (h2 : vokB d2 ys = true) (h3 : xs.length = ys.length) : adT d1 xs d2 ys = true := by
  unfold adT pwN
  rw [h1, h2, if_pos (vok_len h1), if_pos (vok_len h2), h3]
  simp
theorem adT_ne {d1 : Int} {xs : List Int} {d2 : Int} {ys : List Int} (h1 : vokB d1 xs = true) (h2 : vokB d2 ys = true) (h3 : ¬ xs.length = ys.length) : adT d1 xs d2 ys = false := by
  unfold adT pwN
  rw [h1, h2, if_pos (vok_len h1), if_pos (vok_len h2), Bool.true_and, Bool.true_and, beq_eq_false_iff_ne]
  omega

set_option maxHeartbeats 4000000 in
theorem vecAddS (d1 : Int) (a : Option Addr) (c1 : Nat) (xs : List Int) (d2 : Int) (b : Option Addr) (c2 : Nat) (ys : List Int) (w : World) (h1 : Seg w a xs.length c1 xs) (h2 : Seg w b ys.length c2 ys) :
    Calls Try.prog 23 #[.agg #[Value.int .i64 d1, Value.slice a xs.length c1], .agg #[Value.int .i64 d2, Value.slice b ys.length c2]] w fun e w' => ∃ a' c', e = .returned (.tuple #[.agg #[.int .i64 (adD d1 xs d2 ys), .slice a' (adL d1 xs d2 ys).length c'], .bool (adB d1 xs d2 ys)]) ∧ Own w' w.heap.size a' (adL d1 xs d2 ys).length c' (adL d1 xs d2 ys) ∧ Below w.heap.size w w' := by
  have kv0 : (((w.alloc (Obj.cells #[Value.int .i64 d1, Value.slice a xs.length c1] 29)).alloc (Obj.cells #[Value.int .i64 d2, Value.slice b ys.length c2] 29)).alloc (Obj.cells #[Value.int .i64 0, Value.slice none 0 0] 29)).cell? ⟨w.heap.size, 0, none⟩ = some (Value.int .i64 d1) := by go_simp
  have kv1 : (((w.alloc (Obj.cells #[Value.int .i64 d1, Value.slice a xs.length c1] 29)).alloc (Obj.cells #[Value.int .i64 d2, Value.slice b ys.length c2] 29)).alloc (Obj.cells #[Value.int .i64 0, Value.slice none 0 0] 29)).cell? ⟨w.heap.size, 1, none⟩ = some (Value.slice a xs.length c1) := by go_simp
  have ku0 : (((w.alloc (Obj.cells #[Value.int .i64 d1, Value.slice a xs.length c1] 29)).alloc (Obj.cells #[Value.int .i64 d2, Value.slice b ys.length c2] 29)).alloc (Obj.cells #[Value.int .i64 0, Value.slice none 0 0] 29)).cell? ⟨w.heap.size + 1, 0, none⟩ = some (Value.int .i64 d2) := by go_simp
  have ku1 : (((w.alloc (Obj.cells #[Value.int .i64 d1, Value.slice a xs.length c1] 29)).alloc (Obj.cells #[Value.int .i64 d2, Value.slice b ys.length c2] 29)).alloc (Obj.cells #[Value.int .i64 0, Value.slice none 0 0] 29)).cell? ⟨w.heap.size + 1, 1, none⟩ = some (Value.slice b ys.length c2) := by go_simp
  have kr0 : (((w.alloc (Obj.cells #[Value.int .i64 d1, Value.slice a xs.length c1] 29)).alloc (Obj.cells #[Value.int .i64 d2, Value.slice b ys.length c2] 29)).alloc (Obj.cells #[Value.int .i64 0, Value.slice none 0 0] 29)).cell? ⟨w.heap.size + 1 + 1, 0, none⟩ = some (Value.int .i64 0) := by go_simp
  have fr0 : (((w.alloc (Obj.cells #[Value.int .i64 d1, Value.slice a xs.length c1] 29)).alloc (Obj.cells #[Value.int .i64 d2, Value.slice b ys.length c2] 29)).alloc (Obj.cells #[Value.int .i64 0, Value.slice none 0 0] 29)).frozen? ⟨w.heap.size + 1 + 1, 0, none⟩ = false := by go_simp
  have kr1 : (((w.alloc (Obj.cells #[Value.int .i64 d1, Value.slice a xs.length c1] 29)).alloc (Obj.cells #[Value.int .i64 d2, Value.slice b ys.length c2] 29)).alloc (Obj.cells #[Value.int .i64 0, Value.slice none 0 0] 29)).cell? ⟨w.heap.size + 1 + 1, 1, none⟩ = some (Value.slice none 0 0) := by go_simp
  have fr1 : (((w.alloc (Obj.cells #[Value.int .i64 d1, Value.slice a xs.length c1] 29)).alloc (Obj.cells #[Value.int .i64 d2, Value.slice b ys.length c2] 29)).alloc (Obj.cells #[Value.int .i64 0, Value.slice none 0 0] 29)).frozen? ⟨w.heap.size + 1 + 1, 1, none⟩ = false := by go_simp
  have zr : w.heap.size + 1 + 1 < (((w.alloc (Obj.cells #[Value.int .i64 d1, Value.slice a xs.length c1] 29)).alloc (Obj.cells #[Value.int .i64 d2, Value.slice b ys.length c2] 29)).alloc (Obj.cells #[Value.int .i64 0, Value.slice none 0 0] 29)).heap.size := by simp only [World.size_alloc]; omega
  have HB := hide (bl_alloc (bl_alloc (bl_alloc (bl_refl w) (Obj.cells #[Value.int .i64 d1, Value.slice a xs.length c1] 29)) (Obj.cells #[Value.int .i64 d2, Value.slice b ys.length c2] 29)) (Obj.cells #[Value.int .i64 0, Value.slice none 0 0] 29))
  have H01 := hide h1
  have H02 := hide h2
  have H1 := hide (h1.below HB.out)
  have H2 := hide (h2.below HB.out)
  have hle1 := h1.le
  have hcl1 := h1.2.1
  have hcm1 := h1.2.2.1
  have hle2 := h2.le
  have hcl2 := h2.2.1
  have hcm2 := h2.2.2.1
  clear h1 h2
  go_enter Try.func23, Try.ntmps23
  go_wp2_with fail
  generalize (((w.alloc (Obj.cells #[Value.int .i64 d1, Value.slice a xs.length c1] 29)).alloc (Obj.cells #[Value.int .i64 d2, Value.slice b ys.length c2] 29)).alloc (Obj.cells #[Value.int .i64 0, Value.slice none 0 0] 29)) = w1 at *
  refine (vecOkS d1 a c1 xs _ H1.out).mono ?_
  rintro e w2 ⟨rfl, hb⟩
  replace kv0 := (hb.cell (p := ⟨w.heap.size, 0, none⟩) (by dsimp only; omega)).trans kv0
  replace kv1 := (hb.cell (p := ⟨w.heap.size, 1, none⟩) (by dsimp only; omega)).trans kv1
  replace ku0 := (hb.cell (p := ⟨w.heap.size + 1, 0, none⟩) (by dsimp only; omega)).trans ku0
  replace ku1 := (hb.cell (p := ⟨w.heap.size + 1, 1, none⟩) (by dsimp only; omega)).trans ku1
  replace kr0 := (hb.cell (p := ⟨w.heap.size + 1 + 1, 0, none⟩) (by dsimp only; omega)).trans kr0
  replace fr0 := (hb.frozen (p := ⟨w.heap.size + 1 + 1, 0, none⟩) (by dsimp only; omega)).trans fr0
  replace kr1 := (hb.cell (p := ⟨w.heap.size + 1 + 1, 1, none⟩) (by dsimp only; omega)).trans kr1
  replace fr1 := (hb.frozen (p := ⟨w.heap.size + 1 + 1, 1, none⟩) (by dsimp only; omega)).trans fr1
  replace zr := Nat.lt_of_lt_of_le zr hb.size
  replace H1 := hide (H1.out.below hb)
  replace H2 := hide (H2.out.below hb)
  replace HB := hide (bl_trans HB.out hb)
  clear hb
  cases hv1 : vokB d1 xs with
  | false =>
    obtain ⟨N1, N2, N3⟩ := ad_no (d1 := d1) (xs := xs) (d2 := d2) (ys := ys) (by unfold adT; rw [hv1]; rfl)
    clear hv1
    go_wp2
    rw [N1.out, N2.out, N3.out]
    exact bodyPost_ret (v := .tuple #[.agg #[.int .i64 0, .slice none 0 0], .bool false]) (by simp [results, Try.results23, go_sem, *]) rfl ⟨none, 0, rfl, Own.nil _ _, (HB.out.setCell (p := ⟨w.heap.size + 1 + 1, 0, none⟩) (by dsimp only; omega) _).setCell (p := ⟨w.heap.size + 1 + 1, 1, none⟩) (by dsimp only; omega) _⟩
  | true =>
  have HV1 := hide hv1
  clear hv1
  go_wp2_with fail
  refine (vecOkS d2 b c2 ys _ H2.out).mono ?_
  rintro e w3 ⟨rfl, hb⟩
  replace kv0 := (hb.cell (p := ⟨w.heap.size, 0, none⟩) (by dsimp only; omega)).trans kv0
  replace kv1 := (hb.cell (p := ⟨w.heap.size, 1, none⟩) (by dsimp only; omega)).trans kv1
  replace ku0 := (hb.cell (p := ⟨w.heap.size + 1, 0, none⟩) (by dsimp only; omega)).trans ku0
  replace ku1 := (hb.cell (p := ⟨w.heap.size + 1, 1, none⟩) (by dsimp only; omega)).trans ku1
  replace kr0 := (hb.cell (p := ⟨w.heap.size + 1 + 1, 0, none⟩) (by dsimp only; omega)).trans kr0
  replace fr0 := (hb.frozen (p := ⟨w.heap.size + 1 + 1, 0, none⟩) (by dsimp only; omega)).trans fr0
  replace kr1 := (hb.cell (p := ⟨w.heap.size + 1 + 1, 1, none⟩) (by dsimp only; omega)).trans kr1
  replace fr1 := (hb.frozen (p := ⟨w.heap.size + 1 + 1, 1, none⟩) (by dsimp only; omega)).trans fr1
  replace zr := Nat.lt_of_lt_of_le zr hb.size
  replace H1 := hide (H1.out.below hb)
  replace H2 := hide (H2.out.below hb)
  replace HB := hide (bl_trans HB.out hb)
  clear hb
  cases hv2 : vokB d2 ys with
  | false =>
    obtain ⟨N1, N2, N3⟩ := ad_no (d1 := d1) (xs := xs) (d2 := d2) (ys := ys) (by unfold adT; rw [hv2]; simp)
    clear hv2
    go_wp2
    rw [N1.out, N2.out, N3.out]
    exact bodyPost_ret (v := .tuple #[.agg #[.int .i64 0, .slice none 0 0], .bool false]) (by simp [results, Try.results23, go_sem, *]) rfl ⟨none, 0, rfl, Own.nil _ _, (HB.out.setCell (p := ⟨w.heap.size + 1 + 1, 0, none⟩) (by dsimp only; omega) _).setCell (p := ⟨w.heap.size + 1 + 1, 1, none⟩) (by dsimp only; omega) _⟩
  | true =>
  have HV2 := hide hv2
  clear hv2
  by_cases hne : ¬ xs.length = ys.length
  · have hbn : ((xs.length : Int) != (ys.length : Int)) = true := by rw [bne_iff_ne]; omega
    obtain ⟨N1, N2, N3⟩ := ad_no (d1 := d1) (xs := xs) (d2 := d2) (ys := ys) (adT_ne HV1.out HV2.out hne)
    clear hne
    go_wp2
    rw [N1.out, N2.out, N3.out]
    exact bodyPost_ret (v := .tuple #[.agg #[.int .i64 0, .slice none 0 0], .bool false]) (by simp [results, Try.results23, go_sem, *]) rfl ⟨none, 0, rfl, Own.nil _ _, (HB.out.setCell (p := ⟨w.heap.size + 1 + 1, 0, none⟩) (by dsimp only; omega) _).setCell (p := ⟨w.heap.size + 1 + 1, 1, none⟩) (by dsimp only; omega) _⟩
  have hbn : ((xs.length : Int) != (ys.length : Int)) = false := by rw [bne_eq_false_iff_eq]; omega
  obtain ⟨N1, N2, N3⟩ := ad_yes (d1 := d1) (xs := xs) (d2 := d2) (ys := ys) (adT_eq HV1.out HV2.out (Classical.not_not.1 hne))
  have HE := hide (Classical.not_not.1 hne)
  clear hne
  have h8 := vok_len HV1.out
  have h9 := vok_len HV2.out
  obtain ⟨⟨g1, g2⟩, F1⟩ := vok_facts HV1.out
  obtain ⟨⟨g3, g4⟩, F2⟩ := vok_facts HV2.out
  have HF1 := hide F1
  have HF2 := hide F2
  clear F1 F2
  obtain ⟨m1, m2⟩ := mul_bd d1 d2 720 720 (by omega) (by omega)
  have hdq : ¬ d1 * d2 = 0 := fun h => by rcases Int.mul_eq_zero.1 h with h | h <;> omega
  have HAT : Hid (at8 (lst8 xs.length (fun j => pwF xs j * d2 + pwF ys j * d1)) = (fun j => pwF xs j * d2 + pwF ys j * d1)) := hide (at8_lst8 _ _ (fun j hj => by rw [pwF_ge hj, pwF_ge (by rw [← HE.out]; exact hj), Int.zero_mul, Int.zero_mul]; rfl))
  have HMK : Hid (∀ (a' : Option Addr) (c' : Nat) (w : World), Seg w a' xs.length c' (lst8 xs.length (fun j => pwF xs j * d2 + pwF ys j * d1)) → Calls Try.prog 61 #[.slice a' xs.length c', .int .i64 (d1 * d2)] w fun e w' => ∃ a'' c'', e = .returned (.tuple #[.agg #[.int .i64 (tlD (d1 * d2) (fun j => pwF xs j * d2 + pwF ys j * d1)), .slice a'' (tlL xs.length (d1 * d2) (fun j => pwF xs j * d2 + pwF ys j * d1)).length c''], .bool (tlB (d1 * d2) (fun j => pwF xs j * d2 + pwF ys j * d1))]) ∧ Own w' w.heap.size a'' (tlL xs.length (d1 * d2) (fun j => pwF xs j * d2 + pwF ys j * d1)).length c'' (tlL xs.length (d1 * d2) (fun j => pwF xs j * d2 + pwF ys j * d1)) ∧ Below w.heap.size w w') := hide (fun a' c' w h => by
    have hl := lst8_len xs.length (fun j => pwF xs j * d2 + pwF ys j * d1)
    have := makeS a' c' (lst8 xs.length (fun j => pwF xs j * d2 + pwF ys j * d1)) (d1 * d2) w (by rw [hl]; exact h) (by omega) hdq (by omega) (fun j hj => by rw [HAT.out]; have := mul_bd (pwF xs j) d2 100000 720 (HF1.out j hj) (by omega); have := mul_bd (pwF ys j) d1 100000 720 (HF2.out j hj) (by omega); dsimp only; omega)
    rw [hl, HAT.out] at this
    exact this)
  clear hdq
  go_wp2
  have hb := bl_alloc (bl_refl w3) (Obj.cells #[] 3)
  have HO0 : Hid (Own (w3.alloc (Obj.cells #[] 3)) w3.heap.size (some ⟨w3.heap.size, 0, none⟩) 0 0 (lst8 0 (fun j => pwF xs j * d2 + pwF ys j * d1))) := hide (own_empty w3)
  have y2 := zr
  replace kv0 := (hb.cell (p := ⟨w.heap.size, 0, none⟩) (by dsimp only; omega)).trans kv0
  replace kv1 := (hb.cell (p := ⟨w.heap.size, 1, none⟩) (by dsimp only; omega)).trans kv1
  replace ku0 := (hb.cell (p := ⟨w.heap.size + 1, 0, none⟩) (by dsimp only; omega)).trans ku0
  replace ku1 := (hb.cell (p := ⟨w.heap.size + 1, 1, none⟩) (by dsimp only; omega)).trans ku1
  replace kr0 := (hb.cell (p := ⟨w.heap.size + 1 + 1, 0, none⟩) (by dsimp only; omega)).trans kr0
  replace fr0 := (hb.frozen (p := ⟨w.heap.size + 1 + 1, 0, none⟩) (by dsimp only; omega)).trans fr0
  replace kr1 := (hb.cell (p := ⟨w.heap.size + 1 + 1, 1, none⟩) (by dsimp only; omega)).trans kr1
  replace fr1 := (hb.frozen (p := ⟨w.heap.size + 1 + 1, 1, none⟩) (by dsimp only; omega)).trans fr1
  replace zr := Nat.lt_of_lt_of_le zr hb.size
  replace H1 := hide (H1.out.below hb)
  replace H2 := hide (H2.out.below hb)
  replace HB := hide (bl_trans HB.out hb)
  clear hb
  generalize w3.alloc (Obj.cells #[] 3) = w4 at *
  have y3 : w3.heap.size ≤ w4.heap.size := by have := World.ownsRow.lt HO0.out w3.heap.size rfl; omega
  go_loopw [6, 7] (fun l i wr => ∃ (k : Nat) (a' : Option Addr) (c' : Nat), k ≤ xs.length ∧ i = .int .i64 k ∧ l = .slice a' k c' ∧ w3.heap.size ≤ wr.heap.size ∧ wr.cell? ⟨w.heap.size, 0, none⟩ = some (Value.int .i64 d1) ∧ wr.cell? ⟨w.heap.size, 1, none⟩ = some (Value.slice a xs.length c1) ∧ wr.cell? ⟨w.heap.size + 1, 0, none⟩ = some (Value.int .i64 d2) ∧ wr.cell? ⟨w.heap.size + 1, 1, none⟩ = some (Value.slice b ys.length c2) ∧ wr.cell? ⟨w.heap.size + 1 + 1, 0, none⟩ = some (Value.int .i64 0) ∧ wr.cell? ⟨w.heap.size + 1 + 1, 1, none⟩ = some (Value.slice none 0 0) ∧ wr.frozen? ⟨w.heap.size + 1 + 1, 0, none⟩ = false ∧ wr.frozen? ⟨w.heap.size + 1 + 1, 1, none⟩ = false ∧ Hid (Own wr w3.heap.size a' k c' (lst8 k (fun j => pwF xs j * d2 + pwF ys j * d1))) ∧ Hid (Seg wr a xs.length c1 xs) ∧ Hid (Seg wr b ys.length c2 ys) ∧ Hid (Below w.heap.size w wr)) (fun _ i _ => xs.length - (intOf i).toNat)
  case atStart => exact ⟨0, _, _, Nat.zero_le _, rfl, rfl, y3, kv0, kv1, ku0, ku1, kr0, kr1, fr0, fr1, HO0, H1, H2, HB⟩
  case round =>
    clear kv0 kv1 ku0 ku1 kr0 kr1 fr0 fr1 HO0 H1 H2 HB zr
    obtain ⟨k, a', c', hk, rfl, rfl, zr, kv0, kv1, ku0, ku1, kr0, kr1, fr0, fr1, HO, H1, H2, HB⟩ := hrel
    by_cases hlt : k < xs.length
    · have hlt' : (k : Int) < (xs.length : Int) := by omega
      have hly : k < ys.length := by rw [← HE.out]; exact hlt
      have hly' : (k : Int) < (ys.length : Int) := by omega
      have hk0 : (0 : Int) ≤ (k : Int) := by omega
      rcases H1.out.2.2.2 with hn | ⟨g, o, rfl, hg, hc⟩
      · omega
      rcases H2.out.2.2.2 with hn | ⟨g', o', rfl, hg', hc'⟩
      · omega
      have ex := hc k hlt
      have ey := hc' k hly
      clear hc hc'
      rw [← pwF_lt h8 hlt] at ex
      rw [← pwF_lt h9 hly] at ey
      obtain ⟨u1, u2⟩ := mul_bd (pwF xs k) d2 100000 720 (HF1.out k (by omega)) (by omega)
      obtain ⟨u3, u4⟩ := mul_bd (pwF ys k) d1 100000 720 (HF2.out k (by omega)) (by omega)
      have HSN : Hid (lst8 (k + 1) (fun j => pwF xs j * d2 + pwF ys j * d1) = lst8 k (fun j => pwF xs j * d2 + pwF ys j * d1) ++ [pwF xs k * d2 + pwF ys k * d1]) := hide (lst8_snoc k _)
      generalize pwF xs k = x at *
      generalize pwF ys k = y at *
      have wr1 : IntKind.i64.wrap (x * d2) = x * d2 := by rw [IntKind.wrap_i64]; omega
      have wr2 : IntKind.i64.wrap (y * d1) = y * d1 := by rw [IntKind.wrap_i64]; omega
      have wr3 : IntKind.i64.wrap (x * d2 + y * d1) = x * d2 + y * d1 := by rw [IntKind.wrap_i64]; omega
      have hbn' := bl_alloc (bl_refl wr) (Obj.cells #[Value.int .i64 (x * d2 + y * d1)] 3)
      have hnc : (wr.alloc (Obj.cells #[Value.int .i64 (x * d2 + y * d1)] 3)).cell? ⟨wr.heap.size, 0, none⟩ = some (Value.int .i64 (x * d2 + y * d1)) := by go_simp
      have HNW := hide (news_one hnc)
      have HOW := hide (HO.out.below hbn')
      have hne : ∀ g, (Value.slice a' k c').ownBlock = some g → w3.heap.size ≤ g ∧ g < wr.heap.size := fun g e => World.ownsRow.lt HO.out g e
      have lo1 : g < w.heap.size := H01.out.lt (by omega) rfl
      have lo2 : g' < w.heap.size := H02.out.lt (by omega) rfl
      have HKP : Hid (∀ w5, (wr.alloc (Obj.cells #[Value.int .i64 (x * d2 + y * d1)] 3)).grownBy w5 (Value.slice a' k c').ownBlock → ((w3.heap.size ≤ w5.heap.size ∧ w5.cell? ⟨w.heap.size, 0, none⟩ = some (Value.int .i64 d1) ∧ w5.cell? ⟨w.heap.size, 1, none⟩ = some (Value.slice (some ⟨g, o, none⟩) xs.length c1) ∧ w5.cell? ⟨w.heap.size + 1, 0, none⟩ = some (Value.int .i64 d2) ∧ w5.cell? ⟨w.heap.size + 1, 1, none⟩ = some (Value.slice (some ⟨g', o', none⟩) ys.length c2) ∧ w5.cell? ⟨w.heap.size + 1 + 1, 0, none⟩ = some (Value.int .i64 0) ∧ w5.cell? ⟨w.heap.size + 1 + 1, 1, none⟩ = some (Value.slice none 0 0) ∧ w5.frozen? ⟨w.heap.size + 1 + 1, 0, none⟩ = false ∧ w5.frozen? ⟨w.heap.size + 1 + 1, 1, none⟩ = false ∧ Hid (Seg w5 (some ⟨g, o, none⟩) xs.length c1 xs) ∧ Hid (Seg w5 (some ⟨g', o', none⟩) ys.length c2 ys) ∧ Hid (Below w.heap.size w w5)) ∧ (w5.cell? ⟨w.heap.size, 0, none⟩ = some (Value.int .i64 d1) ∧ w5.cell? ⟨w.heap.size, 1, none⟩ = some (Value.slice (some ⟨g, o, none⟩) xs.length c1) ∧ w5.cell? ⟨w.heap.size + 1, 0, none⟩ = some (Value.int .i64 d2) ∧ w5.cell? ⟨w.heap.size + 1, 1, none⟩ = some (Value.slice (some ⟨g', o', none⟩) ys.length c2) ∧ w5.cell? ⟨g, o + k, none⟩ = some (Value.int .i64 x) ∧ w5.cell? ⟨g', o' + k, none⟩ = some (Value.int .i64 y)))) := hide (fun w5 hg5 => by
        have hsz := hbn'.size
        have nn : ∀ q, q < w3.heap.size → some q ≠ (Value.slice a' k c').ownBlock := fun q hq e => by have := hne _ e.symm; omega
        refine ⟨⟨by have := hg5.size; omega, ?_, ?_, ?_, ?_, ?_, ?_, ?_, ?_, hide ?_, hide ?_, hide ?_⟩, ?_, ?_, ?_, ?_, ?_, ?_⟩
        · exact (hg5.cell_far ⟨w.heap.size, 0, none⟩ (by dsimp only; omega) (nn _ (by dsimp only; omega))).trans ((hbn'.cell (p := ⟨w.heap.size, 0, none⟩) (by dsimp only; omega)).trans kv0)
        · exact (hg5.cell_far ⟨w.heap.size, 1, none⟩ (by dsimp only; omega) (nn _ (by dsimp only; omega))).trans ((hbn'.cell (p := ⟨w.heap.size, 1, none⟩) (by dsimp only; omega)).trans kv1)
        · exact (hg5.cell_far ⟨w.heap.size + 1, 0, none⟩ (by dsimp only; omega) (nn _ (by dsimp only; omega))).trans ((hbn'.cell (p := ⟨w.heap.size + 1, 0, none⟩) (by dsimp only; omega)).trans ku0)
        · exact (hg5.cell_far ⟨w.heap.size + 1, 1, none⟩ (by dsimp only; omega) (nn _ (by dsimp only; omega))).trans ((hbn'.cell (p := ⟨w.heap.size + 1, 1, none⟩) (by dsimp only; omega)).trans ku1)
        · exact (hg5.cell_far ⟨w.heap.size + 1 + 1, 0, none⟩ (by dsimp only; omega) (nn _ (by dsimp only; omega))).trans ((hbn'.cell (p := ⟨w.heap.size + 1 + 1, 0, none⟩) (by dsimp only; omega)).trans kr0)
        · exact (hg5.cell_far ⟨w.heap.size + 1 + 1, 1, none⟩ (by dsimp only; omega) (nn _ (by dsimp only; omega))).trans ((hbn'.cell (p := ⟨w.heap.size + 1 + 1, 1, none⟩) (by dsimp only; omega)).trans kr1)
        · exact (hg5.frozen_far ⟨w.heap.size + 1 + 1, 0, none⟩ (by dsimp only; omega) (nn _ (by dsimp only; omega))).trans ((hbn'.frozen (p := ⟨w.heap.size + 1 + 1, 0, none⟩) (by dsimp only; omega)).trans fr0)
        · exact (hg5.frozen_far ⟨w.heap.size + 1 + 1, 1, none⟩ (by dsimp only; omega) (nn _ (by dsimp only; omega))).trans ((hbn'.frozen (p := ⟨w.heap.size + 1 + 1, 1, none⟩) (by dsimp only; omega)).trans fr1)
        · exact (H1.out.below hbn').grownLow H01.out hg5 (fun q e => by have := hne q e; omega)
        · exact (H2.out.below hbn').grownLow H02.out hg5 (fun q e => by have := hne q e; omega)
        · exact (bl_trans HB.out hbn').grown hg5 (bl_trans HB.out hbn').size (fun q e => by have := hne q e; omega)
        · exact (hg5.cell_far ⟨w.heap.size, 0, none⟩ (by dsimp only; omega) (nn _ (by dsimp only; omega))).trans ((hbn'.cell (p := ⟨w.heap.size, 0, none⟩) (by dsimp only; omega)).trans kv0)
        · exact (hg5.cell_far ⟨w.heap.size, 1, none⟩ (by dsimp only; omega) (nn _ (by dsimp only; omega))).trans ((hbn'.cell (p := ⟨w.heap.size, 1, none⟩) (by dsimp only; omega)).trans kv1)
        · exact (hg5.cell_far ⟨w.heap.size + 1, 0, none⟩ (by dsimp only; omega) (nn _ (by dsimp only; omega))).trans ((hbn'.cell (p := ⟨w.heap.size + 1, 0, none⟩) (by dsimp only; omega)).trans ku0)
        · exact (hg5.cell_far ⟨w.heap.size + 1, 1, none⟩ (by dsimp only; omega) (nn _ (by dsimp only; omega))).trans ((hbn'.cell (p := ⟨w.heap.size + 1, 1, none⟩) (by dsimp only; omega)).trans ku1)
        · exact (hg5.cell_far ⟨g, o + k, none⟩ (by dsimp only; omega) (nn _ (by dsimp only; omega))).trans ((hbn'.cell (p := ⟨g, o + k, none⟩) (by dsimp only; omega)).trans ex)
        · exact (hg5.cell_far ⟨g', o' + k, none⟩ (by dsimp only; omega) (nn _ (by dsimp only; omega))).trans ((hbn'.cell (p := ⟨g', o' + k, none⟩) (by dsimp only; omega)).trans ey))
      have KP : Hid (∀ w', Below wr.heap.size wr w' → (w'.cell? ⟨w.heap.size, 0, none⟩ = some (Value.int .i64 d1) ∧ w'.cell? ⟨w.heap.size, 1, none⟩ = some (Value.slice (some ⟨g, o, none⟩) xs.length c1) ∧ w'.cell? ⟨w.heap.size + 1, 0, none⟩ = some (Value.int .i64 d2) ∧ w'.cell? ⟨w.heap.size + 1, 1, none⟩ = some (Value.slice (some ⟨g', o', none⟩) ys.length c2) ∧ w'.cell? ⟨g, o + k, none⟩ = some (Value.int .i64 x) ∧ w'.cell? ⟨g', o' + k, none⟩ = some (Value.int .i64 y))) := hide (fun w' hb => ⟨(hb.cell (p := ⟨w.heap.size, 0, none⟩) (by dsimp only; omega)).trans kv0, (hb.cell (p := ⟨w.heap.size, 1, none⟩) (by dsimp only; omega)).trans kv1, (hb.cell (p := ⟨w.heap.size + 1, 0, none⟩) (by dsimp only; omega)).trans ku0, (hb.cell (p := ⟨w.heap.size + 1, 1, none⟩) (by dsimp only; omega)).trans ku1, (hb.cell (p := ⟨g, o + k, none⟩) (by dsimp only; omega)).trans ex, (hb.cell (p := ⟨g', o' + k, none⟩) (by dsimp only; omega)).trans ey⟩)
      obtain ⟨i0, hi, hz0, hz1, hz2⟩ := info_parts Try.info3
      clear hne hnc hbn'
      go_wp2_with fail
      go_region_held3 (fun w' => w'.cell? ⟨w.heap.size, 0, none⟩ = some (Value.int .i64 d1) ∧ w'.cell? ⟨w.heap.size, 1, none⟩ = some (Value.slice (some ⟨g, o, none⟩) xs.length c1) ∧ w'.cell? ⟨w.heap.size + 1, 0, none⟩ = some (Value.int .i64 d2) ∧ w'.cell? ⟨w.heap.size + 1, 1, none⟩ = some (Value.slice (some ⟨g', o', none⟩) ys.length c2) ∧ w'.cell? ⟨g, o + k, none⟩ = some (Value.int .i64 x) ∧ w'.cell? ⟨g', o' + k, none⟩ = some (Value.int .i64 y))
        (first | exact KP.out _ (bl_refl wr).drew | exact KP.out _ (bl_alloc (bl_refl wr) _).drew | exact KP.out _ (bl_alloc (bl_refl wr) _) | exact (HKP.out w5 (grown_drew hgrow5)).2 | exact (HKP.out w5 hgrow5).2)
        ((refine step_append_lies _ (by rfl) _ _ 27 (by rfl) w3.heap.size 3 i0 (.int .i64 0) 1 8 Try.underlying27 hi hz0 hz1 hz2 rfl (by decide) (.slice a' k c') k ((lst8 k (fun j => pwF xs j * d2 + pwF ys j * d1)).map lim) (by rfl) HOW.out ⟨wr.heap.size, 0, none⟩ 1 1 [.int .i64 (x * d2 + y * d1)] (by rfl) rfl HNW.out (by intro u hu; simp at hu; subst hu; rfl) (by omega) (by unfold maxLen; omega) (by omega) (by simp; omega) (wr.heap.size + 1) (by simp) ?_; intro g5 cap5 w5 hown5 hgrow5 hat5 hlt5))
      obtain ⟨⟨zz0, z0, z1, z2, z3, z4, z5, z6, z7, zs1, zs2, zB⟩, -⟩ := HKP.out w5 (grown_drew hgrow5)
      have HO5 : Hid (Own w5 w3.heap.size (some ⟨g5, 0, none⟩) (k + 1) cap5 (lst8 (k + 1) (fun j => pwF xs j * d2 + pwF ys j * d1))) := hide (by rw [HSN.out]; unfold Own; rw [List.map_append]; exact hown5)
      clear hown5 hgrow5 hat5 hlt5 KP HKP HOW HNW
      go_wp2
      exact ⟨⟨k + 1, some ⟨g5, 0, none⟩, cap5, by omega, by go_num, rfl, zz0, z0, z1, z2, z3, z4, z5, z6, z7, HO5, zs1, zs2, zB⟩, by simp [intOf]; omega⟩
    · obtain rfl : k = xs.length := by omega
      clear hlt hk
      go_wp2_with fail
      refine (HMK.out a' c' _ HO.out.seg).mono ?_
      rintro e w5 ⟨a5, c5, rfl, ho, hb⟩
      have HO5 := hide ho
      clear ho HMK HO H01 H02
      replace zr : w.heap.size + 1 + 1 < wr.heap.size := by omega
      have zq := zr
      replace kv0 := (hb.cell (p := ⟨w.heap.size, 0, none⟩) (by dsimp only; omega)).trans kv0
      replace kv1 := (hb.cell (p := ⟨w.heap.size, 1, none⟩) (by dsimp only; omega)).trans kv1
      replace ku0 := (hb.cell (p := ⟨w.heap.size + 1, 0, none⟩) (by dsimp only; omega)).trans ku0
      replace ku1 := (hb.cell (p := ⟨w.heap.size + 1, 1, none⟩) (by dsimp only; omega)).trans ku1
      replace kr0 := (hb.cell (p := ⟨w.heap.size + 1 + 1, 0, none⟩) (by dsimp only; omega)).trans kr0
      replace fr0 := (hb.frozen (p := ⟨w.heap.size + 1 + 1, 0, none⟩) (by dsimp only; omega)).trans fr0
      replace kr1 := (hb.cell (p := ⟨w.heap.size + 1 + 1, 1, none⟩) (by dsimp only; omega)).trans kr1
      replace fr1 := (hb.frozen (p := ⟨w.heap.size + 1 + 1, 1, none⟩) (by dsimp only; omega)).trans fr1
      replace zr := Nat.lt_of_lt_of_le zr hb.size
      replace H1 := hide (H1.out.below hb)
      replace H2 := hide (H2.out.below hb)
      replace HB := hide (bl_trans HB.out hb)
      clear hb
      generalize tlD (d1 * d2) (fun j => pwF xs j * d2 + pwF ys j * d1) = D at *
      generalize (tlL xs.length (d1 * d2) (fun j => pwF xs j * d2 + pwF ys j * d1)) = M at *
      generalize tlB (d1 * d2) (fun j => pwF xs j * d2 + pwF ys j * d1) = bb at *
      go_wp2
      rw [N1.out, N2.out, N3.out]
      refine bodyPost_ret (v := .tuple #[.agg #[.int .i64 D, .slice a5 M.length c5], .bool bb]) (by simp [results, Try.results23, go_sem, *]) rfl ⟨a5, c5, rfl, ?_, ?_⟩
      · exact ((HO5.out.setCell (p := ⟨w.heap.size + 1 + 1, 0, none⟩) (by dsimp only; omega) _).setCell (p := ⟨w.heap.size + 1 + 1, 1, none⟩) (by dsimp only; omega) _).mono (by omega)
      · exact (HB.out.setCell (p := ⟨w.heap.size + 1 + 1, 0, none⟩) (by dsimp only; omega) _).setCell (p := ⟨w.heap.size + 1 + 1, 1, none⟩) (by dsimp only; omega) _
end Go.Proofs.Ytkfiidldappdcaa
