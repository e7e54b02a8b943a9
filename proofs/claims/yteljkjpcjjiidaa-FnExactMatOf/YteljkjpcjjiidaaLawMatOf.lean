/- MatOf of both at any lists, and the walk of the exact law of MatOf. -/
import Derived.Test.YteljkjpcjjiidaaMoS
import Derived.Test.YteljkjpcjjiidaaIg
import Derived.Deep.RegionHeld3
namespace Go.Proofs.Yteljkjpcjjiidaa
open Go.RowKit
set_option linter.unusedVariables false
set_option maxRecDepth 20000

theorem flat_cat {n c : Nat} {E : Nat → List Int} (h : ∀ r, r < n → (E r).length = c) (i : Nat) (hi : i < n * c) : flat c (rowZ E) i = moF n E i := by
  have hc : 0 < c := by
    rcases Nat.eq_zero_or_pos c with e | e
    · subst e; omega
    · exact e
  have h1 : i / c < n := by rw [Nat.div_lt_iff_lt_mul hc]; exact hi
  have h2 := cat_at E c n h (i / c) (i % c) h1 (Nat.mod_lt _ hc)
  rw [Nat.div_add_mod'] at h2
  unfold flat moF rowZ
  rw [h2]
theorem moB_no {n : Nat} {E : Nat → List Int} (h0 : n ≠ 0) (h : ¬ (n ≤ 8 ∧ (E 0).length ≤ 8 ∧ Rws n E)) : moB n E = false ∧ moR n E = 0 ∧ moC n E = 0 ∧ moN n E = 0 := by
  have hb : moB n E = false := by
    cases hx : moB n E with
    | false => rfl
    | true => rcases moB_iff.1 hx with e | e
              · exact absurd e h0
              · exact absurd e h
  have hR : moR n E = 0 := by unfold moR; rw [hb]; rfl
  exact ⟨hb, hR, by unfold moC; rw [if_neg (fun h => by rw [hb] at h; cases h.1)], by unfold moN; rw [hR]; omega⟩
theorem moSA (a : Option Addr) (n cap : Nat) (X : Nat → Prop) (E : Nat → List Int) (w : World) (hs : ISeg w X a n cap E) (hi : IInt n E) :
    Calls Try.prog 16 #[.slice a n cap] w fun e w' => ∃ a5 p5, e = .returned (.tuple #[.agg #[.int .i64 (moR n E : Int), .int .i64 (moC n E : Int), .slice a5 (moN n E) p5], .bool (moB n E)]) ∧ BSeg w' (fun b => w.heap.size ≤ b ∧ b < w'.heap.size) a5 (moN n E) p5 (moF n E) ∧ Below w.heap.size w w' := by
  by_cases h0 : n = 0
  · subst h0
    have hb : moB 0 E = true := moB_iff.2 (.inl rfl)
    have hC : moC 0 E = 0 := by unfold moC; rw [if_neg (fun h => h.2 rfl)]
    have hR : moR 0 E = 0 := by unfold moR; rw [if_pos hb]
    have hN : moN 0 E = 0 := by unfold moN; rw [hR]; omega
    rw [hb, hC, hR, hN]
    exact (moS0 a cap w).mono fun e w' ⟨he, hb⟩ => ⟨none, 0, he, ⟨Nat.le_refl _, by omega, .inl rfl⟩, hb⟩
  by_cases h8 : n ≤ 8
  · by_cases hk : Rws n E ∧ (E 0).length ≤ 8
    · have hb : moB n E = true := moB_iff.2 (.inr ⟨h8, hk.2, hk.1⟩)
      have hC : moC n E = (E 0).length := by unfold moC; rw [if_pos ⟨hb, h0⟩]
      have hR : moR n E = n := by unfold moR; rw [if_pos hb]
      have hN : moN n E = n * (E 0).length := by unfold moN; rw [hR, hC]
      rw [hb, hC, hR, hN]
      refine (moSC a n cap (E 0).length X E w hs hi rfl (by omega) h8).mono ?_
      rintro e w' ⟨h, hb⟩
      rcases h with ⟨a', p, he, hs', _⟩ | ⟨_, h⟩
      · exact ⟨a', p, he, hs'.congr (fun i hi => flat_cat (fun r hr => hk.1 r hr) i hi), hb⟩
      · exact absurd hk h
    · obtain ⟨hb, hR, hC, hN⟩ := moB_no h0 (fun h => hk ⟨h.2.2, h.2.1⟩)
      rw [hb, hC, hR, hN]
      refine (moSC a n cap (E 0).length X E w hs hi rfl (by omega) h8).mono ?_
      rintro e w' ⟨h, hb⟩
      rcases h with ⟨a', p, he, hs', h⟩ | ⟨he, _⟩
      · exact absurd h hk
      · exact ⟨none, 0, he, ⟨Nat.le_refl _, by omega, .inl rfl⟩, hb⟩
  · obtain ⟨hb, hR, hC, hN⟩ := moB_no h0 (fun h => h8 h.1)
    rw [hb, hC, hR, hN]
    exact (moSbig a n cap w (by omega)).mono fun e w' ⟨he, hb⟩ => ⟨none, 0, he, ⟨Nat.le_refl _, by omega, .inl rfl⟩, hb⟩
theorem etot_le8 {E : Nat → Bool × List Nat} : ∀ {n : Nat}, (∀ j, j < n → (E j).2.length ≤ 8) → etot E n ≤ 8 * n
  | 0, _ => by simp [etot]
  | n + 1, h => by
    have := etot_le8 (fun j (hj : j < n) => h j (by omega))
    have h2 := h n (by omega)
    simp only [etot]; omega
theorem lms_int (z : Int) (h1 : -9223372036854775808 ≤ z) (h2 : z ≤ 9223372036854775807) : (lms z).length ≤ 2 := Num.limbs_len.2 (by show z.natAbs < 18446744073709551616; omega)
theorem mo_small (n : Nat) (E : Nat → List Int) (hi : IInt n E) : 1 + moN n E + etot (moF n E) (moN n E) ≤ 1000 := by
  have h64 : moN n E ≤ 8 * 8 := by
    unfold moN
    refine Nat.mul_le_mul ?_ ?_
    · unfold moR
      by_cases hb : moB n E = true
      · rw [if_pos hb]
        rcases moB_iff.1 hb with e | e
        · omega
        · exact e.1
      · rw [if_neg hb]; omega
    · unfold moC
      by_cases hb : moB n E = true ∧ n ≠ 0
      · rw [if_pos hb]
        rcases moB_iff.1 hb.1 with e | e
        · exact absurd e hb.2
        · exact e.2.1
      · rw [if_neg hb]; omega
  have h := etot_le8 (E := moF n E) (n := moN n E) (fun j hj => by
    have hb := getD_int (cat_int hi n (Nat.le_refl _)) j
    have := lms_int _ hb.1 hb.2
    show (lms ((cat E n).getD j 0)).length ≤ 8
    omega)
  omega

set_option maxHeartbeats 8000000 in
set_option maxRecDepth 20000 in
theorem walkMatOf (a : Option Addr) (n cap : Nat) (E : Nat → List Int) (w : World) (hs : ISeg w (fun _ => True) a n cap E) (hi : IInt n E) :
    Calls Try.prog 4 #[Value.slice a n cap] w fun e w' => e = .returned (.bool true) ∧ Below w.heap.size w w' := by
  have HS := hide hs
  have HI := hide hi
  clear hs hi
  have HB := hide (bl_refl w)
  go_enter Try.func4, Try.ntmps4
  go_wp2_with fail
  refine (szSS a n cap _ E 1048576 _ (HS.out.below HB.out) (by omega) (by omega)).mono ?_
  rintro e w1 ⟨rfl, hb⟩
  have yw1 := hb.size
  replace HB := hide (bl_trans HB.out hb)
  clear hb
  by_cases hz : (1048576 : Int) < ((n + itot E n : Nat) : Int)
  · have HE : bleft 1048576 (n + itot E n) = -1 := by unfold bleft; rw [if_pos hz]
    rw [HE]
    clear HE
    go_wp2
    go_ret
    exact ⟨rfl, HB.out⟩
  have HE : bleft 1048576 (n + itot E n) = 1048576 - ((n + itot E n : Nat) : Int) := by unfold bleft; rw [if_neg hz]
  have hn2 : n ≤ 1048576 := by omega
  have ht : itot E n ≤ 1048576 := by omega
  have hz0 : ¬ 1048576 - ((n + itot E n : Nat) : Int) < 0 := by omega
  rw [HE]
  clear HE hz
  have HT := hide ht
  have HTA : Hid (1 + itot E n ≤ 3000000) := hide (by omega)
  clear ht
  generalize ((n + itot E n : Nat) : Int) = z at *
  have HSS := hide (fun a' p X w h => moSA a' n p X E w h HI.out)
  have HII := hide (fun a' p X w h => moIA a' n p X E w h HI.out)
  have hsm := mo_small n E HI.out
  generalize (moR n E : Int) = R2 at *
  generalize (moC n E : Int) = C2 at *
  generalize moB n E = B2 at *
  generalize moN n E = n2 at *
  generalize moF n E = E2 at *
  obtain ⟨T, hT⟩ : ∃ T, 1 + n2 + etot E2 n2 = T := ⟨_, rfl⟩
  have HTT := hide hT
  have HTm : Hid (1 + n2 + etot E2 n2 ≤ 3000000) := hide (by omega)
  obtain ⟨T1, hT1⟩ : ∃ T1, 1 + itot E n = T1 := ⟨_, rfl⟩
  have HT1 := hide hT1
  clear hT hT1 hsm
  go_wp2_with fail
  refine (toSS a n cap _ E w1 (HS.out.below HB.out) hn2 HT.out).mono ?_
  rintro e w2 ⟨g1, A1, rfl, hx1, hb⟩
  have yw2 := hb.size
  replace HB := hide (bl_trans HB.out hb)
  clear hb
  have M1 := hide hx1.j
  clear hx1
  go_wp2_with fail
  refine (HSS.out _ _ _ w2 M1.out.seg).mono ?_
  rintro e w3 ⟨aS, pS, rfl, hsS, hb⟩
  have yw3 := hb.size
  replace M1 := hide (M1.out.below hb)
  replace HB := hide (bl_trans HB.out hb)
  clear hb
  have SS := hide hsS
  clear hsS
  clear M1
  go_wp2_with fail
  have Xs : Hid ((w3.alloc (Obj.cells #[Value.int .i64 R2, Value.int .i64 C2, Value.slice aS n2 pS] 29)).heap[w3.heap.size]? = some (.cells #[Value.int .i64 R2, Value.int .i64 C2, Value.slice aS n2 pS] 29 (0, 0))) := hide (hnew _ _)
  have hbn := (bl_alloc (bl_refl w3) (Obj.cells #[Value.int .i64 R2, Value.int .i64 C2, Value.slice aS n2 pS] 29))
  have yw4 : w3.heap.size + 1 ≤ (w3.alloc (Obj.cells #[Value.int .i64 R2, Value.int .i64 C2, Value.slice aS n2 pS] 29)).heap.size := by simp only [World.size_alloc]; omega
  generalize w3.alloc (Obj.cells #[Value.int .i64 R2, Value.int .i64 C2, Value.slice aS n2 pS] 29) = w4 at *
  replace SS := hide (SS.out.below hbn)
  replace HB := hide (bl_trans HB.out hbn)
  clear hbn
  have ks0 : w4.cell? ⟨w3.heap.size, 0, none⟩ = some (Value.int .i64 R2) := (Lib.cell_of_heap Xs.out 0).trans rfl
  have fs0 : w4.frozen? ⟨w3.heap.size, 0, none⟩ = false := Lib.frozen_of_heap Xs.out 0
  have ks1 : w4.cell? ⟨w3.heap.size, 1, none⟩ = some (Value.int .i64 C2) := (Lib.cell_of_heap Xs.out 1).trans rfl
  have fs1 : w4.frozen? ⟨w3.heap.size, 1, none⟩ = false := Lib.frozen_of_heap Xs.out 1
  have ks2 : w4.cell? ⟨w3.heap.size, 2, none⟩ = some (Value.slice aS n2 pS) := (Lib.cell_of_heap Xs.out 2).trans rfl
  have fs2 : w4.frozen? ⟨w3.heap.size, 2, none⟩ = false := Lib.frozen_of_heap Xs.out 2
  have zs : w3.heap.size < w4.heap.size := hlt Xs.out
  refine (toSS a n cap _ E w4 (HS.out.below HB.out) hn2 HT.out).mono ?_
  rintro e w5 ⟨g2, A2, rfl, hx2, hb⟩
  have yw5 := hb.size
  clear ks0 fs0 ks1 fs1 ks2 fs2 zs
  replace Xs := hide (hbel Xs.out hb (by first | assumption | omega))
  replace SS := hide (SS.out.below hb)
  replace HB := hide (bl_trans HB.out hb)
  clear hb
  have M2 := hide hx2.j
  clear hx2
  have ks0 : w5.cell? ⟨w3.heap.size, 0, none⟩ = some (Value.int .i64 R2) := (Lib.cell_of_heap Xs.out 0).trans rfl
  have fs0 : w5.frozen? ⟨w3.heap.size, 0, none⟩ = false := Lib.frozen_of_heap Xs.out 0
  have ks1 : w5.cell? ⟨w3.heap.size, 1, none⟩ = some (Value.int .i64 C2) := (Lib.cell_of_heap Xs.out 1).trans rfl
  have fs1 : w5.frozen? ⟨w3.heap.size, 1, none⟩ = false := Lib.frozen_of_heap Xs.out 1
  have ks2 : w5.cell? ⟨w3.heap.size, 2, none⟩ = some (Value.slice aS n2 pS) := (Lib.cell_of_heap Xs.out 2).trans rfl
  have fs2 : w5.frozen? ⟨w3.heap.size, 2, none⟩ = false := Lib.frozen_of_heap Xs.out 2
  have zs : w3.heap.size < w5.heap.size := hlt Xs.out
  go_wp2_with fail
  refine (HII.out _ _ _ w5 M2.out.seg).mono ?_
  rintro e w6 ⟨v, rfl, hg, hb⟩
  have yw6 := hb.size
  clear ks0 fs0 ks1 fs1 ks2 fs2 zs
  replace Xs := hide (hbel Xs.out hb (by first | assumption | omega))
  replace SS := hide (SS.out.below hb)
  replace M2 := hide (M2.out.below hb)
  replace HB := hide (bl_trans HB.out hb)
  clear hb
  have GG := hide hg
  clear hg
  have ks0 : w6.cell? ⟨w3.heap.size, 0, none⟩ = some (Value.int .i64 R2) := (Lib.cell_of_heap Xs.out 0).trans rfl
  have fs0 : w6.frozen? ⟨w3.heap.size, 0, none⟩ = false := Lib.frozen_of_heap Xs.out 0
  have ks1 : w6.cell? ⟨w3.heap.size, 1, none⟩ = some (Value.int .i64 C2) := (Lib.cell_of_heap Xs.out 1).trans rfl
  have fs1 : w6.frozen? ⟨w3.heap.size, 1, none⟩ = false := Lib.frozen_of_heap Xs.out 1
  have ks2 : w6.cell? ⟨w3.heap.size, 2, none⟩ = some (Value.slice aS n2 pS) := (Lib.cell_of_heap Xs.out 2).trans rfl
  have fs2 : w6.frozen? ⟨w3.heap.size, 2, none⟩ = false := Lib.frozen_of_heap Xs.out 2
  have zs : w3.heap.size < w6.heap.size := hlt Xs.out
  obtain ⟨a2, c2, ev, hs2⟩ := GG.out.seg
  subst ev
  clear hs2
  go_wp2_with fail
  have Xg : Hid ((w6.alloc (Obj.cells #[Value.int .i64 R2, Value.int .i64 C2, Value.slice a2 n2 c2] 29)).heap[w6.heap.size]? = some (.cells #[Value.int .i64 R2, Value.int .i64 C2, Value.slice a2 n2 c2] 29 (0, 0))) := hide (hnew _ _)
  have hbn := (bl_alloc (bl_refl w6) (Obj.cells #[Value.int .i64 R2, Value.int .i64 C2, Value.slice a2 n2 c2] 29))
  have yw7 : w6.heap.size + 1 ≤ (w6.alloc (Obj.cells #[Value.int .i64 R2, Value.int .i64 C2, Value.slice a2 n2 c2] 29)).heap.size := by simp only [World.size_alloc]; omega
  generalize w6.alloc (Obj.cells #[Value.int .i64 R2, Value.int .i64 C2, Value.slice a2 n2 c2] 29) = w7 at *
  clear ks0 fs0 ks1 fs1 ks2 fs2 zs
  replace Xs := hide (hbel Xs.out hbn (by first | assumption | omega))
  replace SS := hide (SS.out.below hbn)
  replace M2 := hide (M2.out.below hbn)
  replace GG := hide (GG.out.below hbn)
  replace HB := hide (bl_trans HB.out hbn)
  clear hbn
  have ks0 : w7.cell? ⟨w3.heap.size, 0, none⟩ = some (Value.int .i64 R2) := (Lib.cell_of_heap Xs.out 0).trans rfl
  have fs0 : w7.frozen? ⟨w3.heap.size, 0, none⟩ = false := Lib.frozen_of_heap Xs.out 0
  have ks1 : w7.cell? ⟨w3.heap.size, 1, none⟩ = some (Value.int .i64 C2) := (Lib.cell_of_heap Xs.out 1).trans rfl
  have fs1 : w7.frozen? ⟨w3.heap.size, 1, none⟩ = false := Lib.frozen_of_heap Xs.out 1
  have ks2 : w7.cell? ⟨w3.heap.size, 2, none⟩ = some (Value.slice aS n2 pS) := (Lib.cell_of_heap Xs.out 2).trans rfl
  have fs2 : w7.frozen? ⟨w3.heap.size, 2, none⟩ = false := Lib.frozen_of_heap Xs.out 2
  have zs : w3.heap.size < w7.heap.size := hlt Xs.out
  have kg0 : w7.cell? ⟨w6.heap.size, 0, none⟩ = some (Value.int .i64 R2) := (Lib.cell_of_heap Xg.out 0).trans rfl
  have fg0 : w7.frozen? ⟨w6.heap.size, 0, none⟩ = false := Lib.frozen_of_heap Xg.out 0
  have kg1 : w7.cell? ⟨w6.heap.size, 1, none⟩ = some (Value.int .i64 C2) := (Lib.cell_of_heap Xg.out 1).trans rfl
  have fg1 : w7.frozen? ⟨w6.heap.size, 1, none⟩ = false := Lib.frozen_of_heap Xg.out 1
  have kg2 : w7.cell? ⟨w6.heap.size, 2, none⟩ = some (Value.slice a2 n2 c2) := (Lib.cell_of_heap Xg.out 2).trans rfl
  have fg2 : w7.frozen? ⟨w6.heap.size, 2, none⟩ = false := Lib.frozen_of_heap Xg.out 2
  have zg : w6.heap.size < w7.heap.size := hlt Xg.out
  refine (eqM R2 C2 a2 aS n2 c2 pS _ _ E2 w7 (by obtain ⟨u1, u2, u3, u4⟩ := GG.out.seg; cases u3; exact u4) SS.out).mono ?_
  rintro e w8 ⟨rfl, hb⟩
  have yw8 := hb.size
  clear ks0 fs0 ks1 fs1 ks2 fs2 zs
  clear kg0 fg0 kg1 fg1 kg2 fg2 zg
  replace Xs := hide (hbel Xs.out hb (by first | assumption | omega))
  replace Xg := hide (hbel Xg.out hb (by first | assumption | omega))
  replace SS := hide (SS.out.below hb)
  replace M2 := hide (M2.out.below hb)
  replace GG := hide (GG.out.below hb)
  replace HB := hide (bl_trans HB.out hb)
  clear hb
  have ks0 : w8.cell? ⟨w3.heap.size, 0, none⟩ = some (Value.int .i64 R2) := (Lib.cell_of_heap Xs.out 0).trans rfl
  have fs0 : w8.frozen? ⟨w3.heap.size, 0, none⟩ = false := Lib.frozen_of_heap Xs.out 0
  have ks1 : w8.cell? ⟨w3.heap.size, 1, none⟩ = some (Value.int .i64 C2) := (Lib.cell_of_heap Xs.out 1).trans rfl
  have fs1 : w8.frozen? ⟨w3.heap.size, 1, none⟩ = false := Lib.frozen_of_heap Xs.out 1
  have ks2 : w8.cell? ⟨w3.heap.size, 2, none⟩ = some (Value.slice aS n2 pS) := (Lib.cell_of_heap Xs.out 2).trans rfl
  have fs2 : w8.frozen? ⟨w3.heap.size, 2, none⟩ = false := Lib.frozen_of_heap Xs.out 2
  have zs : w3.heap.size < w8.heap.size := hlt Xs.out
  have kg0 : w8.cell? ⟨w6.heap.size, 0, none⟩ = some (Value.int .i64 R2) := (Lib.cell_of_heap Xg.out 0).trans rfl
  have fg0 : w8.frozen? ⟨w6.heap.size, 0, none⟩ = false := Lib.frozen_of_heap Xg.out 0
  have kg1 : w8.cell? ⟨w6.heap.size, 1, none⟩ = some (Value.int .i64 C2) := (Lib.cell_of_heap Xg.out 1).trans rfl
  have fg1 : w8.frozen? ⟨w6.heap.size, 1, none⟩ = false := Lib.frozen_of_heap Xg.out 1
  have kg2 : w8.cell? ⟨w6.heap.size, 2, none⟩ = some (Value.slice a2 n2 c2) := (Lib.cell_of_heap Xg.out 2).trans rfl
  have fg2 : w8.frozen? ⟨w6.heap.size, 2, none⟩ = false := Lib.frozen_of_heap Xg.out 2
  have zg : w6.heap.size < w8.heap.size := hlt Xg.out
  go_wp2_with fail
  refine (toSS a n cap _ E w8 (HS.out.below HB.out) hn2 HT.out).mono ?_
  rintro e w9 ⟨g3, A3, rfl, hx3, hb⟩
  have yw9 := hb.size
  clear ks0 fs0 ks1 fs1 ks2 fs2 zs
  clear kg0 fg0 kg1 fg1 kg2 fg2 zg
  replace Xs := hide (hbel Xs.out hb (by first | assumption | omega))
  replace Xg := hide (hbel Xg.out hb (by first | assumption | omega))
  replace SS := hide (SS.out.below hb)
  replace M2 := hide (M2.out.below hb)
  replace GG := hide (GG.out.below hb)
  replace HB := hide (bl_trans HB.out hb)
  clear hb
  have M3 := hide hx3.j
  clear hx3
  have ks0 : w9.cell? ⟨w3.heap.size, 0, none⟩ = some (Value.int .i64 R2) := (Lib.cell_of_heap Xs.out 0).trans rfl
  have fs0 : w9.frozen? ⟨w3.heap.size, 0, none⟩ = false := Lib.frozen_of_heap Xs.out 0
  have ks1 : w9.cell? ⟨w3.heap.size, 1, none⟩ = some (Value.int .i64 C2) := (Lib.cell_of_heap Xs.out 1).trans rfl
  have fs1 : w9.frozen? ⟨w3.heap.size, 1, none⟩ = false := Lib.frozen_of_heap Xs.out 1
  have ks2 : w9.cell? ⟨w3.heap.size, 2, none⟩ = some (Value.slice aS n2 pS) := (Lib.cell_of_heap Xs.out 2).trans rfl
  have fs2 : w9.frozen? ⟨w3.heap.size, 2, none⟩ = false := Lib.frozen_of_heap Xs.out 2
  have zs : w3.heap.size < w9.heap.size := hlt Xs.out
  have kg0 : w9.cell? ⟨w6.heap.size, 0, none⟩ = some (Value.int .i64 R2) := (Lib.cell_of_heap Xg.out 0).trans rfl
  have fg0 : w9.frozen? ⟨w6.heap.size, 0, none⟩ = false := Lib.frozen_of_heap Xg.out 0
  have kg1 : w9.cell? ⟨w6.heap.size, 1, none⟩ = some (Value.int .i64 C2) := (Lib.cell_of_heap Xg.out 1).trans rfl
  have fg1 : w9.frozen? ⟨w6.heap.size, 1, none⟩ = false := Lib.frozen_of_heap Xg.out 1
  have kg2 : w9.cell? ⟨w6.heap.size, 2, none⟩ = some (Value.slice a2 n2 c2) := (Lib.cell_of_heap Xg.out 2).trans rfl
  have fg2 : w9.frozen? ⟨w6.heap.size, 2, none⟩ = false := Lib.frozen_of_heap Xg.out 2
  have zg : w6.heap.size < w9.heap.size := hlt Xg.out
  go_wp2_with fail
  refine (eqSS _ _ n n n _ _ E w9 M2.out.seg M3.out.seg).mono ?_
  rintro e w10 ⟨rfl, hb⟩
  have yw10 := hb.size
  clear ks0 fs0 ks1 fs1 ks2 fs2 zs
  clear kg0 fg0 kg1 fg1 kg2 fg2 zg
  replace Xs := hide (hbel Xs.out hb (by first | assumption | omega))
  replace Xg := hide (hbel Xg.out hb (by first | assumption | omega))
  replace SS := hide (SS.out.below hb)
  replace M2 := hide (M2.out.below hb)
  replace GG := hide (GG.out.below hb)
  replace M3 := hide (M3.out.below hb)
  replace HB := hide (bl_trans HB.out hb)
  clear hb
  have ks0 : w10.cell? ⟨w3.heap.size, 0, none⟩ = some (Value.int .i64 R2) := (Lib.cell_of_heap Xs.out 0).trans rfl
  have fs0 : w10.frozen? ⟨w3.heap.size, 0, none⟩ = false := Lib.frozen_of_heap Xs.out 0
  have ks1 : w10.cell? ⟨w3.heap.size, 1, none⟩ = some (Value.int .i64 C2) := (Lib.cell_of_heap Xs.out 1).trans rfl
  have fs1 : w10.frozen? ⟨w3.heap.size, 1, none⟩ = false := Lib.frozen_of_heap Xs.out 1
  have ks2 : w10.cell? ⟨w3.heap.size, 2, none⟩ = some (Value.slice aS n2 pS) := (Lib.cell_of_heap Xs.out 2).trans rfl
  have fs2 : w10.frozen? ⟨w3.heap.size, 2, none⟩ = false := Lib.frozen_of_heap Xs.out 2
  have zs : w3.heap.size < w10.heap.size := hlt Xs.out
  have kg0 : w10.cell? ⟨w6.heap.size, 0, none⟩ = some (Value.int .i64 R2) := (Lib.cell_of_heap Xg.out 0).trans rfl
  have fg0 : w10.frozen? ⟨w6.heap.size, 0, none⟩ = false := Lib.frozen_of_heap Xg.out 0
  have kg1 : w10.cell? ⟨w6.heap.size, 1, none⟩ = some (Value.int .i64 C2) := (Lib.cell_of_heap Xg.out 1).trans rfl
  have fg1 : w10.frozen? ⟨w6.heap.size, 1, none⟩ = false := Lib.frozen_of_heap Xg.out 1
  have kg2 : w10.cell? ⟨w6.heap.size, 2, none⟩ = some (Value.slice a2 n2 c2) := (Lib.cell_of_heap Xg.out 2).trans rfl
  have fg2 : w10.frozen? ⟨w6.heap.size, 2, none⟩ = false := Lib.frozen_of_heap Xg.out 2
  have zg : w6.heap.size < w10.heap.size := hlt Xg.out
  clear M3
  go_wp2_with fail
  refine (markJ _ n E w4.heap.size w5.heap.size 1 1 w10 rfl HTA.out M2.out).mono ?_
  rintro e w11 ⟨rfl, hg, hc⟩
  have yw11 := hc.size
  clear ks0 fs0 ks1 fs1 ks2 fs2 zs
  clear kg0 fg0 kg1 fg1 kg2 fg2 zg
  clear M2
  replace Xs := hide (hc.heap Xs.out (fun q => by omega))
  replace Xg := hide (hc.heap Xg.out (fun q => by omega))
  replace SS := hide (SS.out.chg hc (fun b q1 q => by omega))
  replace GG := hide (GG.out.chg hc (fun b q1 q2 q => by omega))
  replace HB := hide (Chg.keep HB.out hc (fun k q => by omega) HB.out.size)
  have M2 := hide hg
  clear hg
  clear hc
  have ks0 : w11.cell? ⟨w3.heap.size, 0, none⟩ = some (Value.int .i64 R2) := (Lib.cell_of_heap Xs.out 0).trans rfl
  have fs0 : w11.frozen? ⟨w3.heap.size, 0, none⟩ = false := Lib.frozen_of_heap Xs.out 0
  have ks1 : w11.cell? ⟨w3.heap.size, 1, none⟩ = some (Value.int .i64 C2) := (Lib.cell_of_heap Xs.out 1).trans rfl
  have fs1 : w11.frozen? ⟨w3.heap.size, 1, none⟩ = false := Lib.frozen_of_heap Xs.out 1
  have ks2 : w11.cell? ⟨w3.heap.size, 2, none⟩ = some (Value.slice aS n2 pS) := (Lib.cell_of_heap Xs.out 2).trans rfl
  have fs2 : w11.frozen? ⟨w3.heap.size, 2, none⟩ = false := Lib.frozen_of_heap Xs.out 2
  have zs : w3.heap.size < w11.heap.size := hlt Xs.out
  have kg0 : w11.cell? ⟨w6.heap.size, 0, none⟩ = some (Value.int .i64 R2) := (Lib.cell_of_heap Xg.out 0).trans rfl
  have fg0 : w11.frozen? ⟨w6.heap.size, 0, none⟩ = false := Lib.frozen_of_heap Xg.out 0
  have kg1 : w11.cell? ⟨w6.heap.size, 1, none⟩ = some (Value.int .i64 C2) := (Lib.cell_of_heap Xg.out 1).trans rfl
  have fg1 : w11.frozen? ⟨w6.heap.size, 1, none⟩ = false := Lib.frozen_of_heap Xg.out 1
  have kg2 : w11.cell? ⟨w6.heap.size, 2, none⟩ = some (Value.slice a2 n2 c2) := (Lib.cell_of_heap Xg.out 2).trans rfl
  have fg2 : w11.frozen? ⟨w6.heap.size, 2, none⟩ = false := Lib.frozen_of_heap Xg.out 2
  have zg : w6.heap.size < w11.heap.size := hlt Xg.out
  rw [HT1.out]
  clear M2
  go_wp2_with fail
  refine (eqM R2 C2 a2 aS n2 c2 pS _ _ E2 w11 (by obtain ⟨u1, u2, u3, u4⟩ := GG.out.seg; cases u3; exact u4) SS.out).mono ?_
  rintro e w12 ⟨rfl, hb⟩
  have yw12 := hb.size
  clear ks0 fs0 ks1 fs1 ks2 fs2 zs
  clear kg0 fg0 kg1 fg1 kg2 fg2 zg
  replace Xs := hide (hbel Xs.out hb (by first | assumption | omega))
  replace Xg := hide (hbel Xg.out hb (by first | assumption | omega))
  replace SS := hide (SS.out.below hb)
  replace GG := hide (GG.out.below hb)
  replace HB := hide (bl_trans HB.out hb)
  clear hb
  have ks0 : w12.cell? ⟨w3.heap.size, 0, none⟩ = some (Value.int .i64 R2) := (Lib.cell_of_heap Xs.out 0).trans rfl
  have fs0 : w12.frozen? ⟨w3.heap.size, 0, none⟩ = false := Lib.frozen_of_heap Xs.out 0
  have ks1 : w12.cell? ⟨w3.heap.size, 1, none⟩ = some (Value.int .i64 C2) := (Lib.cell_of_heap Xs.out 1).trans rfl
  have fs1 : w12.frozen? ⟨w3.heap.size, 1, none⟩ = false := Lib.frozen_of_heap Xs.out 1
  have ks2 : w12.cell? ⟨w3.heap.size, 2, none⟩ = some (Value.slice aS n2 pS) := (Lib.cell_of_heap Xs.out 2).trans rfl
  have fs2 : w12.frozen? ⟨w3.heap.size, 2, none⟩ = false := Lib.frozen_of_heap Xs.out 2
  have zs : w3.heap.size < w12.heap.size := hlt Xs.out
  have kg0 : w12.cell? ⟨w6.heap.size, 0, none⟩ = some (Value.int .i64 R2) := (Lib.cell_of_heap Xg.out 0).trans rfl
  have fg0 : w12.frozen? ⟨w6.heap.size, 0, none⟩ = false := Lib.frozen_of_heap Xg.out 0
  have kg1 : w12.cell? ⟨w6.heap.size, 1, none⟩ = some (Value.int .i64 C2) := (Lib.cell_of_heap Xg.out 1).trans rfl
  have fg1 : w12.frozen? ⟨w6.heap.size, 1, none⟩ = false := Lib.frozen_of_heap Xg.out 1
  have kg2 : w12.cell? ⟨w6.heap.size, 2, none⟩ = some (Value.slice a2 n2 c2) := (Lib.cell_of_heap Xg.out 2).trans rfl
  have fg2 : w12.frozen? ⟨w6.heap.size, 2, none⟩ = false := Lib.frozen_of_heap Xg.out 2
  have zg : w6.heap.size < w12.heap.size := hlt Xg.out
  go_wp2_with fail
  refine (markMe R2 C2 _ n2 E2 w5.heap.size w6.heap.size 1 1 w12 rfl HTm.out GG.out).mono ?_
  rintro e w13 ⟨rfl, hg, hc⟩
  have yw13 := hc.size
  clear ks0 fs0 ks1 fs1 ks2 fs2 zs
  clear kg0 fg0 kg1 fg1 kg2 fg2 zg
  clear GG
  replace Xs := hide (hc.heap Xs.out (fun q => by omega))
  replace Xg := hide (hc.heap Xg.out (fun q => by omega))
  replace SS := hide (SS.out.chg hc (fun b q1 q => by omega))
  replace HB := hide (Chg.keep HB.out hc (fun k q => by omega) HB.out.size)
  have GG := hide hg
  clear hg
  clear hc
  have ks0 : w13.cell? ⟨w3.heap.size, 0, none⟩ = some (Value.int .i64 R2) := (Lib.cell_of_heap Xs.out 0).trans rfl
  have fs0 : w13.frozen? ⟨w3.heap.size, 0, none⟩ = false := Lib.frozen_of_heap Xs.out 0
  have ks1 : w13.cell? ⟨w3.heap.size, 1, none⟩ = some (Value.int .i64 C2) := (Lib.cell_of_heap Xs.out 1).trans rfl
  have fs1 : w13.frozen? ⟨w3.heap.size, 1, none⟩ = false := Lib.frozen_of_heap Xs.out 1
  have ks2 : w13.cell? ⟨w3.heap.size, 2, none⟩ = some (Value.slice aS n2 pS) := (Lib.cell_of_heap Xs.out 2).trans rfl
  have fs2 : w13.frozen? ⟨w3.heap.size, 2, none⟩ = false := Lib.frozen_of_heap Xs.out 2
  have zs : w3.heap.size < w13.heap.size := hlt Xs.out
  have kg0 : w13.cell? ⟨w6.heap.size, 0, none⟩ = some (Value.int .i64 R2) := (Lib.cell_of_heap Xg.out 0).trans rfl
  have fg0 : w13.frozen? ⟨w6.heap.size, 0, none⟩ = false := Lib.frozen_of_heap Xg.out 0
  have kg1 : w13.cell? ⟨w6.heap.size, 1, none⟩ = some (Value.int .i64 C2) := (Lib.cell_of_heap Xg.out 1).trans rfl
  have fg1 : w13.frozen? ⟨w6.heap.size, 1, none⟩ = false := Lib.frozen_of_heap Xg.out 1
  have kg2 : w13.cell? ⟨w6.heap.size, 2, none⟩ = some (Value.slice a2 n2 c2) := (Lib.cell_of_heap Xg.out 2).trans rfl
  have fg2 : w13.frozen? ⟨w6.heap.size, 2, none⟩ = false := Lib.frozen_of_heap Xg.out 2
  have zg : w6.heap.size < w13.heap.size := hlt Xg.out
  rw [HTT.out]
  go_wp2_with fail
  refine (heldMe R2 C2 a2 n2 c2 _ E2 1 1 w13 rfl HTm.out (by obtain ⟨u1, u2, u3, u4⟩ := GG.out.seg; cases u3; exact u4)).mono ?_
  rintro e w14 ⟨rfl, hb⟩
  have yw14 := hb.size
  clear ks0 fs0 ks1 fs1 ks2 fs2 zs
  clear kg0 fg0 kg1 fg1 kg2 fg2 zg
  replace Xs := hide (hbel Xs.out hb (by first | assumption | omega))
  replace Xg := hide (hbel Xg.out hb (by first | assumption | omega))
  replace SS := hide (SS.out.below hb)
  replace GG := hide (GG.out.below hb)
  replace HB := hide (bl_trans HB.out hb)
  clear hb
  have ks0 : w14.cell? ⟨w3.heap.size, 0, none⟩ = some (Value.int .i64 R2) := (Lib.cell_of_heap Xs.out 0).trans rfl
  have fs0 : w14.frozen? ⟨w3.heap.size, 0, none⟩ = false := Lib.frozen_of_heap Xs.out 0
  have ks1 : w14.cell? ⟨w3.heap.size, 1, none⟩ = some (Value.int .i64 C2) := (Lib.cell_of_heap Xs.out 1).trans rfl
  have fs1 : w14.frozen? ⟨w3.heap.size, 1, none⟩ = false := Lib.frozen_of_heap Xs.out 1
  have ks2 : w14.cell? ⟨w3.heap.size, 2, none⟩ = some (Value.slice aS n2 pS) := (Lib.cell_of_heap Xs.out 2).trans rfl
  have fs2 : w14.frozen? ⟨w3.heap.size, 2, none⟩ = false := Lib.frozen_of_heap Xs.out 2
  have zs : w3.heap.size < w14.heap.size := hlt Xs.out
  have kg0 : w14.cell? ⟨w6.heap.size, 0, none⟩ = some (Value.int .i64 R2) := (Lib.cell_of_heap Xg.out 0).trans rfl
  have fg0 : w14.frozen? ⟨w6.heap.size, 0, none⟩ = false := Lib.frozen_of_heap Xg.out 0
  have kg1 : w14.cell? ⟨w6.heap.size, 1, none⟩ = some (Value.int .i64 C2) := (Lib.cell_of_heap Xg.out 1).trans rfl
  have fg1 : w14.frozen? ⟨w6.heap.size, 1, none⟩ = false := Lib.frozen_of_heap Xg.out 1
  have kg2 : w14.cell? ⟨w6.heap.size, 2, none⟩ = some (Value.slice a2 n2 c2) := (Lib.cell_of_heap Xg.out 2).trans rfl
  have fg2 : w14.frozen? ⟨w6.heap.size, 2, none⟩ = false := Lib.frozen_of_heap Xg.out 2
  have zg : w6.heap.size < w14.heap.size := hlt Xg.out
  rw [HTT.out]
  go_wp2_with fail
  refine (toSS a n cap _ E w14 (HS.out.below HB.out) hn2 HT.out).mono ?_
  rintro e w15 ⟨g5, A5, rfl, hx5, hb⟩
  have yw15 := hb.size
  clear ks0 fs0 ks1 fs1 ks2 fs2 zs
  clear kg0 fg0 kg1 fg1 kg2 fg2 zg
  replace Xs := hide (hbel Xs.out hb (by first | assumption | omega))
  replace Xg := hide (hbel Xg.out hb (by first | assumption | omega))
  replace SS := hide (SS.out.below hb)
  replace GG := hide (GG.out.below hb)
  replace HB := hide (bl_trans HB.out hb)
  clear hb
  have M5 := hide hx5.j
  clear hx5
  have ks0 : w15.cell? ⟨w3.heap.size, 0, none⟩ = some (Value.int .i64 R2) := (Lib.cell_of_heap Xs.out 0).trans rfl
  have fs0 : w15.frozen? ⟨w3.heap.size, 0, none⟩ = false := Lib.frozen_of_heap Xs.out 0
  have ks1 : w15.cell? ⟨w3.heap.size, 1, none⟩ = some (Value.int .i64 C2) := (Lib.cell_of_heap Xs.out 1).trans rfl
  have fs1 : w15.frozen? ⟨w3.heap.size, 1, none⟩ = false := Lib.frozen_of_heap Xs.out 1
  have ks2 : w15.cell? ⟨w3.heap.size, 2, none⟩ = some (Value.slice aS n2 pS) := (Lib.cell_of_heap Xs.out 2).trans rfl
  have fs2 : w15.frozen? ⟨w3.heap.size, 2, none⟩ = false := Lib.frozen_of_heap Xs.out 2
  have zs : w3.heap.size < w15.heap.size := hlt Xs.out
  have kg0 : w15.cell? ⟨w6.heap.size, 0, none⟩ = some (Value.int .i64 R2) := (Lib.cell_of_heap Xg.out 0).trans rfl
  have fg0 : w15.frozen? ⟨w6.heap.size, 0, none⟩ = false := Lib.frozen_of_heap Xg.out 0
  have kg1 : w15.cell? ⟨w6.heap.size, 1, none⟩ = some (Value.int .i64 C2) := (Lib.cell_of_heap Xg.out 1).trans rfl
  have fg1 : w15.frozen? ⟨w6.heap.size, 1, none⟩ = false := Lib.frozen_of_heap Xg.out 1
  have kg2 : w15.cell? ⟨w6.heap.size, 2, none⟩ = some (Value.slice a2 n2 c2) := (Lib.cell_of_heap Xg.out 2).trans rfl
  have fg2 : w15.frozen? ⟨w6.heap.size, 2, none⟩ = false := Lib.frozen_of_heap Xg.out 2
  have zg : w6.heap.size < w15.heap.size := hlt Xg.out
  go_wp2_with fail
  refine (HII.out _ _ _ w15 M5.out.seg).mono ?_
  rintro e w16 ⟨v4, rfl, hg4, hb⟩
  have yw16 := hb.size
  clear ks0 fs0 ks1 fs1 ks2 fs2 zs
  clear kg0 fg0 kg1 fg1 kg2 fg2 zg
  replace Xs := hide (hbel Xs.out hb (by first | assumption | omega))
  replace Xg := hide (hbel Xg.out hb (by first | assumption | omega))
  replace SS := hide (SS.out.below hb)
  replace GG := hide (GG.out.below hb)
  replace M5 := hide (M5.out.below hb)
  replace HB := hide (bl_trans HB.out hb)
  clear hb
  have G4 := hide hg4
  clear hg4
  have ks0 : w16.cell? ⟨w3.heap.size, 0, none⟩ = some (Value.int .i64 R2) := (Lib.cell_of_heap Xs.out 0).trans rfl
  have fs0 : w16.frozen? ⟨w3.heap.size, 0, none⟩ = false := Lib.frozen_of_heap Xs.out 0
  have ks1 : w16.cell? ⟨w3.heap.size, 1, none⟩ = some (Value.int .i64 C2) := (Lib.cell_of_heap Xs.out 1).trans rfl
  have fs1 : w16.frozen? ⟨w3.heap.size, 1, none⟩ = false := Lib.frozen_of_heap Xs.out 1
  have ks2 : w16.cell? ⟨w3.heap.size, 2, none⟩ = some (Value.slice aS n2 pS) := (Lib.cell_of_heap Xs.out 2).trans rfl
  have fs2 : w16.frozen? ⟨w3.heap.size, 2, none⟩ = false := Lib.frozen_of_heap Xs.out 2
  have zs : w3.heap.size < w16.heap.size := hlt Xs.out
  have kg0 : w16.cell? ⟨w6.heap.size, 0, none⟩ = some (Value.int .i64 R2) := (Lib.cell_of_heap Xg.out 0).trans rfl
  have fg0 : w16.frozen? ⟨w6.heap.size, 0, none⟩ = false := Lib.frozen_of_heap Xg.out 0
  have kg1 : w16.cell? ⟨w6.heap.size, 1, none⟩ = some (Value.int .i64 C2) := (Lib.cell_of_heap Xg.out 1).trans rfl
  have fg1 : w16.frozen? ⟨w6.heap.size, 1, none⟩ = false := Lib.frozen_of_heap Xg.out 1
  have kg2 : w16.cell? ⟨w6.heap.size, 2, none⟩ = some (Value.slice a2 n2 c2) := (Lib.cell_of_heap Xg.out 2).trans rfl
  have fg2 : w16.frozen? ⟨w6.heap.size, 2, none⟩ = false := Lib.frozen_of_heap Xg.out 2
  have zg : w6.heap.size < w16.heap.size := hlt Xg.out
  clear M5
  obtain ⟨a4, c4, ev, hs4⟩ := G4.out.seg
  subst ev
  clear hs4
  go_wp2_with fail
  have Xh : Hid ((w16.alloc (Obj.cells #[Value.int .i64 R2, Value.int .i64 C2, Value.slice a4 n2 c4] 29)).heap[w16.heap.size]? = some (.cells #[Value.int .i64 R2, Value.int .i64 C2, Value.slice a4 n2 c4] 29 (0, 0))) := hide (hnew _ _)
  have hbn := (bl_alloc (bl_refl w16) (Obj.cells #[Value.int .i64 R2, Value.int .i64 C2, Value.slice a4 n2 c4] 29))
  have yw17 : w16.heap.size + 1 ≤ (w16.alloc (Obj.cells #[Value.int .i64 R2, Value.int .i64 C2, Value.slice a4 n2 c4] 29)).heap.size := by simp only [World.size_alloc]; omega
  generalize w16.alloc (Obj.cells #[Value.int .i64 R2, Value.int .i64 C2, Value.slice a4 n2 c4] 29) = w17 at *
  clear ks0 fs0 ks1 fs1 ks2 fs2 zs
  clear kg0 fg0 kg1 fg1 kg2 fg2 zg
  replace Xs := hide (hbel Xs.out hbn (by first | assumption | omega))
  replace Xg := hide (hbel Xg.out hbn (by first | assumption | omega))
  replace SS := hide (SS.out.below hbn)
  replace GG := hide (GG.out.below hbn)
  replace G4 := hide (G4.out.below hbn)
  replace HB := hide (bl_trans HB.out hbn)
  clear hbn
  have ks0 : w17.cell? ⟨w3.heap.size, 0, none⟩ = some (Value.int .i64 R2) := (Lib.cell_of_heap Xs.out 0).trans rfl
  have fs0 : w17.frozen? ⟨w3.heap.size, 0, none⟩ = false := Lib.frozen_of_heap Xs.out 0
  have ks1 : w17.cell? ⟨w3.heap.size, 1, none⟩ = some (Value.int .i64 C2) := (Lib.cell_of_heap Xs.out 1).trans rfl
  have fs1 : w17.frozen? ⟨w3.heap.size, 1, none⟩ = false := Lib.frozen_of_heap Xs.out 1
  have ks2 : w17.cell? ⟨w3.heap.size, 2, none⟩ = some (Value.slice aS n2 pS) := (Lib.cell_of_heap Xs.out 2).trans rfl
  have fs2 : w17.frozen? ⟨w3.heap.size, 2, none⟩ = false := Lib.frozen_of_heap Xs.out 2
  have zs : w3.heap.size < w17.heap.size := hlt Xs.out
  have kg0 : w17.cell? ⟨w6.heap.size, 0, none⟩ = some (Value.int .i64 R2) := (Lib.cell_of_heap Xg.out 0).trans rfl
  have fg0 : w17.frozen? ⟨w6.heap.size, 0, none⟩ = false := Lib.frozen_of_heap Xg.out 0
  have kg1 : w17.cell? ⟨w6.heap.size, 1, none⟩ = some (Value.int .i64 C2) := (Lib.cell_of_heap Xg.out 1).trans rfl
  have fg1 : w17.frozen? ⟨w6.heap.size, 1, none⟩ = false := Lib.frozen_of_heap Xg.out 1
  have kg2 : w17.cell? ⟨w6.heap.size, 2, none⟩ = some (Value.slice a2 n2 c2) := (Lib.cell_of_heap Xg.out 2).trans rfl
  have fg2 : w17.frozen? ⟨w6.heap.size, 2, none⟩ = false := Lib.frozen_of_heap Xg.out 2
  have zg : w6.heap.size < w17.heap.size := hlt Xg.out
  have kh0 : w17.cell? ⟨w16.heap.size, 0, none⟩ = some (Value.int .i64 R2) := (Lib.cell_of_heap Xh.out 0).trans rfl
  have fh0 : w17.frozen? ⟨w16.heap.size, 0, none⟩ = false := Lib.frozen_of_heap Xh.out 0
  have kh1 : w17.cell? ⟨w16.heap.size, 1, none⟩ = some (Value.int .i64 C2) := (Lib.cell_of_heap Xh.out 1).trans rfl
  have fh1 : w17.frozen? ⟨w16.heap.size, 1, none⟩ = false := Lib.frozen_of_heap Xh.out 1
  have kh2 : w17.cell? ⟨w16.heap.size, 2, none⟩ = some (Value.slice a4 n2 c4) := (Lib.cell_of_heap Xh.out 2).trans rfl
  have fh2 : w17.frozen? ⟨w16.heap.size, 2, none⟩ = false := Lib.frozen_of_heap Xh.out 2
  have zh : w16.heap.size < w17.heap.size := hlt Xh.out
  refine (eqM R2 C2 a4 aS n2 c4 pS _ _ E2 w17 (by obtain ⟨u1, u2, u3, u4⟩ := G4.out.seg; cases u3; exact u4) SS.out).mono ?_
  rintro e w18 ⟨rfl, hb⟩
  have yw18 := hb.size
  clear ks0 fs0 ks1 fs1 ks2 fs2 zs
  clear kg0 fg0 kg1 fg1 kg2 fg2 zg
  clear kh0 fh0 kh1 fh1 kh2 fh2 zh
  replace Xs := hide (hbel Xs.out hb (by first | assumption | omega))
  replace Xg := hide (hbel Xg.out hb (by first | assumption | omega))
  replace Xh := hide (hbel Xh.out hb (by first | assumption | omega))
  replace SS := hide (SS.out.below hb)
  replace GG := hide (GG.out.below hb)
  replace G4 := hide (G4.out.below hb)
  replace HB := hide (bl_trans HB.out hb)
  clear hb
  have ks0 : w18.cell? ⟨w3.heap.size, 0, none⟩ = some (Value.int .i64 R2) := (Lib.cell_of_heap Xs.out 0).trans rfl
  have fs0 : w18.frozen? ⟨w3.heap.size, 0, none⟩ = false := Lib.frozen_of_heap Xs.out 0
  have ks1 : w18.cell? ⟨w3.heap.size, 1, none⟩ = some (Value.int .i64 C2) := (Lib.cell_of_heap Xs.out 1).trans rfl
  have fs1 : w18.frozen? ⟨w3.heap.size, 1, none⟩ = false := Lib.frozen_of_heap Xs.out 1
  have ks2 : w18.cell? ⟨w3.heap.size, 2, none⟩ = some (Value.slice aS n2 pS) := (Lib.cell_of_heap Xs.out 2).trans rfl
  have fs2 : w18.frozen? ⟨w3.heap.size, 2, none⟩ = false := Lib.frozen_of_heap Xs.out 2
  have zs : w3.heap.size < w18.heap.size := hlt Xs.out
  have kg0 : w18.cell? ⟨w6.heap.size, 0, none⟩ = some (Value.int .i64 R2) := (Lib.cell_of_heap Xg.out 0).trans rfl
  have fg0 : w18.frozen? ⟨w6.heap.size, 0, none⟩ = false := Lib.frozen_of_heap Xg.out 0
  have kg1 : w18.cell? ⟨w6.heap.size, 1, none⟩ = some (Value.int .i64 C2) := (Lib.cell_of_heap Xg.out 1).trans rfl
  have fg1 : w18.frozen? ⟨w6.heap.size, 1, none⟩ = false := Lib.frozen_of_heap Xg.out 1
  have kg2 : w18.cell? ⟨w6.heap.size, 2, none⟩ = some (Value.slice a2 n2 c2) := (Lib.cell_of_heap Xg.out 2).trans rfl
  have fg2 : w18.frozen? ⟨w6.heap.size, 2, none⟩ = false := Lib.frozen_of_heap Xg.out 2
  have zg : w6.heap.size < w18.heap.size := hlt Xg.out
  have kh0 : w18.cell? ⟨w16.heap.size, 0, none⟩ = some (Value.int .i64 R2) := (Lib.cell_of_heap Xh.out 0).trans rfl
  have fh0 : w18.frozen? ⟨w16.heap.size, 0, none⟩ = false := Lib.frozen_of_heap Xh.out 0
  have kh1 : w18.cell? ⟨w16.heap.size, 1, none⟩ = some (Value.int .i64 C2) := (Lib.cell_of_heap Xh.out 1).trans rfl
  have fh1 : w18.frozen? ⟨w16.heap.size, 1, none⟩ = false := Lib.frozen_of_heap Xh.out 1
  have kh2 : w18.cell? ⟨w16.heap.size, 2, none⟩ = some (Value.slice a4 n2 c4) := (Lib.cell_of_heap Xh.out 2).trans rfl
  have fh2 : w18.frozen? ⟨w16.heap.size, 2, none⟩ = false := Lib.frozen_of_heap Xh.out 2
  have zh : w16.heap.size < w18.heap.size := hlt Xh.out
  go_wp2_with fail
  refine (heldMe R2 C2 a2 n2 c2 _ E2 1 1 w18 rfl HTm.out (by obtain ⟨u1, u2, u3, u4⟩ := GG.out.seg; cases u3; exact u4)).mono ?_
  rintro e w19 ⟨rfl, hb⟩
  have yw19 := hb.size
  clear ks0 fs0 ks1 fs1 ks2 fs2 zs
  clear kg0 fg0 kg1 fg1 kg2 fg2 zg
  clear kh0 fh0 kh1 fh1 kh2 fh2 zh
  replace Xs := hide (hbel Xs.out hb (by first | assumption | omega))
  replace Xg := hide (hbel Xg.out hb (by first | assumption | omega))
  replace Xh := hide (hbel Xh.out hb (by first | assumption | omega))
  replace SS := hide (SS.out.below hb)
  replace GG := hide (GG.out.below hb)
  replace G4 := hide (G4.out.below hb)
  replace HB := hide (bl_trans HB.out hb)
  clear hb
  have ks0 : w19.cell? ⟨w3.heap.size, 0, none⟩ = some (Value.int .i64 R2) := (Lib.cell_of_heap Xs.out 0).trans rfl
  have fs0 : w19.frozen? ⟨w3.heap.size, 0, none⟩ = false := Lib.frozen_of_heap Xs.out 0
  have ks1 : w19.cell? ⟨w3.heap.size, 1, none⟩ = some (Value.int .i64 C2) := (Lib.cell_of_heap Xs.out 1).trans rfl
  have fs1 : w19.frozen? ⟨w3.heap.size, 1, none⟩ = false := Lib.frozen_of_heap Xs.out 1
  have ks2 : w19.cell? ⟨w3.heap.size, 2, none⟩ = some (Value.slice aS n2 pS) := (Lib.cell_of_heap Xs.out 2).trans rfl
  have fs2 : w19.frozen? ⟨w3.heap.size, 2, none⟩ = false := Lib.frozen_of_heap Xs.out 2
  have zs : w3.heap.size < w19.heap.size := hlt Xs.out
  have kg0 : w19.cell? ⟨w6.heap.size, 0, none⟩ = some (Value.int .i64 R2) := (Lib.cell_of_heap Xg.out 0).trans rfl
  have fg0 : w19.frozen? ⟨w6.heap.size, 0, none⟩ = false := Lib.frozen_of_heap Xg.out 0
  have kg1 : w19.cell? ⟨w6.heap.size, 1, none⟩ = some (Value.int .i64 C2) := (Lib.cell_of_heap Xg.out 1).trans rfl
  have fg1 : w19.frozen? ⟨w6.heap.size, 1, none⟩ = false := Lib.frozen_of_heap Xg.out 1
  have kg2 : w19.cell? ⟨w6.heap.size, 2, none⟩ = some (Value.slice a2 n2 c2) := (Lib.cell_of_heap Xg.out 2).trans rfl
  have fg2 : w19.frozen? ⟨w6.heap.size, 2, none⟩ = false := Lib.frozen_of_heap Xg.out 2
  have zg : w6.heap.size < w19.heap.size := hlt Xg.out
  have kh0 : w19.cell? ⟨w16.heap.size, 0, none⟩ = some (Value.int .i64 R2) := (Lib.cell_of_heap Xh.out 0).trans rfl
  have fh0 : w19.frozen? ⟨w16.heap.size, 0, none⟩ = false := Lib.frozen_of_heap Xh.out 0
  have kh1 : w19.cell? ⟨w16.heap.size, 1, none⟩ = some (Value.int .i64 C2) := (Lib.cell_of_heap Xh.out 1).trans rfl
  have fh1 : w19.frozen? ⟨w16.heap.size, 1, none⟩ = false := Lib.frozen_of_heap Xh.out 1
  have kh2 : w19.cell? ⟨w16.heap.size, 2, none⟩ = some (Value.slice a4 n2 c4) := (Lib.cell_of_heap Xh.out 2).trans rfl
  have fh2 : w19.frozen? ⟨w16.heap.size, 2, none⟩ = false := Lib.frozen_of_heap Xh.out 2
  have zh : w16.heap.size < w19.heap.size := hlt Xh.out
  rw [HTT.out]
  go_wp2
  go_ret
  exact ⟨rfl, HB.out⟩
end Go.Proofs.Yteljkjpcjjiidaa
