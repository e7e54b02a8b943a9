/- My texts DrB, DrS, in this order. -/
import Derived.Test.YthjapjbiclkhcaaPk21
import Derived.Test.YthjapjbiclkhcaaPk03
import Derived.Test.YthjapjbiclkhcaaPk01
import Derived.Deep.CutBlock
import Derived.Deep.RegionHeld3
/- The walks of draws of numbers: a bit, limbs, some number. -/
namespace Go.Proofs.Ythjapjbiclkhcaa
open Go.RowKit
set_option linter.unusedVariables false

theorem two_mod (K : Nat) : ∃ Y : Nat, (2 : Int) ^ (K % 32) % 4294967296 = (Y : Int) ∧ Y < 4294967296 ∧ Y ≠ 0 := by
  have hlt : 2 ^ (K % 32) < 2 ^ 32 := Nat.pow_lt_pow_right (by omega) (Nat.mod_lt _ (by omega))
  have hpos : 0 < 2 ^ (K % 32) := Nat.pow_pos (by omega)
  obtain ⟨m, hm, h1, h2⟩ : ∃ m : Nat, (2 : Int) ^ (K % 32) = (m : Int) ∧ m < 4294967296 ∧ 0 < m := ⟨2 ^ (K % 32), by rw [Int.natCast_pow]; rfl, hlt, hpos⟩
  exact ⟨m % 4294967296, by rw [hm]; omega, Nat.mod_lt _ (by omega), by omega⟩
theorem nat_pos_of {xs : List Nat} {y : Nat} (h : y ∈ xs) (hy : y ≠ 0) : Num.nat xs ≠ 0 := by
  induction xs with
  | nil => cases h
  | cons x r ih =>
    rw [Num.nat]
    rcases List.mem_cons.1 h with e | e
    · subst e; omega
    · have := ih e; omega
theorem set_pos {n q Y : Nat} (hq : q < n) (hY : Y ≠ 0) : Num.nat ((List.replicate n 0).set q Y) ≠ 0 :=
  nat_pos_of (List.mem_set (by simpa using hq) Y) hY
theorem far_cell {w w' : World} {r : Option Nat} (h : w.grownBy w' r) (p : Addr) (h1 : p.block < w.heap.size) (h2 : some p.block ≠ r) : w'.cell? p = w.cell? p := World.cell?_of_block (w := w) (h.block p.block h1 h2)
theorem far_frozen {w w' : World} {r : Option Nat} (h : w.grownBy w' r) (p : Addr) (h1 : p.block < w.heap.size) (h2 : some p.block ≠ r) : w'.frozen? p = w.frozen? p := World.frozen?_of_block (w := w) (h.block p.block h1 h2)
theorem fin_two {w w1 : World} {N b n c : Nat} {a : Option Addr} {xs : List Nat} (h : Own w1 b a n c xs) (hN : N < b) (wN : w.heap.size ≤ N) (x y : Value) : Own ((w1.setCell ⟨N, 0, none⟩ x).setCell ⟨N, 1, none⟩ y) w.heap.size a n c xs :=
  ((h.setCell (p := ⟨N, 0, none⟩) hN x).setCell (p := ⟨N, 1, none⟩) hN y).mono (by omega)

set_option maxHeartbeats 2000000 in
theorem bitD (K : Nat) (w : World) (h1 : K < 1280) :
    Calls Try.prog 82 #[.int .i64 K] w fun e w' => ∃ z a' c', e = .returned (.agg #[.bool (sgn z), .slice a' (lms z).length c']) ∧ ((lms z).length ≤ 40 ∧ z ≠ 0) ∧ Own w' w.heap.size a' (lms z).length c' (lms z) ∧ Below w.heap.size w w' := by
  obtain ⟨i0, hi, hz0, hz1, hz2⟩ := info_parts Try.info56
  obtain ⟨q, hq⟩ : ∃ q, K / 32 = q := ⟨_, rfl⟩
  have hq1 : q ≤ 39 := by omega
  have hqi : (K : Int) / 32 = (q : Int) := by omega
  obtain ⟨Y, hY, hY2, hY3⟩ := two_mod K
  have kr0 : (w.alloc (Obj.cells #[Value.bool false, Value.slice none 0 0] 26)).cell? ⟨w.heap.size, 0, none⟩ = some (Value.bool false) := by go_simp
  have kr1 : (w.alloc (Obj.cells #[Value.bool false, Value.slice none 0 0] 26)).cell? ⟨w.heap.size, 1, none⟩ = some (Value.slice none 0 0) := by go_simp
  have fr0 : (w.alloc (Obj.cells #[Value.bool false, Value.slice none 0 0] 26)).frozen? ⟨w.heap.size, 0, none⟩ = false := by go_simp
  have fr1 : (w.alloc (Obj.cells #[Value.bool false, Value.slice none 0 0] 26)).frozen? ⟨w.heap.size, 1, none⟩ = false := by go_simp
  have zr : (w.alloc (Obj.cells #[Value.bool false, Value.slice none 0 0] 26)).heap.size = w.heap.size + 1 := by simp
  have HZR := hide zr
  have HB := hide (bl_alloc (bl_refl w) (Obj.cells #[Value.bool false, Value.slice none 0 0] 26))
  clear zr
  go_enter Try.func82, Try.ntmps82
  go_upto_region 1 with fail
  generalize w.alloc (Obj.cells #[Value.bool false, Value.slice none 0 0] 26) = wa at *
  go_wp2_with (at_make; refine wpList_make_full _ rfl _ _ 24 rfl (w.heap.size + 1) 56 i0 (.int .u32 0) 1 Try.underlying24 hi hz0 hz1 _ _ _ _ (q + 1) rfl rfl (by omega) (by omega) (by rw [hz2]; omega) (by unfold maxLen; omega) (by have := HZR.out; omega) ?_; intro w1 hown hgrow; have hb1 : Below wa.heap.size wa w1 := (Below.refl _ _).grown hgrow (Nat.le_refl _) (by simp); have HO := hide (own_made2 hown); have hlow := hb1.size; clear hown hgrow; rw [HZR.out] at *; have d0 := own_cell HO.out q (by simp); have f0 := HO.out.1.frozenAt q)
  have hst := own_set HO.out q Y hY2
  replace kr0 := (far_cell hst.2 ⟨w.heap.size, 0, none⟩ (by dsimp only; omega) (fun e => by injection e with e; dsimp only at e; omega)).trans ((hb1.cell (p := ⟨w.heap.size, 0, none⟩) (by dsimp only; omega)).trans kr0)
  replace kr1 := (far_cell hst.2 ⟨w.heap.size, 1, none⟩ (by dsimp only; omega) (fun e => by injection e with e; dsimp only at e; omega)).trans ((hb1.cell (p := ⟨w.heap.size, 1, none⟩) (by dsimp only; omega)).trans kr1)
  replace fr0 := (far_frozen hst.2 ⟨w.heap.size, 0, none⟩ (by dsimp only; omega) (fun e => by injection e with e; dsimp only at e; omega)).trans ((hb1.frozen (p := ⟨w.heap.size, 0, none⟩) (by dsimp only; omega)).trans fr0)
  replace fr1 := (far_frozen hst.2 ⟨w.heap.size, 1, none⟩ (by dsimp only; omega) (fun e => by injection e with e; dsimp only at e; omega)).trans ((hb1.frozen (p := ⟨w.heap.size, 1, none⟩) (by dsimp only; omega)).trans fr1)
  replace HB : Hid (Below w.heap.size w (w1.setCell ⟨w.heap.size + 1, q, none⟩ (Value.int .u32 Y))) := hide ((HB.out.trans (hb1.mono (Nat.le_succ _))).setCell (p := ⟨w.heap.size + 1, q, none⟩) (Nat.le_succ _) _)
  have HS := hide hst.1
  have hls := hst.2.size
  clear hst d0 f0 hb1 HO
  generalize w1.setCell ⟨w.heap.size + 1, q, none⟩ (Value.int .u32 Y) = w2 at *
  refine (makeS false _ (q + 1) (q + 1) _ _ HS.out.seg (by omega)).mono ?_
  rintro e w3 ⟨v, rfl, ⟨a', c', rfl, ho⟩, hb3⟩
  have hL := small_len (n := false) HS.out.2
  rw [HS.out.len] at hL
  have hz3 := hb3.size
  replace kr0 := (hb3.cell (p := ⟨w.heap.size, 0, none⟩) (by dsimp only; omega)).trans kr0
  replace kr1 := (hb3.cell (p := ⟨w.heap.size, 1, none⟩) (by dsimp only; omega)).trans kr1
  replace fr0 := (hb3.frozen (p := ⟨w.heap.size, 0, none⟩) (by dsimp only; omega)).trans fr0
  replace fr1 := (hb3.frozen (p := ⟨w.heap.size, 1, none⟩) (by dsimp only; omega)).trans fr1
  replace HB := hide (bl_trans HB.out hb3)
  have HO := hide ho
  have HLL := hide hL
  clear hb3 ho hL HS
  have HNZ : Hid (mk false (Num.nat ((List.replicate (q + 1) 0).set q Y)) ≠ 0) := hide (fun e => set_pos (n := q + 1) (q := q) (by omega) hY3 (by unfold mk at e; simpa using e))
  generalize mk false (Num.nat ((List.replicate (q + 1) 0).set q Y)) = z at *
  go_wp2
  refine bodyPost_ret (v := (.agg #[.bool (sgn z), .slice a' (lms z).length c'])) (by simp [results, Try.results82, go_sem, kr0, kr1]) rfl ?_
  exact ⟨z, a', c', rfl, ⟨by have := HLL.out; omega, HNZ.out⟩, fin_two HO.out (by omega) (Nat.le_refl _) _ _, (HB.out.setCell (p := ⟨w.heap.size, 0, none⟩) (Nat.le_refl _) _).setCell (p := ⟨w.heap.size, 1, none⟩) (Nat.le_refl _) _⟩

/-- in the midst of a draw: the cursor, the box of the answer, all that was there -/
structure Dst (w : World) (B : Nat) (a : Option Addr) (len cap : Nat) (wr : World) : Prop where
  cur : Cur B a len cap wr
  only : Only B w wr
  r0 : wr.cell? ⟨w.heap.size, 0, none⟩ = some (.bool false)
  r1 : wr.cell? ⟨w.heap.size, 1, none⟩ = some (.slice none 0 0)
  g0 : wr.frozen? ⟨w.heap.size, 0, none⟩ = false
  g1 : wr.frozen? ⟨w.heap.size, 1, none⟩ = false
  z : w.heap.size < wr.heap.size
theorem Dst.init {w : World} {B : Nat} {a : Option Addr} {len cap : Nat} (h : Cur B a len cap w) : Dst w B a len cap (w.alloc (Obj.cells #[Value.bool false, Value.slice none 0 0] 26)) :=
  ⟨h.alloc _, (Only.refl B w).alloc _, by go_simp, by go_simp, by go_simp, by go_simp, by simp only [World.size_alloc]; omega⟩
theorem Dst.on {w wr w2 : World} {B : Nat} {a : Option Addr} {len cap : Nat} (h : Dst w B a len cap wr) (hB : B < w.heap.size) (hc : Cur B a len cap w2) (ho : Only B wr w2) : Dst w B a len cap w2 := by
  have hz := h.z
  exact ⟨hc, h.only.trans ho, (ho.cell (p := ⟨w.heap.size, 0, none⟩) hz (by dsimp only; omega)).trans h.r0, (ho.cell (p := ⟨w.heap.size, 1, none⟩) hz (by dsimp only; omega)).trans h.r1, (ho.frozen (p := ⟨w.heap.size, 0, none⟩) hz (by dsimp only; omega)).trans h.g0, (ho.frozen (p := ⟨w.heap.size, 1, none⟩) hz (by dsimp only; omega)).trans h.g1, Nat.lt_of_lt_of_le hz ho.size⟩
theorem Dst.bel {w wr w2 : World} {B : Nat} {a : Option Addr} {len cap : Nat} (h : Dst w B a len cap wr) (hb : Below wr.heap.size wr w2) : Dst w B a len cap w2 := by
  have hz := h.z
  exact ⟨h.cur.bel hb, h.only.bel hb, (hb.cell (p := ⟨w.heap.size, 0, none⟩) hz).trans h.r0, (hb.cell (p := ⟨w.heap.size, 1, none⟩) hz).trans h.r1, (hb.frozen (p := ⟨w.heap.size, 0, none⟩) hz).trans h.g0, (hb.frozen (p := ⟨w.heap.size, 1, none⟩) hz).trans h.g1, Nat.lt_of_lt_of_le hz hb.size⟩
theorem Dst.gr {w wr w2 : World} {B : Nat} {a : Option Addr} {len cap : Nat} {r : Option Nat} (h : Dst w B a len cap wr) (hB : B < w.heap.size) (hg : wr.grownBy w2 r) (hr : ∀ k, r = some k → w.heap.size + 1 ≤ k) : Dst w B a len cap w2 := by
  have hz := h.z
  have ne : some w.heap.size ≠ r := fun e => by have := hr _ e.symm; omega
  exact ⟨h.cur.kept (below_of_grown hg (fun k e => by have := hr k e; omega) (by omega)), h.only.grow hg (fun k e => by have := hr k e; omega), (far_cell hg ⟨w.heap.size, 0, none⟩ hz ne).trans h.r0, (far_cell hg ⟨w.heap.size, 1, none⟩ hz ne).trans h.r1, (far_frozen hg ⟨w.heap.size, 0, none⟩ hz ne).trans h.g0, (far_frozen hg ⟨w.heap.size, 1, none⟩ hz ne).trans h.g1, Nat.lt_of_lt_of_le hz hg.size⟩
theorem Dst.fin {w wr : World} {B : Nat} {a : Option Addr} {len cap : Nat} (h : Dst w B a len cap wr) (hB : B < w.heap.size) (x y : Value) : Cur B a len cap ((wr.setCell ⟨w.heap.size, 0, none⟩ x).setCell ⟨w.heap.size, 1, none⟩ y) ∧ Only B w ((wr.setCell ⟨w.heap.size, 0, none⟩ x).setCell ⟨w.heap.size, 1, none⟩ y) := by
  have hz := h.z
  have hb : Below w.heap.size wr ((wr.setCell ⟨w.heap.size, 0, none⟩ x).setCell ⟨w.heap.size, 1, none⟩ y) := ((Below.refl w.heap.size wr).setCell (p := ⟨w.heap.size, 0, none⟩) (Nat.le_refl _) x).setCell (p := ⟨w.heap.size, 1, none⟩) (Nat.le_refl _) y
  refine ⟨h.cur.kept (hb.mono hB), ⟨hb.os.trans h.only.os, hb.tape.trans h.only.tape, hb.output.trans h.only.output, Nat.le_trans h.only.size hb.size, fun k hk hn => (hb.block k hk).trans (h.only.block k hk hn)⟩⟩
/-- a drawn number -/
def NumD (most : Nat) (w : World) (B : Nat) (a : Option Addr) (len cap : Nat) (w' : World) (e : Ending) : Prop :=
  ∃ z a' c', e = .returned (.agg #[.bool (sgn z), .slice a' (lms z).length c']) ∧ (lms z).length ≤ most ∧ Own w' w.heap.size a' (lms z).length c' (lms z) ∧ Cur B a len cap w' ∧ Only B w w'

set_option maxHeartbeats 4000000 in
theorem bigD (most : Nat) (B : Nat) (a : Option Addr) (len cap : Nat) (w : World) (hc : Cur B a len cap w) (hm : most ≤ 40) :
    Calls Try.prog 26 #[.pointer (some ⟨B, 0, none⟩), .int .i64 most] w fun e w' => NumD most w B a len cap w' e := by
  obtain ⟨i0, hi, hz0, hz1, hz2⟩ := info_parts Try.info56
  have hB := hc.hB
  have HBB := hide hB
  have HD := hide (Dst.init hc)
  have hzr : (w.alloc (Obj.cells #[Value.bool false, Value.slice none 0 0] 26)).heap.size = w.heap.size + 1 := by simp
  have HZR := hide hzr
  clear hc hzr
  go_enter Try.func26, Try.ntmps26
  go_upto_region 1 with fail
  generalize w.alloc (Obj.cells #[Value.bool false, Value.slice none 0 0] 26) = wa at *
  go_wp2_with fail
  refine (belowD B a len cap _ HD.out.cur (most + 1) (by omega)).mono ?_
  rintro e w2 ⟨x, hx, rfl, hc2, ho2⟩
  have hx' : 0 ≤ x ∧ x < (most : Int) + 1 := by rcases hx with h | h <;> omega
  obtain ⟨n, rfl⟩ := Int.eq_ofNat_of_zero_le hx'.1
  have hn : n ≤ most := by have := hx'.2; omega
  replace HD := hide (HD.out.on HBB.out hc2 ho2)
  clear hx hx' hc2 ho2 HZR
  have zz := HD.out.z
  have HO0 : Hid (Own (w2.alloc (Obj.cells #[] 56)) (w.heap.size + 1) (some ⟨w2.heap.size, 0, none⟩) 0 0 []) := hide ⟨by
    have := World.ownsRow_lit (base := w.heap.size + 1) (e := 56) (size := 1) w2 #[] 0 (by omega) (by unfold maxLen; omega) rfl
    exact this, fun _ h => by cases h⟩
  have HD0 := hide (HD.out.bel (bl_alloc (bl_refl w2) (Obj.cells #[] 56)))
  clear HD zz
  go_wp2
  go_loopw [6, 7] (fun l i wr => ∃ (k : Nat) (ao : Option Addr) (co : Nat) (xs : List Nat), k ≤ n ∧ i = .int .i64 k ∧ l = .slice ao k co ∧ Hid (Own wr (w.heap.size + 1) ao k co xs) ∧ Hid (Dst w B a len cap wr)) (fun _ i _ => n - (intOf i).toNat)
  case atStart => exact ⟨0, _, _, _, Nat.zero_le _, rfl, rfl, HO0, HD0⟩
  case round =>
    clear HO0 HD0
    obtain ⟨k, ao, co, xs, hk, rfl, rfl, HO, HD⟩ := hrel
    by_cases hlt : k < n
    · have hlt' : (k : Int) < (n : Int) := by omega
      go_wp2_with fail
      refine (belowD B a len cap _ HD.out.cur 3 (by omega)).mono ?_
      rintro e w3 ⟨x, hx, rfl, hc3, ho3⟩
      have hx' : 0 ≤ x ∧ x < 3 := by rcases hx with h | h <;> omega
      obtain ⟨hx1, hx2⟩ := hx'
      replace HO := hide (HO.out.only ho3 (by have := HBB.out; omega))
      replace HD := hide (HD.out.on HBB.out hc3 ho3)
      have zz := HD.out.z
      clear hx hc3 ho3
      by_cases h0 : x = 0
      · have e0 : (x == 0) = true := by rw [h0]; rfl
        clear h0
        go_wp2_with ((at_builtin; refine wpList_append_own _ rfl _ _ 24 rfl (w.heap.size + 1) 56 i0 (.int .u32 0) 1 4 Try.underlying24 hi hz0 hz1 hz2 rfl (by decide) _ _ _ rfl (HO.out.1.alloc _) ⟨w3.heap.size, 0, none⟩ 1 1 [_] rfl rfl (cell_one_new _ _ _) (by simp [Value.oneCell']) (by unfold maxLen; omega) (by omega) (by simp only [World.size_alloc]; omega) ?_; intro v' wn hown' hgrow' _; obtain ⟨a1, c1, rfl⟩ := row_val hown'; have hg2 := (show (w3.alloc _).grownBy wn (Value.slice ao k co).ownBlock from hgrow'); clear hgrow'))
        have hD2 := (HD.out.bel (bl_alloc (bl_refl w3) _)).gr HBB.out hg2 (fun j e => (HO.out.1.lt j e).1)
        have ho2 : Own wn (w.heap.size + 1) a1 (k + 1) c1 (xs ++ [4294967295]) := ⟨by rw [List.map_append]; exact hown', fun y hy => by rcases List.mem_append.1 hy with h | h; exact HO.out.2 y h; simp at h; omega⟩
        exact ⟨⟨k + 1, a1, c1, xs ++ [4294967295], by omega, by go_num, rfl, hide ho2, hide hD2⟩, by simp [intOf]; omega⟩
      have e0 : (x == 0) = false := by rw [beq_eq_false_iff_ne]; exact h0
      by_cases h1 : x = 1
      · have e1 : (x == 1) = true := by rw [h1]; rfl
        clear h0 h1
        go_wp2_with ((at_builtin; refine wpList_append_own _ rfl _ _ 24 rfl (w.heap.size + 1) 56 i0 (.int .u32 0) 1 4 Try.underlying24 hi hz0 hz1 hz2 rfl (by decide) _ _ _ rfl (HO.out.1.alloc _) ⟨w3.heap.size, 0, none⟩ 1 1 [_] rfl rfl (cell_one_new _ _ _) (by simp [Value.oneCell']) (by unfold maxLen; omega) (by omega) (by simp only [World.size_alloc]; omega) ?_; intro v' wn hown' hgrow' _; obtain ⟨a1, c1, rfl⟩ := row_val hown'; have hg2 := (show (w3.alloc _).grownBy wn (Value.slice ao k co).ownBlock from hgrow'); clear hgrow'))
        have hD2 := (HD.out.bel (bl_alloc (bl_refl w3) _)).gr HBB.out hg2 (fun j e => (HO.out.1.lt j e).1)
        have ho2 : Own wn (w.heap.size + 1) a1 (k + 1) c1 (xs ++ [0]) := ⟨by rw [List.map_append]; exact hown', fun y hy => by rcases List.mem_append.1 hy with h | h; exact HO.out.2 y h; simp at h; omega⟩
        exact ⟨⟨k + 1, a1, c1, xs ++ [0], by omega, by go_num, rfl, hide ho2, hide hD2⟩, by simp [intOf]; omega⟩
      · have e1 : (x == 1) = false := by rw [beq_eq_false_iff_ne]; exact h1
        clear h0 h1
        go_wp2_with fail
        refine (wordD B a len cap _ HD.out.cur).mono ?_
        rintro e w4 ⟨u, hu, rfl, hc4, ho4⟩
        replace HO := hide (HO.out.only ho4 (by have := HBB.out; omega))
        replace HD := hide (HD.out.on HBB.out hc4 ho4)
        replace zz := HD.out.z
        clear hc4 ho4
        go_wp2_with ((at_builtin; refine wpList_append_own _ rfl _ _ 24 rfl (w.heap.size + 1) 56 i0 (.int .u32 0) 1 4 Try.underlying24 hi hz0 hz1 hz2 rfl (by decide) _ _ _ rfl (HO.out.1.alloc _) ⟨w4.heap.size, 0, none⟩ 1 1 [_] rfl rfl (cell_one_new _ _ _) (by simp [Value.oneCell']) (by unfold maxLen; omega) (by omega) (by simp only [World.size_alloc]; omega) ?_; intro v' wn hown' hgrow' _; obtain ⟨a1, c1, rfl⟩ := row_val hown'; have hg2 := (show (w4.alloc _).grownBy wn (Value.slice ao k co).ownBlock from hgrow'); clear hgrow'))
        have hD2 := (HD.out.bel (bl_alloc (bl_refl w4) _)).gr HBB.out hg2 (fun j e => (HO.out.1.lt j e).1)
        have ho2 : Own wn (w.heap.size + 1) a1 (k + 1) c1 (xs ++ [u]) := ⟨by rw [List.map_append]; exact hown', fun y hy => by rcases List.mem_append.1 hy with h | h; exact HO.out.2 y h; simp at h; omega⟩
        exact ⟨⟨k + 1, a1, c1, xs ++ [u], by omega, by go_num, rfl, hide ho2, hide hD2⟩, by simp [intOf]; omega⟩
    · obtain rfl : k = n := by omega
      go_wp2_with fail
      refine (onceD B a len cap _ HD.out.cur 2 (by omega)).mono ?_
      rintro e w3 ⟨bt, rfl, hc3, ho3⟩
      replace HO := hide (HO.out.only ho3 (by have := HBB.out; omega))
      replace HD := hide (HD.out.on HBB.out hc3 ho3)
      clear hc3 ho3
      go_wp2_with fail
      refine (makeS bt ao k co xs _ HO.out.seg (by omega)).mono ?_
      rintro e w4 ⟨v, rfl, ⟨a', c', rfl, ho⟩, hb4⟩
      have hL := small_len (n := bt) HO.out.2
      rw [HO.out.len] at hL
      have hz3 := HD.out.z
      replace HD := hide (HD.out.bel hb4)
      have HO4 := hide ho
      have HLL := hide hL
      clear hb4 ho hL HO
      have kr0 := HD.out.r0
      have kr1 := HD.out.r1
      have fr0 := HD.out.g0
      have fr1 := HD.out.g1
      have zr := HD.out.z
      generalize mk bt (Num.nat xs) = z at *
      go_wp2
      refine bodyPost_ret (v := (.agg #[.bool (sgn z), .slice a' (lms z).length c'])) (by simp [results, Try.results26, go_sem, kr0, kr1]) rfl ?_
      exact ⟨z, a', c', rfl, by have := HLL.out; omega, fin_two HO4.out (by omega) (Nat.le_refl _) _ _, HD.out.fin HBB.out _ _⟩
end Go.Proofs.Ythjapjbiclkhcaa

/- The walks of draws of numbers, some and any. -/
namespace Go.Proofs.Ythjapjbiclkhcaa
open Go.RowKit
set_option linter.unusedVariables false

theorem len_i64 (z : Int) (h1 : -9223372036854775808 ≤ z) (h2 : z ≤ 9223372036854775807) : (lms z).length ≤ 2 := Num.limbs_len.2 (by show z.natAbs < 18446744073709551616; omega)
set_option maxHeartbeats 4000000 in
theorem someB (B : Nat) (a : Option Addr) (len cap : Nat) (w : World) (hc : Cur B a len cap w) :
    Calls Try.prog 57 #[.pointer (some ⟨B, 0, none⟩)] w fun e w' => NumD 40 w B a len cap w' e := by
  have hB := hc.hB
  have HBB := hide hB
  have HD := hide (Dst.init hc)
  clear hc
  go_enter Try.func57, Try.ntmps57
  go_upto_region 1 with fail
  generalize w.alloc (Obj.cells #[Value.bool false, Value.slice none 0 0] 26) = wa at *
  go_wp2_with fail
  refine (belowD B a len cap _ HD.out.cur 8 (by omega)).mono ?_
  rintro e w2 ⟨x, hx, rfl, hc2, ho2⟩
  have hx' : 0 ≤ x ∧ x < 8 := by rcases hx with h | h <;> omega
  obtain ⟨hx1, hx2⟩ := hx'
  replace HD := hide (HD.out.on HBB.out hc2 ho2)
  clear hx hc2 ho2
  by_cases h0 : x = 0
  · have e0 : (x == 0) = true := by rw [h0]; rfl
    clear h0
    go_wp2_with fail
    have hb := bl_alloc (bl_refl w2) (Obj.cells #[Value.int .i64 0, Value.int .i64 1, Value.int .i64 (-1), Value.int .i64 2, Value.int .i64 (-2), Value.int .i64 4294967295, Value.int .i64 4294967296, Value.int .i64 (-4294967296), Value.int .i64 9223372036854775807, Value.int .i64 (-9223372036854775808)] 3)
    have HPK := hide (new_ints w2 #[Value.int .i64 0, Value.int .i64 1, Value.int .i64 (-1), Value.int .i64 2, Value.int .i64 (-2), Value.int .i64 4294967295, Value.int .i64 4294967296, Value.int .i64 (-4294967296), Value.int .i64 9223372036854775807, Value.int .i64 (-9223372036854775808)] 3 (fun z => -9223372036854775808 ≤ z ∧ z ≤ 9223372036854775807) (by
      intro v hv
      simp only [List.mem_cons, List.not_mem_nil, or_false] at hv
      rcases hv with rfl | rfl | rfl | rfl | rfl | rfl | rfl | rfl | rfl | rfl
      all_goals exact ⟨_, by omega, rfl⟩) 10 (by simp))
    have zL : w2.heap.size < (w2.alloc (Obj.cells #[Value.int .i64 0, Value.int .i64 1, Value.int .i64 (-1), Value.int .i64 2, Value.int .i64 (-2), Value.int .i64 4294967295, Value.int .i64 4294967296, Value.int .i64 (-4294967296), Value.int .i64 9223372036854775807, Value.int .i64 (-9223372036854775808)] 3)).heap.size := by simp only [World.size_alloc]; omega
    have hB2 := HD.out.z
    replace HD := hide (HD.out.bel hb)
    clear hb
    generalize w2.alloc (Obj.cells #[Value.int .i64 0, Value.int .i64 1, Value.int .i64 (-1), Value.int .i64 2, Value.int .i64 (-2), Value.int .i64 4294967295, Value.int .i64 4294967296, Value.int .i64 (-4294967296), Value.int .i64 9223372036854775807, Value.int .i64 (-9223372036854775808)] 3) = w3 at *
    refine (pickIntD B a len cap _ HD.out.cur w2.heap.size 10 (fun z => -9223372036854775808 ≤ z ∧ z ≤ 9223372036854775807) zL (by omega) (by omega) (by omega) HPK.out).mono ?_
    rintro e w4 ⟨z, hz, rfl, hc4, ho4⟩
    obtain ⟨hza, hzb⟩ := hz
    replace HD := hide (HD.out.on HBB.out hc4 ho4)
    clear hc4 ho4 HPK zL hB2
    go_wp2_with fail
    refine (fromS z _ (by omega) (by omega)).mono ?_
    rintro e wz ⟨v, rfl, ⟨a', c', rfl, ho⟩, hbz⟩
    have HL := hide (len_i64 z (by omega) (by omega))
    have HO := hide ho
    have zb := HD.out.z
    replace HD := hide (HD.out.bel hbz)
    clear ho hbz
    have kr0 := HD.out.r0
    have kr1 := HD.out.r1
    have fr0 := HD.out.g0
    have fr1 := HD.out.g1
    have zr := HD.out.z
    go_wp2
    refine bodyPost_ret (v := (.agg #[.bool (sgn z), .slice a' (lms z).length c'])) (by simp [results, Try.results57, go_sem, kr0, kr1]) rfl ?_
    exact ⟨z, a', c', rfl, by have := HL.out; omega, fin_two HO.out (by omega) (Nat.le_refl _) _ _, HD.out.fin HBB.out _ _⟩
  have e0 : (x == 0) = false := by rw [beq_eq_false_iff_ne]; exact h0
  by_cases h1 : x = 1
  · have e1 : (x == 1) = true := by rw [h1]; rfl
    clear h0 h1
    go_wp2_with fail
    refine (bigD 4 B a len cap _ HD.out.cur (by omega)).mono ?_
    rintro e wz ⟨z, a', c', rfl, hl, ho, hcz, hoz⟩
    have HL := hide hl
    have HO := hide ho
    have zb := HD.out.z
    replace HD := hide (HD.out.on HBB.out hcz hoz)
    clear hl ho hcz hoz
    have kr0 := HD.out.r0
    have kr1 := HD.out.r1
    have fr0 := HD.out.g0
    have fr1 := HD.out.g1
    have zr := HD.out.z
    go_wp2
    refine bodyPost_ret (v := (.agg #[.bool (sgn z), .slice a' (lms z).length c'])) (by simp [results, Try.results57, go_sem, kr0, kr1]) rfl ?_
    exact ⟨z, a', c', rfl, by have := HL.out; omega, fin_two HO.out (by omega) (Nat.le_refl _) _ _, HD.out.fin HBB.out _ _⟩
  have e1 : (x == 1) = false := by rw [beq_eq_false_iff_ne]; exact h1
  by_cases h2 : x = 2
  · have e2 : (x == 2) = true := by rw [h2]; rfl
    clear h0 h1 h2
    go_wp2_with fail
    refine (onceD B a len cap _ HD.out.cur 2 (by omega)).mono ?_
    rintro e w3 ⟨bt, rfl, hc3, ho3⟩
    replace HD := hide (HD.out.on HBB.out hc3 ho3)
    clear hc3 ho3
    go_wp2_with fail
    refine (belowD B a len cap _ HD.out.cur 1280 (by omega)).mono ?_
    rintro e w4 ⟨y, hy, rfl, hc4, ho4⟩
    have hy' : 0 ≤ y ∧ y < 1280 := by rcases hy with h | h <;> omega
    obtain ⟨K, rfl⟩ := Int.eq_ofNat_of_zero_le hy'.1
    have hK := hy'.2
    replace HD := hide (HD.out.on HBB.out hc4 ho4)
    clear hc4 ho4 hy hy'
    go_wp2_with fail
    refine (bitD K _ (by omega)).mono ?_
    rintro e w5 ⟨z0, a0, c0, rfl, hl0, ho0, hb5⟩
    have HO0 := hide ho0
    have HL0 := hide hl0.1
    have zb0 := HD.out.z
    replace HD := hide (HD.out.bel hb5)
    clear hb5 ho0 hl0
    have hfl := fun (wx : World) => field_limbs (Value.bool (sgn z0)) (Value.slice a0 (lms z0).length c0) wx ⟨_, _, _, rfl⟩
    go_wp2_with fail
    refine (makeS bt a0 (lms z0).length c0 (lms z0) _ HO0.out.seg (by have := HL0.out; omega)).mono ?_
    rintro e wz ⟨v, rfl, ⟨a', c', rfl, ho⟩, hbz⟩
    have hL := small_len (n := bt) (lms_small z0)
    have HO := hide ho
    have HL := hide (Nat.le_trans hL HL0.out)
    have zb := HD.out.z
    replace HD := hide (HD.out.bel hbz)
    clear ho hbz hL HO0 HL0 hfl
    have kr0 := HD.out.r0
    have kr1 := HD.out.r1
    have fr0 := HD.out.g0
    have fr1 := HD.out.g1
    have zr := HD.out.z
    generalize mk bt (Num.nat (lms z0)) = z at *
    go_wp2
    refine bodyPost_ret (v := (.agg #[.bool (sgn z), .slice a' (lms z).length c'])) (by simp [results, Try.results57, go_sem, kr0, kr1]) rfl ?_
    exact ⟨z, a', c', rfl, by have := HL.out; omega, fin_two HO.out (by omega) (Nat.le_refl _) _ _, HD.out.fin HBB.out _ _⟩
  have e2 : (x == 2) = false := by rw [beq_eq_false_iff_ne]; exact h2
  by_cases h3 : x = 3
  · have e3 : (x == 3) = true := by rw [h3]; rfl
    clear h0 h1 h2 h3
    go_wp2_with fail
    refine (bigD 40 B a len cap _ HD.out.cur (by omega)).mono ?_
    rintro e wz ⟨z, a', c', rfl, hl, ho, hcz, hoz⟩
    have HL := hide hl
    have HO := hide ho
    have zb := HD.out.z
    replace HD := hide (HD.out.on HBB.out hcz hoz)
    clear hl ho hcz hoz
    have kr0 := HD.out.r0
    have kr1 := HD.out.r1
    have fr0 := HD.out.g0
    have fr1 := HD.out.g1
    have zr := HD.out.z
    go_wp2
    refine bodyPost_ret (v := (.agg #[.bool (sgn z), .slice a' (lms z).length c'])) (by simp [results, Try.results57, go_sem, kr0, kr1]) rfl ?_
    exact ⟨z, a', c', rfl, by have := HL.out; omega, fin_two HO.out (by omega) (Nat.le_refl _) _ _, HD.out.fin HBB.out _ _⟩
  · have e3 : (x == 3) = false := by rw [beq_eq_false_iff_ne]; exact h3
    clear h0 h1 h2 h3
    go_wp2_with fail
    refine (belowD B a len cap _ HD.out.cur 2000 (by omega)).mono ?_
    rintro e w4 ⟨y, hy, rfl, hc4, ho4⟩
    have hy' : 0 ≤ y ∧ y < 2000 := by rcases hy with h | h <;> omega
    obtain ⟨hya, hyb⟩ := hy'
    replace HD := hide (HD.out.on HBB.out hc4 ho4)
    clear hc4 ho4 hy
    go_wp2_with fail
    refine (fromS (y - 1000) _ (by omega) (by omega)).mono ?_
    rintro e wz ⟨v, rfl, ⟨a', c', rfl, ho⟩, hbz⟩
    have HL := hide (len_i64 (y - 1000) (by omega) (by omega))
    have HO := hide ho
    have zb := HD.out.z
    replace HD := hide (HD.out.bel hbz)
    clear ho hbz
    have kr0 := HD.out.r0
    have kr1 := HD.out.r1
    have fr0 := HD.out.g0
    have fr1 := HD.out.g1
    have zr := HD.out.z
    generalize y - 1000 = z at *
    go_wp2
    refine bodyPost_ret (v := (.agg #[.bool (sgn z), .slice a' (lms z).length c'])) (by simp [results, Try.results57, go_sem, kr0, kr1]) rfl ?_
    exact ⟨z, a', c', rfl, by have := HL.out; omega, fin_two HO.out (by omega) (Nat.le_refl _) _ _, HD.out.fin HBB.out _ _⟩
end Go.Proofs.Ythjapjbiclkhcaa
