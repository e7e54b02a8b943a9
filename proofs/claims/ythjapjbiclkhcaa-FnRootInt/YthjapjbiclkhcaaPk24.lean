/- My texts Bit2, CmpS2, in this order. -/
import Derived.Test.YthjapjbiclkhcaaPk02
import Derived.Test.YthjapjbiclkhcaaPk14
/- The walk of l02Bit: 2 to the k. -/
namespace Go.Proofs.Ythjapjbiclkhcaa
open Go.RowKit
set_option linter.unusedVariables false

theorem bit_nat (k : Nat) : Num.nat ((List.replicate (k / 32 + 1) 0).set (k / 32) (2 ^ (k % 32))) = 2 ^ k := by
  have h := Num.nat_set (List.replicate (k / 32 + 1) 0) (k / 32) (2 ^ (k % 32)) (by simp)
  rw [Num.nat_replicate] at h
  simp only [List.getElem_replicate, Nat.mul_zero, Nat.add_zero, Nat.zero_add] at h
  rw [h, show (4294967296 : Nat) = 2 ^ 32 from rfl, ← Nat.pow_mul, ← Nat.pow_add]
  congr 1; omega
theorem shl_fact : ∀ m : Nat, m < 32 → (2 : Int) ^ m % 4294967296 = ((2 ^ m : Nat) : Int) ∧ 2 ^ m < 4294967296 := by decide +kernel

set_option maxHeartbeats 2000000 in
set_option maxRecDepth 20000 in
theorem bitS (k : Nat) (w : World) (hk : k ≤ 2000) :
    Calls Try.prog 82 #[.int .i64 (k : Int)] w fun e w' => ∃ v, e = .returned v ∧ New w' w.heap.size v ((2 ^ k : Nat) : Int) ∧ Below w.heap.size w w' := by
  obtain ⟨i0, hi, hz0, hz1, hz2⟩ := info_parts Try.info56


  have kr0 : (w.alloc (Obj.cells #[Value.bool false, Value.slice none 0 0] 26)).cell? ⟨w.heap.size, 0, none⟩ = some (Value.bool false) := by go_simp
  have kr1 : (w.alloc (Obj.cells #[Value.bool false, Value.slice none 0 0] 26)).cell? ⟨w.heap.size, 1, none⟩ = some (Value.slice none 0 0) := by go_simp
  have fr0 : (w.alloc (Obj.cells #[Value.bool false, Value.slice none 0 0] 26)).frozen? ⟨w.heap.size, 0, none⟩ = false := by go_simp
  have fr1 : (w.alloc (Obj.cells #[Value.bool false, Value.slice none 0 0] 26)).frozen? ⟨w.heap.size, 1, none⟩ = false := by go_simp
  have zr : w.heap.size < (w.alloc (Obj.cells #[Value.bool false, Value.slice none 0 0] 26)).heap.size := by simp only [World.size_alloc]; omega
  have HB := hide (bl_alloc (bl_refl w) (Obj.cells #[Value.bool false, Value.slice none 0 0] 26))
  obtain ⟨q, hq0⟩ : ∃ q, k / 32 = q := ⟨_, rfl⟩
  obtain ⟨m, hm0⟩ : ∃ m, k % 32 = m := ⟨_, rfl⟩
  have hq : (k : Int) / 32 = (q : Int) := by omega
  have hm : (k : Int) % 32 = (m : Int) := by omega
  have hm32 : m < 32 := by omega
  have hN := hide (bit_nat k)
  rw [hq0, hm0] at hN
  have hsh := hide (shl_fact m hm32)
  have hq1 : IntKind.i64.wrap ((q : Int) + 1) = (q : Int) + 1 := by rw [IntKind.wrap_i64]; omega
  have hq9 : q ≤ 70 := by omega
  go_enter Try.func82, Try.ntmps82
  go_wp2_with (at_make; refine wpList_make_full _ rfl _ _ 24 rfl (w.heap.size + 1) 56 i0 (.int .u32 0) 1 Try.underlying24 hi hz0 hz1 _ _ _ _ (q + 1) rfl rfl rfl rfl (by rw [hz2]; omega) (by unfold maxLen; omega) (by simp) ?_)
  intro w1 hown hgrow
  have hb1 : Below (w.alloc (Obj.cells #[Value.bool false, Value.slice none 0 0] 26)).heap.size (w.alloc (Obj.cells #[Value.bool false, Value.slice none 0 0] 26)) w1 := (Below.refl _ _).grown hgrow (Nat.le_refl _) (by simp)
  have HO := hide (own_made hown)
  replace kr0 := (hb1.cell (p := ⟨w.heap.size, 0, none⟩) zr).trans kr0
  replace kr1 := (hb1.cell (p := ⟨w.heap.size, 1, none⟩) zr).trans kr1
  replace fr0 := (hb1.frozen (p := ⟨w.heap.size, 0, none⟩) zr).trans fr0
  replace fr1 := (hb1.frozen (p := ⟨w.heap.size, 1, none⟩) zr).trans fr1
  replace zr := Nat.lt_of_lt_of_le zr hb1.size
  replace HB := hide (bl_trans HB.out hb1)
  obtain ⟨y, hy⟩ := own_has HO.out q (by omega)
  have fy := HO.out.1.frozenAt q
  clear hb1 hown hgrow
  have hq2 : (q : Int) < (q : Int) + 1 := by omega
  have hm2 : (m : Int) < 32 := by omega
  go_wp2_with fail
  rw [hsh.out.1]
  have hset := own_set HO.out q (2 ^ m) hsh.out.2
  have HS := hide hset.1
  have hzz := HB.out.size
  have k0 : (w1.setCell ⟨w.heap.size + 1, q, none⟩ (Value.int .u32 ((2 ^ m : Nat) : Int))).cell? ⟨w.heap.size, 0, none⟩ = some (Value.bool false) := by go_simp
  have k1 : (w1.setCell ⟨w.heap.size + 1, q, none⟩ (Value.int .u32 ((2 ^ m : Nat) : Int))).cell? ⟨w.heap.size, 1, none⟩ = some (Value.slice none 0 0) := by go_simp
  have f0 : (w1.setCell ⟨w.heap.size + 1, q, none⟩ (Value.int .u32 ((2 ^ m : Nat) : Int))).frozen? ⟨w.heap.size, 0, none⟩ = false := by go_simp
  have f1 : (w1.setCell ⟨w.heap.size + 1, q, none⟩ (Value.int .u32 ((2 ^ m : Nat) : Int))).frozen? ⟨w.heap.size, 1, none⟩ = false := by go_simp
  have zr2 : w.heap.size < (w1.setCell ⟨w.heap.size + 1, q, none⟩ (Value.int .u32 ((2 ^ m : Nat) : Int))).heap.size := by simp only [World.size_setCell]; omega
  have HB2 := hide (HB.out.setCell (p := ⟨w.heap.size + 1, q, none⟩) (by dsimp only; omega) (Value.int .u32 ((2 ^ m : Nat) : Int)))
  clear hset kr0 kr1 fr0 fr1 hy fy zr HO HB
  generalize (w1.setCell ⟨w.heap.size + 1, q, none⟩ (Value.int .u32 ((2 ^ m : Nat) : Int))) = w2 at *
  have HMK := hide (makeS false (some ⟨w.heap.size + 1, 0, none⟩) (q + 1) (q + 1) _ w2 HS.out.seg (by omega))
  rw [hN.out] at HMK
  refine HMK.out.mono ?_
  rintro e w3 ⟨v, rfl, hn, hb⟩
  rw [show mk false (2 ^ k) = ((2 ^ k : Nat) : Int) from rfl] at hn
  obtain ⟨a3, c3, rfl, ho⟩ := hn
  replace k0 := (hb.cell (p := ⟨w.heap.size, 0, none⟩) zr2).trans k0
  replace k1 := (hb.cell (p := ⟨w.heap.size, 1, none⟩) zr2).trans k1
  replace f0 := (hb.frozen (p := ⟨w.heap.size, 0, none⟩) zr2).trans f0
  replace f1 := (hb.frozen (p := ⟨w.heap.size, 1, none⟩) zr2).trans f1
  have HB3 := hide (bl_trans HB2.out hb)
  have HO3 := hide ho
  clear hb ho HMK HS hsh hN
  go_wp2
  refine bodyPost_ret (v := .agg #[.bool (sgn ((2 ^ k : Nat) : Int)), .slice a3 (lms ((2 ^ k : Nat) : Int)).length c3]) (by simp [results, Try.results82, go_sem, k0, k1]) rfl ?_
  exact ⟨_, rfl, ⟨a3, c3, rfl, ((HO3.out.setCell (p := ⟨w.heap.size, 0, none⟩) (by dsimp only; omega) _).setCell (p := ⟨w.heap.size, 1, none⟩) (by dsimp only; omega) _).mono (by omega)⟩, (HB3.out.setCell (p := ⟨w.heap.size, 0, none⟩) (by dsimp only; omega) _).setCell (p := ⟨w.heap.size, 1, none⟩) (by dsimp only; omega) _⟩
end Go.Proofs.Ythjapjbiclkhcaa

/- The walk of l02Cmp. -/
namespace Go.Proofs.Ythjapjbiclkhcaa
open Go.RowKit
set_option linter.unusedVariables false

set_option maxHeartbeats 1000000 in
theorem cmpS (v1 v2 : Value) (x y : Int) (w : World) (h1 : Is w v1 x) (h2 : Is w v2 y) :
    Calls Try.prog 76 #[v1, v2] w fun e w' => e = .returned (.int .i64 (cmpZ x y)) ∧ Below w.heap.size w w' := by
  obtain ⟨a, ca, rfl, ha⟩ := h1
  obtain ⟨b, cb, rfl, hb⟩ := h2
  have HA := hide (fun o1 o2 => ha.below (below2 w o1 o2))
  have HB := hide (fun o1 o2 => hb.below (below2 w o1 o2))
  clear ha hb
  by_cases hx : x < 0
  · have ex : sgn x = true := decide_eq_true hx
    by_cases hy : y < 0
    · have ey : sgn y = true := decide_eq_true hy
      have HE := hide (cmp_flip x y hx hy)
      rw [ex, ey]
      go_enter Try.func76, Try.ntmps76
      go_wp2_with fail
      refine (leastS y.natAbs x.natAbs b a _ _ cb ca _ (HB.out _ _) (HA.out _ _)).mono ?_
      rintro e w1 ⟨rfl, d, hw⟩
      subst w1
      go_wp2
      go_ret
      exact ⟨ret_int HE.out, below_drewN (below2 w _ _) d⟩
    · have ey : sgn y = false := decide_eq_false hy
      have HE := hide (cmp_lt (a := x) (b := y) (by omega))
      rw [ex, ey]
      go_enter Try.func76, Try.ntmps76
      go_wp2
      go_ret
      exact ⟨ret_int HE.out.symm, below2 w _ _⟩
  · have ex : sgn x = false := decide_eq_false hx
    by_cases hy : y < 0
    · have ey : sgn y = true := decide_eq_true hy
      have HE := hide (cmp_gt (a := x) (b := y) (by omega))
      rw [ex, ey]
      go_enter Try.func76, Try.ntmps76
      go_wp2
      go_ret
      exact ⟨ret_int HE.out.symm, below2 w _ _⟩
    · have ey : sgn y = false := decide_eq_false hy
      have HE := hide (cmp_same x y (by omega) (by omega))
      rw [ex, ey]
      go_enter Try.func76, Try.ntmps76
      go_wp2_with fail
      refine (leastS x.natAbs y.natAbs a b _ _ ca cb _ (HA.out _ _) (HB.out _ _)).mono ?_
      rintro e w1 ⟨rfl, d, hw⟩
      subst w1
      go_wp2
      go_ret
      exact ⟨ret_int HE.out, below_drewN (below2 w _ _) d⟩
end Go.Proofs.Ythjapjbiclkhcaa
