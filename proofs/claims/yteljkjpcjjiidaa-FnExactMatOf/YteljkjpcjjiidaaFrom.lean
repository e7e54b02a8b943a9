/- The walks of the two FromInt: the number of an int, in new memory. -/
import Derived.Test.YteljkjpcjjiidaaMake
namespace Go.Proofs.Yteljkjpcjjiidaa
open Go.RowKit
set_option linter.unusedVariables false

theorem and32 (n : Int) (h0 : 0 ≤ n) (h1 : n < 18446744073709551616) : bits .and .u64 n 4294967295 = n % 4294967296 := by
  have h255 : (BitVec.ofInt 64 4294967295).toNat = 2 ^ 32 - 1 := by decide
  have key : (BitVec.ofInt 64 n &&& BitVec.ofInt 64 4294967295).toNat = (n % ((2 ^ 64 : Nat) : Int)).toNat % 2 ^ 32 := by
    rw [BitVec.toNat_and, BitVec.toNat_ofInt, h255, Nat.and_two_pow_sub_one_eq_mod]
  show IntKind.u64.wrap ((BitVec.ofInt 64 n &&& BitVec.ofInt 64 4294967295).toNat : Nat) = n % 4294967296
  rw [key, IntKind.wrap_u64]
  omega
theorem own_two (w : World) (p q : Nat) (hp : p < 4294967296) (hq : q < 4294967296) : Own (w.alloc (Obj.cells #[Value.int .u32 p, Value.int .u32 q] 92)) w.heap.size (some ⟨w.heap.size, 0, none⟩) 2 2 [p, q] := by
  refine ⟨?_, fun x hx => ?_⟩
  · have := World.ownsRow_lit (base := w.heap.size) (e := 92) (size := 1) w #[Value.int .u32 p, Value.int .u32 q] 2 (Nat.le_refl _) (by unfold maxLen; omega) rfl
    simpa [lim] using this
  · simp at hx; omega

set_option maxHeartbeats 1000000 in
set_option maxRecDepth 20000 in
theorem fromI (n : Int) (w : World) (h1 : -9223372036854775808 ≤ n) (h2 : n ≤ 9223372036854775807) :
    Calls Try.prog 44 #[.int .i64 n] w fun e w' => ∃ v, e = .returned v ∧ New w' w.heap.size v n ∧ Below w.heap.size w w' := by
  by_cases hn : n < 0
  · have e1 : IntKind.u64.wrap (-IntKind.u64.wrap n) % 4294967296 = ((n.natAbs % 4294967296 : Nat) : Int) := by rw [IntKind.wrap_u64, IntKind.wrap_u64]; omega
    have e2 : IntKind.u64.wrap (-IntKind.u64.wrap n) / 4294967296 % 4294967296 = ((n.natAbs / 4294967296 : Nat) : Int) := by rw [IntKind.wrap_u64, IntKind.wrap_u64]; omega
    have e3 : bits BinOp.and IntKind.u64 (-(n + 1) + 1) 4294967295 % 4294967296 = ((n.natAbs % 4294967296 : Nat) : Int) := by rw [and32 _ (by omega) (by omega)]; omega
    have e4 : (-(n + 1) + 1) / 4294967296 = ((n.natAbs / 4294967296 : Nat) : Int) := by omega
    have E1 := hide e1
    have E2 := hide e2
    have E3 := hide e3
    have E4 := hide e4
    clear e1 e2 e3 e4
    go_enter Try.func44, Try.ntmps44
    go_wp2_with fail
    rw [E1.out, E2.out]
    have HO := hide (own_two (w.alloc (Obj.cells #[Value.bool false, Value.slice none 0 0] 54)) (n.natAbs % 4294967296) (n.natAbs / 4294967296) (by omega) (by omega))
    rw [World.size_alloc] at HO
    have hval : mk true (Num.nat [n.natAbs % 4294967296, n.natAbs / 4294967296]) = n := by unfold mk Num.nat Num.nat Num.nat; simp; omega
    refine (bigOfI true _ _ _ [n.natAbs % 4294967296, n.natAbs / 4294967296] (w.heap.size + 1) _ HO.out (by simp)).mono ?_
    rintro e w1 ⟨v1, rfl, hn1, hb1⟩
    rw [hval] at hn1
    obtain ⟨k0, k1, f0, f1⟩ := box_keep (N := w.heap.size) (c0 := .bool false) (c1 := .slice none 0 0) hb1 (by simp only [World.size_alloc]; omega) (by go_simp) (by go_simp) (by go_simp) (by go_simp)
    have HF := hide (fun x y => fin_box (N := w.heap.size) (x := x) (y := y) hn1 (by first | omega | (simp only [World.size_alloc]; omega)) (Nat.le_refl _) (bl_trans (bl_alloc (bl_alloc (bl_refl w) _) _) hb1))
    obtain ⟨a1, c1, rfl, ho1⟩ := hn1
    clear hb1 ho1 HO
    go_wp2
    refine bodyPost_ret (v := .agg #[.bool (sgn n), .slice a1 (lms n).length c1]) (by simp [results, Try.results44, go_sem, *]) rfl ?_
    exact ⟨_, rfl, HF.out _ _⟩
  · have e1 : n % 4294967296 = ((n.natAbs % 4294967296 : Nat) : Int) := by omega
    have e2 : n / 4294967296 = ((n.natAbs / 4294967296 : Nat) : Int) := by omega
    have e3 : bits BinOp.and IntKind.u64 n 4294967295 % 4294967296 = ((n.natAbs % 4294967296 : Nat) : Int) := by rw [and32 _ (by omega) (by omega)]; omega
    have E1 := hide e1
    have E2 := hide e2
    have E3 := hide e3
    clear e1 e2 e3
    go_enter Try.func44, Try.ntmps44
    go_wp2_with fail
    rw [E1.out, E2.out]
    have HO := hide (own_two (w.alloc (Obj.cells #[Value.bool false, Value.slice none 0 0] 54)) (n.natAbs % 4294967296) (n.natAbs / 4294967296) (by omega) (by omega))
    rw [World.size_alloc] at HO
    have hval : mk false (Num.nat [n.natAbs % 4294967296, n.natAbs / 4294967296]) = n := by unfold mk Num.nat Num.nat Num.nat; simp; omega
    refine (bigOfI false _ _ _ [n.natAbs % 4294967296, n.natAbs / 4294967296] (w.heap.size + 1) _ HO.out (by simp)).mono ?_
    rintro e w1 ⟨v1, rfl, hn1, hb1⟩
    rw [hval] at hn1
    obtain ⟨k0, k1, f0, f1⟩ := box_keep (N := w.heap.size) (c0 := .bool false) (c1 := .slice none 0 0) hb1 (by simp only [World.size_alloc]; omega) (by go_simp) (by go_simp) (by go_simp) (by go_simp)
    have HF := hide (fun x y => fin_box (N := w.heap.size) (x := x) (y := y) hn1 (by first | omega | (simp only [World.size_alloc]; omega)) (Nat.le_refl _) (bl_trans (bl_alloc (bl_alloc (bl_refl w) _) _) hb1))
    obtain ⟨a1, c1, rfl, ho1⟩ := hn1
    clear hb1 ho1 HO
    go_wp2
    refine bodyPost_ret (v := .agg #[.bool (sgn n), .slice a1 (lms n).length c1]) (by simp [results, Try.results44, go_sem, *]) rfl ?_
    exact ⟨_, rfl, HF.out _ _⟩

set_option maxHeartbeats 1000000 in
set_option maxRecDepth 20000 in
theorem fromS (n : Int) (w : World) (h1 : -9223372036854775808 ≤ n) (h2 : n ≤ 9223372036854775807) :
    Calls Try.prog 40 #[.int .i64 n] w fun e w' => ∃ v, e = .returned v ∧ New w' w.heap.size v n ∧ Below w.heap.size w w' := by
  by_cases hn : n < 0
  · have e1 : IntKind.u64.wrap (-IntKind.u64.wrap n) % 4294967296 = ((n.natAbs % 4294967296 : Nat) : Int) := by rw [IntKind.wrap_u64, IntKind.wrap_u64]; omega
    have e2 : IntKind.u64.wrap (-IntKind.u64.wrap n) / 4294967296 % 4294967296 = ((n.natAbs / 4294967296 : Nat) : Int) := by rw [IntKind.wrap_u64, IntKind.wrap_u64]; omega
    have e3 : bits BinOp.and IntKind.u64 (-(n + 1) + 1) 4294967295 % 4294967296 = ((n.natAbs % 4294967296 : Nat) : Int) := by rw [and32 _ (by omega) (by omega)]; omega
    have e4 : (-(n + 1) + 1) / 4294967296 = ((n.natAbs / 4294967296 : Nat) : Int) := by omega
    have E1 := hide e1
    have E2 := hide e2
    have E3 := hide e3
    have E4 := hide e4
    clear e1 e2 e3 e4
    go_enter Try.func40, Try.ntmps40
    go_wp2_with fail
    rw [E3.out, E4.out]
    have HO := hide (own_two (w.alloc (Obj.cells #[Value.bool false, Value.slice none 0 0] 54)) (n.natAbs % 4294967296) (n.natAbs / 4294967296) (by omega) (by omega))
    rw [World.size_alloc] at HO
    have hval : mk true (Num.nat [n.natAbs % 4294967296, n.natAbs / 4294967296]) = n := by unfold mk Num.nat Num.nat Num.nat; simp; omega
    refine (makeS true _ _ _ [n.natAbs % 4294967296, n.natAbs / 4294967296] _ HO.out.seg (by omega)).mono ?_
    rintro e w1 ⟨v1, rfl, hn1, hb1⟩
    rw [hval] at hn1
    obtain ⟨k0, k1, f0, f1⟩ := box_keep (N := w.heap.size) (c0 := .bool false) (c1 := .slice none 0 0) hb1 (by simp only [World.size_alloc]; omega) (by go_simp) (by go_simp) (by go_simp) (by go_simp)
    have HF := hide (fun x y => fin_box (N := w.heap.size) (x := x) (y := y) hn1 (by first | omega | (simp only [World.size_alloc]; omega)) (Nat.le_refl _) (bl_trans (bl_alloc (bl_alloc (bl_refl w) _) _) hb1))
    obtain ⟨a1, c1, rfl, ho1⟩ := hn1
    clear hb1 ho1 HO
    go_wp2
    refine bodyPost_ret (v := .agg #[.bool (sgn n), .slice a1 (lms n).length c1]) (by simp [results, Try.results40, go_sem, *]) rfl ?_
    exact ⟨_, rfl, HF.out _ _⟩
  · have e1 : n % 4294967296 = ((n.natAbs % 4294967296 : Nat) : Int) := by omega
    have e2 : n / 4294967296 = ((n.natAbs / 4294967296 : Nat) : Int) := by omega
    have e3 : bits BinOp.and IntKind.u64 n 4294967295 % 4294967296 = ((n.natAbs % 4294967296 : Nat) : Int) := by rw [and32 _ (by omega) (by omega)]; omega
    have E1 := hide e1
    have E2 := hide e2
    have E3 := hide e3
    clear e1 e2 e3
    go_enter Try.func40, Try.ntmps40
    go_wp2_with fail
    rw [E3.out, E2.out]
    have HO := hide (own_two (w.alloc (Obj.cells #[Value.bool false, Value.slice none 0 0] 54)) (n.natAbs % 4294967296) (n.natAbs / 4294967296) (by omega) (by omega))
    rw [World.size_alloc] at HO
    have hval : mk false (Num.nat [n.natAbs % 4294967296, n.natAbs / 4294967296]) = n := by unfold mk Num.nat Num.nat Num.nat; simp; omega
    refine (makeS false _ _ _ [n.natAbs % 4294967296, n.natAbs / 4294967296] _ HO.out.seg (by omega)).mono ?_
    rintro e w1 ⟨v1, rfl, hn1, hb1⟩
    rw [hval] at hn1
    obtain ⟨k0, k1, f0, f1⟩ := box_keep (N := w.heap.size) (c0 := .bool false) (c1 := .slice none 0 0) hb1 (by simp only [World.size_alloc]; omega) (by go_simp) (by go_simp) (by go_simp) (by go_simp)
    have HF := hide (fun x y => fin_box (N := w.heap.size) (x := x) (y := y) hn1 (by first | omega | (simp only [World.size_alloc]; omega)) (Nat.le_refl _) (bl_trans (bl_alloc (bl_alloc (bl_refl w) _) _) hb1))
    obtain ⟨a1, c1, rfl, ho1⟩ := hn1
    clear hb1 ho1 HO
    go_wp2
    refine bodyPost_ret (v := .agg #[.bool (sgn n), .slice a1 (lms n).length c1]) (by simp [results, Try.results40, go_sem, *]) rfl ?_
    exact ⟨_, rfl, HF.out _ _⟩

end Go.Proofs.Yteljkjpcjjiidaa
