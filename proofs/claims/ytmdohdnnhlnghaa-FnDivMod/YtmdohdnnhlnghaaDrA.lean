/- The walk of a draw of any number, and of the draws that begin with one. -/
import Derived.Test.YtmdohdnnhlnghaaDrX
namespace Go.Proofs.Ytmdohdnnhlnghaa
open Go.RowKit
set_option linter.unusedVariables false

set_option maxHeartbeats 4000000 in
set_option maxRecDepth 20000 in
theorem anyB (B : Nat) (a : Option Addr) (len cap : Nat) (w : World) (hc : Cur B a len cap w) :
    Calls Try.prog 18 #[.pointer (some ⟨B, 0, none⟩)] w fun e w' => AnyD w B a len cap w' e := by
  obtain ⟨i0, hi, hz0, hz1, hz2⟩ := info_parts Try.info41
  have hB := hc.hB
  have HBB := hide hB
  have HD := hide (Dst.init hc)
  clear hc
  go_enter Try.func18, Try.ntmps18
  go_upto_region 1 with fail
  generalize w.alloc (Obj.cells #[Value.bool false, Value.slice none 0 0] 26) = wa at *
  go_wp2_with fail
  refine (someB B a len cap _ HD.out.cur).mono ?_
  rintro e w2 ⟨z, ax, cx, rfl, hl, ho, hc2, ho2⟩
  have hwa := HD.out.z
  replace HD := hide (HD.out.on HBB.out hc2 ho2)
  have hz2w := HD.out.z
  have HX : Hid (Xst w B a len cap w2.heap.size (sgn z) ax cx (lms z) (w2.alloc (Obj.cells #[Value.bool (sgn z), Value.slice ax (lms z).length cx] 26))) := hide ⟨HD.out.bel (bl_alloc (bl_refl w2) _), heap_alloc_new w2 _, hz2w, (ho.mono (by omega)).below (bl_alloc (bl_refl w2) _)⟩
  have HL := hide hl
  clear hc2 ho2 ho hl HD hwa hz2w
  go_upto_region 2 with fail
  generalize (w2.alloc (Obj.cells #[Value.bool (sgn z), Value.slice ax (lms z).length cx] 26)) = w3 at *
  generalize sgn z = nx at *
  generalize lms z = xs at *
  generalize w2.heap.size = X at *
  go_wp2_with fail
  refine (belowD B a len cap _ HX.out.d.cur 25 (by omega)).mono ?_
  rintro e w4 ⟨y, hy, rfl, hc4, ho4⟩
  have hy' : 0 ≤ y ∧ y < 25 := by rcases hy with h | h <;> omega
  obtain ⟨hy1, hy2⟩ := hy'
  replace HX := hide (HX.out.on HBB.out hc4 ho4)
  clear hy hc4 ho4
  have hl40 := HL.out
  have kx0 := HX.out.x0
  have kx1 := HX.out.x1
  have fx0 := HX.out.f0 0
  have fx1 := HX.out.f0 1
  have zx := HX.out.zx
  have wx := HX.out.wx
  by_cases h0 : y = 0
  · have e0 : (y == 0) = true := by rw [h0]; rfl
    clear h0
    go_upto_region 10 with ((at_builtin; refine wpList_append_own _ rfl _ _ 24 rfl (w.heap.size + 1) 41 i0 (.int .u32 0) 1 4 Try.underlying24 hi hz0 hz1 hz2 rfl (by decide) _ _ _ rfl (HX.out.own.1.alloc _) ⟨w4.heap.size, 0, none⟩ 1 1 [_] rfl rfl (cell_one_new _ _ _) (by simp [Value.oneCell']) (by unfold maxLen; omega) (by omega) (by simp only [World.size_alloc]; omega) ?_; intro v' wn hown' hgrow' _; obtain ⟨a1, c1, rfl⟩ := row_val hown'; have hg2 := (show (w4.alloc _).grownBy wn (Value.slice ax xs.length cx).ownBlock from hgrow'); clear hgrow'; obtain ⟨j1, j2, j3⟩ := Xst.app (v := 0) HX.out HBB.out (by omega) hg2 hown'))
    generalize wn.setCell ⟨X, 1, none⟩ (Value.slice a1 (xs.length + 1) c1) = w5 at *
    replace HX := hide j3
    clear j1 j2 j3 kx0 kx1 fx0 fx1 zx
    have kx0 := HX.out.x0
    have kx1 := HX.out.x1
    have kr0 := HX.out.d.r0
    have kr1 := HX.out.d.r1
    have fr0 := HX.out.d.g0
    have fr1 := HX.out.d.g1
    go_wp2
    refine bodyPost_ret (v := (.agg #[.bool nx, .slice a1 (xs ++ [0]).length c1])) (by simp [results, Try.results18, go_sem, kr0, kr1]) rfl ?_
    exact HX.out.fin HBB.out (by simp; omega) _ _
  have e0 : (y == 0) = false := by rw [beq_eq_false_iff_ne]; exact h0
  by_cases h1 : y = 1
  · have e1 : (y == 1) = true := by rw [h1]; rfl
    clear h0 h1
    have j3 := HX.out.sign HBB.out (!nx)
    go_upto_region 10 with fail
    generalize w4.setCell ⟨X, 0, none⟩ (Value.bool (!nx)) = w5 at *
    replace HX := hide j3
    clear j3 kx0 kx1 fx0 fx1 zx
    have kx0 := HX.out.x0
    have kx1 := HX.out.x1
    have kr0 := HX.out.d.r0
    have kr1 := HX.out.d.r1
    have fr0 := HX.out.d.g0
    have fr1 := HX.out.d.g1
    go_wp2
    refine bodyPost_ret (v := (.agg #[.bool (!nx), .slice ax (xs).length cx])) (by simp [results, Try.results18, go_sem, kr0, kr1]) rfl ?_
    exact HX.out.fin HBB.out (by omega) _ _
  have e1 : (y == 1) = false := by rw [beq_eq_false_iff_ne]; exact h1
  by_cases h2 : y = 2
  · have e2 : (y == 2) = true := by rw [h2]; rfl
    clear h0 h1 h2
    go_wp2_with fail
    go_loopg [] (41 - xs.length) (fun gk wr => ∃ (ax : Option Addr) (cx : Nat) (xs : List Nat), xs.length ≤ 41 ∧ Hid (gk = 41 - xs.length) ∧ Hid (Xst w B a len cap X nx ax cx xs wr))
    case atStart => exact ⟨ax, cx, xs, by omega, hide rfl, HX⟩
    case round =>
      clear kx0 kx1 fx0 fx1 zx HX hl40 HL
      obtain ⟨ax, cx, xs, hl, hgk, HX⟩ := hrel
      have kx0 := HX.out.x0
      have kx1 := HX.out.x1
      have fx0 := HX.out.f0 0
      have fx1 := HX.out.f0 1
      have zx := HX.out.zx
      have wx := HX.out.wx
      have HKX := hide kx1
      have HC := hide HX.out.d.cur
      go_wp2_with fail
      go_region_held3 (fun w' => w'.cell? ⟨X, 1, none⟩ = some (Value.slice ax xs.length cx))
        (first | exact kx1 | exact (ho5.cell (p := ⟨X, 1, none⟩) (by dsimp only; omega) (by dsimp only; omega)).trans HKX.out)
        (first | (go_at_call 30; refine (belowD B a len cap _ (HC.out.drewN 1) 2 (by omega)).mono ?_; rintro e w5 ⟨y5, hy5, rfl, hc5, ho5r⟩; have ho5 : Only B wr w5 := ⟨ho5r.os, ho5r.tape, ho5r.output, ho5r.size, ho5r.block⟩))
      have hy' : 0 ≤ y5 ∧ y5 < 2 := by rcases hy5 with h | h <;> omega
      obtain ⟨hya, hyb⟩ := hy'
      have ew : IntKind.i64.wrap (40 + y5) = 40 + y5 := by simp only [IntKind.wrap_i64]; omega
      rw [ew]
      replace HX := hide (HX.out.on HBB.out hc5 ho5)
      clear kx0 kx1 fx0 fx1 zx wx HKX HC hc5 ho5 ho5r hy5 ew
      have kx0 := HX.out.x0
      have kx1 := HX.out.x1
      have fx0 := HX.out.f0 0
      have fx1 := HX.out.f0 1
      have zx := HX.out.zx
      have wx := HX.out.wx
      by_cases hlt : (xs.length : Int) < 40 + y5
      · go_wp2_with ((at_builtin; refine wpList_append_own _ rfl _ _ 24 rfl (w.heap.size + 1) 41 i0 (.int .u32 0) 1 4 Try.underlying24 hi hz0 hz1 hz2 rfl (by decide) _ _ _ rfl (HX.out.own.1.alloc _) ⟨w5.heap.size, 0, none⟩ 1 1 [_] rfl rfl (cell_one_new _ _ _) (by simp [Value.oneCell']) (by unfold maxLen; omega) (by omega) (by simp only [World.size_alloc]; omega) ?_; intro v' wn hown' hgrow' _; obtain ⟨a1, c1, rfl⟩ := row_val hown'; have hg2 := (show (w5.alloc _).grownBy wn (Value.slice ax xs.length cx).ownBlock from hgrow'); clear hgrow'; obtain ⟨j1, j2, j3⟩ := Xst.app (v := 4294967295) HX.out HBB.out (by omega) hg2 hown'))
        have HJ := hide j3
        clear j1 j2 j3 hown' hg2
        have HLT : Hid (41 - (xs.length + 1) < gk) := hide (by have := hgk.out; omega)
        go_roundg (41 - (xs.length + 1))
        all_goals first | exact HLT.out | exact ⟨a1, c1, xs ++ [4294967295], by simp; omega, hide (by simp), HJ⟩
      · go_upto_region 10 with fail
        have kr0 := HX.out.d.r0
        have kr1 := HX.out.d.r1
        have fr0 := HX.out.d.g0
        have fr1 := HX.out.d.g1
        go_wp2
        refine bodyPost_ret (v := (.agg #[.bool nx, .slice ax (xs).length cx])) (by simp [results, Try.results18, go_sem, kr0, kr1]) rfl ?_
        exact HX.out.fin HBB.out (by omega) _ _
  · have e2 : (y == 2) = false := by rw [beq_eq_false_iff_ne]; exact h2
    clear h0 h1 h2
    go_upto_region 10 with fail
    have kr0 := HX.out.d.r0
    have kr1 := HX.out.d.r1
    have fr0 := HX.out.d.g0
    have fr1 := HX.out.d.g1
    go_wp2
    refine bodyPost_ret (v := (.agg #[.bool nx, .slice ax (xs).length cx])) (by simp [results, Try.results18, go_sem, kr0, kr1]) rfl ?_
    exact HX.out.fin HBB.out (by omega) _ _
end Go.Proofs.Ytmdohdnnhlnghaa
