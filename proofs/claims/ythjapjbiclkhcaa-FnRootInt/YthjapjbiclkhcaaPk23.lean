/- My texts DrX, DrA, DrP, in this order. -/
import Derived.Test.YthjapjbiclkhcaaPk22
import Derived.Lib.Builder
/- The walk of a draw of any number, not right sometimes: its state. -/
namespace Go.Proofs.Ythjapjbiclkhcaa
open Go.RowKit
set_option linter.unusedVariables false

theorem grown_st (W : World) (p : Addr) (v : Value) : W.grownBy (W.setCell p v) (some p.block) :=
  ⟨rfl, rfl, rfl, by simp [World.setCell], fun k _ hn => Below.heap_setCell _ _ _ _ (fun e => hn (by rw [e]))⟩
/-- any drawn sign and limbs -/
def AnyD (w : World) (B : Nat) (a : Option Addr) (len cap : Nat) (w' : World) (e : Ending) : Prop :=
  ∃ n' a' c' xs, e = .returned (.agg #[.bool n', .slice a' xs.length c']) ∧ xs.length ≤ 41 ∧ Own w' w.heap.size a' xs.length c' xs ∧ Cur B a len cap w' ∧ Only B w w'
/-- in the midst of it: the box x holds a sign and limbs -/
structure Xst (w : World) (B : Nat) (a : Option Addr) (len cap : Nat) (X : Nat) (n' : Bool) (a' : Option Addr) (c' : Nat) (xs : List Nat) (wr : World) : Prop where
  d : Dst w B a len cap wr
  hx : wr.heap[X]? = some (.cells #[.bool n', .slice a' xs.length c'] 26 (0, 0))
  wx : w.heap.size < X
  own : Own wr (w.heap.size + 1) a' xs.length c' xs
theorem Xst.zx {w wr : World} {B : Nat} {a : Option Addr} {len cap : Nat} {X : Nat} {n' : Bool} {a' : Option Addr} {c' : Nat} {xs : List Nat} (h : Xst w B a len cap X n' a' c' xs wr) : X < wr.heap.size := (Array.getElem?_eq_some_iff.1 h.hx).1
theorem Xst.x0 {w wr : World} {B : Nat} {a : Option Addr} {len cap : Nat} {X : Nat} {n' : Bool} {a' : Option Addr} {c' : Nat} {xs : List Nat} (h : Xst w B a len cap X n' a' c' xs wr) : wr.cell? ⟨X, 0, none⟩ = some (.bool n') := (Lib.cell_of_heap h.hx 0).trans rfl
theorem Xst.x1 {w wr : World} {B : Nat} {a : Option Addr} {len cap : Nat} {X : Nat} {n' : Bool} {a' : Option Addr} {c' : Nat} {xs : List Nat} (h : Xst w B a len cap X n' a' c' xs wr) : wr.cell? ⟨X, 1, none⟩ = some (.slice a' xs.length c') := (Lib.cell_of_heap h.hx 1).trans rfl
theorem Xst.f0 {w wr : World} {B : Nat} {a : Option Addr} {len cap : Nat} {X : Nat} {n' : Bool} {a' : Option Addr} {c' : Nat} {xs : List Nat} (h : Xst w B a len cap X n' a' c' xs wr) (j : Nat) : wr.frozen? ⟨X, j, none⟩ = false := Lib.frozen_of_heap h.hx j
theorem Xst.off {w wr : World} {B : Nat} {a : Option Addr} {len cap : Nat} {X : Nat} {n' : Bool} {a' : Option Addr} {c' : Nat} {xs : List Nat} (h : Xst w B a len cap X n' a' c' xs wr) : (Value.slice a' xs.length c').ownBlock ≠ some X := Lib.ownBlock_ne h.own.1 h.hx (by decide)
theorem Xst.on {w2 : World} {w wr : World} {B : Nat} {a : Option Addr} {len cap : Nat} {X : Nat} {n' : Bool} {a' : Option Addr} {c' : Nat} {xs : List Nat} (h : Xst w B a len cap X n' a' c' xs wr) (hB : B < w.heap.size) (hc : Cur B a len cap w2) (ho : Only B wr w2) : Xst w B a len cap X n' a' c' xs w2 := by
  have hx := h.wx
  exact ⟨h.d.on hB hc ho, (ho.block X h.zx (by omega)).trans h.hx, hx, h.own.only ho (by omega)⟩
/-- a limb appended, and the list laid back into the box -/
theorem Xst.app {wn : World} {o : Obj} {v : Nat} {a1 : Option Addr} {c1 : Nat} {w wr : World} {B : Nat} {a : Option Addr} {len cap : Nat} {X : Nat} {n' : Bool} {a' : Option Addr} {c' : Nat} {xs : List Nat} (h : Xst w B a len cap X n' a' c' xs wr) (hB : B < w.heap.size) (hv : v < 4294967296) (hg : (wr.alloc o).grownBy wn (Value.slice a' xs.length c').ownBlock)
    (hown : wn.ownsRow (w.heap.size + 1) 56 1 (.slice a1 (xs.length + 1) c1) (xs.length + 1) (xs.map lim ++ [.int .u32 v])) :
    wn.cell? ⟨X, 1, none⟩ = some (.slice a' xs.length c') ∧ wn.frozen? ⟨X, 1, none⟩ = false ∧ Xst w B a len cap X n' a1 c1 (xs ++ [v]) (wn.setCell ⟨X, 1, none⟩ (.slice a1 (xs.length + 1) c1)) := by
  have hx := h.wx
  have hz := h.zx
  have hb := bl_alloc (bl_refl wr) o
  have hzA : X < (wr.alloc o).heap.size := Nat.lt_of_lt_of_le hz hb.size
  have hk : wn.heap[X]? = some (.cells #[.bool n', .slice a' xs.length c'] 26 (0, 0)) := (hg.block X hzA (fun e => h.off e.symm)).trans ((hb.block X hz).trans h.hx)
  have hd : Dst w B a len cap wn := (h.d.bel hb).gr hB hg (fun j e => (h.own.1.lt j e).1)
  have hne : (Value.slice a1 (xs.length + 1) c1).ownBlock ≠ some X := Lib.ownBlock_ne hown hk (by decide)
  refine ⟨(Lib.cell_of_heap hk 1).trans rfl, Lib.frozen_of_heap hk 1, ⟨hd.gr hB (grown_st wn ⟨X, 1, none⟩ _) (fun k e => by injection e with e; dsimp only at e; omega), ?_, hx, ?_⟩⟩
  · rw [List.length_append]; simp [World.setCell, Array.getElem?_modify, hk]
  · rw [List.length_append]
    refine ⟨?_, fun y hy => by rcases List.mem_append.1 hy with h' | h'; exact h.own.2 y h'; simp at h'; omega⟩
    rw [List.map_append]
    exact World.ownsRow.kept hown (grown_st wn ⟨X, 1, none⟩ (.slice a1 (xs.length + 1) c1)) (.inr hne)
/-- the sign turned -/
theorem Xst.sign {w wr : World} {B : Nat} {a : Option Addr} {len cap : Nat} {X : Nat} {n' : Bool} {a' : Option Addr} {c' : Nat} {xs : List Nat} (h : Xst w B a len cap X n' a' c' xs wr) (hB : B < w.heap.size) (m : Bool) : Xst w B a len cap X m a' c' xs (wr.setCell ⟨X, 0, none⟩ (.bool m)) := by
  have hx := h.wx
  have hk := h.hx
  exact ⟨h.d.gr hB (grown_st wr ⟨X, 0, none⟩ _) (fun k e => by injection e with e; dsimp only at e; omega), by simp [World.setCell, Array.getElem?_modify, hk], hx, ⟨World.ownsRow.kept h.own.1 (grown_st wr ⟨X, 0, none⟩ (.bool m)) (.inr h.off), h.own.2⟩⟩
theorem Xst.fin {w wr : World} {B : Nat} {a : Option Addr} {len cap : Nat} {X : Nat} {n' : Bool} {a' : Option Addr} {c' : Nat} {xs : List Nat} (h : Xst w B a len cap X n' a' c' xs wr) (hB : B < w.heap.size) (hl : xs.length ≤ 41) (x y : Value) : AnyD w B a len cap ((wr.setCell ⟨w.heap.size, 0, none⟩ x).setCell ⟨w.heap.size, 1, none⟩ y) (.returned (.agg #[.bool n', .slice a' xs.length c'])) :=
  ⟨n', a', c', xs, rfl, hl, fin_two h.own (Nat.lt_succ_self _) (Nat.le_refl _) _ _, (h.d.fin hB x y).1, (h.d.fin hB x y).2⟩
end Go.Proofs.Ythjapjbiclkhcaa

/- The walk of a draw of any number, and of the draws that begin with one. -/
namespace Go.Proofs.Ythjapjbiclkhcaa
open Go.RowKit
set_option linter.unusedVariables false

set_option maxHeartbeats 4000000 in
set_option maxRecDepth 20000 in
theorem anyB (B : Nat) (a : Option Addr) (len cap : Nat) (w : World) (hc : Cur B a len cap w) :
    Calls Try.prog 29 #[.pointer (some ⟨B, 0, none⟩)] w fun e w' => AnyD w B a len cap w' e := by
  obtain ⟨i0, hi, hz0, hz1, hz2⟩ := info_parts Try.info56
  have hB := hc.hB
  have HBB := hide hB
  have HD := hide (Dst.init hc)
  clear hc
  go_enter Try.func29, Try.ntmps29
  go_upto_region 1 with fail
  generalize w.alloc (Obj.cells #[Value.bool false, Value.slice none 0 0] 26) = wa at *
  go_wp2_with fail
  refine (someB B a len cap _ HD.out.cur).mono ?_
  rintro e w2 ⟨z, ax, cx, rfl, hl, ho, hc2, ho2⟩
  have hwa := HD.out.z
  replace HD := hide (HD.out.on HBB.out hc2 ho2)
  have hz2w := HD.out.z
  have HX : Hid (Xst w B a len cap w2.heap.size (sgn z) ax cx (lms z) (w2.alloc (Obj.cells #[Value.bool (sgn z), Value.slice ax (lms z).length cx] 26))) := hide ⟨HD.out.bel (bl_alloc (bl_refl w2) _), heap_alloc_new w2 _, hz2w, (ho.mono (by omega)).below (bl_alloc (bl_refl w2) _)⟩
  have HL := hide hl
  clear hc2 ho2 ho hl HD hwa hz2w
  go_upto_region 2 with fail
  generalize (w2.alloc (Obj.cells #[Value.bool (sgn z), Value.slice ax (lms z).length cx] 26)) = w3 at *
  generalize sgn z = nx at *
  generalize lms z = xs at *
  generalize w2.heap.size = X at *
  go_wp2_with fail
  refine (belowD B a len cap _ HX.out.d.cur 25 (by omega)).mono ?_
  rintro e w4 ⟨y, hy, rfl, hc4, ho4⟩
  have hy' : 0 ≤ y ∧ y < 25 := by rcases hy with h | h <;> omega
  obtain ⟨hy1, hy2⟩ := hy'
  replace HX := hide (HX.out.on HBB.out hc4 ho4)
  clear hy hc4 ho4
  have hl40 := HL.out
  have kx0 := HX.out.x0
  have kx1 := HX.out.x1
  have fx0 := HX.out.f0 0
  have fx1 := HX.out.f0 1
  have zx := HX.out.zx
  have wx := HX.out.wx
  by_cases h0 : y = 0
  · have e0 : (y == 0) = true := by rw [h0]; rfl
    clear h0
    go_upto_region 10 with ((at_builtin; refine wpList_append_own _ rfl _ _ 24 rfl (w.heap.size + 1) 56 i0 (.int .u32 0) 1 4 Try.underlying24 hi hz0 hz1 hz2 rfl (by decide) _ _ _ rfl (HX.out.own.1.alloc _) ⟨w4.heap.size, 0, none⟩ 1 1 [_] rfl rfl (cell_one_new _ _ _) (by simp [Value.oneCell']) (by unfold maxLen; omega) (by omega) (by simp only [World.size_alloc]; omega) ?_; intro v' wn hown' hgrow' _; obtain ⟨a1, c1, rfl⟩ := row_val hown'; have hg2 := (show (w4.alloc _).grownBy wn (Value.slice ax xs.length cx).ownBlock from hgrow'); clear hgrow'; obtain ⟨j1, j2, j3⟩ := Xst.app (v := 0) HX.out HBB.out (by omega) hg2 hown'))
    generalize wn.setCell ⟨X, 1, none⟩ (Value.slice a1 (xs.length + 1) c1) = w5 at *
    replace HX := hide j3
    clear j1 j2 j3 kx0 kx1 fx0 fx1 zx
    have kx0 := HX.out.x0
    have kx1 := HX.out.x1
    have kr0 := HX.out.d.r0
    have kr1 := HX.out.d.r1
    have fr0 := HX.out.d.g0
    have fr1 := HX.out.d.g1
    go_wp2
    refine bodyPost_ret (v := (.agg #[.bool nx, .slice a1 (xs ++ [0]).length c1])) (by simp [results, Try.results29, go_sem, kr0, kr1]) rfl ?_
    exact HX.out.fin HBB.out (by simp; omega) _ _
  have e0 : (y == 0) = false := by rw [beq_eq_false_iff_ne]; exact h0
  by_cases h1 : y = 1
  · have e1 : (y == 1) = true := by rw [h1]; rfl
    clear h0 h1
    have j3 := HX.out.sign HBB.out (!nx)
    go_upto_region 10 with fail
    generalize w4.setCell ⟨X, 0, none⟩ (Value.bool (!nx)) = w5 at *
    replace HX := hide j3
    clear j3 kx0 kx1 fx0 fx1 zx
    have kx0 := HX.out.x0
    have kx1 := HX.out.x1
    have kr0 := HX.out.d.r0
    have kr1 := HX.out.d.r1
    have fr0 := HX.out.d.g0
    have fr1 := HX.out.d.g1
    go_wp2
    refine bodyPost_ret (v := (.agg #[.bool (!nx), .slice ax (xs).length cx])) (by simp [results, Try.results29, go_sem, kr0, kr1]) rfl ?_
    exact HX.out.fin HBB.out (by omega) _ _
  have e1 : (y == 1) = false := by rw [beq_eq_false_iff_ne]; exact h1
  by_cases h2 : y = 2
  · have e2 : (y == 2) = true := by rw [h2]; rfl
    clear h0 h1 h2
    go_wp2_with fail
    go_loopg [] (41 - xs.length) (fun gk wr => ∃ (ax : Option Addr) (cx : Nat) (xs : List Nat), xs.length ≤ 41 ∧ Hid (gk = 41 - xs.length) ∧ Hid (Xst w B a len cap X nx ax cx xs wr))
    case atStart => exact ⟨ax, cx, xs, by omega, hide rfl, HX⟩
    case round =>
      clear kx0 kx1 fx0 fx1 zx HX hl40 HL
      obtain ⟨ax, cx, xs, hl, hgk, HX⟩ := hrel
      have kx0 := HX.out.x0
      have kx1 := HX.out.x1
      have fx0 := HX.out.f0 0
      have fx1 := HX.out.f0 1
      have zx := HX.out.zx
      have wx := HX.out.wx
      have HKX := hide kx1
      have HC := hide HX.out.d.cur
      go_wp2_with fail
      go_region_held3 (fun w' => w'.cell? ⟨X, 1, none⟩ = some (Value.slice ax xs.length cx))
        (first | exact kx1 | exact (ho5.cell (p := ⟨X, 1, none⟩) (by dsimp only; omega) (by dsimp only; omega)).trans HKX.out)
        (first | (go_at_call 22; refine (belowD B a len cap _ (HC.out.drewN 1) 2 (by omega)).mono ?_; rintro e w5 ⟨y5, hy5, rfl, hc5, ho5r⟩; have ho5 : Only B wr w5 := ⟨ho5r.os, ho5r.tape, ho5r.output, ho5r.size, ho5r.block⟩))
      have hy' : 0 ≤ y5 ∧ y5 < 2 := by rcases hy5 with h | h <;> omega
      obtain ⟨hya, hyb⟩ := hy'
      have ew : IntKind.i64.wrap (40 + y5) = 40 + y5 := by simp only [IntKind.wrap_i64]; omega
      rw [ew]
      replace HX := hide (HX.out.on HBB.out hc5 ho5)
      clear kx0 kx1 fx0 fx1 zx wx HKX HC hc5 ho5 ho5r hy5 ew
      have kx0 := HX.out.x0
      have kx1 := HX.out.x1
      have fx0 := HX.out.f0 0
      have fx1 := HX.out.f0 1
      have zx := HX.out.zx
      have wx := HX.out.wx
      by_cases hlt : (xs.length : Int) < 40 + y5
      · go_wp2_with ((at_builtin; refine wpList_append_own _ rfl _ _ 24 rfl (w.heap.size + 1) 56 i0 (.int .u32 0) 1 4 Try.underlying24 hi hz0 hz1 hz2 rfl (by decide) _ _ _ rfl (HX.out.own.1.alloc _) ⟨w5.heap.size, 0, none⟩ 1 1 [_] rfl rfl (cell_one_new _ _ _) (by simp [Value.oneCell']) (by unfold maxLen; omega) (by omega) (by simp only [World.size_alloc]; omega) ?_; intro v' wn hown' hgrow' _; obtain ⟨a1, c1, rfl⟩ := row_val hown'; have hg2 := (show (w5.alloc _).grownBy wn (Value.slice ax xs.length cx).ownBlock from hgrow'); clear hgrow'; obtain ⟨j1, j2, j3⟩ := Xst.app (v := 4294967295) HX.out HBB.out (by omega) hg2 hown'))
        have HJ := hide j3
        clear j1 j2 j3 hown' hg2
        have HLT : Hid (41 - (xs.length + 1) < gk) := hide (by have := hgk.out; omega)
        go_roundg (41 - (xs.length + 1))
        all_goals first | exact HLT.out | exact ⟨a1, c1, xs ++ [4294967295], by simp; omega, hide (by simp), HJ⟩
      · go_upto_region 10 with fail
        have kr0 := HX.out.d.r0
        have kr1 := HX.out.d.r1
        have fr0 := HX.out.d.g0
        have fr1 := HX.out.d.g1
        go_wp2
        refine bodyPost_ret (v := (.agg #[.bool nx, .slice ax (xs).length cx])) (by simp [results, Try.results29, go_sem, kr0, kr1]) rfl ?_
        exact HX.out.fin HBB.out (by omega) _ _
  · have e2 : (y == 2) = false := by rw [beq_eq_false_iff_ne]; exact h2
    clear h0 h1 h2
    go_upto_region 10 with fail
    have kr0 := HX.out.d.r0
    have kr1 := HX.out.d.r1
    have fr0 := HX.out.d.g0
    have fr1 := HX.out.d.g1
    go_wp2
    refine bodyPost_ret (v := (.agg #[.bool nx, .slice ax (xs).length cx])) (by simp [results, Try.results29, go_sem, kr0, kr1]) rfl ?_
    exact HX.out.fin HBB.out (by omega) _ _
end Go.Proofs.Ythjapjbiclkhcaa

/- The walks of whether two numbers are alike, of a byte of the code, and of the draws of the laws. -/
namespace Go.Proofs.Ythjapjbiclkhcaa
open Go.RowKit
set_option linter.unusedVariables false

theorem Row.bel {a : Option Addr} {len cap : Nat} {w w' : World} (h : Row a len cap w) (hb : Below w.heap.size w w') : Row a len cap w' := by
  obtain ⟨h1, h2, h3⟩ := h
  refine ⟨?_, h2, h3⟩
  rcases h1 with h | ⟨b, off, rfl, hb', hc⟩
  · exact .inl h
  · exact .inr ⟨b, off, rfl, Nat.lt_of_lt_of_le hb' hb.size, fun j hj => by
      obtain ⟨z, hz, hcz⟩ := hc j hj
      exact ⟨z, hz, (hb.cell (p := ⟨b, off + j, none⟩) hb').trans hcz⟩⟩

set_option maxHeartbeats 2000000 in
theorem sameB (n : Bool) (xs : List Nat) (a1 : Option Addr) (c1 : Nat) (a2 : Option Addr) (c2 : Nat) (w : World) (h1 : Seg w a1 xs.length c1 xs) (h2 : Seg w a2 xs.length c2 xs) :
    Calls Try.prog 45 #[.agg #[.bool n, .slice a1 xs.length c1], .agg #[.bool n, .slice a2 xs.length c2]] w fun e w' => e = .returned (.bool true) ∧ Below w.heap.size w w' := by
  have hbl := bl_alloc (bl_alloc (bl_refl w) (Obj.cells #[Value.bool n, Value.slice a1 xs.length c1] 26)) (Obj.cells #[Value.bool n, Value.slice a2 xs.length c2] 26)
  have ka1 : ((w.alloc (Obj.cells #[Value.bool n, Value.slice a1 xs.length c1] 26)).alloc (Obj.cells #[Value.bool n, Value.slice a2 xs.length c2] 26)).cell? ⟨w.heap.size, 1, none⟩ = some (Value.slice a1 xs.length c1) := by go_simp
  have kb1 : ((w.alloc (Obj.cells #[Value.bool n, Value.slice a1 xs.length c1] 26)).alloc (Obj.cells #[Value.bool n, Value.slice a2 xs.length c2] 26)).cell? ⟨w.heap.size + 1, 1, none⟩ = some (Value.slice a2 xs.length c2) := by go_simp
  have ka0 : ((w.alloc (Obj.cells #[Value.bool n, Value.slice a1 xs.length c1] 26)).alloc (Obj.cells #[Value.bool n, Value.slice a2 xs.length c2] 26)).cell? ⟨w.heap.size, 0, none⟩ = some (Value.bool n) := by go_simp
  have kb0 : ((w.alloc (Obj.cells #[Value.bool n, Value.slice a1 xs.length c1] 26)).alloc (Obj.cells #[Value.bool n, Value.slice a2 xs.length c2] 26)).cell? ⟨w.heap.size + 1, 0, none⟩ = some (Value.bool n) := by go_simp
  have hca := h1.2.1
  have hcma := h1.2.2.1
  have hcb := h2.2.1
  have hcmb := h2.2.2.1
  have HA := hide (h1.below hbl)
  have HBB := hide (h2.below hbl)
  have HB := hide hbl
  have hnn : (n != n) = false := by cases n <;> rfl
  clear h1 h2 hbl
  go_enter Try.func45, Try.ntmps45
  go_upto_region 1 with fail
  generalize ((w.alloc (Obj.cells #[Value.bool n, Value.slice a1 xs.length c1] 26)).alloc (Obj.cells #[Value.bool n, Value.slice a2 xs.length c2] 26)) = w1 at *
  go_wp2
  go_loopw [5] (fun i wr => ∃ k : Nat, k ≤ xs.length ∧ i = .int .i64 k ∧ ∃ m, wr = w1.drewN m) (fun i _ => xs.length - (intOf i).toNat)
  case atStart => exact ⟨0, Nat.zero_le _, rfl, 0, rfl⟩
  case round =>
    obtain ⟨k, hk, rfl, m, rfl⟩ := hrel
    by_cases hlt : k < xs.length
    · obtain ⟨g, o, rfl, hg, hc1⟩ := seg_cell HA.out k hlt
      obtain ⟨g', o', rfl, hg', hc2⟩ := seg_cell HBB.out k hlt
      have hlt' : (k : Int) < (xs.length : Int) := by omega
      generalize xs[k]'_ = x at *
      go_wp2
      go_quiet (fail)
      go_wp2
      exact ⟨⟨k + 1, by omega, by go_num, m + nq, by simp⟩, by simp [intOf]; omega⟩
    · have hlt' : ¬ (k : Int) < (xs.length : Int) := by omega
      go_wp2
      go_ret
      exact ⟨rfl, below_drewN HB.out m⟩

end Go.Proofs.Ythjapjbiclkhcaa
