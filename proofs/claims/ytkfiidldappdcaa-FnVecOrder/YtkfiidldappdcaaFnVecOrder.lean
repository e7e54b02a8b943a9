/- For every two drawn powers VecCmp tells one order from both sides, as the specification, and that they are alike just where they are one; without a condition (the law itself passes codes of more than 1048576 bytes by). -/
import Derived.Test.YtkfiidldappdcaaRows
import Derived.Test.YtkfiidldappdcaaSameV
import Derived.Test.YtkfiidldappdcaaDivs
import Derived.WalkKit
import Derived.ProofKit
import Derived.OpenShut
import Derived.ShutString
import Derived.ChangeOld
import Derived.Below
import Derived.WalkSmall
namespace Go.Proofs.Ytkfiidldappdcaa.fnVecOrder
open Go.ChangeShapes Go.WideShapes Go.ChangeAt Go.RowKit
open Go.ChangeMaps (open_string shut_string)
set_option linter.unusedVariables false

theorem own : ownKnob Try.prog.godebug = none := by kernel_rfl
theorem laidOut : laidOutB Try.prog = true := by kernel_rfl

/-- WHAT THE WALK IS TOLD OF A SLICE OF INTEGERS THAT CAME IN: it is nil; or it leads to a row of 'cap' cells, the numbers 'zs' (the first 'len' are its elements, the rest its spare room), each fitting its kind. -/
def IsRow (k : IntKind) (w : World) (a : Option Addr) (len cap : Nat) (zs : List Int) : Prop :=
  (a = none ∧ len = 0 ∧ cap = 0 ∧ zs = []) ∨
  ∃ x, a = some x ∧ len ≤ cap ∧ cap ≤ maxLen ∧ zs.length = cap ∧ (∀ i, i < zs.length → w.cell? (x.add i) = some (.int k (zs.getD i 0))) ∧ ∀ n ∈ zs, (Lit.int k n).wf = true

set_option maxHeartbeats 4000000 in
theorem walk (a0 : Option Addr) (len0 cap0 : Nat) (z0 : List Int) (w : World) (w0 : IsRow .u8 w a0 len0 cap0 z0) :
    Calls Try.prog 5 #[.slice a0 len0 cap0] w fun e w' => e = .returned (.bool true) ∧ Below w.heap.size w w' := by
  have hrow := row_of w0
  have HROW := hide hrow
  have hcap : len0 ≤ 9223372036854775807 := Nat.le_trans hrow.2.1 hrow.2.2
  clear w0 hrow
  by_cases hbig : (1048576 : Int) < (len0 : Int)
  · go_enter Try.func5, Try.ntmps5
    go_wp2
    go_ret
    exact ⟨rfl, Below.refl _ _⟩
  go_enter Try.func5, Try.ntmps5
  go_wp2_with (first | (go_at_call 15; go_in) | fail)
  refine (drawCmp _ _ _ _ HROW.out).mono ?_
  rintro e w1 ⟨d1, a1, c1, xs, d2, a2, c2, ys, rfl, h1, h2, hb⟩
  have HB := hide hb
  have H1 := hide h1
  have H2 := hide h2
  clear hb h1 h2 HROW
  go_wp2_with fail
  have hb := bl_alloc (bl_alloc (bl_refl w1) (Obj.cells #[Value.int .i64 d1, Value.slice a1 xs.length c1] 29)) (Obj.cells #[Value.int .i64 d2, Value.slice a2 ys.length c2] 29)
  have ka0 : ((w1.alloc (Obj.cells #[Value.int .i64 d1, Value.slice a1 xs.length c1] 29)).alloc (Obj.cells #[Value.int .i64 d2, Value.slice a2 ys.length c2] 29)).cell? ⟨w1.heap.size, 0, none⟩ = some (Value.int .i64 d1) := by go_simp
  have ka1 : ((w1.alloc (Obj.cells #[Value.int .i64 d1, Value.slice a1 xs.length c1] 29)).alloc (Obj.cells #[Value.int .i64 d2, Value.slice a2 ys.length c2] 29)).cell? ⟨w1.heap.size, 1, none⟩ = some (Value.slice a1 xs.length c1) := by go_simp
  have za : w1.heap.size < ((w1.alloc (Obj.cells #[Value.int .i64 d1, Value.slice a1 xs.length c1] 29)).alloc (Obj.cells #[Value.int .i64 d2, Value.slice a2 ys.length c2] 29)).heap.size := by simp only [World.size_alloc]; omega
  have kb0 : ((w1.alloc (Obj.cells #[Value.int .i64 d1, Value.slice a1 xs.length c1] 29)).alloc (Obj.cells #[Value.int .i64 d2, Value.slice a2 ys.length c2] 29)).cell? ⟨w1.heap.size + 1, 0, none⟩ = some (Value.int .i64 d2) := by go_simp
  have kb1 : ((w1.alloc (Obj.cells #[Value.int .i64 d1, Value.slice a1 xs.length c1] 29)).alloc (Obj.cells #[Value.int .i64 d2, Value.slice a2 ys.length c2] 29)).cell? ⟨w1.heap.size + 1, 1, none⟩ = some (Value.slice a2 ys.length c2) := by go_simp
  have zb : w1.heap.size + 1 < ((w1.alloc (Obj.cells #[Value.int .i64 d1, Value.slice a1 xs.length c1] 29)).alloc (Obj.cells #[Value.int .i64 d2, Value.slice a2 ys.length c2] 29)).heap.size := by simp only [World.size_alloc]; omega
  replace HB := hide (bl_trans HB.out hb)
  replace H1 := hide (H1.out.below hb)
  replace H2 := hide (H2.out.below hb)
  clear hb
  generalize ((w1.alloc (Obj.cells #[Value.int .i64 d1, Value.slice a1 xs.length c1] 29)).alloc (Obj.cells #[Value.int .i64 d2, Value.slice a2 ys.length c2] 29)) = w2 at *
  have KP : Hid (∀ w', Below w2.heap.size w2 w' → (w'.cell? ⟨w1.heap.size, 0, none⟩ = some (Value.int .i64 d1) ∧ w'.cell? ⟨w1.heap.size, 1, none⟩ = some (Value.slice a1 xs.length c1) ∧ w'.cell? ⟨w1.heap.size + 1, 0, none⟩ = some (Value.int .i64 d2) ∧ w'.cell? ⟨w1.heap.size + 1, 1, none⟩ = some (Value.slice a2 ys.length c2))) := hide (fun w' hb => ⟨(hb.cell (p := ⟨w1.heap.size, 0, none⟩) za).trans ka0, (hb.cell (p := ⟨w1.heap.size, 1, none⟩) za).trans ka1, (hb.cell (p := ⟨w1.heap.size + 1, 0, none⟩) zb).trans kb0, (hb.cell (p := ⟨w1.heap.size + 1, 1, none⟩) zb).trans kb1⟩)
  have HZ := hide (cz_cases d1 xs d2 ys)
  go_region_held3 (fun w' => w'.cell? ⟨w1.heap.size, 0, none⟩ = some (Value.int .i64 d1) ∧ w'.cell? ⟨w1.heap.size, 1, none⟩ = some (Value.slice a1 xs.length c1) ∧ w'.cell? ⟨w1.heap.size + 1, 0, none⟩ = some (Value.int .i64 d2) ∧ w'.cell? ⟨w1.heap.size + 1, 1, none⟩ = some (Value.slice a2 ys.length c2))
    (first | exact KP.out _ (bl_refl w2).drew | exact KP.out _ hbB | exact KP.out _ hbA)
    (first
      | (have hq := hbA; go_at_call 29; refine (vecCmpI d2 a2 c2 ys d1 a1 c1 xs _ (H2.out.below hbA) (H1.out.below hbA)).mono ?_; rintro e wB ⟨rfl, hbBr⟩; have hbB : Below w2.heap.size w2 wB := bl_trans hbA hbBr; clear hq)
      | (go_at_call 29; refine (vecCmpI d1 a1 c1 xs d2 a2 c2 ys _ (H1.out.below (bl_refl w2).drew) (H2.out.below (bl_refl w2).drew)).mono ?_; rintro e wA ⟨rfl, hbAr⟩; have hbA : Below w2.heap.size w2 wA := (bl_refl w2).drew.trans hbAr))
  replace ka0 := (hbB.cell (p := ⟨w1.heap.size, 0, none⟩) za).trans ka0
  replace ka1 := (hbB.cell (p := ⟨w1.heap.size, 1, none⟩) za).trans ka1
  replace za := Nat.lt_of_lt_of_le za hbB.size
  replace kb0 := (hbB.cell (p := ⟨w1.heap.size + 1, 0, none⟩) zb).trans kb0
  replace kb1 := (hbB.cell (p := ⟨w1.heap.size + 1, 1, none⟩) zb).trans kb1
  replace zb := Nat.lt_of_lt_of_le zb hbB.size
  replace HB := hide (bl_trans HB.out hbB)
  replace H1 := hide (H1.out.below hbB)
  replace H2 := hide (H2.out.below hbB)
  clear KP hbA hbAr hbB hbBr
  go_wp2_with fail
  refine (vecCmpS d1 a1 c1 xs d2 a2 c2 ys _ H1.out H2.out).mono ?_
  rintro e w5 ⟨rfl, hb⟩
  replace ka0 := (hb.cell (p := ⟨w1.heap.size, 0, none⟩) za).trans ka0
  replace ka1 := (hb.cell (p := ⟨w1.heap.size, 1, none⟩) za).trans ka1
  replace za := Nat.lt_of_lt_of_le za hb.size
  replace kb0 := (hb.cell (p := ⟨w1.heap.size + 1, 0, none⟩) zb).trans kb0
  replace kb1 := (hb.cell (p := ⟨w1.heap.size + 1, 1, none⟩) zb).trans kb1
  replace zb := Nat.lt_of_lt_of_le zb hb.size
  replace HB := hide (bl_trans HB.out hb)
  replace H1 := hide (H1.out.below hb)
  replace H2 := hide (H2.out.below hb)
  clear hb
  rcases HZ.out with ⟨e1, e2⟩ | ⟨v, hv, e1, e2, e3⟩
  · rw [e1, e2]
    clear e1 e2 HZ
    go_wp2
    go_ret
    exact ⟨rfl, HB.out⟩
  rw [e1, e2]
  clear e1 e2 HZ
  have E3 := hide e3
  clear e3
  rcases hv with rfl | rfl | rfl
  all_goals
    go_wp2_with fail
    refine (sameV d1 a1 c1 xs d2 a2 c2 ys _ H1.out H2.out).mono ?_
    rw [← E3.out]
    rintro e w6 ⟨rfl, hb⟩
    replace HB := hide (bl_trans HB.out hb)
    clear hb H1 H2 E3
    go_wp2
    go_ret
    exact ⟨rfl, HB.out⟩

set_option maxRecDepth 100000 in
theorem lifted (os : Os) (started : os.Started) (H : Type) (enc : TypeId × Value → H) :
    ReturnsInHanded {} Try.checked os 5 .any (Rows.fnVecOrderSpec.pre6 enc Try.prog Try.f5 Rows.fnVecOrderRow.domain false) (Rows.fnVecOrderSpec.post enc Try.prog Try.f5 false true false false) := by
  refine returnsInHanded_of_change (C := Try.checked) own started (by kernel_rfl) Try.func5
    (ChangeSpec.witness6 (enc := enc) (C := Try.checked) false ⟨#[], #[.slice none 0 0], []⟩ 8 (by kernel_rfl) (by kernel_rfl) (by kernel_rfl) (by kernel_rfl)) ?_
  intro W base args ds gs before hval0 hW hcnd _
  have hval : ∀ (j : Nat) t v, Try.f5.params[j]? = some t → args[j]? = some v → Value.okWide Try.prog W .any base t v := hval0
  have hW' := hW
  obtain ⟨p, q, hA0, hV, rfl, hfz, hnd⟩ := hW
  have hA : DataW.TrodAll enc Try.prog W 0 (fun _ => true) true Try.f5.params.toList args.toList ds p := hA0
  rw [Try.params5] at hA hval
  obtain ⟨v0, vs0, d0, ds0, p0, q0, hargs, rfl, rfl, h0, r0⟩ := trodAll_cons hA
  obtain ⟨rfl, rfl, rfl⟩ := trodAll_nil r0
  obtain rfl : args = #[v0] := by cases args; simp_all
  obtain ⟨rfl, rfl⟩ := trodVars_none hV
  obtain ⟨a0, len0, cap0, rfl⟩ := okWide_slice Try.underlying22 (hval 0 22 v0 rfl rfl)
  have k0 := h0
  have lt0 : ∀ x ∈ p0, x.block < W.heap.size := by obtain ⟨m, hm⟩ := k0; exact DataW.trod_lt m _ _ _ hm
  obtain ⟨z0, w0⟩ : ∃ zs, IsRow .u8 W a0 len0 cap0 zs := by
    obtain ⟨fuel, hf⟩ := h0
    rcases open_ints Try.underlying22 Try.underlying5 (by kernel_rfl) hf with ⟨hcs, _⟩ | ⟨x, l, c, zs, hcs, _, hl, hm, hz, _, hcell, hwz⟩
    · simp [Value.cells] at hcs
      obtain ⟨rfl, rfl, rfl⟩ := hcs
      exact ⟨[], .inl ⟨rfl, rfl, rfl, rfl⟩⟩
    · simp [Value.cells] at hcs
      obtain ⟨rfl, rfl, rfl⟩ := hcs
      exact ⟨zs, .inr ⟨_, rfl, hl, hm, by simpa using hz, hcell, hwz⟩⟩
  clear hA0 hval0
  refine (walk a0 len0 cap0 z0 W w0).mono fun e W' ⟨he, bel⟩ => ?_
  subst he
  exact ⟨_, rfl, _, _, _, [], _, [], hW', trodAll_mk1 (shut_bool Try.underlying4 _), (trodAll_cons_mk (Below.trod laidOut (by kernel_rfl) (of_decide_eq_true (by kernel_rfl)) k0 bel lt0) trodAll_mk0), rfl, bel.frame _, fun h => by cases h⟩

theorem over : Rows.fnVecOrderRow.holds Try.pinned (OpenSpec.ofChange Rows.fnVecOrderSpec) :=
  OpenClaim.holds_of_wide 5 Try.f5 rfl rfl rfl rfl rfl rfl rfl ⟨rfl, rfl, rfl, rfl, rfl⟩ rfl rfl rfl rfl rfl (by kernel_rfl) Try.func5 (by kernel_rfl)
    (of_decide_eq_true (by kernel_rfl)) (by unfold Func.isWrapper; first | (rw [if_pos (by decide +kernel)]; kernel_rfl) | (rw [if_neg (by decide +kernel)]; exact ⟨rfl, rfl⟩))
    (fun os started H enc _ => lifted os started H enc)

theorem proved : Rows.FnVecOrderSaid := over
end Go.Proofs.Ytkfiidldappdcaa.fnVecOrder

namespace Go.Proofs.Ytkfiidldappdcaa
theorem fnVecOrder_holds : Rows.FnVecOrderSaid := fnVecOrder.proved
#print axioms fnVecOrder_holds
end Go.Proofs.Ytkfiidldappdcaa
