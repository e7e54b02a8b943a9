/- For every drawn pair of ints Gcd and Lcm of the program answer as the specification's, and where the multiple isn't 0 both divide and make the product; without a condition (the law itself passes codes of more than 1048576 bytes by). -/
import Derived.Test.YtkfiidldappdcaaRows
import Derived.Test.YtkfiidldappdcaaGcd
import Derived.Test.YtkfiidldappdcaaPlainD
import Derived.Test.YtkfiidldappdcaaDivs
import Derived.WalkKit
import Derived.ProofKit
import Derived.OpenShut
import Derived.ShutString
import Derived.ChangeOld
import Derived.Below
import Derived.WalkSmall
namespace Go.Proofs.Ytkfiidldappdcaa.fnDivisors
open Go.ChangeShapes Go.WideShapes Go.ChangeAt Go.RowKit
open Go.ChangeMaps (open_string shut_string)
set_option linter.unusedVariables false

theorem own : ownKnob Try.prog.godebug = none := by kernel_rfl
theorem laidOut : laidOutB Try.prog = true := by kernel_rfl

/-- WHAT THE WALK IS TOLD OF A SLICE OF INTEGERS THAT CAME IN: it is nil; or it leads to a row of 'cap' cells, the numbers 'zs' (the first 'len' are its elements, the rest its spare room), each fitting its kind. -/
def IsRow (k : IntKind) (w : World) (a : Option Addr) (len cap : Nat) (zs : List Int) : Prop :=
  (a = none ∧ len = 0 ∧ cap = 0 ∧ zs = []) ∨
  ∃ x, a = some x ∧ len ≤ cap ∧ cap ≤ maxLen ∧ zs.length = cap ∧ (∀ i, i < zs.length → w.cell? (x.add i) = some (.int k (zs.getD i 0))) ∧ ∀ n ∈ zs, (Lit.int k n).wf = true

theorem walk (a0 : Option Addr) (len0 cap0 : Nat) (z0 : List Int) (w : World) (w0 : IsRow .u8 w a0 len0 cap0 z0) :
    Calls Try.prog 3 #[.slice a0 len0 cap0] w fun e w' => e = .returned (.bool true) ∧ Below w.heap.size w w' := by
  have hrow := row_of w0
  have HROW := hide hrow
  have hcap : len0 ≤ 9223372036854775807 := Nat.le_trans hrow.2.1 hrow.2.2
  clear w0 hrow
  by_cases hbig : (1048576 : Int) < (len0 : Int)
  · go_enter Try.func3, Try.ntmps3
    go_wp2
    go_ret
    exact ⟨rfl, Below.refl _ _⟩
  go_enter Try.func3, Try.ntmps3
  go_wp2_with (first | (go_at_call 15; go_in) | fail)
  refine (drawGcd _ _ _ _ HROW.out).mono ?_
  rintro e w1 ⟨x, y, hx, hy, rfl, hb⟩
  have HB := hide hb
  clear hb
  rcases far_or x with hfx | ⟨hx1, hx2⟩
  · have HA := hide (Or.inl (b := Far y) hfx)
    clear hfx hx hy
    go_wp2_with (first
      | (go_at_call 17; refine (gcdI_out _ _ _ HA.out).mono ?_; rintro e w2 ⟨rfl, n1, rfl⟩)
      | (go_at_call 18; refine (lcmI_out _ _ _ HA.out).mono ?_; rintro e w2 ⟨rfl, n2, rfl⟩)
      | (go_at_call 19; refine (gcdS_out _ _ _ HA.out).mono ?_; rintro e w2 ⟨rfl, n3, rfl⟩)
      | (go_at_call 20; refine (lcmS_out _ _ _ HA.out).mono ?_; rintro e w2 ⟨rfl, n4, rfl⟩))
    go_ret
    exact ⟨rfl, below_drewN HB.out _⟩
  rcases far_or y with hfy | ⟨hy1, hy2⟩
  · have HA := hide (Or.inr (a := Far x) hfy)
    clear hfy hx hy
    go_wp2_with (first
      | (go_at_call 17; refine (gcdI_out _ _ _ HA.out).mono ?_; rintro e w2 ⟨rfl, n1, rfl⟩)
      | (go_at_call 18; refine (lcmI_out _ _ _ HA.out).mono ?_; rintro e w2 ⟨rfl, n2, rfl⟩)
      | (go_at_call 19; refine (gcdS_out _ _ _ HA.out).mono ?_; rintro e w2 ⟨rfl, n3, rfl⟩)
      | (go_at_call 20; refine (lcmS_out _ _ _ HA.out).mono ?_; rintro e w2 ⟨rfl, n4, rfl⟩))
    go_ret
    exact ⟨rfl, below_drewN HB.out _⟩
  clear hx hy
  obtain ⟨g, HG⟩ : ∃ g, Hid (Int.gcd x y = g) := ⟨_, rfl⟩
  obtain ⟨l, HL⟩ : ∃ l, Hid (Plain.lcmI x y = l) := ⟨_, rfl⟩
  by_cases hl0 : l = 0
  · have hlb : (l == 0) = true := by simp [hl0]
    clear hl0
    go_wp2_with (first
      | (go_at_call 17; refine (gcdI_in _ _ _ hx1 hx2 hy1 hy2).mono ?_; rw [HG.out]; rintro e w2 ⟨rfl, n1, rfl⟩)
      | (go_at_call 18; refine (lcmI_in _ _ _ hx1 hx2 hy1 hy2).mono ?_; rw [HL.out]; rintro e w2 ⟨rfl, n2, rfl⟩)
      | (go_at_call 19; refine (gcdS_in _ _ _ hx1 hx2 hy1 hy2).mono ?_; rw [HG.out]; rintro e w2 ⟨rfl, n3, rfl⟩)
      | (go_at_call 20; refine (lcmS_in _ _ _ hx1 hx2 hy1 hy2).mono ?_; rw [HL.out]; rintro e w2 ⟨rfl, n4, rfl⟩))
    go_ret
    exact ⟨rfl, below_drewN HB.out _⟩
  have hlb : (l == 0) = false := by simp only [beq_eq_false_iff_ne]; exact hl0
  obtain ⟨p, q, hp, hq, f1, f2, f3, f4, f5, hg1, hg2, hlp, hl2, ep, eq⟩ := Plain.divs x y g l hx1 hx2 hy1 hy2 HG.out HL.out hl0
  obtain ⟨hp0, hp1⟩ := hp
  obtain ⟨hq0, hq1⟩ := hq
  have hd0 : 0 ≤ (p : Int) / (g : Int) := Int.ediv_nonneg (by omega) (by omega)
  have hd1 : (p : Int) / (g : Int) ≤ 1000000000 := Int.le_trans (Int.ediv_le_self _ (by omega)) (by omega)
  have hm0 : 0 ≤ (p : Int) / (g : Int) * (q : Int) := by rw [f5]; omega
  have hm1 : (p : Int) / (g : Int) * (q : Int) ≤ 1000000000000000000 := by rw [f5]; exact hl2
  have F5 : ((p : Int) / (g : Int) * (q : Int) == l) = true := by simp only [beq_iff_eq]; exact f5
  have F1 : ((p : Int) % (g : Int) == 0) = true := by simp only [beq_iff_eq]; exact f1
  have F2 : ((q : Int) % (g : Int) == 0) = true := by simp only [beq_iff_eq]; exact f2
  have F3 : (l % (p : Int) == 0) = true := by simp only [beq_iff_eq]; exact f3
  have F4 : (l % (q : Int) == 0) = true := by simp only [beq_iff_eq]; exact f4
  clear f1 f2 f3 f4 f5 hl0
  have hxp : x = (p : Int) ∨ x = -(p : Int) := by omega
  have hyq : y = (q : Int) ∨ y = -(q : Int) := by omega
  clear ep eq
  rcases hxp with rfl | rfl
  all_goals rcases hyq with rfl | rfl
  all_goals
    go_wp2_with (first
      | (go_at_call 17; refine (gcdI_in _ _ _ hx1 hx2 hy1 hy2).mono ?_; rw [HG.out]; rintro e w2 ⟨rfl, n1, rfl⟩)
      | (go_at_call 18; refine (lcmI_in _ _ _ hx1 hx2 hy1 hy2).mono ?_; rw [HL.out]; rintro e w2 ⟨rfl, n2, rfl⟩)
      | (go_at_call 19; refine (gcdS_in _ _ _ hx1 hx2 hy1 hy2).mono ?_; rw [HG.out]; rintro e w2 ⟨rfl, n3, rfl⟩)
      | (go_at_call 20; refine (lcmS_in _ _ _ hx1 hx2 hy1 hy2).mono ?_; rw [HL.out]; rintro e w2 ⟨rfl, n4, rfl⟩))
    go_ret
    exact ⟨rfl, below_drewN HB.out _⟩

set_option maxRecDepth 100000 in
theorem lifted (os : Os) (started : os.Started) (H : Type) (enc : TypeId × Value → H) :
    ReturnsInHanded {} Try.checked os 3 .any (Rows.fnDivisorsSpec.pre6 enc Try.prog Try.f3 Rows.fnDivisorsRow.domain false) (Rows.fnDivisorsSpec.post enc Try.prog Try.f3 false true false false) := by
  refine returnsInHanded_of_change (C := Try.checked) own started (by kernel_rfl) Try.func3
    (ChangeSpec.witness6 (enc := enc) (C := Try.checked) false ⟨#[], #[.slice none 0 0], []⟩ 8 (by kernel_rfl) (by kernel_rfl) (by kernel_rfl) (by kernel_rfl)) ?_
  intro W base args ds gs before hval0 hW hcnd _
  have hval : ∀ (j : Nat) t v, Try.f3.params[j]? = some t → args[j]? = some v → Value.okWide Try.prog W .any base t v := hval0
  have hW' := hW
  obtain ⟨p, q, hA0, hV, rfl, hfz, hnd⟩ := hW
  have hA : DataW.TrodAll enc Try.prog W 0 (fun _ => true) true Try.f3.params.toList args.toList ds p := hA0
  rw [Try.params3] at hA hval
  obtain ⟨v0, vs0, d0, ds0, p0, q0, hargs, rfl, rfl, h0, r0⟩ := trodAll_cons hA
  obtain ⟨rfl, rfl, rfl⟩ := trodAll_nil r0
  obtain rfl : args = #[v0] := by cases args; simp_all
  obtain ⟨rfl, rfl⟩ := trodVars_none hV
  obtain ⟨a0, len0, cap0, rfl⟩ := okWide_slice Try.underlying22 (hval 0 22 v0 rfl rfl)
  have k0 := h0
  have lt0 : ∀ x ∈ p0, x.block < W.heap.size := by obtain ⟨m, hm⟩ := k0; exact DataW.trod_lt m _ _ _ hm
  obtain ⟨z0, w0⟩ : ∃ zs, IsRow .u8 W a0 len0 cap0 zs := by
    obtain ⟨fuel, hf⟩ := h0
    rcases open_ints Try.underlying22 Try.underlying5 (by kernel_rfl) hf with ⟨hcs, _⟩ | ⟨x, l, c, zs, hcs, _, hl, hm, hz, _, hcell, hwz⟩
    · simp [Value.cells] at hcs
      obtain ⟨rfl, rfl, rfl⟩ := hcs
      exact ⟨[], .inl ⟨rfl, rfl, rfl, rfl⟩⟩
    · simp [Value.cells] at hcs
      obtain ⟨rfl, rfl, rfl⟩ := hcs
      exact ⟨zs, .inr ⟨_, rfl, hl, hm, by simpa using hz, hcell, hwz⟩⟩
  clear hA0 hval0
  refine (walk a0 len0 cap0 z0 W w0).mono fun e W' ⟨he, bel⟩ => ?_
  subst he
  exact ⟨_, rfl, _, _, _, [], _, [], hW', trodAll_mk1 (shut_bool Try.underlying4 _), (trodAll_cons_mk (Below.trod laidOut (by kernel_rfl) (of_decide_eq_true (by kernel_rfl)) k0 bel lt0) trodAll_mk0), rfl, bel.frame _, fun h => by cases h⟩

theorem over : Rows.fnDivisorsRow.holds Try.pinned (OpenSpec.ofChange Rows.fnDivisorsSpec) :=
  OpenClaim.holds_of_wide 3 Try.f3 rfl rfl rfl rfl rfl rfl rfl ⟨rfl, rfl, rfl, rfl, rfl⟩ rfl rfl rfl rfl rfl (by kernel_rfl) Try.func3 (by kernel_rfl)
    (of_decide_eq_true (by kernel_rfl)) (by unfold Func.isWrapper; first | (rw [if_pos (by decide +kernel)]; kernel_rfl) | (rw [if_neg (by decide +kernel)]; exact ⟨rfl, rfl⟩))
    (fun os started H enc _ => lifted os started H enc)

theorem proved : Rows.FnDivisorsSaid := over
end Go.Proofs.Ytkfiidldappdcaa.fnDivisors

namespace Go.Proofs.Ytkfiidldappdcaa
theorem fnDivisors_holds : Rows.FnDivisorsSaid := fnDivisors.proved
#print axioms fnDivisors_holds
end Go.Proofs.Ytkfiidldappdcaa
