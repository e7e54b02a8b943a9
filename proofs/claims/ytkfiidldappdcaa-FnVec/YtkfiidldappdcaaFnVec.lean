/- For every two drawn powers VecAdd tells one sum in both orders, refused just where the specification refuses; and what VecScale scales by p and q comes back by q and p where p isn't 0 and nothing was refused; without a condition (the law itself passes codes of more than 1048576 bytes by). -/
import Derived.Test.YtkfiidldappdcaaRows
import Derived.Test.YtkfiidldappdcaaScaleB
import Derived.Test.YtkfiidldappdcaaDrawS
import Derived.Test.YtkfiidldappdcaaVAddS
import Derived.Test.YtkfiidldappdcaaVScaleS
import Derived.Test.YtkfiidldappdcaaDivs
import Derived.WalkKit
import Derived.ProofKit
import Derived.OpenShut
import Derived.ShutString
import Derived.ChangeOld
import Derived.Below
import Derived.WalkSmall
namespace Go.Proofs.Ytkfiidldappdcaa.fnVec
open Go.ChangeShapes Go.WideShapes Go.ChangeAt Go.RowKit
open Go.ChangeMaps (open_string shut_string)
set_option linter.unusedVariables false

theorem own : ownKnob Try.prog.godebug = none := by kernel_rfl
theorem laidOut : laidOutB Try.prog = true := by kernel_rfl

theorem sc_back (v1 : Int) (vs : List Int) (p q : Int) : scB v1 vs p q = true → p ≠ 0 → scB (scD v1 vs p q) (scL v1 vs p q) q p = true ∧ scD (scD v1 vs p q) (scL v1 vs p q) q p = v1 ∧ scL (scD v1 vs p q) (scL v1 vs p q) q p = vs := by
  intro h hp
  have hT : scT v1 vs p q = true := by unfold scB at h; simp only [Bool.and_eq_true] at h; exact h.1
  obtain ⟨N1, N2, N3⟩ := sc_yes hT
  have hg : tlB (v1 * q) (fun j => pwF vs j * p) = true := by rw [← N3.out]; exact h
  unfold scT at hT
  simp only [Bool.and_eq_true, decide_eq_true_eq] at hT
  obtain ⟨⟨⟨hv, hps⟩, hqs⟩, hq⟩ := hT
  obtain ⟨D, M, eD, eM, hl, hvM, b1, b2, b3⟩ := scale_back hv hp hq hg
  rw [N1.out, N2.out, eD, eM]
  have hT2 : scT D M q p = true := by
    unfold scT
    rw [hvM, decide_eq_true hqs, decide_eq_true hps, decide_eq_true hp]
    rfl
  obtain ⟨O1, O2, O3⟩ := sc_yes hT2
  rw [O1.out, O2.out, O3.out, hl]
  exact ⟨b1, b2, b3⟩

/-- WHAT THE WALK IS TOLD OF A SLICE OF INTEGERS THAT CAME IN: it is nil; or it leads to a row of 'cap' cells, the numbers 'zs' (the first 'len' are its elements, the rest its spare room), each fitting its kind. -/
def IsRow (k : IntKind) (w : World) (a : Option Addr) (len cap : Nat) (zs : List Int) : Prop :=
  (a = none ∧ len = 0 ∧ cap = 0 ∧ zs = []) ∨
  ∃ x, a = some x ∧ len ≤ cap ∧ cap ≤ maxLen ∧ zs.length = cap ∧ (∀ i, i < zs.length → w.cell? (x.add i) = some (.int k (zs.getD i 0))) ∧ ∀ n ∈ zs, (Lit.int k n).wf = true

set_option maxHeartbeats 40000000 in
set_option maxRecDepth 20000 in
theorem walk (a0 : Option Addr) (len0 cap0 : Nat) (z0 : List Int) (w : World) (w0 : IsRow .u8 w a0 len0 cap0 z0) :
    Calls Try.prog 4 #[.slice a0 len0 cap0] w fun e w' => e = .returned (.bool true) ∧ Below w.heap.size w w' := by
  have hrow := row_of w0
  have HROW := hide hrow
  have hcap : len0 ≤ 9223372036854775807 := Nat.le_trans hrow.2.1 hrow.2.2
  clear w0 hrow
  by_cases hbig : (1048576 : Int) < (len0 : Int)
  · go_enter Try.func4, Try.ntmps4
    go_wp2
    go_ret
    exact ⟨rfl, Below.refl _ _⟩
  have HB := hide (bl_refl w)
  have y0 := Nat.le_refl w.heap.size
  go_enter Try.func4, Try.ntmps4
  go_wp2_with (first | (go_at_call 15; go_in) | fail)
  refine (drawAdd _ _ _ _ HROW.out).mono ?_
  rintro e w1 ⟨d1, a1, c1, xs, d2, a2, c2, ys, rfl, h1, h2, hbw1⟩
  have yw1 := hbw1.size
  replace HB := hide (bl_trans HB.out hbw1)
  clear hbw1
  have SA := hide h1
  have SB := hide h2
  clear h1 h2
  go_wp2_with fail
  have ka_0 : ((w1.alloc (Obj.cells #[Value.int .i64 d1, Value.slice a1 xs.length c1] 29)).alloc (Obj.cells #[Value.int .i64 d2, Value.slice a2 ys.length c2] 29)).cell? ⟨w1.heap.size, 0, none⟩ = some (Value.int .i64 d1) := by go_simp
  have ka_1 : ((w1.alloc (Obj.cells #[Value.int .i64 d1, Value.slice a1 xs.length c1] 29)).alloc (Obj.cells #[Value.int .i64 d2, Value.slice a2 ys.length c2] 29)).cell? ⟨w1.heap.size, 1, none⟩ = some (Value.slice a1 xs.length c1) := by go_simp
  have za : w1.heap.size < ((w1.alloc (Obj.cells #[Value.int .i64 d1, Value.slice a1 xs.length c1] 29)).alloc (Obj.cells #[Value.int .i64 d2, Value.slice a2 ys.length c2] 29)).heap.size := by simp only [World.size_alloc]; omega
  have kb_0 : ((w1.alloc (Obj.cells #[Value.int .i64 d1, Value.slice a1 xs.length c1] 29)).alloc (Obj.cells #[Value.int .i64 d2, Value.slice a2 ys.length c2] 29)).cell? ⟨w1.heap.size + 1, 0, none⟩ = some (Value.int .i64 d2) := by go_simp
  have kb_1 : ((w1.alloc (Obj.cells #[Value.int .i64 d1, Value.slice a1 xs.length c1] 29)).alloc (Obj.cells #[Value.int .i64 d2, Value.slice a2 ys.length c2] 29)).cell? ⟨w1.heap.size + 1, 1, none⟩ = some (Value.slice a2 ys.length c2) := by go_simp
  have zb : w1.heap.size + 1 < ((w1.alloc (Obj.cells #[Value.int .i64 d1, Value.slice a1 xs.length c1] 29)).alloc (Obj.cells #[Value.int .i64 d2, Value.slice a2 ys.length c2] 29)).heap.size := by simp only [World.size_alloc]; omega
  have yw2 : w1.heap.size + 2 ≤ ((w1.alloc (Obj.cells #[Value.int .i64 d1, Value.slice a1 xs.length c1] 29)).alloc (Obj.cells #[Value.int .i64 d2, Value.slice a2 ys.length c2] 29)).heap.size := by simp only [World.size_alloc]; omega
  have hbw2 := (bl_alloc (bl_alloc (bl_refl w1) (Obj.cells #[Value.int .i64 d1, Value.slice a1 xs.length c1] 29)) (Obj.cells #[Value.int .i64 d2, Value.slice a2 ys.length c2] 29))
  generalize ((w1.alloc (Obj.cells #[Value.int .i64 d1, Value.slice a1 xs.length c1] 29)).alloc (Obj.cells #[Value.int .i64 d2, Value.slice a2 ys.length c2] 29)) = w2 at *
  replace SA := hide (SA.out.below hbw2)
  replace SB := hide (SB.out.below hbw2)
  replace HB := hide (bl_trans HB.out hbw2)
  clear hbw2
  have HAC := hide (ad_comm d1 xs d2 ys)
  have HAI := hide (fun w h1 h2 => vecAddI d1 a1 c1 xs d2 a2 c2 ys w h1 h2)
  have HAS := hide (fun w h1 h2 => vecAddS d1 a1 c1 xs d2 a2 c2 ys w h1 h2)
  have HAJ := hide (fun w h2 h1 => vecAddI d2 a2 c2 ys d1 a1 c1 xs w h2 h1)
  rw [← HAC.out.1, ← HAC.out.2.1, ← HAC.out.2.2] at HAJ
  generalize adB d1 xs d2 ys = ok at *
  generalize adD d1 xs d2 ys = D at *
  generalize adL d1 xs d2 ys = M at *
  clear HAC
  refine (HAI.out _ SA.out SB.out).mono ?_
  rintro e w3 ⟨aC, cC, rfl, hoC, hbw3⟩
  have yw3 := hbw3.size
  replace ka_0 := (hbw3.cell (p := ⟨w1.heap.size, 0, none⟩) za).trans ka_0
  replace ka_1 := (hbw3.cell (p := ⟨w1.heap.size, 1, none⟩) za).trans ka_1
  replace za := Nat.lt_of_lt_of_le za hbw3.size
  replace kb_0 := (hbw3.cell (p := ⟨w1.heap.size + 1, 0, none⟩) zb).trans kb_0
  replace kb_1 := (hbw3.cell (p := ⟨w1.heap.size + 1, 1, none⟩) zb).trans kb_1
  replace zb := Nat.lt_of_lt_of_le zb hbw3.size
  replace SA := hide (SA.out.below hbw3)
  replace SB := hide (SB.out.below hbw3)
  replace HB := hide (bl_trans HB.out hbw3)
  clear hbw3
  have SC := hide hoC.seg
  clear hoC
  go_wp2_with fail
  have kC_0 : (w3.alloc (Obj.cells #[Value.int .i64 D, Value.slice aC M.length cC] 29)).cell? ⟨w3.heap.size, 0, none⟩ = some (Value.int .i64 D) := by go_simp
  have kC_1 : (w3.alloc (Obj.cells #[Value.int .i64 D, Value.slice aC M.length cC] 29)).cell? ⟨w3.heap.size, 1, none⟩ = some (Value.slice aC M.length cC) := by go_simp
  have zC : w3.heap.size < (w3.alloc (Obj.cells #[Value.int .i64 D, Value.slice aC M.length cC] 29)).heap.size := by simp only [World.size_alloc]; omega
  have yw4 : w3.heap.size + 1 ≤ (w3.alloc (Obj.cells #[Value.int .i64 D, Value.slice aC M.length cC] 29)).heap.size := by simp only [World.size_alloc]; omega
  have hbw4 := (bl_alloc (bl_refl w3) (Obj.cells #[Value.int .i64 D, Value.slice aC M.length cC] 29))
  generalize (w3.alloc (Obj.cells #[Value.int .i64 D, Value.slice aC M.length cC] 29)) = w4 at *
  replace ka_0 := (hbw4.cell (p := ⟨w1.heap.size, 0, none⟩) za).trans ka_0
  replace ka_1 := (hbw4.cell (p := ⟨w1.heap.size, 1, none⟩) za).trans ka_1
  replace za := Nat.lt_of_lt_of_le za hbw4.size
  replace kb_0 := (hbw4.cell (p := ⟨w1.heap.size + 1, 0, none⟩) zb).trans kb_0
  replace kb_1 := (hbw4.cell (p := ⟨w1.heap.size + 1, 1, none⟩) zb).trans kb_1
  replace zb := Nat.lt_of_lt_of_le zb hbw4.size
  replace SA := hide (SA.out.below hbw4)
  replace SB := hide (SB.out.below hbw4)
  replace SC := hide (SC.out.below hbw4)
  replace HB := hide (bl_trans HB.out hbw4)
  clear hbw4
  refine (HAJ.out _ SB.out SA.out).mono ?_
  rintro e w5 ⟨aE, cE, rfl, hoE, hbw5⟩
  have yw5 := hbw5.size
  replace ka_0 := (hbw5.cell (p := ⟨w1.heap.size, 0, none⟩) za).trans ka_0
  replace ka_1 := (hbw5.cell (p := ⟨w1.heap.size, 1, none⟩) za).trans ka_1
  replace za := Nat.lt_of_lt_of_le za hbw5.size
  replace kb_0 := (hbw5.cell (p := ⟨w1.heap.size + 1, 0, none⟩) zb).trans kb_0
  replace kb_1 := (hbw5.cell (p := ⟨w1.heap.size + 1, 1, none⟩) zb).trans kb_1
  replace zb := Nat.lt_of_lt_of_le zb hbw5.size
  replace kC_0 := (hbw5.cell (p := ⟨w3.heap.size, 0, none⟩) zC).trans kC_0
  replace kC_1 := (hbw5.cell (p := ⟨w3.heap.size, 1, none⟩) zC).trans kC_1
  replace zC := Nat.lt_of_lt_of_le zC hbw5.size
  replace SA := hide (SA.out.below hbw5)
  replace SB := hide (SB.out.below hbw5)
  replace SC := hide (SC.out.below hbw5)
  replace HB := hide (bl_trans HB.out hbw5)
  clear hbw5
  have SE := hide hoE.seg
  clear hoE
  go_wp2_with fail
  have kE_0 : (w5.alloc (Obj.cells #[Value.int .i64 D, Value.slice aE M.length cE] 29)).cell? ⟨w5.heap.size, 0, none⟩ = some (Value.int .i64 D) := by go_simp
  have kE_1 : (w5.alloc (Obj.cells #[Value.int .i64 D, Value.slice aE M.length cE] 29)).cell? ⟨w5.heap.size, 1, none⟩ = some (Value.slice aE M.length cE) := by go_simp
  have zE : w5.heap.size < (w5.alloc (Obj.cells #[Value.int .i64 D, Value.slice aE M.length cE] 29)).heap.size := by simp only [World.size_alloc]; omega
  have yw6 : w5.heap.size + 1 ≤ (w5.alloc (Obj.cells #[Value.int .i64 D, Value.slice aE M.length cE] 29)).heap.size := by simp only [World.size_alloc]; omega
  have hbw6 := (bl_alloc (bl_refl w5) (Obj.cells #[Value.int .i64 D, Value.slice aE M.length cE] 29))
  generalize (w5.alloc (Obj.cells #[Value.int .i64 D, Value.slice aE M.length cE] 29)) = w6 at *
  replace ka_0 := (hbw6.cell (p := ⟨w1.heap.size, 0, none⟩) za).trans ka_0
  replace ka_1 := (hbw6.cell (p := ⟨w1.heap.size, 1, none⟩) za).trans ka_1
  replace za := Nat.lt_of_lt_of_le za hbw6.size
  replace kb_0 := (hbw6.cell (p := ⟨w1.heap.size + 1, 0, none⟩) zb).trans kb_0
  replace kb_1 := (hbw6.cell (p := ⟨w1.heap.size + 1, 1, none⟩) zb).trans kb_1
  replace zb := Nat.lt_of_lt_of_le zb hbw6.size
  replace kC_0 := (hbw6.cell (p := ⟨w3.heap.size, 0, none⟩) zC).trans kC_0
  replace kC_1 := (hbw6.cell (p := ⟨w3.heap.size, 1, none⟩) zC).trans kC_1
  replace zC := Nat.lt_of_lt_of_le zC hbw6.size
  replace SA := hide (SA.out.below hbw6)
  replace SB := hide (SB.out.below hbw6)
  replace SC := hide (SC.out.below hbw6)
  replace SE := hide (SE.out.below hbw6)
  replace HB := hide (bl_trans HB.out hbw6)
  clear hbw6
  refine (HAS.out _ SA.out SB.out).mono ?_
  rintro e w7 ⟨aF, cF, rfl, hoF, hbw7⟩
  have yw7 := hbw7.size
  replace ka_0 := (hbw7.cell (p := ⟨w1.heap.size, 0, none⟩) za).trans ka_0
  replace ka_1 := (hbw7.cell (p := ⟨w1.heap.size, 1, none⟩) za).trans ka_1
  replace za := Nat.lt_of_lt_of_le za hbw7.size
  replace kb_0 := (hbw7.cell (p := ⟨w1.heap.size + 1, 0, none⟩) zb).trans kb_0
  replace kb_1 := (hbw7.cell (p := ⟨w1.heap.size + 1, 1, none⟩) zb).trans kb_1
  replace zb := Nat.lt_of_lt_of_le zb hbw7.size
  replace kC_0 := (hbw7.cell (p := ⟨w3.heap.size, 0, none⟩) zC).trans kC_0
  replace kC_1 := (hbw7.cell (p := ⟨w3.heap.size, 1, none⟩) zC).trans kC_1
  replace zC := Nat.lt_of_lt_of_le zC hbw7.size
  replace kE_0 := (hbw7.cell (p := ⟨w5.heap.size, 0, none⟩) zE).trans kE_0
  replace kE_1 := (hbw7.cell (p := ⟨w5.heap.size, 1, none⟩) zE).trans kE_1
  replace zE := Nat.lt_of_lt_of_le zE hbw7.size
  replace SA := hide (SA.out.below hbw7)
  replace SB := hide (SB.out.below hbw7)
  replace SC := hide (SC.out.below hbw7)
  replace SE := hide (SE.out.below hbw7)
  replace HB := hide (bl_trans HB.out hbw7)
  clear hbw7
  have SF := hide hoF.seg
  clear hoF
  go_wp2_with fail
  have kF_0 : (w7.alloc (Obj.cells #[Value.int .i64 D, Value.slice aF M.length cF] 29)).cell? ⟨w7.heap.size, 0, none⟩ = some (Value.int .i64 D) := by go_simp
  have kF_1 : (w7.alloc (Obj.cells #[Value.int .i64 D, Value.slice aF M.length cF] 29)).cell? ⟨w7.heap.size, 1, none⟩ = some (Value.slice aF M.length cF) := by go_simp
  have zF : w7.heap.size < (w7.alloc (Obj.cells #[Value.int .i64 D, Value.slice aF M.length cF] 29)).heap.size := by simp only [World.size_alloc]; omega
  have yw8 : w7.heap.size + 1 ≤ (w7.alloc (Obj.cells #[Value.int .i64 D, Value.slice aF M.length cF] 29)).heap.size := by simp only [World.size_alloc]; omega
  have hbw8 := (bl_alloc (bl_refl w7) (Obj.cells #[Value.int .i64 D, Value.slice aF M.length cF] 29))
  generalize (w7.alloc (Obj.cells #[Value.int .i64 D, Value.slice aF M.length cF] 29)) = w8 at *
  replace ka_0 := (hbw8.cell (p := ⟨w1.heap.size, 0, none⟩) za).trans ka_0
  replace ka_1 := (hbw8.cell (p := ⟨w1.heap.size, 1, none⟩) za).trans ka_1
  replace za := Nat.lt_of_lt_of_le za hbw8.size
  replace kb_0 := (hbw8.cell (p := ⟨w1.heap.size + 1, 0, none⟩) zb).trans kb_0
  replace kb_1 := (hbw8.cell (p := ⟨w1.heap.size + 1, 1, none⟩) zb).trans kb_1
  replace zb := Nat.lt_of_lt_of_le zb hbw8.size
  replace kC_0 := (hbw8.cell (p := ⟨w3.heap.size, 0, none⟩) zC).trans kC_0
  replace kC_1 := (hbw8.cell (p := ⟨w3.heap.size, 1, none⟩) zC).trans kC_1
  replace zC := Nat.lt_of_lt_of_le zC hbw8.size
  replace kE_0 := (hbw8.cell (p := ⟨w5.heap.size, 0, none⟩) zE).trans kE_0
  replace kE_1 := (hbw8.cell (p := ⟨w5.heap.size, 1, none⟩) zE).trans kE_1
  replace zE := Nat.lt_of_lt_of_le zE hbw8.size
  replace SA := hide (SA.out.below hbw8)
  replace SB := hide (SB.out.below hbw8)
  replace SC := hide (SC.out.below hbw8)
  replace SE := hide (SE.out.below hbw8)
  replace SF := hide (SF.out.below hbw8)
  replace HB := hide (bl_trans HB.out hbw8)
  clear hbw8
  refine (sameV D aC cC M D aE cE M _ SC.out SE.out).mono ?_
  rintro e w9 ⟨rfl, hbw9⟩
  have yw9 := hbw9.size
  replace ka_0 := (hbw9.cell (p := ⟨w1.heap.size, 0, none⟩) za).trans ka_0
  replace ka_1 := (hbw9.cell (p := ⟨w1.heap.size, 1, none⟩) za).trans ka_1
  replace za := Nat.lt_of_lt_of_le za hbw9.size
  replace kb_0 := (hbw9.cell (p := ⟨w1.heap.size + 1, 0, none⟩) zb).trans kb_0
  replace kb_1 := (hbw9.cell (p := ⟨w1.heap.size + 1, 1, none⟩) zb).trans kb_1
  replace zb := Nat.lt_of_lt_of_le zb hbw9.size
  replace kC_0 := (hbw9.cell (p := ⟨w3.heap.size, 0, none⟩) zC).trans kC_0
  replace kC_1 := (hbw9.cell (p := ⟨w3.heap.size, 1, none⟩) zC).trans kC_1
  replace zC := Nat.lt_of_lt_of_le zC hbw9.size
  replace kE_0 := (hbw9.cell (p := ⟨w5.heap.size, 0, none⟩) zE).trans kE_0
  replace kE_1 := (hbw9.cell (p := ⟨w5.heap.size, 1, none⟩) zE).trans kE_1
  replace zE := Nat.lt_of_lt_of_le zE hbw9.size
  replace kF_0 := (hbw9.cell (p := ⟨w7.heap.size, 0, none⟩) zF).trans kF_0
  replace kF_1 := (hbw9.cell (p := ⟨w7.heap.size, 1, none⟩) zF).trans kF_1
  replace zF := Nat.lt_of_lt_of_le zF hbw9.size
  replace SA := hide (SA.out.below hbw9)
  replace SB := hide (SB.out.below hbw9)
  replace SC := hide (SC.out.below hbw9)
  replace SE := hide (SE.out.below hbw9)
  replace SF := hide (SF.out.below hbw9)
  replace HB := hide (bl_trans HB.out hbw9)
  clear hbw9
  rw [show sameB D M D M = true from decide_eq_true ⟨rfl, rfl⟩]
  clear SA
  clear SB
  clear SC
  clear SE
  clear SF
  clear ka_0
  clear ka_1
  clear za
  clear kb_0
  clear kb_1
  clear zb
  clear kC_0
  clear kC_1
  clear zC
  clear kE_0
  clear kE_1
  clear zE
  clear kF_0
  clear kF_1
  clear zF
  clear HAI HAJ HAS
  go_wp2_with fail
  refine (drawScale _ _ _ _ (HROW.out.bel HB.out)).mono ?_
  rintro e w10 ⟨v1, av, cv, vs, p, q, rfl, hv, hbw10⟩
  have yw10 := hbw10.size
  replace HB := hide (bl_trans HB.out hbw10)
  clear hbw10
  have SV := hide hv
  clear hv
  go_wp2_with fail
  have kv_0 : (w10.alloc (Obj.cells #[Value.int .i64 v1, Value.slice av vs.length cv] 29)).cell? ⟨w10.heap.size, 0, none⟩ = some (Value.int .i64 v1) := by go_simp
  have kv_1 : (w10.alloc (Obj.cells #[Value.int .i64 v1, Value.slice av vs.length cv] 29)).cell? ⟨w10.heap.size, 1, none⟩ = some (Value.slice av vs.length cv) := by go_simp
  have zv : w10.heap.size < (w10.alloc (Obj.cells #[Value.int .i64 v1, Value.slice av vs.length cv] 29)).heap.size := by simp only [World.size_alloc]; omega
  have yw11 : w10.heap.size + 1 ≤ (w10.alloc (Obj.cells #[Value.int .i64 v1, Value.slice av vs.length cv] 29)).heap.size := by simp only [World.size_alloc]; omega
  have hbw11 := (bl_alloc (bl_refl w10) (Obj.cells #[Value.int .i64 v1, Value.slice av vs.length cv] 29))
  generalize (w10.alloc (Obj.cells #[Value.int .i64 v1, Value.slice av vs.length cv] 29)) = w11 at *
  replace SV := hide (SV.out.below hbw11)
  replace HB := hide (bl_trans HB.out hbw11)
  clear hbw11
  have HSI := hide (fun w h => vecScaleI v1 av cv vs p q w h)
  have HSS := hide (fun w h => vecScaleS v1 av cv vs p q w h)
  have HBK := hide (sc_back v1 vs p q)
  generalize eN : scD v1 vs p q = N at *
  generalize eL : scL v1 vs p q = K at *
  generalize eB : scB v1 vs p q = good at *
  clear eN eL eB
  refine (HSI.out _ SV.out).mono ?_
  rintro e w12 ⟨aG, cG, rfl, hoG, hbw12⟩
  have yw12 := hbw12.size
  replace kv_0 := (hbw12.cell (p := ⟨w10.heap.size, 0, none⟩) zv).trans kv_0
  replace kv_1 := (hbw12.cell (p := ⟨w10.heap.size, 1, none⟩) zv).trans kv_1
  replace zv := Nat.lt_of_lt_of_le zv hbw12.size
  replace SV := hide (SV.out.below hbw12)
  replace HB := hide (bl_trans HB.out hbw12)
  clear hbw12
  have SG := hide hoG.seg
  clear hoG
  go_wp2_with fail
  have kG_0 : (w12.alloc (Obj.cells #[Value.int .i64 N, Value.slice aG K.length cG] 29)).cell? ⟨w12.heap.size, 0, none⟩ = some (Value.int .i64 N) := by go_simp
  have kG_1 : (w12.alloc (Obj.cells #[Value.int .i64 N, Value.slice aG K.length cG] 29)).cell? ⟨w12.heap.size, 1, none⟩ = some (Value.slice aG K.length cG) := by go_simp
  have zG : w12.heap.size < (w12.alloc (Obj.cells #[Value.int .i64 N, Value.slice aG K.length cG] 29)).heap.size := by simp only [World.size_alloc]; omega
  have yw13 : w12.heap.size + 1 ≤ (w12.alloc (Obj.cells #[Value.int .i64 N, Value.slice aG K.length cG] 29)).heap.size := by simp only [World.size_alloc]; omega
  have hbw13 := (bl_alloc (bl_refl w12) (Obj.cells #[Value.int .i64 N, Value.slice aG K.length cG] 29))
  generalize (w12.alloc (Obj.cells #[Value.int .i64 N, Value.slice aG K.length cG] 29)) = w13 at *
  replace kv_0 := (hbw13.cell (p := ⟨w10.heap.size, 0, none⟩) zv).trans kv_0
  replace kv_1 := (hbw13.cell (p := ⟨w10.heap.size, 1, none⟩) zv).trans kv_1
  replace zv := Nat.lt_of_lt_of_le zv hbw13.size
  replace SV := hide (SV.out.below hbw13)
  replace SG := hide (SG.out.below hbw13)
  replace HB := hide (bl_trans HB.out hbw13)
  clear hbw13
  refine (HSS.out _ SV.out).mono ?_
  rintro e w14 ⟨aH, cH, rfl, hoH, hbw14⟩
  have yw14 := hbw14.size
  replace kv_0 := (hbw14.cell (p := ⟨w10.heap.size, 0, none⟩) zv).trans kv_0
  replace kv_1 := (hbw14.cell (p := ⟨w10.heap.size, 1, none⟩) zv).trans kv_1
  replace zv := Nat.lt_of_lt_of_le zv hbw14.size
  replace kG_0 := (hbw14.cell (p := ⟨w12.heap.size, 0, none⟩) zG).trans kG_0
  replace kG_1 := (hbw14.cell (p := ⟨w12.heap.size, 1, none⟩) zG).trans kG_1
  replace zG := Nat.lt_of_lt_of_le zG hbw14.size
  replace SV := hide (SV.out.below hbw14)
  replace SG := hide (SG.out.below hbw14)
  replace HB := hide (bl_trans HB.out hbw14)
  clear hbw14
  have SH := hide hoH.seg
  clear hoH
  cases good with
  | false =>
    go_wp2
    go_ret
    exact ⟨rfl, bl_alloc HB.out _⟩
  | true =>
  by_cases hp : p = 0
  · have hpb : (p == 0) = true := by simp [hp]
    clear hp
    go_wp2
    go_ret
    exact ⟨rfl, bl_alloc HB.out _⟩
  have hpb : (p == 0) = false := by simp [hp]
  obtain ⟨b1, b2, b3⟩ := HBK.out rfl hp
  have HSB := hide (fun w h => vecScaleI N aG cG K q p w h)
  rw [b1, b2, b3] at HSB
  clear b1 b2 b3 hp HBK HSI HSS
  go_wp2_with fail
  have kH_0 : (w14.alloc (Obj.cells #[Value.int .i64 N, Value.slice aH K.length cH] 29)).cell? ⟨w14.heap.size, 0, none⟩ = some (Value.int .i64 N) := by go_simp
  have kH_1 : (w14.alloc (Obj.cells #[Value.int .i64 N, Value.slice aH K.length cH] 29)).cell? ⟨w14.heap.size, 1, none⟩ = some (Value.slice aH K.length cH) := by go_simp
  have zH : w14.heap.size < (w14.alloc (Obj.cells #[Value.int .i64 N, Value.slice aH K.length cH] 29)).heap.size := by simp only [World.size_alloc]; omega
  have yw15 : w14.heap.size + 1 ≤ (w14.alloc (Obj.cells #[Value.int .i64 N, Value.slice aH K.length cH] 29)).heap.size := by simp only [World.size_alloc]; omega
  have hbw15 := (bl_alloc (bl_refl w14) (Obj.cells #[Value.int .i64 N, Value.slice aH K.length cH] 29))
  generalize (w14.alloc (Obj.cells #[Value.int .i64 N, Value.slice aH K.length cH] 29)) = w15 at *
  replace kv_0 := (hbw15.cell (p := ⟨w10.heap.size, 0, none⟩) zv).trans kv_0
  replace kv_1 := (hbw15.cell (p := ⟨w10.heap.size, 1, none⟩) zv).trans kv_1
  replace zv := Nat.lt_of_lt_of_le zv hbw15.size
  replace kG_0 := (hbw15.cell (p := ⟨w12.heap.size, 0, none⟩) zG).trans kG_0
  replace kG_1 := (hbw15.cell (p := ⟨w12.heap.size, 1, none⟩) zG).trans kG_1
  replace zG := Nat.lt_of_lt_of_le zG hbw15.size
  replace SV := hide (SV.out.below hbw15)
  replace SG := hide (SG.out.below hbw15)
  replace SH := hide (SH.out.below hbw15)
  replace HB := hide (bl_trans HB.out hbw15)
  clear hbw15
  refine (HSB.out _ SG.out).mono ?_
  rintro e w16 ⟨aU, cU, rfl, hoU, hbw16⟩
  have yw16 := hbw16.size
  replace kv_0 := (hbw16.cell (p := ⟨w10.heap.size, 0, none⟩) zv).trans kv_0
  replace kv_1 := (hbw16.cell (p := ⟨w10.heap.size, 1, none⟩) zv).trans kv_1
  replace zv := Nat.lt_of_lt_of_le zv hbw16.size
  replace kG_0 := (hbw16.cell (p := ⟨w12.heap.size, 0, none⟩) zG).trans kG_0
  replace kG_1 := (hbw16.cell (p := ⟨w12.heap.size, 1, none⟩) zG).trans kG_1
  replace zG := Nat.lt_of_lt_of_le zG hbw16.size
  replace kH_0 := (hbw16.cell (p := ⟨w14.heap.size, 0, none⟩) zH).trans kH_0
  replace kH_1 := (hbw16.cell (p := ⟨w14.heap.size, 1, none⟩) zH).trans kH_1
  replace zH := Nat.lt_of_lt_of_le zH hbw16.size
  replace SV := hide (SV.out.below hbw16)
  replace SG := hide (SG.out.below hbw16)
  replace SH := hide (SH.out.below hbw16)
  replace HB := hide (bl_trans HB.out hbw16)
  clear hbw16
  have SU := hide hoU.seg
  clear hoU
  clear HSB
  go_wp2_with fail
  have kU_0 : (w16.alloc (Obj.cells #[Value.int .i64 v1, Value.slice aU vs.length cU] 29)).cell? ⟨w16.heap.size, 0, none⟩ = some (Value.int .i64 v1) := by go_simp
  have kU_1 : (w16.alloc (Obj.cells #[Value.int .i64 v1, Value.slice aU vs.length cU] 29)).cell? ⟨w16.heap.size, 1, none⟩ = some (Value.slice aU vs.length cU) := by go_simp
  have zU : w16.heap.size < (w16.alloc (Obj.cells #[Value.int .i64 v1, Value.slice aU vs.length cU] 29)).heap.size := by simp only [World.size_alloc]; omega
  have yw17 : w16.heap.size + 1 ≤ (w16.alloc (Obj.cells #[Value.int .i64 v1, Value.slice aU vs.length cU] 29)).heap.size := by simp only [World.size_alloc]; omega
  have hbw17 := (bl_alloc (bl_refl w16) (Obj.cells #[Value.int .i64 v1, Value.slice aU vs.length cU] 29))
  generalize (w16.alloc (Obj.cells #[Value.int .i64 v1, Value.slice aU vs.length cU] 29)) = w17 at *
  replace kv_0 := (hbw17.cell (p := ⟨w10.heap.size, 0, none⟩) zv).trans kv_0
  replace kv_1 := (hbw17.cell (p := ⟨w10.heap.size, 1, none⟩) zv).trans kv_1
  replace zv := Nat.lt_of_lt_of_le zv hbw17.size
  replace kG_0 := (hbw17.cell (p := ⟨w12.heap.size, 0, none⟩) zG).trans kG_0
  replace kG_1 := (hbw17.cell (p := ⟨w12.heap.size, 1, none⟩) zG).trans kG_1
  replace zG := Nat.lt_of_lt_of_le zG hbw17.size
  replace kH_0 := (hbw17.cell (p := ⟨w14.heap.size, 0, none⟩) zH).trans kH_0
  replace kH_1 := (hbw17.cell (p := ⟨w14.heap.size, 1, none⟩) zH).trans kH_1
  replace zH := Nat.lt_of_lt_of_le zH hbw17.size
  replace SV := hide (SV.out.below hbw17)
  replace SG := hide (SG.out.below hbw17)
  replace SH := hide (SH.out.below hbw17)
  replace SU := hide (SU.out.below hbw17)
  replace HB := hide (bl_trans HB.out hbw17)
  clear hbw17
  refine (sameV v1 aU cU vs v1 av cv vs _ SU.out SV.out).mono ?_
  rintro e w18 ⟨rfl, hbw18⟩
  have yw18 := hbw18.size
  replace kv_0 := (hbw18.cell (p := ⟨w10.heap.size, 0, none⟩) zv).trans kv_0
  replace kv_1 := (hbw18.cell (p := ⟨w10.heap.size, 1, none⟩) zv).trans kv_1
  replace zv := Nat.lt_of_lt_of_le zv hbw18.size
  replace kG_0 := (hbw18.cell (p := ⟨w12.heap.size, 0, none⟩) zG).trans kG_0
  replace kG_1 := (hbw18.cell (p := ⟨w12.heap.size, 1, none⟩) zG).trans kG_1
  replace zG := Nat.lt_of_lt_of_le zG hbw18.size
  replace kH_0 := (hbw18.cell (p := ⟨w14.heap.size, 0, none⟩) zH).trans kH_0
  replace kH_1 := (hbw18.cell (p := ⟨w14.heap.size, 1, none⟩) zH).trans kH_1
  replace zH := Nat.lt_of_lt_of_le zH hbw18.size
  replace kU_0 := (hbw18.cell (p := ⟨w16.heap.size, 0, none⟩) zU).trans kU_0
  replace kU_1 := (hbw18.cell (p := ⟨w16.heap.size, 1, none⟩) zU).trans kU_1
  replace zU := Nat.lt_of_lt_of_le zU hbw18.size
  replace SV := hide (SV.out.below hbw18)
  replace SG := hide (SG.out.below hbw18)
  replace SH := hide (SH.out.below hbw18)
  replace SU := hide (SU.out.below hbw18)
  replace HB := hide (bl_trans HB.out hbw18)
  clear hbw18
  rw [show sameB v1 vs v1 vs = true from decide_eq_true ⟨rfl, rfl⟩]
  go_wp2
  go_ret
  exact ⟨rfl, HB.out⟩

set_option maxRecDepth 100000 in
theorem lifted (os : Os) (started : os.Started) (H : Type) (enc : TypeId × Value → H) :
    ReturnsInHanded {} Try.checked os 4 .any (Rows.fnVecSpec.pre6 enc Try.prog Try.f4 Rows.fnVecRow.domain false) (Rows.fnVecSpec.post enc Try.prog Try.f4 false true false false) := by
  refine returnsInHanded_of_change (C := Try.checked) own started (by kernel_rfl) Try.func4
    (ChangeSpec.witness6 (enc := enc) (C := Try.checked) false ⟨#[], #[.slice none 0 0], []⟩ 8 (by kernel_rfl) (by kernel_rfl) (by kernel_rfl) (by kernel_rfl)) ?_
  intro W base args ds gs before hval0 hW hcnd _
  have hval : ∀ (j : Nat) t v, Try.f4.params[j]? = some t → args[j]? = some v → Value.okWide Try.prog W .any base t v := hval0
  have hW' := hW
  obtain ⟨p, q, hA0, hV, rfl, hfz, hnd⟩ := hW
  have hA : DataW.TrodAll enc Try.prog W 0 (fun _ => true) true Try.f4.params.toList args.toList ds p := hA0
  rw [Try.params4] at hA hval
  obtain ⟨v0, vs0, d0, ds0, p0, q0, hargs, rfl, rfl, h0, r0⟩ := trodAll_cons hA
  obtain ⟨rfl, rfl, rfl⟩ := trodAll_nil r0
  obtain rfl : args = #[v0] := by cases args; simp_all
  obtain ⟨rfl, rfl⟩ := trodVars_none hV
  obtain ⟨a0, len0, cap0, rfl⟩ := okWide_slice Try.underlying22 (hval 0 22 v0 rfl rfl)
  have k0 := h0
  have lt0 : ∀ x ∈ p0, x.block < W.heap.size := by obtain ⟨m, hm⟩ := k0; exact DataW.trod_lt m _ _ _ hm
  obtain ⟨z0, w0⟩ : ∃ zs, IsRow .u8 W a0 len0 cap0 zs := by
    obtain ⟨fuel, hf⟩ := h0
    rcases open_ints Try.underlying22 Try.underlying5 (by kernel_rfl) hf with ⟨hcs, _⟩ | ⟨x, l, c, zs, hcs, _, hl, hm, hz, _, hcell, hwz⟩
    · simp [Value.cells] at hcs
      obtain ⟨rfl, rfl, rfl⟩ := hcs
      exact ⟨[], .inl ⟨rfl, rfl, rfl, rfl⟩⟩
    · simp [Value.cells] at hcs
      obtain ⟨rfl, rfl, rfl⟩ := hcs
      exact ⟨zs, .inr ⟨_, rfl, hl, hm, by simpa using hz, hcell, hwz⟩⟩
  clear hA0 hval0
  refine (walk a0 len0 cap0 z0 W w0).mono fun e W' ⟨he, bel⟩ => ?_
  subst he
  exact ⟨_, rfl, _, _, _, [], _, [], hW', trodAll_mk1 (shut_bool Try.underlying4 _), (trodAll_cons_mk (Below.trod laidOut (by kernel_rfl) (of_decide_eq_true (by kernel_rfl)) k0 bel lt0) trodAll_mk0), rfl, bel.frame _, fun h => by cases h⟩

theorem over : Rows.fnVecRow.holds Try.pinned (OpenSpec.ofChange Rows.fnVecSpec) :=
  OpenClaim.holds_of_wide 4 Try.f4 rfl rfl rfl rfl rfl rfl rfl ⟨rfl, rfl, rfl, rfl, rfl⟩ rfl rfl rfl rfl rfl (by kernel_rfl) Try.func4 (by kernel_rfl)
    (of_decide_eq_true (by kernel_rfl)) (by unfold Func.isWrapper; first | (rw [if_pos (by decide +kernel)]; kernel_rfl) | (rw [if_neg (by decide +kernel)]; exact ⟨rfl, rfl⟩))
    (fun os started H enc _ => lifted os started H enc)

theorem proved : Rows.FnVecSaid := over
end Go.Proofs.Ytkfiidldappdcaa.fnVec

namespace Go.Proofs.Ytkfiidldappdcaa
theorem fnVec_holds : Rows.FnVecSaid := fnVec.proved
#print axioms fnVec_holds
end Go.Proofs.Ytkfiidldappdcaa
