/- What the laws' arguments are read as: a sign and limbs; a list of bytes. -/
import Derived.Test.YtgoblagpnioflaaBase
import Derived.ProofKit
import Derived.OpenShut
import Derived.ShutString
import Derived.ChangeOld
import Derived.Below
import Derived.WalkSmall
namespace Go.Proofs.Ytgoblagpnioflaa
open Go.ChangeShapes Go.WideShapes Go.ChangeAt Go.RowKit
set_option linter.unusedVariables false

theorem own : ownKnob Try.prog.godebug = none := by kernel_rfl
theorem laidOut : laidOutB Try.prog = true := by kernel_rfl
theorem cells24 : Try.prog.cellsOf 22 = 1 := by kernel_rfl
theorem cells4 : Try.prog.cellsOf 4 = 1 := by kernel_rfl
theorem cells66 : Try.prog.cellsOf 45 = 1 := by kernel_rfl

theorem seg_of {W : World} {x : Addr} {l c : Nat} {zs : List Int} (hl : l ≤ c) (hm : c ≤ maxLen) (hz : zs.length = c)
    (hcell : ∀ i, i < zs.length → W.cell? (x.add i) = some (.int .u32 (zs.getD i 0))) (hwz : ∀ n ∈ zs, (Lit.int .u32 n).wf = true) :
    ∃ xs : List Nat, xs.length = l ∧ Seg W (some x) l c xs := by
  unfold maxLen at hm
  have hbd : ∀ n ∈ zs, 0 ≤ n ∧ n ≤ 4294967295 := fun n hn => by
    have := hwz n hn
    simpa [Lit.wf, IntKind.min, IntKind.max, IntKind.signed, IntKind.bits] using this
  have hlen : ((zs.map Int.toNat).take l).length = l := by simp; omega
  refine ⟨(zs.map Int.toNat).take l, hlen, hlen, hl, by omega, ?_, ?_⟩
  · intro y hy
    obtain ⟨n, hn, rfl⟩ := List.mem_map.1 (List.mem_of_mem_take hy)
    have := hbd n hn
    omega
  · by_cases h0 : l = 0
    · exact .inl h0
    obtain ⟨b, off, spot⟩ := x
    have hc := hcell 0 (by omega)
    have hspot : spot = none := by simpa [Addr.add] using World.cell?_spot hc
    subst hspot
    have hb : b < W.heap.size := by
      have hc0 : W.cell? ⟨b, off, none⟩ = some (.int .u32 (zs.getD 0 0)) := by simpa [Addr.add] using hc
      exact World.block_lt_of_cell? W ⟨b, off, none⟩ hc0
    refine .inr ⟨b, off, rfl, hb, fun j hj => ?_⟩
    have hjl : j < zs.length := by omega
    have hcj : W.cell? ⟨b, off + j, none⟩ = some (.int .u32 (zs.getD j 0)) := by
      have h1 := hcell j hjl
      by_cases hj0 : j = 0
      · subst hj0; simpa [Addr.add] using h1
      · simpa [Addr.add, hj0] using h1
    rw [hcj]
    have e : zs.getD j 0 = zs[j] := by simp [hjl]
    have := hbd zs[j] (List.getElem_mem _)
    rw [e]; simp; omega

end Go.Proofs.Ytgoblagpnioflaa
