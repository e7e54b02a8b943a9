/- What the laws' arguments are read as: a number and a list of ints; a list of ints. -/
import Derived.Test.YteljkjpcjjiidaaVBase
import Derived.ProofKit
import Derived.OpenShut
import Derived.ShutString
import Derived.ChangeOld
import Derived.Below
import Derived.WalkSmall
namespace Go.Proofs.Yteljkjpcjjiidaa.V
open Go.ChangeShapes Go.WideShapes Go.ChangeAt Go.RowKit
set_option linter.unusedVariables false
set_option maxRecDepth 20000

theorem own : ownKnob Try.prog.godebug = none := by kernel_rfl
theorem laidOut : laidOutB Try.prog = true := by kernel_rfl
theorem cells27 : Try.prog.cellsOf 59 = 1 := by kernel_rfl
theorem cells3 : Try.prog.cellsOf 3 = 1 := by kernel_rfl

theorem seg_of {W : World} {x : Addr} {l c : Nat} {zs : List Int} (hl : l ≤ c) (hm : c ≤ maxLen) (hz : zs.length = c)
    (hcell : ∀ i, i < zs.length → W.cell? (x.add i) = some (.int .i64 (zs.getD i 0))) (hwz : ∀ n ∈ zs, (Lit.int .i64 n).wf = true) :
    ∃ xs : List Int, xs.length = l ∧ Seg W (some x) l c xs ∧ ∀ y ∈ xs, -9223372036854775808 ≤ y ∧ y ≤ 9223372036854775807 := by
  unfold maxLen at hm
  have hbd : ∀ n ∈ zs, -9223372036854775808 ≤ n ∧ n ≤ 9223372036854775807 := fun n hn => by
    have := hwz n hn
    simpa [Lit.wf, IntKind.min, IntKind.max, IntKind.signed, IntKind.bits] using this
  have hlen : (zs.take l).length = l := by simp; omega
  refine ⟨zs.take l, hlen, ⟨hlen, hl, by omega, ?_⟩, fun y hy => hbd y (List.mem_of_mem_take hy)⟩
  by_cases h0 : l = 0
  · exact .inl h0
  obtain ⟨b, off, spot⟩ := x
  have hc := hcell 0 (by omega)
  have hspot : spot = none := by simpa [Addr.add] using World.cell?_spot hc
  subst hspot
  have hb : b < W.heap.size := by
    have hc0 : W.cell? ⟨b, off, none⟩ = some (.int .i64 (zs.getD 0 0)) := by simpa [Addr.add] using hc
    exact World.block_lt_of_cell? W ⟨b, off, none⟩ hc0
  refine .inr ⟨b, off, rfl, hb, fun j hj => ?_⟩
  have hjl : j < zs.length := by omega
  have hcj : W.cell? ⟨b, off + j, none⟩ = some (.int .i64 (zs.getD j 0)) := by
    have h1 := hcell j hjl
    by_cases hj0 : j = 0
    · subst hj0; simpa [Addr.add] using h1
    · simpa [Addr.add, hj0] using h1
  rw [hcj]
  have e : zs.getD j 0 = zs[j] := by simp [hjl]
  rw [e]; simp

set_option maxRecDepth 100000 in
theorem open_list {H : Type} {enc : TypeId × Value → H} {W : World} {fuel : Nat} {c1 : Value} {x : DataW H × List MemPlace}
    (hf : DataW.trod enc Try.prog W 0 (fun _ => true) true fuel 59 [c1] = some x) : ∃ a cap xs, c1 = .slice a xs.length cap ∧ Seg W a xs.length cap xs ∧ ∀ y ∈ xs, -9223372036854775808 ≤ y ∧ y ≤ 9223372036854775807 := by
  rcases open_ints Try.underlying59 Try.underlying3 cells3 hf with ⟨hcs, _⟩ | ⟨x, l, c, zs, hcs, _, hl, hm, hz, _, hcell, hwz⟩
  · cases hcs
    exact ⟨none, 0, [], rfl, ⟨rfl, Nat.le_refl _, by omega, Or.inl rfl⟩, fun _ h => by cases h⟩
  · cases hcs
    obtain ⟨xs, hxl, hs, hb⟩ := seg_of hl hm (by simpa using hz) hcell hwz
    subst hxl
    exact ⟨some x, c, xs, rfl, hs, hb⟩
set_option maxRecDepth 100000 in
theorem open_intS {H : Type} {enc : TypeId × Value → H} {W : World} {base : Nat} {v : Value} {d : DataW H} {p : List MemPlace} (hv : Value.okWide Try.prog W .any base 59 v)
    (h : DataW.Trod enc Try.prog W 0 (fun _ => true) true 59 v d p) : ∃ a cap xs, v = .slice a xs.length cap ∧ Seg W a xs.length cap xs ∧ ∀ y ∈ xs, -9223372036854775808 ≤ y ∧ y ≤ 9223372036854775807 := by
  obtain ⟨a0, len0, cap0, rfl⟩ := okWide_slice Try.underlying59 hv
  obtain ⟨fuel, hf⟩ := h
  exact open_list (by simpa [Value.cells] using hf)

end Go.Proofs.Yteljkjpcjjiidaa.V
