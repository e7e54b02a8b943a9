/- What the laws' arguments are read as: a fraction of two signs and two lists of limbs. -/
import Derived.Test.YtbnjgfaojaimlaaOpenF
namespace Go.Proofs.Ytbnjgfaojaimlaa
open Go.ChangeShapes Go.WideShapes Go.ChangeAt Go.RowKit
set_option linter.unusedVariables false

theorem cells67 : Try.prog.cellsOf 34 = 4 := by kernel_rfl
theorem open_two {H : Type} {enc : TypeId × Value → H} {W : World} {fuel : Nat} {c0 c1 : Value} {x : DataW H × List MemPlace}
    (hf : DataW.trod enc Try.prog W 0 (fun _ => true) true fuel 24 [c0, c1] = some x) : ∃ neg a cap xs, c0 = .bool neg ∧ c1 = .slice a xs.length cap ∧ Seg W a xs.length cap xs := by
  obtain ⟨y0, y1, m, hx, _, hy0, hy1⟩ := trod_struct2 Try.underlying24 hf
  simp [cells4, cells24] at hy0 hy1
  obtain ⟨b, e0⟩ : ∃ b, c0 = .bool b := by
    cases m with
    | zero => simp [DataW.trod] at hy0
    | succ m =>
      unfold DataW.trod at hy0
      rw [Try.underlying4] at hy0
      cases c0 <;> simp_all
  subst e0
  rcases open_ints Try.underlying22 Try.underlying54 cells66 hy1 with ⟨hcs, _⟩ | ⟨x, l, c, zs, hcs, _, hl, hm, hz, _, hcell, hwz⟩
  · cases hcs
    exact ⟨b, none, 0, [], rfl, rfl, rfl, Nat.le_refl _, by omega, (fun x hx => by cases hx), Or.inl rfl⟩
  · cases hcs
    obtain ⟨xs, hxl, hs⟩ := seg_of hl hm (by simpa using hz) hcell hwz
    subst hxl
    exact ⟨b, some x, c, xs, rfl, rfl, hs⟩

set_option maxRecDepth 100000 in
theorem open_rat {H : Type} {enc : TypeId × Value → H} {W : World} {base : Nat} {v : Value} {d : DataW H} {p : List MemPlace} (hv : Value.okWide Try.prog W .any base 34 v)
    (h : DataW.Trod enc Try.prog W 0 (fun _ => true) true 34 v d p) : ∃ n a c xs m b d ys, v = .agg #[.bool n, .slice a xs.length c, .bool m, .slice b ys.length d] ∧ Seg W a xs.length c xs ∧ Seg W b ys.length d ys := by
  obtain ⟨cs, rfl, hsz⟩ := okWide_struct Try.underlying34 hv
  rw [cells67] at hsz
  obtain ⟨l⟩ := cs
  match l, hsz with
  | [c0, c1, c2, c3], _ =>
    obtain ⟨fuel, hf⟩ := h
    obtain ⟨y0, y1, m, hx, _, hy0, hy1⟩ := trod_struct2 Try.underlying34 hf
    simp [Value.cells, cells38] at hy0 hy1
    obtain ⟨n, a, c, xs, rfl, rfl, s1⟩ := open_two hy0
    obtain ⟨m, b, d, ys, rfl, rfl, s2⟩ := open_two hy1
    exact ⟨n, a, c, xs, m, b, d, ys, rfl, s1, s2⟩
end Go.Proofs.Ytbnjgfaojaimlaa
