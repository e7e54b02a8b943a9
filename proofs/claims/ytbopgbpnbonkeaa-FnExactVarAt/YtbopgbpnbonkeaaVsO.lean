/- What a list of named measures among the arguments is read as. -/
import Derived.Test.YtbopgbpnbonkeaaOp
import Derived.Test.YtbopgbpnbonkeaaVs
namespace Go.Proofs.Ytbopgbpnbonkeaa
open Go.ChangeShapes Go.WideShapes Go.ChangeAt Go.RowKit
set_option linter.unusedVariables false
set_option maxRecDepth 20000

theorem op_var {H : Type} {enc : TypeId × Value → H} {W : World} {fuel : Nat} {cs : List Value} {x : DataW H × List MemPlace} (hl : cs.length = 7)
    (hf : DataW.trod enc Try.prog W 0 (fun _ => true) true fuel 41 cs = some x) : ∃ r, Sh7 r ∧ rwf r ∧ RVal W (fun _ => True) r cs := by
  match cs, hl with
  | [c0, c1, c2, c3, c4, c5, c6], _ =>
    obtain ⟨y0, y1, y2, m, hx, _, hy0, hy1, hy2⟩ := Deep.trod_struct3 Try.underlying41 hf
    simp [clStr, clRat, clVec] at hy0 hy1 hy2
    obtain ⟨nm, rfl, hn⟩ := op_str hy0
    obtain ⟨n, a, c, xs, m, b, d, ys, rfl, rfl, rfl, rfl, s1, s2⟩ := op_rat hy1
    obtain ⟨den, e, f, ps, rfl, rfl, hd, s3, hp⟩ := op_vec hy2
    refine ⟨[.t nm, .b n, .l xs, .b m, .l ys, .i den, .p ps], ⟨nm, n, xs, m, ys, den, ps, rfl⟩, ?_, rfl, rfl, ⟨a, c, rfl, s1, fun _ _ => trivial⟩, rfl, ⟨b, d, rfl, s2, fun _ _ => trivial⟩, rfl, ⟨e, f, rfl, s3, fun _ _ => trivial⟩, trivial⟩
    intro q hq
    simp only [List.mem_cons, List.not_mem_nil, or_false] at hq
    rcases hq with rfl | rfl | rfl | rfl | rfl | rfl | rfl
    · exact hn
    · trivial
    · trivial
    · trivial
    · trivial
    · exact hd
    · exact hp
theorem open_vars {H : Type} {enc : TypeId × Value → H} {W : World} {base : Nat} {v : Value} {d : DataW H} {p : List MemPlace} (hv : Value.okWide Try.prog W .any base 22 v)
    (h : DataW.Trod enc Try.prog W 0 (fun _ => true) true 22 v d p) : ∃ a n cap rs, v = .slice a n cap ∧ RSeg W (fun _ => True) 7 a n cap rs ∧ ∀ r ∈ rs, Sh7 r := by
  obtain ⟨a0, len0, cap0, rfl⟩ := okWide_slice Try.underlying22 hv
  obtain ⟨fuel, hf⟩ := h
  obtain ⟨rs, h1, h2⟩ := open_recs (Sh := Sh7) Try.underlying22 clVar (by omega) (fun _ _ _ hl ht => op_var hl ht) (by simpa [Value.cells] using hf)
  exact ⟨a0, len0, cap0, rs, rfl, h1, h2⟩
end Go.Proofs.Ytbopgbpnbonkeaa
