/- What a matrix among the arguments is read as. -/
import Derived.Test.YteljkjpcjjiidaaOp
import Derived.Test.YteljkjpcjjiidaaBo
namespace Go.Proofs.Yteljkjpcjjiidaa
open Go.ChangeShapes Go.WideShapes Go.ChangeAt Go.RowKit
set_option linter.unusedVariables false
set_option maxRecDepth 20000

def ShB (r : List Lf) : Prop := ∃ n xs, r = [.b n, .l xs]
def recE (r : List Lf) : Bool × List Nat := match r with
  | [.b n, .l xs] => (n, xs)
  | _ => (false, [])
theorem bseg_of {W : World} {a : Option Addr} {n cap : Nat} {rs : List (List Lf)} (h : RSeg W (fun _ => True) 2 a n cap rs) (hsh : ∀ r ∈ rs, ShB r) : BSeg W (fun _ => True) a n cap (fun j => recE (rs.getD j [])) := by
  obtain ⟨h1, h2, h3, h4, h5⟩ := h
  refine ⟨h2, h3, ?_⟩
  rcases h5 with h5 | ⟨g, o, ha, hg, hc⟩
  · exact .inl h5
  · refine .inr ⟨g, o, ha, hg, trivial, fun j hj => ?_⟩
    have hj' : j < rs.length := by omega
    have hr := hc j hj'
    obtain ⟨b, xs, e⟩ := hsh rs[j] (List.getElem_mem _)
    have e2 : rs.getD j [] = [.b b, .l xs] := by rw [← e]; simp [hj']
    rw [e] at hr
    show BAt W _ g (o + j * 2) (recE (rs.getD j []))
    rw [e2]
    obtain ⟨t0, ⟨a1, c1, t1, s1, _⟩, _⟩ := hr
    exact ⟨a1, c1, t0, t1, s1, fun _ _ => trivial⟩
theorem clMat : Try.prog.cellsOf 24 = 3 := by kernel_rfl
theorem clBigS : Try.prog.cellsOf 22 = 1 := by kernel_rfl
theorem op_bigr {H : Type} {enc : TypeId × Value → H} {W : World} {fuel : Nat} {cs : List Value} {x : DataW H × List MemPlace} (hl : cs.length = 2)
    (hf : DataW.trod enc Try.prog W 0 (fun _ => true) true fuel 91 cs = some x) : ∃ r, ShB r ∧ rwf r ∧ RVal W (fun _ => True) r cs := by
  match cs, hl with
  | [c0, c1], _ =>
    obtain ⟨n, a, c, xs, rfl, rfl, s⟩ := op_big hf
    refine ⟨[.b n, .l xs], ⟨n, xs, rfl⟩, ?_, rfl, ⟨a, c, rfl, s, fun _ _ => trivial⟩, trivial⟩
    intro q hq
    simp only [List.mem_cons, List.not_mem_nil, or_false] at hq
    rcases hq with rfl | rfl
    · trivial
    · trivial
theorem op_bigs {H : Type} {enc : TypeId × Value → H} {W : World} {fuel : Nat} {c : Value} {x : DataW H × List MemPlace}
    (hf : DataW.trod enc Try.prog W 0 (fun _ => true) true fuel 22 [c] = some x) : ∃ a n cap E, c = .slice a n cap ∧ BSeg W (fun _ => True) a n cap E := by
  obtain ⟨a0, n0, c0, rfl⟩ : ∃ a n k, c = .slice a n k := by
    rcases Deep.open_slice Try.underlying22 hf with ⟨hcs, _⟩ | ⟨a, len, cap, m, n, D, Pl, hcs, _⟩
    · cases hcs; exact ⟨none, 0, 0, rfl⟩
    · cases hcs; exact ⟨_, _, _, rfl⟩
  obtain ⟨rs, h1, h2⟩ := open_recs (Sh := ShB) Try.underlying22 clBig (by omega) (fun _ _ _ hl ht => op_bigr hl ht) hf
  exact ⟨a0, n0, c0, _, rfl, bseg_of h1 h2⟩
set_option maxRecDepth 100000 in
theorem open_mat {H : Type} {enc : TypeId × Value → H} {W : World} {base : Nat} {v : Value} {d : DataW H} {p : List MemPlace} (hv : Value.okWide Try.prog W .any base 24 v)
    (h : DataW.Trod enc Try.prog W 0 (fun _ => true) true 24 v d p) : ∃ R C a n cap E, v = .agg #[.int .i64 R, .int .i64 C, .slice a n cap] ∧ (-9223372036854775808 ≤ R ∧ R ≤ 9223372036854775807) ∧ (-9223372036854775808 ≤ C ∧ C ≤ 9223372036854775807) ∧ BSeg W (fun _ => True) a n cap E := by
  obtain ⟨cs, rfl, hsz⟩ := okWide_struct Try.underlying24 hv
  rw [clMat] at hsz
  obtain ⟨l⟩ := cs
  match l, hsz with
  | [c0, c1, c2], _ =>
    obtain ⟨fuel, hf⟩ := h
    obtain ⟨y0, y1, y2, m, hx, _, hy0, hy1, hy2⟩ := Deep.trod_struct3 Try.underlying24 hf
    simp [Value.cells, clInt, clBigS] at hy0 hy1 hy2
    obtain ⟨R, rfl, hR⟩ := op_int hy0
    obtain ⟨C, rfl, hC⟩ := op_int hy1
    obtain ⟨a, n, cap, E, rfl, hs⟩ := op_bigs hy2
    exact ⟨R, C, a, n, cap, E, rfl, hR, hC, hs⟩
end Go.Proofs.Yteljkjpcjjiidaa
