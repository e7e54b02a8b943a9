/- What a list of lists of ints among the arguments is read as. -/
import Derived.Test.YteljkjpcjjiidaaOp
import Derived.Test.YteljkjpcjjiidaaIb
import Derived.Test.YteljkjpcjjiidaaVOpen
namespace Go.Proofs.Yteljkjpcjjiidaa
open Go.ChangeShapes Go.WideShapes Go.ChangeAt Go.RowKit
set_option linter.unusedVariables false
set_option maxRecDepth 20000

def ShI (r : List Lf) : Prop := ∃ xs, r = [.p xs]
def recI (r : List Lf) : List Int := match r with
  | [.p xs] => xs
  | _ => []
/-- each of them an int -/
def IInt (n : Nat) (E : Nat → List Int) : Prop := ∀ j, j < n → ∀ y ∈ E j, -9223372036854775808 ≤ y ∧ y ≤ 9223372036854775807
theorem iseg_of {W : World} {a : Option Addr} {n cap : Nat} {rs : List (List Lf)} (h : RSeg W (fun _ => True) 1 a n cap rs) (hsh : ∀ r ∈ rs, ShI r) : ISeg W (fun _ => True) a n cap (fun j => recI (rs.getD j [])) ∧ IInt n (fun j => recI (rs.getD j [])) := by
  obtain ⟨h1, h2, h3, h4, h5⟩ := h
  refine ⟨⟨h2, h3, ?_⟩, fun j hj => ?_⟩
  · rcases h5 with h5 | ⟨g, o, ha, hg, hc⟩
    · exact .inl h5
    · refine .inr ⟨g, o, ha, hg, trivial, fun j hj => ?_⟩
      have hj' : j < rs.length := by omega
      have hr := hc j hj'
      obtain ⟨xs, e⟩ := hsh rs[j] (List.getElem_mem _)
      have e2 : rs.getD j [] = [.p xs] := by rw [← e]; simp [hj']
      rw [e, Nat.mul_one] at hr
      show IAt W _ g (o + j) (recI (rs.getD j []))
      rw [e2]
      obtain ⟨⟨a1, c1, t1, s1, _⟩, _⟩ := hr
      exact ⟨a1, c1, t1, s1, fun _ _ => trivial⟩
  · have hj' : j < rs.length := by omega
    obtain ⟨xs, e⟩ := hsh rs[j] (List.getElem_mem _)
    have e2 : rs.getD j [] = [.p xs] := by rw [← e]; simp [hj']
    have := h4 _ (List.getElem_mem hj')
    rw [e] at this
    have h6 := this (.p xs) (by simp)
    show ∀ y ∈ recI (rs.getD j []), _
    rw [e2]
    exact h6
theorem clIS : Try.prog.cellsOf 59 = 1 := by kernel_rfl
theorem op_ir {H : Type} {enc : TypeId × Value → H} {W : World} {fuel : Nat} {cs : List Value} {x : DataW H × List MemPlace} (hl : cs.length = 1)
    (hf : DataW.trod enc Try.prog W 0 (fun _ => true) true fuel 59 cs = some x) : ∃ r, ShI r ∧ rwf r ∧ RVal W (fun _ => True) r cs := by
  match cs, hl with
  | [c0], _ =>
    obtain ⟨a, cap, xs, rfl, s, hb⟩ := V.open_list hf
    refine ⟨[.p xs], ⟨xs, rfl⟩, ?_, ⟨a, cap, rfl, s, fun _ _ => trivial⟩, trivial⟩
    intro q hq
    simp only [List.mem_cons, List.not_mem_nil, or_false] at hq
    subst hq
    exact hb
set_option maxRecDepth 100000 in
theorem open_intSS {H : Type} {enc : TypeId × Value → H} {W : World} {base : Nat} {v : Value} {d : DataW H} {p : List MemPlace} (hv : Value.okWide Try.prog W .any base 33 v)
    (h : DataW.Trod enc Try.prog W 0 (fun _ => true) true 33 v d p) : ∃ a n cap E, v = .slice a n cap ∧ ISeg W (fun _ => True) a n cap E ∧ IInt n E := by
  obtain ⟨a0, len0, cap0, rfl⟩ := okWide_slice Try.underlying33 hv
  obtain ⟨fuel, hf⟩ := h
  obtain ⟨rs, h1, h2⟩ := open_recs (Sh := ShI) Try.underlying33 clIS (by omega) (fun _ _ _ hl ht => op_ir hl ht) (by simpa [Value.cells] using hf)
  obtain ⟨h3, h4⟩ := iseg_of h1 h2
  exact ⟨a0, len0, cap0, _, rfl, h3, h4⟩
end Go.Proofs.Yteljkjpcjjiidaa
