/- What a book among the arguments is read as. -/
import Derived.Test.YtnjaejaibbgkpaaGreatOp
import Derived.Test.YtnjaejaibbgkpaaGreatPk14
import Derived.Test.YtnjaejaibbgkpaaGreatVa
namespace Go.Proofs.YtnjaejaibbgkpaaGreat
open Go.ChangeShapes Go.WideShapes Go.ChangeAt Go.RowKit
set_option linter.unusedVariables false
set_option maxRecDepth 20000

theorem clStrS : Tryz.prog.cellsOf 22 = 1 := by kernel_rfl
theorem clPrefixS : Tryz.prog.cellsOf 23 = 1 := by kernel_rfl
theorem clUnitS : Tryz.prog.cellsOf 24 = 1 := by kernel_rfl
theorem clBook : Tryz.prog.cellsOf 26 = 3 := by kernel_rfl
theorem op_recs {H : Type} {enc : TypeId × Value → H} {W : World} {t e : TypeId} {s : Nat} {Sh : List Lf → Prop} (ht : Tryz.prog.underlying t = some (.slice e)) (hc : Tryz.prog.cellsOf e = s) (hs0 : 0 < s)
    (hop : ∀ (fuel : Nat) (cs : List Value) (x : DataW H × List MemPlace), cs.length = s → DataW.trod enc Tryz.prog W 0 (fun _ => true) true fuel e cs = some x → ∃ r : List Lf, Sh r ∧ rwf r ∧ RVal W (fun _ => True) r cs)
    {fuel : Nat} {c : Value} {x : DataW H × List MemPlace} (hf : DataW.trod enc Tryz.prog W 0 (fun _ => true) true fuel t [c] = some x) : ∃ a n cap rs, c = .slice a n cap ∧ RSeg W (fun _ => True) s a n cap rs ∧ ∀ r ∈ rs, Sh r := by
  obtain ⟨a, n, cap, rfl⟩ : ∃ a n cap, c = .slice a n cap := by
    rcases Deep.open_slice ht hf with ⟨hcs, _⟩ | ⟨a, len, cap, m, n, D, Pl, hcs, _⟩
    · exact ⟨none, 0, 0, by simpa using hcs⟩
    · exact ⟨some a, len, cap, by simpa using hcs⟩
  obtain ⟨rs, h1, h2⟩ := open_recs ht hc hs0 hop hf
  exact ⟨a, n, cap, rs, rfl, h1, h2⟩
/-- a record that is a text -/
def Sh1 (r : List Lf) : Prop := ∃ s, r = [.t s]
theorem sseg_of {W : World} {X : Nat → Prop} {a : Option Addr} {n cap : Nat} {rs : List (List Lf)} (h : RSeg W X 1 a n cap rs) (hs : ∀ r ∈ rs, Sh1 r) : SSeg W a n cap (rs.map nmOf) := by
  obtain ⟨h1, h2, h3, h4, h5⟩ := h
  refine ⟨by simpa using h1, h2, h3, ?_, ?_⟩
  · intro t ht
    obtain ⟨r, hr, rfl⟩ := List.mem_map.1 ht
    obtain ⟨s, e⟩ := hs r hr
    have := h4 r hr
    rw [e] at this ⊢
    exact this (.t s) (by simp)
  · rcases h5 with h5 | ⟨g, o, ha, hg, hc⟩
    · exact .inl h5
    · refine .inr ⟨g, o, ha, hg, fun j hj => ?_⟩
      have hj' : j < rs.length := by simpa using hj
      obtain ⟨s, e⟩ := hs rs[j] (List.getElem_mem _)
      have := hc j hj'
      rw [e, Nat.mul_one] at this
      rw [List.getElem_map, e]
      exact this.1
theorem op_strs {H : Type} {enc : TypeId × Value → H} {W : World} {fuel : Nat} {c : Value} {x : DataW H × List MemPlace} (hf : DataW.trod enc Tryz.prog W 0 (fun _ => true) true fuel 22 [c] = some x) : ∃ a n cap ts, c = .slice a n cap ∧ SSeg W a n cap ts := by
  obtain ⟨a, n, cap, rs, e, h1, h2⟩ := op_recs (Sh := Sh1) Tryz.underlying22 clStr (by omega) (fun fuel cs x hl ht => by
    match cs, hl with
    | [c0], _ =>
      obtain ⟨s, rfl, hs⟩ := op_str ht
      exact ⟨[.t s], ⟨s, rfl⟩, fun f hf => by simp only [List.mem_cons, List.not_mem_nil, or_false] at hf; rw [hf]; exact hs, rfl, trivial⟩) hf
  exact ⟨a, n, cap, _, e, sseg_of h1 h2⟩
theorem op_unit {H : Type} {enc : TypeId × Value → H} {W : World} {fuel : Nat} {cs : List Value} {x : DataW H × List MemPlace} (hl : cs.length = 7)
    (hf : DataW.trod enc Tryz.prog W 0 (fun _ => true) true fuel 93 cs = some x) : ∃ r, ShUn r ∧ rwf r ∧ RVal W (fun _ => True) r cs := by
  match cs, hl with
  | [c0, c1, c2, c3, c4, c5, c6], _ =>
    obtain ⟨y0, y1, y2, m, hx, _, hy0, hy1, hy2⟩ := Deep.trod_struct3 Tryz.underlying93 hf
    simp [clStr, clRat, clVec] at hy0 hy1 hy2
    obtain ⟨nm, rfl, hn⟩ := op_str hy0
    obtain ⟨n, a, c, xs, m, b, d, ys, rfl, rfl, rfl, rfl, s1, s2⟩ := op_rat hy1
    obtain ⟨den, e, f, ps, rfl, rfl, hd, s3, hp⟩ := op_vec hy2
    refine ⟨[.t nm, .b n, .l xs, .b m, .l ys, .i den, .p ps], ⟨nm, n, xs, m, ys, den, ps, rfl⟩, ?_, rfl, rfl, ⟨a, c, rfl, s1, fun _ _ => trivial⟩, rfl, ⟨b, d, rfl, s2, fun _ _ => trivial⟩, rfl, ⟨e, f, rfl, s3, fun _ _ => trivial⟩, trivial⟩
    intro q hq
    simp only [List.mem_cons, List.not_mem_nil, or_false] at hq
    rcases hq with rfl | rfl | rfl | rfl | rfl | rfl | rfl
    · exact hn
    · trivial
    · trivial
    · trivial
    · trivial
    · exact hd
    · exact hp
theorem op_prefix {H : Type} {enc : TypeId × Value → H} {W : World} {fuel : Nat} {cs : List Value} {x : DataW H × List MemPlace} (hl : cs.length = 5)
    (hf : DataW.trod enc Tryz.prog W 0 (fun _ => true) true fuel 89 cs = some x) : ∃ r, ShPf r ∧ rwf r ∧ RVal W (fun _ => True) r cs := by
  match cs, hl with
  | [c0, c1, c2, c3, c4], _ =>
    obtain ⟨y0, y1, m, hx, _, hy0, hy1⟩ := trod_struct2 Tryz.underlying89 hf
    simp [clStr, clRat] at hy0 hy1
    obtain ⟨nm, rfl, hn⟩ := op_str hy0
    obtain ⟨n, a, c, xs, m, b, d, ys, rfl, rfl, rfl, rfl, s1, s2⟩ := op_rat hy1
    refine ⟨[.t nm, .b n, .l xs, .b m, .l ys], ⟨nm, n, xs, m, ys, rfl⟩, ?_, rfl, rfl, ⟨a, c, rfl, s1, fun _ _ => trivial⟩, rfl, ⟨b, d, rfl, s2, fun _ _ => trivial⟩, trivial⟩
    intro q hq
    simp only [List.mem_cons, List.not_mem_nil, or_false] at hq
    rcases hq with rfl | rfl | rfl | rfl | rfl
    · exact hn
    · trivial
    · trivial
    · trivial
    · trivial
theorem open_book {H : Type} {enc : TypeId × Value → H} {W : World} {base : Nat} {v : Value} {d : DataW H} {p : List MemPlace} (hv : Value.okWide Tryz.prog W .any base 26 v)
    (h : DataW.Trod enc Tryz.prog W 0 (fun _ => true) true 26 v d p) : ∃ a n c bs b m d ps e l f us, v = .agg #[.slice a n c, .slice b m d, .slice e l f] ∧ SSeg W a n c bs ∧ RSeg W (fun _ => True) 5 b m d ps ∧ (∀ r ∈ ps, ShPf r) ∧ RSeg W (fun _ => True) 7 e l f us ∧ ∀ r ∈ us, ShUn r := by
  obtain ⟨cs, rfl, hsz⟩ := okWide_struct Tryz.underlying26 hv
  rw [clBook] at hsz
  obtain ⟨l⟩ := cs
  match l, hsz with
  | [c0, c1, c2], _ =>
    obtain ⟨fuel, hf⟩ := h
    obtain ⟨y0, y1, y2, m, hx, _, hy0, hy1, hy2⟩ := Deep.trod_struct3 Tryz.underlying26 hf
    simp [Value.cells, clStrS, clPrefixS, clUnitS] at hy0 hy1 hy2
    obtain ⟨a, n, c, bs, rfl, s1⟩ := op_strs hy0
    obtain ⟨b, m, d, ps, rfl, s2, s3⟩ := op_recs (Sh := ShPf) Tryz.underlying23 clPrefix (by omega) (fun _ _ _ hl ht => op_prefix hl ht) hy1
    obtain ⟨e, l, f, us, rfl, s4, s5⟩ := op_recs (Sh := ShUn) Tryz.underlying24 clUnit (by omega) (fun _ _ _ hl ht => op_unit hl ht) hy2
    exact ⟨a, n, c, bs, b, m, d, ps, e, l, f, us, rfl, s1, s2, s3, s4, s5⟩
end Go.Proofs.YtnjaejaibbgkpaaGreat
