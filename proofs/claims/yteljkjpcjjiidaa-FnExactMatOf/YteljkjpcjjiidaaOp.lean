/- What the laws' arguments are read as: leaves, fractions, powers, records and lists of them. -/
import Derived.Test.YteljkjpcjjiidaaOb
import Derived.Test.YteljkjpcjjiidaaVOpen
import Derived.ProofKit
import Derived.OpenShut
import Derived.ShutString
import Derived.ChangeOld
import Derived.Below
import Derived.WalkSmall
import Derived.Deep.Strs
import Derived.Deep.Slices
namespace Go.Proofs.Yteljkjpcjjiidaa
open Go.ChangeShapes Go.WideShapes Go.ChangeAt Go.RowKit
set_option linter.unusedVariables false
set_option maxRecDepth 20000

theorem own : ownKnob Try.prog.godebug = none := by kernel_rfl
theorem laidOut : laidOutB Try.prog = true := by kernel_rfl
theorem clBig : Try.prog.cellsOf 91 = 2 := by kernel_rfl
theorem clU32S : Try.prog.cellsOf 52 = 1 := by kernel_rfl
theorem clBool : Try.prog.cellsOf 4 = 1 := by kernel_rfl
theorem clU32 : Try.prog.cellsOf 92 = 1 := by kernel_rfl
theorem clInt : Try.prog.cellsOf 3 = 1 := by kernel_rfl
theorem clStr : Try.prog.cellsOf 9 = 1 := by kernel_rfl
theorem seg_of {W : World} {x : Addr} {l c : Nat} {zs : List Int} (hl : l ≤ c) (hm : c ≤ maxLen) (hz : zs.length = c)
    (hcell : ∀ i, i < zs.length → W.cell? (x.add i) = some (.int .u32 (zs.getD i 0))) (hwz : ∀ n ∈ zs, (Lit.int .u32 n).wf = true) :
    ∃ xs : List Nat, xs.length = l ∧ Seg W (some x) l c xs := by
  unfold maxLen at hm
  have hbd : ∀ n ∈ zs, 0 ≤ n ∧ n ≤ 4294967295 := fun n hn => by
    have := hwz n hn
    simpa [Lit.wf, IntKind.min, IntKind.max, IntKind.signed, IntKind.bits] using this
  have hlen : ((zs.map Int.toNat).take l).length = l := by simp; omega
  refine ⟨(zs.map Int.toNat).take l, hlen, hlen, hl, by omega, ?_, ?_⟩
  · intro y hy
    obtain ⟨n, hn, rfl⟩ := List.mem_map.1 (List.mem_of_mem_take hy)
    have := hbd n hn
    omega
  · by_cases h0 : l = 0
    · exact .inl h0
    obtain ⟨b, off, spot⟩ := x
    have hc := hcell 0 (by omega)
    have hspot : spot = none := by simpa [Addr.add] using World.cell?_spot hc
    subst hspot
    have hb : b < W.heap.size := by
      have hc0 : W.cell? ⟨b, off, none⟩ = some (.int .u32 (zs.getD 0 0)) := by simpa [Addr.add] using hc
      exact World.block_lt_of_cell? W ⟨b, off, none⟩ hc0
    refine .inr ⟨b, off, rfl, hb, fun j hj => ?_⟩
    have hjl : j < zs.length := by omega
    have hcj : W.cell? ⟨b, off + j, none⟩ = some (.int .u32 (zs.getD j 0)) := by
      have h1 := hcell j hjl
      by_cases hj0 : j = 0
      · subst hj0; simpa [Addr.add] using h1
      · simpa [Addr.add, hj0] using h1
    rw [hcj]
    have e : zs.getD j 0 = zs[j] := by simp [hjl]
    have := hbd zs[j] (List.getElem_mem _)
    rw [e]; simp; omega

theorem op_bool {H : Type} {enc : TypeId × Value → H} {W : World} {fuel : Nat} {c : Value} {x : DataW H × List MemPlace}
    (hf : DataW.trod enc Try.prog W 0 (fun _ => true) true fuel 4 [c] = some x) : ∃ b, c = .bool b := by
  cases fuel with
  | zero => simp [DataW.trod] at hf
  | succ m =>
    unfold DataW.trod at hf
    rw [Try.underlying4] at hf
    cases c <;> simp_all
theorem op_int {H : Type} {enc : TypeId × Value → H} {W : World} {fuel : Nat} {c : Value} {x : DataW H × List MemPlace}
    (hf : DataW.trod enc Try.prog W 0 (fun _ => true) true fuel 3 [c] = some x) : ∃ z : Int, c = .int .i64 z ∧ -9223372036854775808 ≤ z ∧ z ≤ 9223372036854775807 := by
  obtain ⟨z, e0, hz⟩ : ∃ z : Int, c = .int .i64 z ∧ (Lit.int .i64 z).wf = true := by
    cases fuel with
    | zero => simp [DataW.trod] at hf
    | succ m =>
      unfold DataW.trod at hf
      rw [Try.underlying3] at hf
      cases c <;> simp_all
  exact ⟨z, e0, by simpa [Lit.wf, IntKind.min, IntKind.max, IntKind.signed, IntKind.bits] using hz⟩
theorem op_str {H : Type} {enc : TypeId × Value → H} {W : World} {fuel : Nat} {c : Value} {x : DataW H × List MemPlace}
    (hf : DataW.trod enc Try.prog W 0 (fun _ => true) true fuel 9 [c] = some x) : ∃ s : ByteArray, c = .string s ∧ s.size ≤ 9223372036854775807 := by
  obtain ⟨s, e1, _, hs⟩ := DataW.trod_string Try.underlying9 hf
  exact ⟨s, by simpa using e1, hs⟩
theorem op_lims {H : Type} {enc : TypeId × Value → H} {W : World} {fuel : Nat} {c1 : Value} {x : DataW H × List MemPlace}
    (hf : DataW.trod enc Try.prog W 0 (fun _ => true) true fuel 52 [c1] = some x) : ∃ a cap xs, c1 = .slice a xs.length cap ∧ Seg W a xs.length cap xs := by
  rcases open_ints Try.underlying52 Try.underlying92 clU32 hf with ⟨hcs, _⟩ | ⟨x, l, c, zs, hcs, _, hl, hm, hz, _, hcell, hwz⟩
  · cases hcs
    exact ⟨none, 0, [], rfl, rfl, Nat.le_refl _, by omega, (fun x hx => by cases hx), Or.inl rfl⟩
  · cases hcs
    obtain ⟨xs, hxl, hs⟩ := seg_of hl hm (by simpa using hz) hcell hwz
    subst hxl
    exact ⟨some x, c, xs, rfl, hs⟩
theorem op_big {H : Type} {enc : TypeId × Value → H} {W : World} {fuel : Nat} {c0 c1 : Value} {x : DataW H × List MemPlace}
    (hf : DataW.trod enc Try.prog W 0 (fun _ => true) true fuel 91 [c0, c1] = some x) : ∃ neg a cap xs, c0 = .bool neg ∧ c1 = .slice a xs.length cap ∧ Seg W a xs.length cap xs := by
  obtain ⟨y0, y1, m, hx, _, hy0, hy1⟩ := trod_struct2 Try.underlying91 hf
  simp [clBool, clU32S] at hy0 hy1
  obtain ⟨b, rfl⟩ := op_bool hy0
  obtain ⟨a, cap, xs, rfl, s⟩ := op_lims hy1
  exact ⟨b, a, cap, xs, rfl, rfl, s⟩
theorem rec_of_vals {W : World} {X : Nat → Prop} {g : Nat} : ∀ (r : List Lf) (vs : List Value) (o : Nat), RVal W X r vs → (∀ j (hj : j < vs.length), W.cell? ⟨g, o + j, none⟩ = some vs[j]) → Rec W X g o r
  | [], _, _, _, _ => trivial
  | f :: r, [], _, h, _ => h.elim
  | f :: r, v :: vs, o, h, hc => ⟨h.1.mk (hc 0 (by simp)), rec_of_vals r vs (o + 1) h.2 fun j hj => by
      have := hc (j + 1) (by simpa using hj)
      rw [show o + 1 + j = o + (j + 1) by omega, this]; rfl⟩
theorem rlist_of {α : Type} {n : Nat} {R : Nat → α → Prop} (h : ∀ i, i < n → ∃ x, R i x) : ∃ l : List α, l.length = n ∧ ∀ i (hi : i < l.length), R i l[i] := by
  induction n with
  | zero => exact ⟨[], rfl, fun i hi => by simp at hi⟩
  | succ n ih =>
    obtain ⟨l, hl, hr⟩ := ih (fun i hi => h i (by omega))
    obtain ⟨x, hx⟩ := h n (by omega)
    refine ⟨l ++ [x], by simp [hl], fun i hi => ?_⟩
    by_cases e : i < l.length
    · rw [List.getElem_append_left e]; exact hr i e
    · have : i = n := by simp at hi; omega
      subst this
      simp [hl]; exact hx
/-- a list of records -/
theorem open_recs {H : Type} {enc : TypeId × Value → H} {W : World} {t e : TypeId} {s : Nat} {Sh : List Lf → Prop} (ht : Try.prog.underlying t = some (.slice e)) (hc : Try.prog.cellsOf e = s) (hs0 : 0 < s)
    (hop : ∀ (fuel : Nat) (cs : List Value) (x : DataW H × List MemPlace), cs.length = s → DataW.trod enc Try.prog W 0 (fun _ => true) true fuel e cs = some x → ∃ r : List Lf, Sh r ∧ rwf r ∧ RVal W (fun _ => True) r cs)
    {fuel : Nat} {a0 : Option Addr} {len0 cap0 : Nat} {x : DataW H × List MemPlace} (hf : DataW.trod enc Try.prog W 0 (fun _ => true) true fuel t [.slice a0 len0 cap0] = some x) : ∃ rs, RSeg W (fun _ => True) s a0 len0 cap0 rs ∧ ∀ r ∈ rs, Sh r := by
  rcases Deep.open_slice ht hf with ⟨hcs, _⟩ | ⟨a, len, cap, m, n, D, Pl, hcs, _, hl, hm, hmm, _, hx⟩
  · cases hcs
    exact ⟨[], ⟨rfl, Nat.le_refl _, by omega, (fun _ h => by cases h), .inl rfl⟩, (fun _ h => by cases h)⟩
  · cases hcs
    have hmm' : m = cap0 := by rw [hmm]; simp
    unfold maxLen at hm
    by_cases h0 : len0 = 0
    · subst h0
      exact ⟨[], ⟨rfl, hl, by omega, (fun _ h => by cases h), .inl rfl⟩, (fun _ h => by cases h)⟩
    rw [hc] at hx
    have hspot : a.spot = none := by
      obtain ⟨cs, h1, _⟩ := hx 0 (by omega)
      obtain ⟨_, hlen, hcell⟩ := World.cells?_some h1
      have e0 := hcell 0 hs0
      rw [List.getElem?_eq_getElem (by omega)] at e0
      simpa [Addr.add] using World.cell?_spot e0
    obtain ⟨b, off, spot⟩ := a
    simp only at hspot
    subst hspot
    have ad : ∀ j, (⟨b, off, none⟩ : Addr).add j = ⟨b, off + j, none⟩ := by
      intro j
      unfold Addr.add
      by_cases e : j = 0 <;> simp [e]
    obtain ⟨rs, hrl, hr⟩ := rlist_of (n := len0) (R := fun i (r : List Lf) => Sh r ∧ rwf r ∧ Rec W (fun _ => True) b (off + i * s) r) (by
      intro i hi
      obtain ⟨cs, h1, h2⟩ := hx i (by omega)
      obtain ⟨_, hlen, hcell⟩ := World.cells?_some h1
      obtain ⟨r, q1, q2, q3⟩ := hop _ cs _ hlen h2
      refine ⟨r, q1, q2, rec_of_vals r cs _ q3 fun j hj => ?_⟩
      have := hcell j (by omega)
      rw [Deep.add_add, ad, List.getElem?_eq_getElem (by omega)] at this
      rw [Nat.add_assoc]; exact this)
    have hb : b < W.heap.size := by
      obtain ⟨cs, h1, _⟩ := hx 0 (by omega)
      obtain ⟨_, hlen, hcell⟩ := World.cells?_some h1
      have e0 := hcell 0 hs0
      rw [Deep.add_add, ad, List.getElem?_eq_getElem (by omega)] at e0
      exact World.block_lt_of_cell? W _ e0
    exact ⟨rs, ⟨hrl, hl, by omega, fun r h => by obtain ⟨i, hi, rfl⟩ := List.getElem_of_mem h; exact (hr i hi).2.1, .inr ⟨b, off, rfl, hb, fun j hj => (hr j hj).2.2⟩⟩, fun r h => by obtain ⟨i, hi, rfl⟩ := List.getElem_of_mem h; exact (hr i hi).1⟩
end Go.Proofs.Yteljkjpcjjiidaa
