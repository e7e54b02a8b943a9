/- What a list of texts among the arguments is read as. -/
import Derived.Test.YteeifaleneneeaaGreatDoorPk02
import Derived.ProofKit
import Derived.OpenShut
import Derived.ShutString
import Derived.ChangeOld
import Derived.Below
import Derived.WalkSmall
import Derived.Deep.Strs
import Derived.Deep.Slices
namespace Go.Proofs.YteeifaleneneeaaGreatDoor
open Go.ChangeShapes Go.WideShapes Go.ChangeAt Go.RowKit
set_option linter.unusedVariables false

theorem cells9s : Tryz.prog.cellsOf 9 = 1 := by kernel_rfl
theorem slist_of {α : Type} {n : Nat} {R : Nat → α → Prop} (h : ∀ i, i < n → ∃ x, R i x) : ∃ l : List α, l.length = n ∧ ∀ i (hi : i < l.length), R i l[i] := by
  induction n with
  | zero => exact ⟨[], rfl, fun i hi => by simp at hi⟩
  | succ n ih =>
    obtain ⟨l, hl, hr⟩ := ih (fun i hi => h i (by omega))
    obtain ⟨x, hx⟩ := h n (by omega)
    refine ⟨l ++ [x], by simp [hl], fun i hi => ?_⟩
    by_cases e : i < l.length
    · rw [List.getElem_append_left e]; exact hr i e
    · have : i = n := by simp at hi; omega
      subst this
      simp [hl]; exact hx

set_option maxRecDepth 100000 in
theorem open_strs {H : Type} {enc : TypeId × Value → H} {W : World} {base : Nat} {v : Value} {d : DataW H} {p : List MemPlace} (hv : Value.okWide Tryz.prog W .any base 25 v)
    (h : DataW.Trod enc Tryz.prog W 0 (fun _ => true) true 25 v d p) : ∃ a n cap ts, v = .slice a n cap ∧ SSeg W a n cap ts := by
  obtain ⟨a0, len0, cap0, rfl⟩ := okWide_slice Tryz.underlying25 hv
  obtain ⟨fuel, hf⟩ := h
  rcases Deep.open_slice Tryz.underlying25 hf with ⟨hcs, _⟩ | ⟨a, len, cap, m, n, D, Pl, hcs, _, hl, hm, hmm, _, hx⟩
  · simp [Value.cells] at hcs
    obtain ⟨rfl, rfl, rfl⟩ := hcs
    exact ⟨none, 0, 0, [], rfl, rfl, Nat.le_refl _, by omega, fun _ h => (by cases h), .inl rfl⟩
  · simp [Value.cells] at hcs
    obtain ⟨rfl, rfl, rfl⟩ := hcs
    have hmm' : m = cap0 := by rw [hmm]; simp
    obtain ⟨ts, htl, hr⟩ := slist_of (n := len0) (R := fun i (t : ByteArray) => W.cell? (a.add i) = some (.string t) ∧ t.size ≤ 9223372036854775807) (by
      intro i hi
      obtain ⟨cs, h1, h2⟩ := hx i (by omega)
      rw [cells9s] at h1
      obtain ⟨_, hlen, hcell⟩ := World.cells?_some h1
      obtain ⟨s, e1, _, hs⟩ := DataW.trod_string Tryz.underlying9 h2
      subst e1
      have e0 := hcell 0 (by omega)
      rw [Deep.add_add] at e0
      exact ⟨s, by simpa using e0, hs⟩)
    unfold maxLen at hm
    refine ⟨some a, len0, cap0, ts, rfl, htl, hl, by omega, ?_, ?_⟩
    · intro t ht
      obtain ⟨i, hi, rfl⟩ := List.getElem_of_mem ht
      exact (hr i hi).2
    · by_cases h0 : len0 = 0
      · exact .inl h0
      obtain ⟨b, off, spot⟩ := a
      have hc := (hr 0 (by omega)).1
      have hspot : spot = none := by simpa [Addr.add] using World.cell?_spot hc
      subst hspot
      have hb : b < W.heap.size := by
        have hc0 : W.cell? ⟨b, off, none⟩ = some (.string (ts[0]'(by omega))) := by simpa [Addr.add] using hc
        exact World.block_lt_of_cell? W ⟨b, off, none⟩ hc0
      have ad : ∀ j, (⟨b, off, none⟩ : Addr).add j = ⟨b, off + j, none⟩ := by
        intro j
        unfold Addr.add
        by_cases e : j = 0 <;> simp [e]
      refine .inr ⟨b, off, rfl, hb, fun j hj => ?_⟩
      have := hr j hj
      rw [ad] at this
      exact this.1
end Go.Proofs.YteeifaleneneeaaGreatDoor
